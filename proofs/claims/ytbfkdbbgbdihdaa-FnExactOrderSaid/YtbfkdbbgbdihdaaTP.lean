import Derived.Test.YtbfkdbbgbdihdaaTN
namespace Go.Proofs.Ytbfkdbbgbdihdaa
open Go Go.Tr
set_option maxRecDepth 100000
set_option maxHeartbeats 4000000
set_option linter.unusedVariables false
set_option linter.unusedSimpArgs false
theorem eqIo_run (xs : List Int) (hn : xs.length ≤ 4000000) : RunT Try.prog 15 [.one (.c (tI xs)), .one (.c (tI xs))] [] [ob true] [] := by
  refine RunT.of_vc gOk Try.func15 rfl rfl (Nat.le_of_ble_eq_true rfl) (by repeat' (first | exact trivial | exact ⟨_, rfl, Nat.le_refl _⟩ | exact Nat.le_of_ble_eq_true rfl | refine And.intro ?_ ?_)) (Nat.le_of_ble_eq_true rfl) rfl (fun F hE => ?_)
  repeat' (first | exact trivial | refine BS.d (fun h => ?_) (fun h => ?_) | refine BS.e (fun h => ?_) (fun h => ?_) | refine BS.ne (fun h => ?_) (fun h => ?_) | refine BS.n ?_ | refine BS.s (fun h => ?_) (fun h => ?_) | refine And.intro ?_ ?_ | (refine Need.mk ?_; first | with_reducible rfl | (show @Eq TC _ _; rfl) | omega | (simp only [adN_zero]; omega)) | exact OutS.whole rfl rfl | refine ListO.go gOk hE ?_)
  · refine CodeK.loop gOk hE (fun i : Nat => ⟨[(0, vr 1000000 xs.length), (1, vr 1000001 xs.length), (5, vi i)], [(1000000, rI .fro false xs), (1000001, rI .fro false xs)]⟩) (fun i => i ≤ xs.length) (fun i => xs.length - i) 0 (by refine leT.of ?_ ?_ rfl <;> repeat' (first | exact trivial | refine And.intro rfl ?_ | refine And.intro (by simp) ?_)) (Nat.zero_le _) ?_
    rintro i hi
    repeat' (first | exact trivial | refine BS.d (fun h => ?_) (fun h => ?_) | refine BS.e (fun h => ?_) (fun h => ?_) | refine BS.ne (fun h => ?_) (fun h => ?_) | refine BS.n ?_ | refine BS.s (fun h => ?_) (fun h => ?_) | refine And.intro ?_ ?_ | (refine Need.mk ?_; first | with_reducible rfl | (show @Eq TC _ _; rfl) | omega | (simp only [adN_zero]; omega)) | exact OutS.whole rfl rfl | refine ListO.go gOk hE ?_)
    · refine CodeK.draw gOk hE rfl (fun _ _ h => h) (.take 0 (.take 1 (.take 2 (.take 4 (.take 5 (.take 6 (.alt 3 (.alt 7 (.take 8 .done) .stop) (.alt 7 (.alt 3 (.take 8 .done) .stop) .stop)))))))) (by decide +kernel) ?_
      repeat' (first | exact trivial | refine BS.d (fun h => ?_) (fun h => ?_) | refine BS.e (fun h => ?_) (fun h => ?_) | refine BS.ne (fun h => ?_) (fun h => ?_) | refine BS.n ?_ | refine BS.s (fun h => ?_) (fun h => ?_) | refine And.intro ?_ ?_ | (refine Need.mk ?_; first | with_reducible rfl | (show @Eq TC _ _; rfl) | omega | (simp only [adN_zero]; omega)) | exact OutS.whole rfl rfl | refine ListO.go gOk hE ?_)
      all_goals (refine ⟨i + 1, (by refine leT.of ?_ ?_ rfl <;> repeat' (first | exact trivial | refine And.intro rfl ?_ | refine And.intro (by simp) ?_)), ?_⟩; (refine And.intro ?_ ?_) <;> (first | omega | (dsimp only; omega) | trivial))
abbrev fI (m : Int) (j : Nat) : Int := m + j
abbrev bInt (e κ : Nat) (xs xs' : List Int) : Bt := ⟨κ, 0, true, .sl e 1 Int encI decI 0 xs, .sl e 1 Int encI decI 0 xs', .ty .own true e 1 Int encI decI 0 xs'⟩
abbrev bTEv (e eC eR κ : Nat) (xs xs' : List TEvT) : Bt := ⟨κ, 0, true, .sl e 6 TEvT (encTEv eC eR) decTEv zTEv xs, .sl e 6 TEvT (encTEv eC eR) decTEv zTEv xs', .ty .own true e 6 TEvT (encTEv eC eR) decTEv zTEv xs'⟩
theorem markI_run (e : Nat) (xs : List Int) (m : Int) (h0 : 0 ≤ m) (h1 : m ≤ 4194304) (hn : xs.length ≤ 4000000) : RunT Try.prog 18 [.one (.h 0 xs.length), ti m] [.sl e 1 Int encI decI 0 xs] [oi (m + xs.length)] [.sl e 1 Int encI decI 0 (mkL 0 (fI m) xs xs.length)] := by
  refine RunT.of_vc gOk Try.func18 rfl rfl (Nat.le_of_ble_eq_true rfl) (by repeat' (first | exact trivial | exact ⟨_, rfl, Nat.le_refl _⟩ | exact Nat.le_of_ble_eq_true rfl | refine And.intro ?_ ?_)) (Nat.le_of_ble_eq_true rfl) rfl (fun F hE => ?_)
  repeat' (first | exact trivial | refine BS.d (fun h => ?_) (fun h => ?_) | refine BS.e (fun h => ?_) (fun h => ?_) | refine BS.ne (fun h => ?_) (fun h => ?_) | refine BS.n ?_ | refine BS.s (fun h => ?_) (fun h => ?_) | refine And.intro ?_ ?_ | (refine Need.mk ?_; first | with_reducible rfl | (show @Eq TC _ _; rfl) | omega | (simp only [adN_zero]; omega)) | exact OutS.whole rfl rfl | refine ListO.go gOk hE ?_)
  refine CodeK.loop gOk hE (fun i : Nat => ⟨[(0, vr 1000000 xs.length), (1, vi (m + i)), (5, vi i)], [(1000000, .ty .own false 0 1 Int encI decI 0 (mkL 0 (fI m) xs i))]⟩) (fun i => i ≤ xs.length) (fun i => xs.length - i) 0 (by refine leT.of ?_ ?_ rfl <;> repeat' (first | exact trivial | refine And.intro rfl ?_ | refine And.intro (by simp [mkL_zero] <;> rfl) ?_)) (Nat.zero_le _) ?_
  rintro i hi
  have hl := mkL_len 0 (fI m) xs i
  repeat' (first | exact trivial | refine BS.d (fun h => ?_) (fun h => ?_) | refine BS.e (fun h => ?_) (fun h => ?_) | refine BS.ne (fun h => ?_) (fun h => ?_) | refine BS.n ?_ | refine BS.s (fun h => ?_) (fun h => ?_) | refine And.intro ?_ ?_ | (refine Need.mk ?_; first | with_reducible rfl | (show @Eq TC _ _; rfl) | omega | (simp only [adN_zero]; omega)) | exact OutS.whole rfl rfl | refine ListO.go gOk hE ?_)
  all_goals (try simp only [adN_zero] at *)
  all_goals first
    | (refine Need.mk ?_; first | omega | (rw [List.length_set]; omega) | rw [show i = xs.length by omega])
    | (refine ⟨i + 1, (by refine leT.of ?_ ?_ rfl <;> repeat' (first | exact trivial | refine And.intro rfl ?_ | refine And.intro (by first | rfl | (refine litInt ?_; omega) | (refine congrArg (fun l => some (TRoot.ty .own false 0 1 Int encI decI 0 l)) ?_; exact mkL_set 0 (fI m) _ _ (by omega))) ?_)), by omega, by first | omega | (dsimp only; omega)⟩)
theorem heldI_run (xs : List Int) (m : Int) (h0 : 0 ≤ m) (h1 : m ≤ 4194304) (hn : xs.length ≤ 4000000) : RunT Try.prog 19 [.one (.c (tI (mkL 0 (fI m) xs xs.length))), ti m] [] [oi (m + xs.length)] [] := by
  have hl := mkL_len 0 (fI m) xs xs.length
  refine RunT.of_vc gOk Try.func19 rfl rfl (Nat.le_of_ble_eq_true rfl) (by repeat' (first | exact trivial | exact ⟨_, rfl, Nat.le_refl _⟩ | exact Nat.le_of_ble_eq_true rfl | refine And.intro ?_ ?_)) (Nat.le_of_ble_eq_true rfl) rfl (fun F hE => ?_)
  repeat' (first | exact trivial | refine BS.d (fun h => ?_) (fun h => ?_) | refine BS.e (fun h => ?_) (fun h => ?_) | refine BS.ne (fun h => ?_) (fun h => ?_) | refine BS.n ?_ | refine BS.s (fun h => ?_) (fun h => ?_) | refine And.intro ?_ ?_ | (refine Need.mk ?_; first | with_reducible rfl | (show @Eq TC _ _; rfl) | omega | (simp only [adN_zero]; omega)) | exact OutS.whole rfl rfl | refine ListO.go gOk hE ?_)
  refine CodeK.loop gOk hE (fun i : Nat => ⟨[(0, vr 1000000 (mkL 0 (fI m) xs xs.length).length), (1, vi (m + i)), (5, vi i)], [(1000000, rI .fro false (mkL 0 (fI m) xs xs.length))]⟩) (fun i => i ≤ xs.length) (fun i => xs.length - i) 0 (by refine leT.of ?_ ?_ rfl <;> repeat' (first | exact trivial | refine And.intro rfl ?_ | refine And.intro (by simp <;> rfl) ?_)) (Nat.zero_le _) ?_
  rintro i hi
  have hg : i < xs.length → (mkL 0 (fI m) xs xs.length).getD i 0 = fI m i := fun h => mkL_get _ _ _ _ _ h h
  repeat' (first | exact trivial | refine BS.d (fun h => ?_) (fun h => ?_) | refine BS.e (fun h => ?_) (fun h => ?_) | refine BS.ne (fun h => ?_) (fun h => ?_) | refine BS.n ?_ | refine BS.s (fun h => ?_) (fun h => ?_) | refine And.intro ?_ ?_ | (refine Need.mk ?_; first | with_reducible rfl | (show @Eq TC _ _; rfl) | omega | (simp only [adN_zero]; omega)) | exact OutS.whole rfl rfl | refine ListO.go gOk hE ?_)
  all_goals (try simp only [adN_zero] at *)
  all_goals first
    | (exfalso; have h9 := hg (by omega); rw [h9] at *; first | omega | (simp_all; done))
    | (refine Need.mk ?_; first | omega | rw [show i = xs.length by omega])
    | (refine ⟨i + 1, (by refine leT.of ?_ ?_ rfl <;> repeat' (first | exact trivial | refine And.intro rfl ?_ | refine And.intro (by first | rfl | (refine litInt ?_; omega)) ?_)), by omega, by first | omega | (dsimp only; omega)⟩)
theorem Order_law (xs : List TEvT) (hn : xs.length ≤ 9223372036854775807) (hx : ∀ i, (xs.getD i zTEv).2.2.2.2.1.length ≤ 9223372036854775807 ∧ (xs.getD i zTEv).2.2.2.2.2.length ≤ 9223372036854775807) : RunT Try.prog 6 [.one (.c (tTEv 0 0 0 xs))] [] [ob true] [] := by
  refine RunT.of_vc gOk Try.func6 rfl rfl (Nat.le_of_ble_eq_true rfl) (by repeat' (first | exact trivial | exact ⟨_, rfl, Nat.le_refl _⟩ | exact Nat.le_of_ble_eq_true rfl | refine And.intro ?_ ?_)) (Nat.le_of_ble_eq_true rfl) rfl (fun F hE => ?_)
  repeat' (first | exact trivial | refine BS.d (fun h => ?_) (fun h => ?_) | refine BS.e (fun h => ?_) (fun h => ?_) | refine BS.ne (fun h => ?_) (fun h => ?_) | refine BS.n ?_ | refine BS.s (fun h => ?_) (fun h => ?_) | refine And.intro ?_ ?_ | (refine Need.mk ?_; first | with_reducible rfl | (show @Eq TC _ _; rfl) | omega | (simp only [adN_zero]; omega)) | exact OutS.whole rfl rfl | refine ListO.go gOk hE ?_)
  refine OpK.call (szTEvS_run 0 0 0 xs 1048576 (by omega) (by omega) hn hx) rfl rfl rfl rfl hE (by repeat' (first | exact PsA.lit _ | exact PsA.ref rfl rfl | constructor)) rfl rfl ?_
  repeat' (first | exact trivial | refine BS.d (fun h => ?_) (fun h => ?_) | refine BS.e (fun h => ?_) (fun h => ?_) | refine BS.ne (fun h => ?_) (fun h => ?_) | refine BS.n ?_ | refine BS.s (fun h => ?_) (fun h => ?_) | refine And.intro ?_ ?_ | (refine Need.mk ?_; first | with_reducible rfl | (show @Eq TC _ _; rfl) | omega | (simp only [adN_zero]; omega)) | exact OutS.whole rfl rfl | refine ListO.go gOk hE ?_)
  have hz : ¬ szTL xs 1048576 < 0 := by assumption
  obtain ⟨hm, hy⟩ := szTL_ok hz
  have c1 := toTEvS_run 0 0 0 xs hm hy
  have c2 := OrderS_run 78 103 105 xs hm
  have c3 := OrderI_run 78 103 105 xs hm
  have c4 := eqTEvS_run 78 103 105 xs (by omega) (fun i => by have := hy i; omega)
  have m0 := markTE_run 78 103 105 xs 1 (by omega) (by omega) hm hy
  have ho := offT_bd (m := 1) (xs := xs) (by omega) hy xs.length
  have hg := ordN_le xs xs.length
  generalize ordN xs xs.length = g at *
  have d1 := eqIo_run g (by omega)
  have m1 := markI_run 3 g 1 (by omega) (by omega) (by omega)
  have k1 := heldI_run g 1 (by omega) (by omega) (by omega)
  repeat' (first | exact trivial | refine BS.d (fun h => ?_) (fun h => ?_) | refine BS.e (fun h => ?_) (fun h => ?_) | refine BS.ne (fun h => ?_) (fun h => ?_) | refine BS.n ?_ | refine BS.s (fun h => ?_) (fun h => ?_) | refine And.intro ?_ ?_ | (refine Need.mk ?_; first | with_reducible rfl | (show @Eq TC _ _; rfl) | omega | (simp only [adN_zero]; omega)) | exact OutS.whole rfl rfl | (refine OpK.call c1 rfl rfl rfl rfl hE ?_ rfl rfl ?_; focus ((repeat' (first | exact PsA.lit _ | exact PsA.ref rfl rfl | constructor)); all_goals (fail "ps"))) | (refine OpK.call c2 rfl rfl rfl rfl hE ?_ rfl rfl ?_; focus ((repeat' (first | exact PsA.lit _ | exact PsA.ref rfl rfl | constructor)); all_goals (fail "ps"))) | (refine OpK.call c3 rfl rfl rfl rfl hE ?_ rfl rfl ?_; focus ((repeat' (first | exact PsA.lit _ | exact PsA.ref rfl rfl | constructor)); all_goals (fail "ps"))) | (refine OpK.call c4 rfl rfl rfl rfl hE ?_ rfl rfl ?_; focus ((repeat' (first | exact PsA.lit _ | exact PsA.ref rfl rfl | constructor)); all_goals (fail "ps"))) | (refine OpK.call d1 rfl rfl rfl rfl hE ?_ rfl rfl ?_; focus ((repeat' (first | exact PsA.lit _ | exact PsA.ref rfl rfl | constructor)); all_goals (fail "ps"))) | (refine OpK.call k1 rfl rfl rfl rfl hE ?_ rfl rfl ?_; focus ((repeat' (first | exact PsA.lit _ | exact PsA.ref rfl rfl | exact PsA.ref rfl (mkL_len _ _ _ _).symm | constructor)); all_goals (fail "ps"))) | (refine OpK.callB (bTEv _ _ _ 2002560 xs (mkL zTEv (gTE 1 xs) xs xs.length)) m0 rfl rfl rfl rfl hE (BtOk.sl rfl (mkL_len _ _ _ _)) rfl (QsVs.cons (.one (.h rfl rfl rfl)) (.cons (.one (.c (.lit _) rfl)) .nil)) rfl rfl ?_) | (refine OpK.callB (bInt _ 2002816 g (mkL 0 (fI 1) g g.length)) m1 rfl rfl rfl rfl hE (BtOk.sl rfl (mkL_len _ _ _ _)) rfl (QsVs.cons (.one (.h rfl rfl rfl)) (.cons (.one (.c (.lit _) rfl)) .nil)) rfl rfl ?_) | refine ListO.go gOk hE ?_)
  all_goals first | exact absurd rfl h | (exfalso; omega) | trace_state
end Go.Proofs.Ytbfkdbbgbdihdaa
