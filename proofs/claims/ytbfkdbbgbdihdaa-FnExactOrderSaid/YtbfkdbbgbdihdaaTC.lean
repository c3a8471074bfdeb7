import Derived.Test.YtbfkdbbgbdihdaaTB
namespace Go.Proofs.Ytbfkdbbgbdihdaa
open Go Go.Tr
set_option maxRecDepth 100000
set_option maxHeartbeats 4000000
set_option linter.unusedVariables false
set_option linter.unusedSimpArgs false
theorem szTEvS_run (e eC eR : Nat) (xs : List TEvT) (m : Int) (h0 : 0 ≤ m) (h1 : m ≤ 1048576) (hn : xs.length ≤ 9223372036854775807) (hx : ∀ i, (xs.getD i zTEv).2.2.2.2.1.length ≤ 9223372036854775807 ∧ (xs.getD i zTEv).2.2.2.2.2.length ≤ 9223372036854775807) : RunT Try.prog 22 [.one (.c (tTEv e eC eR xs)), ti m] [] [oi (szTL xs m)] [] := by
  refine RunT.of_vc gOk Try.func22 rfl rfl (Nat.le_of_ble_eq_true rfl) (by repeat' (first | exact trivial | exact ⟨_, rfl, Nat.le_refl _⟩ | exact Nat.le_of_ble_eq_true rfl | refine And.intro ?_ ?_)) (Nat.le_of_ble_eq_true rfl) rfl (fun F hE => ?_)
  repeat' (first | exact trivial | refine BS.d (fun h => ?_) (fun h => ?_) | refine BS.e (fun h => ?_) (fun h => ?_) | refine BS.ne (fun h => ?_) (fun h => ?_) | refine BS.n ?_ | refine BS.s (fun h => ?_) (fun h => ?_) | refine And.intro ?_ ?_ | (refine Need.mk ?_; first | with_reducible rfl | (show @Eq TC _ _; rfl) | omega | (simp only [adN_zero]; omega)) | exact OutS.whole rfl rfl)
  · refine Need.mk ?_
    unfold szTL; rw [if_pos (by omega)]
  · refine CodeK.loop gOk hE (fun i : Nat × Int => ⟨[(0, vr 1000000 xs.length), (1, vi i.2), (5, vi i.1)], [(1000000, rTEv .fro false e eC eR xs)]⟩) (fun i => i.1 ≤ xs.length ∧ 0 ≤ i.2 ∧ i.2 ≤ 1048576 ∧ szTL xs m = szTs (xs.drop i.1) i.2) (fun i => xs.length - i.1) (0, m - xs.length) (by refine leT.of ?_ ?_ rfl <;> repeat' (first | exact trivial | refine And.intro rfl ?_ | refine And.intro (by simp) ?_)) ⟨Nat.zero_le _, by omega, by omega, by unfold szTL; rw [if_neg (by omega)]; rfl⟩ ?_
    rintro ⟨i, b⟩ ⟨hi, hb, hb1, hs⟩
    dsimp only at hi hb hb1 hs
    have c1 := szTEv_run eC eR (xs.getD i zTEv) b hb hb1 (hx i).1 (hx i).2
    have b1 := szT_bd (xs.getD i zTEv) b hb
    repeat' (first | exact trivial | refine BS.d (fun h => ?_) (fun h => ?_) | refine BS.e (fun h => ?_) (fun h => ?_) | refine BS.ne (fun h => ?_) (fun h => ?_) | refine BS.n ?_ | refine BS.s (fun h => ?_) (fun h => ?_) | refine And.intro ?_ ?_ | (refine Need.mk ?_; first | with_reducible rfl | (show @Eq TC _ _; rfl) | omega | (simp only [adN_zero]; omega)) | exact OutS.whole rfl rfl | (refine OpK.call c1 rfl rfl rfl rfl hE ?_ rfl rfl ?_; focus ((repeat' (first | exact PsA.lit _ | exact PsA.ref rfl rfl | constructor)); all_goals (fail "ps"))))
    all_goals (try simp only [adN_zero] at *)
    all_goals first
      | (exfalso; omega)
      | (refine Need.mk ?_; omega)
      | (refine Need.mk ?_; rw [hs, drop_cons zTEv (xs := xs) (i := i) (by omega), szTs, if_pos (by assumption)])
      | (refine Need.mk ?_; rw [hs, List.drop_eq_nil_of_le (by omega)]; rfl)
      | (refine ⟨(i + 1, szT (xs.getD i zTEv) b), (by refine leT.of ?_ ?_ rfl <;> repeat' (first | exact trivial | refine And.intro rfl ?_ | refine And.intro (by simp) ?_)), ⟨?_, ?_, ?_, ?_⟩, ?_⟩; (dsimp only; omega); (dsimp only; omega); (dsimp only; omega); (dsimp only; rw [hs, drop_cons zTEv (xs := xs) (i := i) (by omega), szTs, if_neg (by assumption)]); (dsimp only; omega))
theorem toTEvS_run (e eC eR : Nat) (xs : List TEvT) (hn : xs.length ≤ 1048576) (hx : ∀ i, (xs.getD i zTEv).2.2.2.2.1.length ≤ 1048576 ∧ (xs.getD i zTEv).2.2.2.2.2.length ≤ 1048576) : RunT Try.prog 24 [.one (.c (tTEv e eC eR xs))] [] [.one (tTEv 78 103 105 xs)] [] := by
  refine RunT.of_vc gOk Try.func24 rfl rfl (Nat.le_of_ble_eq_true rfl) (by repeat' (first | exact trivial | exact ⟨_, rfl, Nat.le_refl _⟩ | exact Nat.le_of_ble_eq_true rfl | refine And.intro ?_ ?_)) (Nat.le_of_ble_eq_true rfl) rfl (fun F hE => ?_)
  repeat' (first | exact trivial | refine BS.d (fun h => ?_) (fun h => ?_) | refine BS.e (fun h => ?_) (fun h => ?_) | refine BS.ne (fun h => ?_) (fun h => ?_) | refine BS.n ?_ | refine BS.s (fun h => ?_) (fun h => ?_) | refine And.intro ?_ ?_ | (refine Need.mk ?_; first | with_reducible rfl | (show @Eq TC _ _; rfl) | omega | (simp only [adN_zero]; omega)) | exact OutS.whole rfl rfl)
  refine CodeK.loop gOk hE (fun i : Nat => ⟨[(0, vr 1000000 xs.length), (3, vr 7 xs.length), (4, vi i)], [(7, rTEv .own true 78 103 105 (fl zTEv xs i)), (1000000, rTEv .fro false e eC eR xs)]⟩) (fun i => i ≤ xs.length) (fun i => xs.length - i) 0 (by refine leT.of ?_ ?_ rfl <;> repeat' (first | exact trivial | refine And.intro rfl ?_ | refine And.intro (by simp [fl_zero] <;> rfl) ?_)) (Nat.zero_le _) ?_
  rintro i hi
  have hl := fl_len zTEv xs i hi
  have c1 := toTEv_run eC eR (xs.getD i zTEv) (hx i).1 (hx i).2
  repeat' (first | exact trivial | refine BS.d (fun h => ?_) (fun h => ?_) | refine BS.e (fun h => ?_) (fun h => ?_) | refine BS.ne (fun h => ?_) (fun h => ?_) | refine BS.n ?_ | refine BS.s (fun h => ?_) (fun h => ?_) | refine And.intro ?_ ?_ | (refine Need.mk ?_; first | with_reducible rfl | (show @Eq TC _ _; rfl) | omega | (simp only [adN_zero]; omega)) | exact OutS.whole rfl rfl | (refine OpK.call c1 rfl rfl rfl rfl hE ?_ rfl rfl ?_; focus ((repeat' (first | exact PsA.lit _ | exact PsA.ref rfl rfl | constructor)); all_goals (fail "ps"))))
  all_goals first
    | (refine OutS.whole hl.symm ?_; rw [fl_full _ _ _ (by omega) hi]; rfl)
    | skip
  all_goals refine OpK.stN gOk (xs.getD i zTEv) rfl rfl rfl rfl rfl rfl rfl rfl rfl (by first | omega | (simp only [adN_zero]; omega)) (StN.lit rfl (StN.lit rfl (StN.lit rfl (StN.lit rfl (StN.ref rfl rfl rfl rfl rfl (StN.ref rfl rfl rfl rfl rfl StN.nil)))))) ?_
  all_goals (repeat' (first | exact trivial | refine BS.d (fun h => ?_) (fun h => ?_) | refine BS.e (fun h => ?_) (fun h => ?_) | refine BS.ne (fun h => ?_) (fun h => ?_) | refine BS.n ?_ | refine BS.s (fun h => ?_) (fun h => ?_) | refine And.intro ?_ ?_ | (refine Need.mk ?_; first | with_reducible rfl | (show @Eq TC _ _; rfl) | omega | (simp only [adN_zero]; omega)) | exact OutS.whole rfl rfl))
  all_goals (refine ⟨i + 1, (by refine leT.of ?_ ?_ rfl <;> repeat' (first | exact trivial | refine And.intro rfl ?_ | refine And.intro (by first | (rw [← fl_set zTEv xs i (by omega)]; rfl) | (simp <;> rfl)) ?_)), ?_⟩; (refine And.intro ?_ ?_) <;> (first | omega | (dsimp only; omega) | trivial))
theorem eqTEvS_run (e eC eR : Nat) (xs : List TEvT) (hn : xs.length ≤ 4000000) (hx : ∀ i, (xs.getD i zTEv).2.2.2.2.1.length ≤ 4000000 ∧ (xs.getD i zTEv).2.2.2.2.2.length ≤ 4000000) : RunT Try.prog 26 [.one (.c (tTEv e eC eR xs)), .one (.c (tTEv e eC eR xs))] [] [ob true] [] := by
  refine RunT.of_vc gOk Try.func26 rfl rfl (Nat.le_of_ble_eq_true rfl) (by repeat' (first | exact trivial | exact ⟨_, rfl, Nat.le_refl _⟩ | exact Nat.le_of_ble_eq_true rfl | refine And.intro ?_ ?_)) (Nat.le_of_ble_eq_true rfl) rfl (fun F hE => ?_)
  repeat' (first | exact trivial | refine BS.d (fun h => ?_) (fun h => ?_) | refine BS.e (fun h => ?_) (fun h => ?_) | refine BS.ne (fun h => ?_) (fun h => ?_) | refine BS.n ?_ | refine BS.s (fun h => ?_) (fun h => ?_) | refine And.intro ?_ ?_ | (refine Need.mk ?_; first | with_reducible rfl | (show @Eq TC _ _; rfl) | omega | (simp only [adN_zero]; omega)) | exact OutS.whole rfl rfl)
  · refine CodeK.loop gOk hE (fun i : Nat => ⟨[(0, vr 1000000 xs.length), (1, vr 1000001 xs.length), (5, vi i)], [(1000000, rTEv .fro false e eC eR xs), (1000001, rTEv .fro false e eC eR xs)]⟩) (fun i => i ≤ xs.length) (fun i => xs.length - i) 0 (by refine leT.of ?_ ?_ rfl <;> repeat' (first | exact trivial | refine And.intro rfl ?_ | refine And.intro (by simp) ?_)) (Nat.zero_le _) ?_
    rintro i hi
    have c1 := eqTEv_run eC eR (xs.getD i zTEv) (hx i).1 (hx i).2
    repeat' (first | exact trivial | refine BS.d (fun h => ?_) (fun h => ?_) | refine BS.e (fun h => ?_) (fun h => ?_) | refine BS.ne (fun h => ?_) (fun h => ?_) | refine BS.n ?_ | refine BS.s (fun h => ?_) (fun h => ?_) | refine And.intro ?_ ?_ | (refine Need.mk ?_; first | with_reducible rfl | (show @Eq TC _ _; rfl) | omega | (simp only [adN_zero]; omega)) | exact OutS.whole rfl rfl | (refine OpK.call c1 rfl rfl rfl rfl hE ?_ rfl rfl ?_; focus ((repeat' (first | exact PsA.lit _ | exact PsA.ref rfl rfl | constructor)); all_goals (fail "ps"))) | (refine CodeK.draw gOk hE rfl (fun _ _ h => h) (.take 0 (.take 1 (.take 2 (.take 4 (.take 5 (.take 6 (.alt 3 (.alt 7 (.alt 8 (.take 9 .done) .stop) .stop) (.alt 7 (.alt 3 (.alt 8 (.take 9 .done) .stop) .stop) .stop)))))))) ?_ ?_; focus (decide +kernel)))
    all_goals (refine ⟨i + 1, (by refine leT.of ?_ ?_ rfl <;> repeat' (first | exact trivial | refine And.intro rfl ?_ | refine And.intro (by simp) ?_)), ?_⟩; (refine And.intro ?_ ?_) <;> (first | omega | (dsimp only; omega) | trivial))
end Go.Proofs.Ytbfkdbbgbdihdaa
