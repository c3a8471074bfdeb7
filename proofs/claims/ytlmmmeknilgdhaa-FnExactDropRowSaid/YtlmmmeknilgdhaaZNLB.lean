import Derived.Test.YtlmmmeknilgdhaaZNL8
import Derived.Test.YtlmmmeknilgdhaaZGD
/- Two equal answers of DropRow, in fresh memory: the law. -/
namespace Go.Proofs.Ytlmmmeknilgdhaa
open Go Go.Tr
set_option maxRecDepth 100000
set_option maxHeartbeats 4000000
set_option linter.unusedVariables false
set_option linter.unusedSimpArgs false
theorem drX_bd (xs : List (List Row)) (w i : Int) (hc : cnt xs ≤ 1048576) (hx : ∀ i, (xs.getD i []).length ≤ 1048576) : (drX xs w i).1.length = xs.length ∧ cnt (drX xs w i).1 ≤ 1048576 ∧ ∀ i', ((drX xs w i).1.getD i' []).length ≤ 1048576 := by
  unfold drX
  by_cases hw : (lOk xs = true ∧ 0 ≤ w ∧ w ≤ 2) ∧ 0 ≤ i ∧ i < ((xs.getD w.toNat []).length : Int)
  · rw [if_pos hw]
    have h3 := lOk_three hw.1.1
    have hj : i.toNat < (xs.getD w.toNat []).length := by omega
    have hl := dl_len hj
    have hc2 := cnt_set xs w.toNat (dl (xs.getD w.toNat []) i.toNat) (by omega)
    refine ⟨by simp, by show cnt (xs.set w.toNat (dl (xs.getD w.toNat []) i.toNat)) ≤ _; omega, fun q => ?_⟩
    show ((xs.set w.toNat (dl (xs.getD w.toNat []) i.toNat)).getD q []).length ≤ _
    by_cases hq : w.toNat = q
    · subst hq
      have := hx w.toNat
      rw [set_getD _ _ _ _ (by omega), hl]
      omega
    · simp only [List.getD]
      rw [List.getElem?_set_ne hq]
      exact hx q
  · rw [if_neg hw]; exact ⟨rfl, hc, hx⟩
theorem DropRow_law (xs : List (List Row)) (w j9 : Int) (hn : xs.length ≤ 9223372036854775807) (hx : ∀ i, (xs.getD i []).length ≤ 9223372036854775807) (hmx : ∀ i, (xs.flatten.getD i (0, 0)).1 ≤ 9223372036854775807) (hw1 : w ≤ 9223372036854775807) (hj1 : j9 ≤ 9223372036854775807) : RunT Try.prog 12 [.one (.c (tLL 0 0 xs)), ti w, ti j9] [] [ob true] [] := by
  refine RunT.of_vc gOk Try.func12 rfl rfl (Nat.le_of_ble_eq_true rfl) (by repeat' (first | exact trivial | exact ⟨_, rfl, Nat.le_refl _⟩ | exact Nat.le_of_ble_eq_true rfl | refine And.intro ?_ ?_)) (Nat.le_of_ble_eq_true rfl) rfl (fun F hE => ?_)
  repeat' (first | exact trivial | refine BS.d (fun h => ?_) (fun h => ?_) | refine BS.e (fun h => ?_) (fun h => ?_) | refine BS.ne (fun h => ?_) (fun h => ?_) | refine BS.n ?_ | refine BS.s (fun h => ?_) (fun h => ?_) | refine And.intro ?_ ?_ | (refine Need.mk ?_; first | with_reducible rfl | (show @Eq TC _ _; rfl) | omega | (simp only [adN_zero]; omega)) | exact OutS.whole rfl rfl | refine ListO.go gOk hE ?_)
  refine OpK.call (szLListS_run 0 0 xs 1048576 (by decide) (by decide) hn hx) rfl rfl rfl rfl hE (by repeat' (first | exact PsA.lit _ | exact PsA.ref rfl rfl | constructor)) rfl rfl ?_
  repeat' (first | exact trivial | refine BS.d (fun h => ?_) (fun h => ?_) | refine BS.e (fun h => ?_) (fun h => ?_) | refine BS.ne (fun h => ?_) (fun h => ?_) | refine BS.n ?_ | refine BS.s (fun h => ?_) (fun h => ?_) | refine And.intro ?_ ?_ | (refine Need.mk ?_; first | with_reducible rfl | (show @Eq TC _ _; rfl) | omega | (simp only [adN_zero]; omega)) | exact OutS.whole rfl rfl | refine ListO.go gOk hE ?_)
  obtain ⟨b1, b2, b3⟩ := szJLs_le xs 1048576 (by decide)
  obtain ⟨b4, b5, b6⟩ := b3 (by omega)
  have b7 := szJLs_sum xs 1048576 (by decide) (by omega)
  have hn' : xs.length ≤ 1048576 := by omega
  have hx' : ∀ i, (xs.getD i []).length ≤ 1048576 := getD_leG fun x hx => by have := b6 x hx; omega
  have hcn : cnt xs ≤ 1048575 := by
    cases xs with
    | nil => exact Int.le_of_lt (by decide)
    | cons x l => simp only [List.length_cons] at b7; omega
  have c1 := toLListS_run 0 0 xs hn' hx'
  have c2 := DropRowS_run 177 175 xs w j9 hn' (by omega) hx'
  have c3 := DropRowI_run 177 175 xs w j9 hn' (by omega) hx' hmx hw1 hj1
  have c4 := eqLListS_run 177 175 xs (by omega) (fun i => by have := hx' i; omega)
  have m0 := markLL_run 177 175 xs 1 (by omega) (by omega) hn' (by omega) hx'
  have ho := offR_bd (m := 1) (by omega) (by omega) (by omega : cnt xs ≤ 1048576) (Nat.le_refl xs.length)
  obtain ⟨g1, g2, g3⟩ := drX_bd xs w j9 (by omega) hx'
  generalize (drX xs w j9).1 = g at *
  generalize (drX xs w j9).2 = bb at *
  have d1 := eqLListS_run 177 175 g (by omega) (fun i => by have := g3 i; omega)
  have m1 := markLL_run 177 175 g 1 (by omega) (by omega) (by omega) g2 g3
  have k1 := heldLL_run 177 175 g 1 (by omega) (by omega) (by omega) g2 g3
  have hg := offR_bd (m := 1) (by omega) (by omega) g2 (Nat.le_refl g.length)
  repeat' (first | exact trivial | refine BS.d (fun h => ?_) (fun h => ?_) | refine BS.e (fun h => ?_) (fun h => ?_) | refine BS.ne (fun h => ?_) (fun h => ?_) | refine BS.n ?_ | refine BS.s (fun h => ?_) (fun h => ?_) | refine And.intro ?_ ?_ | (refine Need.mk ?_; first | with_reducible rfl | (show @Eq TC _ _; rfl) | omega | (simp only [adN_zero]; omega)) | exact OutS.whole rfl rfl | (refine OpK.call c1 rfl rfl rfl rfl hE ?_ rfl rfl ?_; focus ((repeat' (first | exact PsA.lit _ | exact PsA.ref rfl rfl | constructor)); all_goals (fail "ps"))) | (refine OpK.call c2 rfl rfl rfl rfl hE ?_ rfl rfl ?_; focus ((repeat' (first | exact PsA.lit _ | exact PsA.ref rfl rfl | constructor)); all_goals (fail "ps"))) | (refine OpK.call c3 rfl rfl rfl rfl hE ?_ rfl rfl ?_; focus ((repeat' (first | exact PsA.lit _ | exact PsA.ref rfl rfl | constructor)); all_goals (fail "ps"))) | (refine OpK.call c4 rfl rfl rfl rfl hE ?_ rfl rfl ?_; focus ((repeat' (first | exact PsA.lit _ | exact PsA.ref rfl rfl | constructor)); all_goals (fail "ps"))) | (refine OpK.call d1 rfl rfl rfl rfl hE ?_ rfl rfl ?_; focus ((repeat' (first | exact PsA.lit _ | exact PsA.ref rfl rfl | constructor)); all_goals (fail "ps"))) | (refine OpK.call k1 rfl rfl rfl rfl hE ?_ rfl rfl ?_; focus ((repeat' (first | exact PsA.lit _ | exact PsA.ref rfl rfl | exact PsA.ref rfl (mkL_len _ _ _ _).symm | constructor)); all_goals (fail "ps"))) | (refine OpK.callB (bLL _ _ 2004096 xs (mkL [] (gLL 1 xs) xs xs.length)) m0 rfl rfl rfl rfl hE (BtOk.sl rfl (mkL_len _ _ _ _)) rfl (QsVs.cons (.one (.h rfl rfl rfl)) (.cons (.one (.c (.lit _) rfl)) .nil)) rfl rfl ?_) | (refine OpK.callB (bLL _ _ 2004736 g (mkL [] (gLL 1 g) g g.length)) m1 rfl rfl rfl rfl hE (BtOk.sl rfl (mkL_len _ _ _ _)) rfl (QsVs.cons (.one (.h rfl rfl rfl)) (.cons (.one (.c (.lit _) rfl)) .nil)) rfl rfl ?_) | refine ListO.go gOk hE ?_)
  all_goals first | exact absurd rfl h | (exfalso; omega) | (cases bb <;> simp_all; done) | trace_state
end Go.Proofs.Ytlmmmeknilgdhaa
