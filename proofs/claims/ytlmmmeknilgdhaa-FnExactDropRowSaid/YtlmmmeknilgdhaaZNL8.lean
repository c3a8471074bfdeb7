import Derived.Test.YtlmmmeknilgdhaaZGM
import Derived.Test.YtlmmmeknilgdhaaZGR
/- Two equal answers of RetireTo, in fresh memory: the law. -/
namespace Go.Proofs.Ytlmmmeknilgdhaa
open Go Go.Tr
set_option maxRecDepth 100000
set_option maxHeartbeats 4000000
set_option linter.unusedVariables false
set_option linter.unusedSimpArgs false
theorem rtX_bd (xs : List (List Row)) (w h9 ep : Int) (hc : xs.length + cnt xs ≤ 1048576) (hx : ∀ i, (xs.getD i []).length ≤ 1048576) : (rtX xs w h9 ep).1.length = xs.length ∧ cnt (rtX xs w h9 ep).1 ≤ 1048576 ∧ ∀ i, ((rtX xs w h9 ep).1.getD i []).length ≤ 1048576 := by
  have base : xs.length = xs.length ∧ cnt xs ≤ 1048576 ∧ ∀ i, (xs.getD i []).length ≤ 1048576 := ⟨rfl, by omega, hx⟩
  unfold rtX
  by_cases hw : lOk xs = true ∧ 0 ≤ w ∧ w ≤ 2
  · rw [if_pos hw]
    by_cases hq : lOk (rtL xs w.toNat h9 ep) = true
    · rw [if_pos hq]
      have h3 := lOk_three hw.1
      have hcc := rtL_cnt xs w.toNat h9 ep (by omega)
      refine ⟨by simp [rtL], by show cnt (rtL xs w.toNat h9 ep) ≤ _; omega, fun i => ?_⟩
      show ((rtL xs w.toNat h9 ep).getD i []).length ≤ _
      by_cases hi : i < (rtL xs w.toNat h9 ep).length
      · have h1 := cnt_drop hi
        have h2 := cnt_nn ((rtL xs w.toNat h9 ep).drop (i + 1))
        have h5 := flat_len (rtL xs w.toNat h9 ep)
        have h6 : ((rtL xs w.toNat h9 ep).getD i []).length ≤ (rtL xs w.toNat h9 ep).flatten.length := by
          have e9 : (rtL xs w.toNat h9 ep).getD i [] = (rtL xs w.toNat h9 ep)[i] := by simp only [List.getD, List.getElem?_eq_getElem hi, Option.getD_some]
          rw [e9]
          exact (List.sublist_flatten_of_mem (List.getElem_mem hi)).length_le
        omega
      · simp only [List.getD]; rw [List.getElem?_eq_none (by omega)]; exact Nat.zero_le _
    · rw [if_neg hq]; exact base
  · rw [if_neg hw]; exact base
theorem getD_leG {α : Type} {xs : List (List α)} {m : Nat} (h : ∀ x ∈ xs, x.length ≤ m) (i : Nat) : (xs.getD i []).length ≤ m := by
  by_cases hi : i < xs.length
  · have : xs.getD i [] = xs[i] := by simp only [List.getD, List.getElem?_eq_getElem hi, Option.getD_some]
    rw [this]; exact h _ (List.getElem_mem hi)
  · simp only [List.getD]; rw [List.getElem?_eq_none (by omega)]; exact Nat.zero_le _
theorem szJLs_sum (l : List (List Row)) (m : Int) (h : 0 ≤ m) (h2 : 0 ≤ szJLs l m) : (l.length : Int) + cnt l ≤ m := by
  unfold szJLs at h2
  split at h2
  · omega
  · obtain ⟨k1, k2, k3⟩ := szJL_le l (m - l.length) (by omega)
    have := (k3 h2).1
    rw [flat_len] at this
    omega
theorem RetireTo_law (xs : List (List Row)) (w h9 ep : Int) (hn : xs.length ≤ 9223372036854775807) (hx : ∀ i, (xs.getD i []).length ≤ 9223372036854775807) (hmx : ∀ i, (xs.flatten.getD i (0, 0)).1 ≤ 9223372036854775807) (hh : h9 ≤ 9223372036854775807) : RunT Try.prog 11 [.one (.c (tLL 0 0 xs)), ti w, ti h9, ti ep] [] [ob true] [] := by
  refine RunT.of_vc gOk Try.func11 rfl rfl (Nat.le_of_ble_eq_true rfl) (by repeat' (first | exact trivial | exact ⟨_, rfl, Nat.le_refl _⟩ | exact Nat.le_of_ble_eq_true rfl | refine And.intro ?_ ?_)) (Nat.le_of_ble_eq_true rfl) rfl (fun F hE => ?_)
  repeat' (first | exact trivial | refine BS.d (fun h => ?_) (fun h => ?_) | refine BS.e (fun h => ?_) (fun h => ?_) | refine BS.ne (fun h => ?_) (fun h => ?_) | refine BS.n ?_ | refine BS.s (fun h => ?_) (fun h => ?_) | refine And.intro ?_ ?_ | (refine Need.mk ?_; first | with_reducible rfl | (show @Eq TC _ _; rfl) | omega | (simp only [adN_zero]; omega)) | exact OutS.whole rfl rfl | refine ListO.go gOk hE ?_)
  refine OpK.call (szLListS_run 0 0 xs 1048576 (by decide) (by decide) hn hx) rfl rfl rfl rfl hE (by repeat' (first | exact PsA.lit _ | exact PsA.ref rfl rfl | constructor)) rfl rfl ?_
  repeat' (first | exact trivial | refine BS.d (fun h => ?_) (fun h => ?_) | refine BS.e (fun h => ?_) (fun h => ?_) | refine BS.ne (fun h => ?_) (fun h => ?_) | refine BS.n ?_ | refine BS.s (fun h => ?_) (fun h => ?_) | refine And.intro ?_ ?_ | (refine Need.mk ?_; first | with_reducible rfl | (show @Eq TC _ _; rfl) | omega | (simp only [adN_zero]; omega)) | exact OutS.whole rfl rfl | refine ListO.go gOk hE ?_)
  obtain ⟨b1, b2, b3⟩ := szJLs_le xs 1048576 (by decide)
  obtain ⟨b4, b5, b6⟩ := b3 (by omega)
  have b7 := szJLs_sum xs 1048576 (by decide) (by omega)
  have hn' : xs.length ≤ 1048576 := by omega
  have hx' : ∀ i, (xs.getD i []).length ≤ 1048576 := getD_leG fun x hx => by have := b6 x hx; omega
  have hcn : cnt xs ≤ 1048575 := by
    cases xs with
    | nil => exact Int.le_of_lt (by decide)
    | cons x l => simp only [List.length_cons] at b7; omega
  have c1 := toLListS_run 0 0 xs hn' hx'
  have c2 := RetireToS_run 177 175 xs w h9 ep hn' hcn hx' hmx hh
  have c3 := RetireToI_run 177 175 xs w h9 ep hn' hcn hx' hmx hh
  have c4 := eqLListS_run 177 175 xs (by omega) (fun i => by have := hx' i; omega)
  have m0 := markLL_run 177 175 xs 1 (by omega) (by omega) hn' (by omega) hx'
  have ho := offR_bd (m := 1) (by omega) (by omega) (by omega : cnt xs ≤ 1048576) (Nat.le_refl xs.length)
  obtain ⟨g1, g2, g3⟩ := rtX_bd xs w h9 ep b7 hx'
  generalize (rtX xs w h9 ep).1 = g at *
  generalize (rtX xs w h9 ep).2 = bb at *
  have d1 := eqLListS_run 177 175 g (by omega) (fun i => by have := g3 i; omega)
  have m1 := markLL_run 177 175 g 1 (by omega) (by omega) (by omega) g2 g3
  have k1 := heldLL_run 177 175 g 1 (by omega) (by omega) (by omega) g2 g3
  have hg := offR_bd (m := 1) (by omega) (by omega) g2 (Nat.le_refl g.length)
  repeat' (first | exact trivial | refine BS.d (fun h => ?_) (fun h => ?_) | refine BS.e (fun h => ?_) (fun h => ?_) | refine BS.ne (fun h => ?_) (fun h => ?_) | refine BS.n ?_ | refine BS.s (fun h => ?_) (fun h => ?_) | refine And.intro ?_ ?_ | (refine Need.mk ?_; first | with_reducible rfl | (show @Eq TC _ _; rfl) | omega | (simp only [adN_zero]; omega)) | exact OutS.whole rfl rfl | (refine OpK.call c1 rfl rfl rfl rfl hE ?_ rfl rfl ?_; focus ((repeat' (first | exact PsA.lit _ | exact PsA.ref rfl rfl | constructor)); all_goals (fail "ps"))) | (refine OpK.call c2 rfl rfl rfl rfl hE ?_ rfl rfl ?_; focus ((repeat' (first | exact PsA.lit _ | exact PsA.ref rfl rfl | constructor)); all_goals (fail "ps"))) | (refine OpK.call c3 rfl rfl rfl rfl hE ?_ rfl rfl ?_; focus ((repeat' (first | exact PsA.lit _ | exact PsA.ref rfl rfl | constructor)); all_goals (fail "ps"))) | (refine OpK.call c4 rfl rfl rfl rfl hE ?_ rfl rfl ?_; focus ((repeat' (first | exact PsA.lit _ | exact PsA.ref rfl rfl | constructor)); all_goals (fail "ps"))) | (refine OpK.call d1 rfl rfl rfl rfl hE ?_ rfl rfl ?_; focus ((repeat' (first | exact PsA.lit _ | exact PsA.ref rfl rfl | constructor)); all_goals (fail "ps"))) | (refine OpK.call k1 rfl rfl rfl rfl hE ?_ rfl rfl ?_; focus ((repeat' (first | exact PsA.lit _ | exact PsA.ref rfl rfl | exact PsA.ref rfl (mkL_len _ _ _ _).symm | constructor)); all_goals (fail "ps"))) | (refine OpK.callB (bLL _ _ 2004480 xs (mkL [] (gLL 1 xs) xs xs.length)) m0 rfl rfl rfl rfl hE (BtOk.sl rfl (mkL_len _ _ _ _)) rfl (QsVs.cons (.one (.h rfl rfl rfl)) (.cons (.one (.c (.lit _) rfl)) .nil)) rfl rfl ?_) | (refine OpK.callB (bLL _ _ 2005248 g (mkL [] (gLL 1 g) g g.length)) m1 rfl rfl rfl rfl hE (BtOk.sl rfl (mkL_len _ _ _ _)) rfl (QsVs.cons (.one (.h rfl rfl rfl)) (.cons (.one (.c (.lit _) rfl)) .nil)) rfl rfl ?_) | refine ListO.go gOk hE ?_)
  all_goals first | exact absurd rfl h | (exfalso; omega) | (cases bb <;> simp_all; done) | trace_state
end Go.Proofs.Ytlmmmeknilgdhaa
