import Derived.Test.YtpmhkpmkmbkjbaaGreatDoorZA
import Derived.Test.YtpmhkpmkmbkjbaaGreatDoorZO
import Derived.Test.YtpmhkpmkmbkjbaaGreatDoorVZ
section
namespace Go.Proofs.YtpmhkpmkmbkjbaaGreatDoor
open Go Go.Tr
set_option maxRecDepth 100000
set_option maxHeartbeats 4000000
set_option linter.unusedVariables false
set_option linter.unusedSimpArgs false
/-- All of the first n have the property. -/
noncomputable def allP (n : Nat) (p : Nat → Prop) : Bool := @decide (∀ j, j < n → p j) (Classical.propDecidable _)
theorem allP_false {n i : Nat} {p : Nat → Prop} (hi : i < n) (h : ¬ p i) : allP n p = false := by
  unfold allP; exact @decide_eq_false _ (Classical.propDecidable _) (fun k => h (k i hi))
theorem allP_true {n : Nat} {p : Nat → Prop} (h : ∀ j, j < n → p j) : allP n p = true := by
  unfold allP; exact @decide_eq_true _ (Classical.propDecidable _) h
end Go.Proofs.YtpmhkpmkmbkjbaaGreatDoor
end

section
/- Hazard pointers: whether they are right. -/
namespace Go.Proofs.YtpmhkpmkmbkjbaaGreatDoor
open Go Go.Tr
set_option maxRecDepth 100000
set_option maxHeartbeats 4000000
set_option linter.unusedVariables false
set_option linter.unusedSimpArgs false
abbrev hzQ (z : List Int) (j : Nat) : Prop := z.getD j 0 = 0 ∨ hOk (z.getD j 0) = true
noncomputable def hzA (z : List Int) : Bool := allP z.length (hzQ z)
noncomputable def hzB (z : List Int) : Bool := decide (z.length = 3) && hzA z
theorem handleOrNone_run (x : Int) (hm : x ≤ 9223372036854775807) : RunT Tryz.prog 66 [ti x] [] [ob (decide (x = 0) || hOk x)] [] := by
  have c1 := iHandleOk_run x hm
  cases hk : hOk x
  all_goals (rw [hk] at c1)
  all_goals (refine RunT.of_vc gOk Tryz.func66 rfl rfl (Nat.le_of_ble_eq_true rfl) (by repeat' (first | exact trivial | exact ⟨_, rfl, Nat.le_refl _⟩ | exact Nat.le_of_ble_eq_true rfl | refine And.intro ?_ ?_)) (Nat.le_of_ble_eq_true rfl) rfl (fun F hE => ?_))
  all_goals (repeat' (first | exact trivial | refine BS.d (fun h => ?_) (fun h => ?_) | refine BS.e (fun h => ?_) (fun h => ?_) | refine BS.ne (fun h => ?_) (fun h => ?_) | refine BS.n ?_ | refine BS.s (fun h => ?_) (fun h => ?_) | refine And.intro ?_ ?_ | (refine Need.mk ?_; first | with_reducible rfl | (show @Eq TC _ _; rfl) | omega | (simp only [adN_zero]; omega)) | exact OutS.whole rfl rfl | (refine OpK.call c1 rfl rfl rfl rfl hE ?_ rfl rfl ?_; focus ((repeat' (first | exact PsA.lit _ | exact PsA.ref rfl rfl | constructor)); all_goals (fail "ps"))) | refine ListO.go gOk hE ?_))
  all_goals (refine Need.mk ?_; simp_all)
theorem hzNone_run (z : List Int) (hn : z.length ≤ 4000000) (hm : ∀ i, z.getD i 0 ≤ 9223372036854775807) : RunT Tryz.prog 148 [.one (.c (tI z))] [] [ob (hzA z)] [] := by
  refine RunT.of_vc gOk Tryz.func148 rfl rfl (Nat.le_of_ble_eq_true rfl) (by repeat' (first | exact trivial | exact ⟨_, rfl, Nat.le_refl _⟩ | exact Nat.le_of_ble_eq_true rfl | refine And.intro ?_ ?_)) (Nat.le_of_ble_eq_true rfl) rfl (fun F hE => ?_)
  repeat' (first | exact trivial | refine BS.d (fun h => ?_) (fun h => ?_) | refine BS.e (fun h => ?_) (fun h => ?_) | refine BS.ne (fun h => ?_) (fun h => ?_) | refine BS.n ?_ | refine BS.s (fun h => ?_) (fun h => ?_) | refine And.intro ?_ ?_ | (refine Need.mk ?_; first | with_reducible rfl | (show @Eq TC _ _; rfl) | omega | (simp only [adN_zero]; omega)) | exact OutS.whole rfl rfl | refine ListO.go gOk hE ?_)
  refine CodeK.loop gOk hE (fun i : Nat => ⟨[(5, vr 1000000 z.length), (6, vi z.length), (7, vi i)], [(1000000, rI .fro false z)]⟩) (fun i => i ≤ z.length ∧ ∀ j, j < i → hzQ z j) (fun i => z.length - i) 0 (by refine leT.of ?_ ?_ rfl <;> repeat' (first | exact trivial | refine And.intro rfl ?_ | refine And.intro (by simp) ?_)) ⟨Nat.zero_le _, fun j hj => absurd hj (Nat.not_lt_zero _)⟩ ?_
  rintro i ⟨hi, hs⟩
  have c1 := handleOrNone_run (z.getD i 0) (hm i)
  by_cases hp : hzQ z i
  · have hb : (decide (z.getD i 0 = 0) || hOk (z.getD i 0)) = true := by rw [Bool.or_eq_true, decide_eq_true_eq]; exact hp
    rw [hb] at c1
    repeat' (first | exact trivial | refine BS.d (fun h => ?_) (fun h => ?_) | refine BS.e (fun h => ?_) (fun h => ?_) | refine BS.ne (fun h => ?_) (fun h => ?_) | refine BS.n ?_ | refine BS.s (fun h => ?_) (fun h => ?_) | refine And.intro ?_ ?_ | (refine Need.mk ?_; first | with_reducible rfl | (show @Eq TC _ _; rfl) | omega | (simp only [adN_zero]; omega)) | exact OutS.whole rfl rfl | (refine OpK.call c1 rfl rfl rfl rfl hE ?_ rfl rfl ?_; focus ((repeat' (first | exact PsA.lit _ | exact PsA.ref rfl rfl | constructor)); all_goals (fail "ps"))) | refine ListO.go gOk hE ?_)
    all_goals (try simp only [adN_zero] at *)
    all_goals first
      | (exfalso; omega)
      | (refine Need.mk ?_; omega)
      | (refine Need.mk ?_; exact (allP_true (fun j hj => hs j (by omega))).symm)
      | (refine ⟨i + 1, (by refine leT.of ?_ ?_ rfl <;> repeat' (first | exact trivial | refine And.intro rfl ?_ | refine And.intro (by simp) ?_)), ⟨by omega, fun j hj => (Nat.lt_or_ge j i).elim (hs j) (fun h9 => (show j = i by omega) ▸ hp)⟩, by first | omega | (dsimp only; omega)⟩)
      | (exfalso; simp_all; done)
      | trace_state
  · have hb : (decide (z.getD i 0 = 0) || hOk (z.getD i 0)) = false := by
      cases hq : hOk (z.getD i 0) <;> by_cases h9 : z.getD i 0 = 0 <;> simp_all [hzQ]
    rw [hb] at c1
    repeat' (first | exact trivial | refine BS.d (fun h => ?_) (fun h => ?_) | refine BS.e (fun h => ?_) (fun h => ?_) | refine BS.ne (fun h => ?_) (fun h => ?_) | refine BS.n ?_ | refine BS.s (fun h => ?_) (fun h => ?_) | refine And.intro ?_ ?_ | (refine Need.mk ?_; first | with_reducible rfl | (show @Eq TC _ _; rfl) | omega | (simp only [adN_zero]; omega)) | exact OutS.whole rfl rfl | (refine OpK.call c1 rfl rfl rfl rfl hE ?_ rfl rfl ?_; focus ((repeat' (first | exact PsA.lit _ | exact PsA.ref rfl rfl | constructor)); all_goals (fail "ps"))) | refine ListO.go gOk hE ?_)
    all_goals (try simp only [adN_zero] at *)
    all_goals first
      | (exfalso; omega)
      | (refine Need.mk ?_; omega)
      | (refine Need.mk ?_; exact (allP_false (i := i) (by omega) hp).symm)
      | (refine Need.mk ?_; exact (allP_true (fun j hj => hs j (by omega))).symm)
      | (exfalso; simp_all; done)
      | trace_state
theorem HazOkI_run (z : List Int) (hn : z.length ≤ 4000000) (hm : ∀ i, z.getD i 0 ≤ 9223372036854775807) : RunT Tryz.prog 79 [.one (.c (tI z))] [] [ob (hzB z)] [] := by
  have c1 := hzNone_run z hn hm
  unfold hzB
  generalize hzA z = bb at *
  refine RunT.of_vc gOk Tryz.func79 rfl rfl (Nat.le_of_ble_eq_true rfl) (by repeat' (first | exact trivial | exact ⟨_, rfl, Nat.le_refl _⟩ | exact Nat.le_of_ble_eq_true rfl | refine And.intro ?_ ?_)) (Nat.le_of_ble_eq_true rfl) rfl (fun F hE => ?_)
  repeat' (first | exact trivial | refine BS.d (fun h => ?_) (fun h => ?_) | refine BS.e (fun h => ?_) (fun h => ?_) | refine BS.ne (fun h => ?_) (fun h => ?_) | refine BS.n ?_ | refine BS.s (fun h => ?_) (fun h => ?_) | refine And.intro ?_ ?_ | (refine Need.mk ?_; first | with_reducible rfl | (show @Eq TC _ _; rfl) | omega | (simp only [adN_zero]; omega)) | exact OutS.whole rfl rfl | (refine OpK.call c1 rfl rfl rfl rfl hE ?_ rfl rfl ?_; focus ((repeat' (first | exact PsA.lit _ | exact PsA.ref rfl rfl | constructor)); all_goals (fail "ps"))) | refine ListO.go gOk hE ?_)
  all_goals (refine Need.mk ?_; first | (rw [decide_eq_true (by omega)]; rfl) | (rw [decide_eq_false (by omega)]; rfl) | (simp_all; done))
theorem HazOkS_run (z : List Int) (hn : z.length ≤ 4000000) : RunT Tryz.prog 72 [.one (.c (tI z))] [] [ob (hzB z)] [] := by
  refine RunT.of_vc gOk Tryz.func72 rfl rfl (Nat.le_of_ble_eq_true rfl) (by repeat' (first | exact trivial | exact ⟨_, rfl, Nat.le_refl _⟩ | exact Nat.le_of_ble_eq_true rfl | refine And.intro ?_ ?_)) (Nat.le_of_ble_eq_true rfl) rfl (fun F hE => ?_)
  repeat' (first | exact trivial | refine BS.d (fun h => ?_) (fun h => ?_) | refine BS.e (fun h => ?_) (fun h => ?_) | refine BS.ne (fun h => ?_) (fun h => ?_) | refine BS.n ?_ | refine BS.s (fun h => ?_) (fun h => ?_) | refine And.intro ?_ ?_ | (refine Need.mk ?_; first | with_reducible rfl | (show @Eq TC _ _; rfl) | omega | (simp only [adN_zero]; omega)) | exact OutS.whole rfl rfl | refine ListO.go gOk hE ?_)
  refine CodeK.loop gOk hE (fun i : Nat => ⟨[(0, vr 1000000 z.length), (3, vi i)], [(1000000, rI .fro false z)]⟩) (fun i => i ≤ z.length ∧ ∀ j, j < i → hzQ z j) (fun i => z.length - i) 0 (by refine leT.of ?_ ?_ rfl <;> repeat' (first | exact trivial | refine And.intro rfl ?_ | refine And.intro (by simp) ?_)) ⟨Nat.zero_le _, fun j hj => absurd hj (Nat.not_lt_zero _)⟩ ?_
  rintro i ⟨hi, hs⟩
  have c1 := sHandleOk_run (z.getD i 0)
  by_cases hp : hzQ z i
  · cases hk : hOk (z.getD i 0)
    all_goals (rw [hk] at c1)
    all_goals (repeat' (first | exact trivial | refine BS.d (fun h => ?_) (fun h => ?_) | refine BS.e (fun h => ?_) (fun h => ?_) | refine BS.ne (fun h => ?_) (fun h => ?_) | refine BS.n ?_ | refine BS.s (fun h => ?_) (fun h => ?_) | refine And.intro ?_ ?_ | (refine Need.mk ?_; first | with_reducible rfl | (show @Eq TC _ _; rfl) | omega | (simp only [adN_zero]; omega)) | exact OutS.whole rfl rfl | (refine OpK.call c1 rfl rfl rfl rfl hE ?_ rfl rfl ?_; focus ((repeat' (first | exact PsA.lit _ | exact PsA.ref rfl rfl | constructor)); all_goals (fail "ps"))) | refine ListO.go gOk hE ?_))
    all_goals (try simp only [adN_zero] at *)
    all_goals first
      | (exfalso; omega)
      | (refine Need.mk ?_; omega)
      | (refine Need.mk ?_; unfold hzB hzA; rw [allP_true (fun j hj => hs j (by omega)), Bool.and_true, Bool.beq_eq_decide_eq]; apply decide_eq_decide.2; omega)
      | (refine ⟨i + 1, (by refine leT.of ?_ ?_ rfl <;> repeat' (first | exact trivial | refine And.intro rfl ?_ | refine And.intro (by simp) ?_)), ⟨by omega, fun j hj => (Nat.lt_or_ge j i).elim (hs j) (fun h9 => (show j = i by omega) ▸ hp)⟩, by first | omega | (dsimp only; omega)⟩)
      | (exfalso; rcases hp with h | h <;> simp_all; done)
      | trace_state
  · have hk : hOk (z.getD i 0) = false := by cases hk : hOk (z.getD i 0); rfl; exact absurd (Or.inr hk) hp
    have hz : z.getD i 0 ≠ 0 := fun h => hp (.inl h)
    rw [hk] at c1
    repeat' (first | exact trivial | refine BS.d (fun h => ?_) (fun h => ?_) | refine BS.e (fun h => ?_) (fun h => ?_) | refine BS.ne (fun h => ?_) (fun h => ?_) | refine BS.n ?_ | refine BS.s (fun h => ?_) (fun h => ?_) | refine And.intro ?_ ?_ | (refine Need.mk ?_; first | with_reducible rfl | (show @Eq TC _ _; rfl) | omega | (simp only [adN_zero]; omega)) | exact OutS.whole rfl rfl | (refine OpK.call c1 rfl rfl rfl rfl hE ?_ rfl rfl ?_; focus ((repeat' (first | exact PsA.lit _ | exact PsA.ref rfl rfl | constructor)); all_goals (fail "ps"))) | refine ListO.go gOk hE ?_)
    all_goals (try simp only [adN_zero] at *)
    all_goals first
      | (exfalso; omega)
      | (refine Need.mk ?_; omega)
      | (refine Need.mk ?_; unfold hzB hzA; rw [allP_false (i := i) (by omega) hp]; simp; done)
      | (refine Need.mk ?_; unfold hzB hzA; rw [allP_true (fun j hj => hs j (by omega)), Bool.and_true, Bool.beq_eq_decide_eq]; apply decide_eq_decide.2; omega)
      | (exfalso; simp_all; done)
      | trace_state
end Go.Proofs.YtpmhkpmkmbkjbaaGreatDoor
end
