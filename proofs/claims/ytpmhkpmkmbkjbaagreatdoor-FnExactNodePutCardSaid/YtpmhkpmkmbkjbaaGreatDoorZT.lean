import Derived.Test.YtpmhkpmkmbkjbaaGreatDoorZA
import Derived.Test.YtpmhkpmkmbkjbaaGreatDoorZO
import Derived.Test.YtpmhkpmkmbkjbaaGreatDoorVZ
import Derived.Test.YtpmhkpmkmbkjbaaGreatDoorVU
import Derived.Test.YtpmhkpmkmbkjbaaGreatDoorVQ
import Derived.Test.YtpmhkpmkmbkjbaaGreatDoorVRs
import Derived.Test.YtpmhkpmkmbkjbaaGreatDoorMkL
import Derived.Test.YtpmhkpmkmbkjbaaGreatDoorZB
import Derived.Test.YtpmhkpmkmbkjbaaGreatDoorUP
import Derived.Test.YtpmhkpmkmbkjbaaGreatDoorZS
import Derived.Test.YtpmhkpmkmbkjbaaGreatDoorZH
section
namespace Go.Proofs.YtpmhkpmkmbkjbaaGreatDoor
open Go Go.Tr
set_option maxRecDepth 100000
set_option maxHeartbeats 4000000
set_option linter.unusedVariables false
set_option linter.unusedSimpArgs false
/-- All of the first n have the property. -/
noncomputable def allP (n : Nat) (p : Nat → Prop) : Bool := @decide (∀ j, j < n → p j) (Classical.propDecidable _)
theorem allP_false {n i : Nat} {p : Nat → Prop} (hi : i < n) (h : ¬ p i) : allP n p = false := by
  unfold allP; exact @decide_eq_false _ (Classical.propDecidable _) (fun k => h (k i hi))
theorem allP_true {n : Nat} {p : Nat → Prop} (h : ∀ j, j < n → p j) : allP n p = true := by
  unfold allP; exact @decide_eq_true _ (Classical.propDecidable _) h
end Go.Proofs.YtpmhkpmkmbkjbaaGreatDoor
end

section
/- Hazard pointers: whether they are right. -/
namespace Go.Proofs.YtpmhkpmkmbkjbaaGreatDoor
open Go Go.Tr
set_option maxRecDepth 100000
set_option maxHeartbeats 4000000
set_option linter.unusedVariables false
set_option linter.unusedSimpArgs false
abbrev hzQ (z : List Int) (j : Nat) : Prop := z.getD j 0 = 0 ∨ hOk (z.getD j 0) = true
noncomputable def hzA (z : List Int) : Bool := allP z.length (hzQ z)
noncomputable def hzB (z : List Int) : Bool := decide (z.length = 3) && hzA z
theorem handleOrNone_run (x : Int) (hm : x ≤ 9223372036854775807) : RunT Tryz.prog 66 [ti x] [] [ob (decide (x = 0) || hOk x)] [] := by
  have c1 := iHandleOk_run x hm
  cases hk : hOk x
  all_goals (rw [hk] at c1)
  all_goals (refine RunT.of_vc gOk Tryz.func66 rfl rfl (Nat.le_of_ble_eq_true rfl) (by repeat' (first | exact trivial | exact ⟨_, rfl, Nat.le_refl _⟩ | exact Nat.le_of_ble_eq_true rfl | refine And.intro ?_ ?_)) (Nat.le_of_ble_eq_true rfl) rfl (fun F hE => ?_))
  all_goals (repeat' (first | exact trivial | refine BS.d (fun h => ?_) (fun h => ?_) | refine BS.e (fun h => ?_) (fun h => ?_) | refine BS.ne (fun h => ?_) (fun h => ?_) | refine BS.n ?_ | refine BS.s (fun h => ?_) (fun h => ?_) | refine And.intro ?_ ?_ | (refine Need.mk ?_; first | with_reducible rfl | (show @Eq TC _ _; rfl) | omega | (simp only [adN_zero]; omega)) | exact OutS.whole rfl rfl | (refine OpK.call c1 rfl rfl rfl rfl hE ?_ rfl rfl ?_; focus ((repeat' (first | exact PsA.lit _ | exact PsA.ref rfl rfl | constructor)); all_goals (fail "ps"))) | refine ListO.go gOk hE ?_))
  all_goals (refine Need.mk ?_; simp_all)
theorem hzNone_run (z : List Int) (hn : z.length ≤ 4000000) (hm : ∀ i, z.getD i 0 ≤ 9223372036854775807) : RunT Tryz.prog 148 [.one (.c (tI z))] [] [ob (hzA z)] [] := by
  refine RunT.of_vc gOk Tryz.func148 rfl rfl (Nat.le_of_ble_eq_true rfl) (by repeat' (first | exact trivial | exact ⟨_, rfl, Nat.le_refl _⟩ | exact Nat.le_of_ble_eq_true rfl | refine And.intro ?_ ?_)) (Nat.le_of_ble_eq_true rfl) rfl (fun F hE => ?_)
  repeat' (first | exact trivial | refine BS.d (fun h => ?_) (fun h => ?_) | refine BS.e (fun h => ?_) (fun h => ?_) | refine BS.ne (fun h => ?_) (fun h => ?_) | refine BS.n ?_ | refine BS.s (fun h => ?_) (fun h => ?_) | refine And.intro ?_ ?_ | (refine Need.mk ?_; first | with_reducible rfl | (show @Eq TC _ _; rfl) | omega | (simp only [adN_zero]; omega)) | exact OutS.whole rfl rfl | refine ListO.go gOk hE ?_)
  refine CodeK.loop gOk hE (fun i : Nat => ⟨[(5, vr 1000000 z.length), (6, vi z.length), (7, vi i)], [(1000000, rI .fro false z)]⟩) (fun i => i ≤ z.length ∧ ∀ j, j < i → hzQ z j) (fun i => z.length - i) 0 (by refine leT.of ?_ ?_ rfl <;> repeat' (first | exact trivial | refine And.intro rfl ?_ | refine And.intro (by simp) ?_)) ⟨Nat.zero_le _, fun j hj => absurd hj (Nat.not_lt_zero _)⟩ ?_
  rintro i ⟨hi, hs⟩
  have c1 := handleOrNone_run (z.getD i 0) (hm i)
  by_cases hp : hzQ z i
  · have hb : (decide (z.getD i 0 = 0) || hOk (z.getD i 0)) = true := by rw [Bool.or_eq_true, decide_eq_true_eq]; exact hp
    rw [hb] at c1
    repeat' (first | exact trivial | refine BS.d (fun h => ?_) (fun h => ?_) | refine BS.e (fun h => ?_) (fun h => ?_) | refine BS.ne (fun h => ?_) (fun h => ?_) | refine BS.n ?_ | refine BS.s (fun h => ?_) (fun h => ?_) | refine And.intro ?_ ?_ | (refine Need.mk ?_; first | with_reducible rfl | (show @Eq TC _ _; rfl) | omega | (simp only [adN_zero]; omega)) | exact OutS.whole rfl rfl | (refine OpK.call c1 rfl rfl rfl rfl hE ?_ rfl rfl ?_; focus ((repeat' (first | exact PsA.lit _ | exact PsA.ref rfl rfl | constructor)); all_goals (fail "ps"))) | refine ListO.go gOk hE ?_)
    all_goals (try simp only [adN_zero] at *)
    all_goals first
      | (exfalso; omega)
      | (refine Need.mk ?_; omega)
      | (refine Need.mk ?_; exact (allP_true (fun j hj => hs j (by omega))).symm)
      | (refine ⟨i + 1, (by refine leT.of ?_ ?_ rfl <;> repeat' (first | exact trivial | refine And.intro rfl ?_ | refine And.intro (by simp) ?_)), ⟨by omega, fun j hj => (Nat.lt_or_ge j i).elim (hs j) (fun h9 => (show j = i by omega) ▸ hp)⟩, by first | omega | (dsimp only; omega)⟩)
      | (exfalso; simp_all; done)
      | trace_state
  · have hb : (decide (z.getD i 0 = 0) || hOk (z.getD i 0)) = false := by
      cases hq : hOk (z.getD i 0) <;> by_cases h9 : z.getD i 0 = 0 <;> simp_all [hzQ]
    rw [hb] at c1
    repeat' (first | exact trivial | refine BS.d (fun h => ?_) (fun h => ?_) | refine BS.e (fun h => ?_) (fun h => ?_) | refine BS.ne (fun h => ?_) (fun h => ?_) | refine BS.n ?_ | refine BS.s (fun h => ?_) (fun h => ?_) | refine And.intro ?_ ?_ | (refine Need.mk ?_; first | with_reducible rfl | (show @Eq TC _ _; rfl) | omega | (simp only [adN_zero]; omega)) | exact OutS.whole rfl rfl | (refine OpK.call c1 rfl rfl rfl rfl hE ?_ rfl rfl ?_; focus ((repeat' (first | exact PsA.lit _ | exact PsA.ref rfl rfl | constructor)); all_goals (fail "ps"))) | refine ListO.go gOk hE ?_)
    all_goals (try simp only [adN_zero] at *)
    all_goals first
      | (exfalso; omega)
      | (refine Need.mk ?_; omega)
      | (refine Need.mk ?_; exact (allP_false (i := i) (by omega) hp).symm)
      | (refine Need.mk ?_; exact (allP_true (fun j hj => hs j (by omega))).symm)
      | (exfalso; simp_all; done)
      | trace_state
theorem HazOkI_run (z : List Int) (hn : z.length ≤ 4000000) (hm : ∀ i, z.getD i 0 ≤ 9223372036854775807) : RunT Tryz.prog 79 [.one (.c (tI z))] [] [ob (hzB z)] [] := by
  have c1 := hzNone_run z hn hm
  unfold hzB
  generalize hzA z = bb at *
  refine RunT.of_vc gOk Tryz.func79 rfl rfl (Nat.le_of_ble_eq_true rfl) (by repeat' (first | exact trivial | exact ⟨_, rfl, Nat.le_refl _⟩ | exact Nat.le_of_ble_eq_true rfl | refine And.intro ?_ ?_)) (Nat.le_of_ble_eq_true rfl) rfl (fun F hE => ?_)
  repeat' (first | exact trivial | refine BS.d (fun h => ?_) (fun h => ?_) | refine BS.e (fun h => ?_) (fun h => ?_) | refine BS.ne (fun h => ?_) (fun h => ?_) | refine BS.n ?_ | refine BS.s (fun h => ?_) (fun h => ?_) | refine And.intro ?_ ?_ | (refine Need.mk ?_; first | with_reducible rfl | (show @Eq TC _ _; rfl) | omega | (simp only [adN_zero]; omega)) | exact OutS.whole rfl rfl | (refine OpK.call c1 rfl rfl rfl rfl hE ?_ rfl rfl ?_; focus ((repeat' (first | exact PsA.lit _ | exact PsA.ref rfl rfl | constructor)); all_goals (fail "ps"))) | refine ListO.go gOk hE ?_)
  all_goals (refine Need.mk ?_; first | (rw [decide_eq_true (by omega)]; rfl) | (rw [decide_eq_false (by omega)]; rfl) | (simp_all; done))
theorem HazOkS_run (z : List Int) (hn : z.length ≤ 4000000) : RunT Tryz.prog 72 [.one (.c (tI z))] [] [ob (hzB z)] [] := by
  refine RunT.of_vc gOk Tryz.func72 rfl rfl (Nat.le_of_ble_eq_true rfl) (by repeat' (first | exact trivial | exact ⟨_, rfl, Nat.le_refl _⟩ | exact Nat.le_of_ble_eq_true rfl | refine And.intro ?_ ?_)) (Nat.le_of_ble_eq_true rfl) rfl (fun F hE => ?_)
  repeat' (first | exact trivial | refine BS.d (fun h => ?_) (fun h => ?_) | refine BS.e (fun h => ?_) (fun h => ?_) | refine BS.ne (fun h => ?_) (fun h => ?_) | refine BS.n ?_ | refine BS.s (fun h => ?_) (fun h => ?_) | refine And.intro ?_ ?_ | (refine Need.mk ?_; first | with_reducible rfl | (show @Eq TC _ _; rfl) | omega | (simp only [adN_zero]; omega)) | exact OutS.whole rfl rfl | refine ListO.go gOk hE ?_)
  refine CodeK.loop gOk hE (fun i : Nat => ⟨[(0, vr 1000000 z.length), (3, vi i)], [(1000000, rI .fro false z)]⟩) (fun i => i ≤ z.length ∧ ∀ j, j < i → hzQ z j) (fun i => z.length - i) 0 (by refine leT.of ?_ ?_ rfl <;> repeat' (first | exact trivial | refine And.intro rfl ?_ | refine And.intro (by simp) ?_)) ⟨Nat.zero_le _, fun j hj => absurd hj (Nat.not_lt_zero _)⟩ ?_
  rintro i ⟨hi, hs⟩
  have c1 := sHandleOk_run (z.getD i 0)
  by_cases hp : hzQ z i
  · cases hk : hOk (z.getD i 0)
    all_goals (rw [hk] at c1)
    all_goals (repeat' (first | exact trivial | refine BS.d (fun h => ?_) (fun h => ?_) | refine BS.e (fun h => ?_) (fun h => ?_) | refine BS.ne (fun h => ?_) (fun h => ?_) | refine BS.n ?_ | refine BS.s (fun h => ?_) (fun h => ?_) | refine And.intro ?_ ?_ | (refine Need.mk ?_; first | with_reducible rfl | (show @Eq TC _ _; rfl) | omega | (simp only [adN_zero]; omega)) | exact OutS.whole rfl rfl | (refine OpK.call c1 rfl rfl rfl rfl hE ?_ rfl rfl ?_; focus ((repeat' (first | exact PsA.lit _ | exact PsA.ref rfl rfl | constructor)); all_goals (fail "ps"))) | refine ListO.go gOk hE ?_))
    all_goals (try simp only [adN_zero] at *)
    all_goals first
      | (exfalso; omega)
      | (refine Need.mk ?_; omega)
      | (refine Need.mk ?_; unfold hzB hzA; rw [allP_true (fun j hj => hs j (by omega)), Bool.and_true, Bool.beq_eq_decide_eq]; apply decide_eq_decide.2; omega)
      | (refine ⟨i + 1, (by refine leT.of ?_ ?_ rfl <;> repeat' (first | exact trivial | refine And.intro rfl ?_ | refine And.intro (by simp) ?_)), ⟨by omega, fun j hj => (Nat.lt_or_ge j i).elim (hs j) (fun h9 => (show j = i by omega) ▸ hp)⟩, by first | omega | (dsimp only; omega)⟩)
      | (exfalso; rcases hp with h | h <;> simp_all; done)
      | trace_state
  · have hk : hOk (z.getD i 0) = false := by cases hk : hOk (z.getD i 0); rfl; exact absurd (Or.inr hk) hp
    have hz : z.getD i 0 ≠ 0 := fun h => hp (.inl h)
    rw [hk] at c1
    repeat' (first | exact trivial | refine BS.d (fun h => ?_) (fun h => ?_) | refine BS.e (fun h => ?_) (fun h => ?_) | refine BS.ne (fun h => ?_) (fun h => ?_) | refine BS.n ?_ | refine BS.s (fun h => ?_) (fun h => ?_) | refine And.intro ?_ ?_ | (refine Need.mk ?_; first | with_reducible rfl | (show @Eq TC _ _; rfl) | omega | (simp only [adN_zero]; omega)) | exact OutS.whole rfl rfl | (refine OpK.call c1 rfl rfl rfl rfl hE ?_ rfl rfl ?_; focus ((repeat' (first | exact PsA.lit _ | exact PsA.ref rfl rfl | constructor)); all_goals (fail "ps"))) | refine ListO.go gOk hE ?_)
    all_goals (try simp only [adN_zero] at *)
    all_goals first
      | (exfalso; omega)
      | (refine Need.mk ?_; omega)
      | (refine Need.mk ?_; unfold hzB hzA; rw [allP_false (i := i) (by omega) hp]; simp; done)
      | (refine Need.mk ?_; unfold hzB hzA; rw [allP_true (fun j hj => hs j (by omega)), Bool.and_true, Bool.beq_eq_decide_eq]; apply decide_eq_decide.2; omega)
      | (exfalso; simp_all; done)
      | trace_state
end Go.Proofs.YtpmhkpmkmbkjbaaGreatDoor
end

section
/- Copies of rows of numbers. -/
namespace Go.Proofs.YtpmhkpmkmbkjbaaGreatDoor
open Go Go.Tr
set_option maxRecDepth 100000
set_option maxHeartbeats 4000000
set_option linter.unusedVariables false
set_option linter.unusedSimpArgs false
theorem intFlatK : ∀ (x : Int) (r : Nat), r < 1 → ∃ v, encI x r = .lit v ∧ encI x r = .lit v := fun x r _ => ⟨_, rfl, rfl⟩
theorem l3Copy_run (xs : List Int) (hn : xs.length ≤ 1048576) : RunT Tryz.prog 174 [.one (.c (tI xs))] [] [.one (tI xs)] [] := by
  refine RunT.of_vc gOk Tryz.func174 rfl rfl (Nat.le_of_ble_eq_true rfl) (by repeat' (first | exact trivial | exact ⟨_, rfl, Nat.le_refl _⟩ | exact Nat.le_of_ble_eq_true rfl | refine And.intro ?_ ?_)) (Nat.le_of_ble_eq_true rfl) rfl (fun F hE => ?_)
  repeat' (first | exact trivial | refine BS.d (fun h => ?_) (fun h => ?_) | refine BS.e (fun h => ?_) (fun h => ?_) | refine BS.ne (fun h => ?_) (fun h => ?_) | refine BS.n ?_ | refine BS.s (fun h => ?_) (fun h => ?_) | refine And.intro ?_ ?_ | (refine Need.mk ?_; first | with_reducible rfl | (show @Eq TC _ _; rfl) | omega | (simp only [adN_zero]; omega)) | exact OutS.whole rfl rfl | refine ListO.go gOk hE ?_)
  refine OpK.apps gOk (by rfl) (by rfl) (by rfl) (by rfl) (by rfl) (by rfl) (by rfl) (by rfl) (by rfl) (by rfl) (by first | rfl | simp) (by exact intFlatK) (by rfl) (by refine ⟨?_, ?_⟩ <;> (try unfold maxLen) <;> simp <;> omega) ?_
  repeat' (first | exact trivial | refine BS.d (fun h => ?_) (fun h => ?_) | refine BS.e (fun h => ?_) (fun h => ?_) | refine BS.ne (fun h => ?_) (fun h => ?_) | refine BS.n ?_ | refine BS.s (fun h => ?_) (fun h => ?_) | refine And.intro ?_ ?_ | (refine Need.mk ?_; first | with_reducible rfl | (show @Eq TC _ _; rfl) | omega | (simp only [adN_zero]; omega)) | exact OutS.whole rfl rfl | refine ListO.go gOk hE ?_)
end Go.Proofs.YtpmhkpmkmbkjbaaGreatDoor
end

section
/- slices.Clone of a row of numbers. -/
namespace Go.Proofs.YtpmhkpmkmbkjbaaGreatDoor
open Go Go.Tr
set_option maxRecDepth 100000
set_option maxHeartbeats 4000000
set_option linter.unusedVariables false
set_option linter.unusedSimpArgs false
theorem CloneI_base (e n : Nat) (row : Nat → Nat → C) (hn : n ≤ 1048576) (hfl : ∀ i r, r < 1 → ∃ v, row i r = .lit v) :
    Run Tryz.prog 180 [.one (.c (.sl .fro e 1 n row))] [] fun outs ext => outs = [.one (.sl .own 3 1 n row)] ∧ ext = [] := by
  refine Run.of_body tyOk Tryz.func180 (by rfl) (Nat.le_of_ble_eq_true rfl) (by simp [argsOk, aasOk, aaOk]) [] rfl (fun F hF => ?_)
  repeat (first | (first | refine AL.nil ?_ | refine AL.move (.inl (by rfl)) (by rfl) (by rfl) ?_ | refine AL.move (.inr (by rfl)) (by rfl) (by rfl) ?_ | refine AL.fieldAddr tyOk (by rfl) (by rfl) (by rfl) (by rfl) (by rfl) (by rfl) ?_ | refine AL.load1 tyOk (by rfl) (by rfl) (by rfl) (by rfl) (by rfl) (by rfl) (by rfl) (by first | exact Nat.le_of_ble_eq_true rfl | (dsimp only; omega) | omega | assumption | (simp only [openR]; omega) | exact Nat.lt_of_lt_of_le (m := 3) (by omega) (Nat.le_of_ble_eq_true rfl)) (by first | exact Nat.le_of_ble_eq_true rfl | (dsimp only; omega) | omega | assumption | (simp only [openR]; omega) | exact Nat.lt_of_lt_of_le (m := 3) (by omega) (Nat.le_of_ble_eq_true rfl)) (by rfl) ?_ | refine AL.loadAggE tyOk (by rfl) (by rfl) (by rfl) (by rfl) (by rfl) (by rfl) (by rfl) (by first | exact Nat.le_of_ble_eq_true rfl | (dsimp only; omega) | omega | assumption | (simp only [openR]; omega) | exact Nat.lt_of_lt_of_le (m := 3) (by omega) (Nat.le_of_ble_eq_true rfl)) (by first | exact Nat.le_of_ble_eq_true rfl | (dsimp only; omega) | omega | assumption | (simp only [openR]; omega) | exact Nat.lt_of_lt_of_le (m := 3) (by omega) (Nat.le_of_ble_eq_true rfl)) (by rfl) ?_ | refine AL.stor tyOk (by rfl) (by rfl) (by rfl) (by rfl) (by rfl) (by rfl) (by rfl) (by rfl) (by rfl) (by first | exact Nat.le_of_ble_eq_true rfl | (dsimp only; omega) | omega | assumption | (simp only [openR]; omega) | exact Nat.lt_of_lt_of_le (m := 3) (by omega) (Nat.le_of_ble_eq_true rfl)) (by first | exact Nat.le_of_ble_eq_true rfl | (dsimp only; omega) | omega | assumption | (simp only [openR]; omega) | exact Nat.lt_of_lt_of_le (m := 3) (by omega) (Nat.le_of_ble_eq_true rfl)) ?_ | refine AL.len (ty := 0) tyOk (by rfl) (by rfl) (by rfl) (by rfl) (by rfl) ?_ | refine AL.add (by rfl) (by rfl) (by rfl) (by rfl) (by rfl) (by constructor <;> omega) ?_ | refine AL.sub (by rfl) (by rfl) (by rfl) (by rfl) (by rfl) (by constructor <;> omega) ?_ | refine AL.mul (by rfl) (by rfl) (by rfl) (by rfl) (by rfl) (by constructor <;> omega) ?_ | refine AL.int2 (by rfl) (by rfl) (by rfl) (by rfl) (by rfl) (by rfl) (by first | trivial | decide | omega) ?_ | refine AL.bEq (by rfl) (by rfl) (by rfl) (by rfl) (by rfl) Tryz.underlying4 ?_ | refine AL.bNe (by rfl) (by rfl) (by rfl) (by rfl) (by rfl) Tryz.underlying4 ?_ | refine AL.not (by rfl) (by rfl) (by rfl) (by rfl) ?_ | refine AL.gOnE (by rfl) (by rfl) (by rfl) (by rfl) (by decide) (by first | rfl | assumption) ?_ | refine AL.gOffE (by rfl) (by rfl) (by rfl) (by rfl) (by rfl) (by decide) (by first | rfl | assumption) ?_ | refine AL.pickE (b' := true) (by rfl) (by rfl) (by rfl) (by rfl) (by first | rfl | assumption) ?_ | refine AL.pickE (b' := false) (by rfl) (by rfl) (by rfl) (by rfl) (by first | rfl | assumption) ?_ | refine AL.extract (by rfl) (by rfl) (by rfl) (by rfl) (by rfl) ?_ | refine AL.boxD tyOk (by rfl) (by rfl) (by rfl) (Nat.le_of_ble_eq_true rfl) (by rfl) (by rfl) (by rfl) (by decide) (by rfl) ?_ | refine AL.allocD tyOk (by rfl) (by rfl) (by rfl) (Nat.le_of_ble_eq_true rfl) (by rfl) (by rfl) (by decide) (by rfl) ?_ | refine AL.indexN tyOk (by rfl) (by rfl) (by rfl) (by rfl) (by rfl) (by rfl) (by rfl) (by rfl) (by first | rfl | exact (Int.toNat_of_nonneg (by omega)).symm) (by omega) ?_ | refine AL.indexSl tyOk (by rfl) (by rfl) (by rfl) (by rfl) (by rfl) (by rfl) (by rfl) (by rfl) (by constructor <;> omega) ?_ | refine AL.indexArr tyOk (by rfl) (by rfl) (by rfl) (by rfl) (by rfl) (by rfl) (by constructor <;> omega) ?_ | refine AL.makeD tyOk _ (by rfl) (by rfl) (by rfl) (Nat.le_of_ble_eq_true rfl) (by rfl) (by rfl) (by rfl) (by rfl) (by rfl) (by rfl) (by rfl) (by omega) (by omega) (by decide) (by rfl) ?_ | refine AL.build (qs := []) tyOk (by rfl) (by rfl) (by rfl) (by rfl) (by rfl) (by exact PartsOk.nil) (by rfl) ?_ | refine AL.build (qs := [(_, _)]) tyOk (by rfl) (by rfl) (by rfl) (by rfl) (by rfl) (by exact PartsOk.cons (by rfl) (by rfl) PartsOk.nil) (by rfl) ?_ | refine AL.build (qs := [(_, _), (_, _)]) tyOk (by rfl) (by rfl) (by rfl) (by rfl) (by rfl) (by exact PartsOk.cons (by rfl) (by rfl) (PartsOk.cons (by rfl) (by rfl) PartsOk.nil)) (by rfl) ?_ | refine AL.nilCheck (by rfl) (by rfl) (by rfl) (by rfl) ?_) | (first | refine AC.region ?_ | refine AC.seq ?_ | refine AC.block ?_ | refine AC.ret ?_ | refine AC.exit ?_ | refine AC.skip ?_))
  refine AL.isNil (by rfl) (by rfl) (by rfl) (by rfl) (by rfl) Tryz.underlying22 (fun b hb => ?_)
  repeat (first | (first | refine AL.nil ?_ | refine AL.move (.inl (by rfl)) (by rfl) (by rfl) ?_ | refine AL.move (.inr (by rfl)) (by rfl) (by rfl) ?_ | refine AL.fieldAddr tyOk (by rfl) (by rfl) (by rfl) (by rfl) (by rfl) (by rfl) ?_ | refine AL.load1 tyOk (by rfl) (by rfl) (by rfl) (by rfl) (by rfl) (by rfl) (by rfl) (by first | exact Nat.le_of_ble_eq_true rfl | (dsimp only; omega) | omega | assumption | (simp only [openR]; omega) | exact Nat.lt_of_lt_of_le (m := 3) (by omega) (Nat.le_of_ble_eq_true rfl)) (by first | exact Nat.le_of_ble_eq_true rfl | (dsimp only; omega) | omega | assumption | (simp only [openR]; omega) | exact Nat.lt_of_lt_of_le (m := 3) (by omega) (Nat.le_of_ble_eq_true rfl)) (by rfl) ?_ | refine AL.loadAggE tyOk (by rfl) (by rfl) (by rfl) (by rfl) (by rfl) (by rfl) (by rfl) (by first | exact Nat.le_of_ble_eq_true rfl | (dsimp only; omega) | omega | assumption | (simp only [openR]; omega) | exact Nat.lt_of_lt_of_le (m := 3) (by omega) (Nat.le_of_ble_eq_true rfl)) (by first | exact Nat.le_of_ble_eq_true rfl | (dsimp only; omega) | omega | assumption | (simp only [openR]; omega) | exact Nat.lt_of_lt_of_le (m := 3) (by omega) (Nat.le_of_ble_eq_true rfl)) (by rfl) ?_ | refine AL.stor tyOk (by rfl) (by rfl) (by rfl) (by rfl) (by rfl) (by rfl) (by rfl) (by rfl) (by rfl) (by first | exact Nat.le_of_ble_eq_true rfl | (dsimp only; omega) | omega | assumption | (simp only [openR]; omega) | exact Nat.lt_of_lt_of_le (m := 3) (by omega) (Nat.le_of_ble_eq_true rfl)) (by first | exact Nat.le_of_ble_eq_true rfl | (dsimp only; omega) | omega | assumption | (simp only [openR]; omega) | exact Nat.lt_of_lt_of_le (m := 3) (by omega) (Nat.le_of_ble_eq_true rfl)) ?_ | refine AL.len (ty := 0) tyOk (by rfl) (by rfl) (by rfl) (by rfl) (by rfl) ?_ | refine AL.add (by rfl) (by rfl) (by rfl) (by rfl) (by rfl) (by constructor <;> omega) ?_ | refine AL.sub (by rfl) (by rfl) (by rfl) (by rfl) (by rfl) (by constructor <;> omega) ?_ | refine AL.mul (by rfl) (by rfl) (by rfl) (by rfl) (by rfl) (by constructor <;> omega) ?_ | refine AL.int2 (by rfl) (by rfl) (by rfl) (by rfl) (by rfl) (by rfl) (by first | trivial | decide | omega) ?_ | refine AL.bEq (by rfl) (by rfl) (by rfl) (by rfl) (by rfl) Tryz.underlying4 ?_ | refine AL.bNe (by rfl) (by rfl) (by rfl) (by rfl) (by rfl) Tryz.underlying4 ?_ | refine AL.not (by rfl) (by rfl) (by rfl) (by rfl) ?_ | refine AL.gOnE (by rfl) (by rfl) (by rfl) (by rfl) (by decide) (by first | rfl | assumption) ?_ | refine AL.gOffE (by rfl) (by rfl) (by rfl) (by rfl) (by rfl) (by decide) (by first | rfl | assumption) ?_ | refine AL.pickE (b' := true) (by rfl) (by rfl) (by rfl) (by rfl) (by first | rfl | assumption) ?_ | refine AL.pickE (b' := false) (by rfl) (by rfl) (by rfl) (by rfl) (by first | rfl | assumption) ?_ | refine AL.extract (by rfl) (by rfl) (by rfl) (by rfl) (by rfl) ?_ | refine AL.boxD tyOk (by rfl) (by rfl) (by rfl) (Nat.le_of_ble_eq_true rfl) (by rfl) (by rfl) (by rfl) (by decide) (by rfl) ?_ | refine AL.allocD tyOk (by rfl) (by rfl) (by rfl) (Nat.le_of_ble_eq_true rfl) (by rfl) (by rfl) (by decide) (by rfl) ?_ | refine AL.indexN tyOk (by rfl) (by rfl) (by rfl) (by rfl) (by rfl) (by rfl) (by rfl) (by rfl) (by first | rfl | exact (Int.toNat_of_nonneg (by omega)).symm) (by omega) ?_ | refine AL.indexSl tyOk (by rfl) (by rfl) (by rfl) (by rfl) (by rfl) (by rfl) (by rfl) (by rfl) (by constructor <;> omega) ?_ | refine AL.indexArr tyOk (by rfl) (by rfl) (by rfl) (by rfl) (by rfl) (by rfl) (by constructor <;> omega) ?_ | refine AL.makeD tyOk _ (by rfl) (by rfl) (by rfl) (Nat.le_of_ble_eq_true rfl) (by rfl) (by rfl) (by rfl) (by rfl) (by rfl) (by rfl) (by rfl) (by omega) (by omega) (by decide) (by rfl) ?_ | refine AL.build (qs := []) tyOk (by rfl) (by rfl) (by rfl) (by rfl) (by rfl) (by exact PartsOk.nil) (by rfl) ?_ | refine AL.build (qs := [(_, _)]) tyOk (by rfl) (by rfl) (by rfl) (by rfl) (by rfl) (by exact PartsOk.cons (by rfl) (by rfl) PartsOk.nil) (by rfl) ?_ | refine AL.build (qs := [(_, _), (_, _)]) tyOk (by rfl) (by rfl) (by rfl) (by rfl) (by rfl) (by exact PartsOk.cons (by rfl) (by rfl) (PartsOk.cons (by rfl) (by rfl) PartsOk.nil)) (by rfl) ?_ | refine AL.nilCheck (by rfl) (by rfl) (by rfl) (by rfl) ?_) | (first | refine AC.region ?_ | refine AC.seq ?_ | refine AC.block ?_ | refine AC.ret ?_ | refine AC.exit ?_ | refine AC.skip ?_))
  refine AC.cond (by rfl) (fun h => ?_) (fun h => ?_)
  · have h0 : n = 0 := hb (by simpa using h)
    subst h0
    repeat (first | (first | (first | refine AL.nil ?_ | refine AL.move (.inl (by rfl)) (by rfl) (by rfl) ?_ | refine AL.move (.inr (by rfl)) (by rfl) (by rfl) ?_ | refine AL.fieldAddr tyOk (by rfl) (by rfl) (by rfl) (by rfl) (by rfl) (by rfl) ?_ | refine AL.load1 tyOk (by rfl) (by rfl) (by rfl) (by rfl) (by rfl) (by rfl) (by rfl) (by first | exact Nat.le_of_ble_eq_true rfl | (dsimp only; omega) | omega | assumption | (simp only [openR]; omega) | exact Nat.lt_of_lt_of_le (m := 3) (by omega) (Nat.le_of_ble_eq_true rfl)) (by first | exact Nat.le_of_ble_eq_true rfl | (dsimp only; omega) | omega | assumption | (simp only [openR]; omega) | exact Nat.lt_of_lt_of_le (m := 3) (by omega) (Nat.le_of_ble_eq_true rfl)) (by rfl) ?_ | refine AL.loadAggE tyOk (by rfl) (by rfl) (by rfl) (by rfl) (by rfl) (by rfl) (by rfl) (by first | exact Nat.le_of_ble_eq_true rfl | (dsimp only; omega) | omega | assumption | (simp only [openR]; omega) | exact Nat.lt_of_lt_of_le (m := 3) (by omega) (Nat.le_of_ble_eq_true rfl)) (by first | exact Nat.le_of_ble_eq_true rfl | (dsimp only; omega) | omega | assumption | (simp only [openR]; omega) | exact Nat.lt_of_lt_of_le (m := 3) (by omega) (Nat.le_of_ble_eq_true rfl)) (by rfl) ?_ | refine AL.stor tyOk (by rfl) (by rfl) (by rfl) (by rfl) (by rfl) (by rfl) (by rfl) (by rfl) (by rfl) (by first | exact Nat.le_of_ble_eq_true rfl | (dsimp only; omega) | omega | assumption | (simp only [openR]; omega) | exact Nat.lt_of_lt_of_le (m := 3) (by omega) (Nat.le_of_ble_eq_true rfl)) (by first | exact Nat.le_of_ble_eq_true rfl | (dsimp only; omega) | omega | assumption | (simp only [openR]; omega) | exact Nat.lt_of_lt_of_le (m := 3) (by omega) (Nat.le_of_ble_eq_true rfl)) ?_ | refine AL.len (ty := 0) tyOk (by rfl) (by rfl) (by rfl) (by rfl) (by rfl) ?_ | refine AL.add (by rfl) (by rfl) (by rfl) (by rfl) (by rfl) (by constructor <;> omega) ?_ | refine AL.sub (by rfl) (by rfl) (by rfl) (by rfl) (by rfl) (by constructor <;> omega) ?_ | refine AL.mul (by rfl) (by rfl) (by rfl) (by rfl) (by rfl) (by constructor <;> omega) ?_ | refine AL.int2 (by rfl) (by rfl) (by rfl) (by rfl) (by rfl) (by rfl) (by first | trivial | decide | omega) ?_ | refine AL.bEq (by rfl) (by rfl) (by rfl) (by rfl) (by rfl) Tryz.underlying4 ?_ | refine AL.bNe (by rfl) (by rfl) (by rfl) (by rfl) (by rfl) Tryz.underlying4 ?_ | refine AL.not (by rfl) (by rfl) (by rfl) (by rfl) ?_ | refine AL.gOnE (by rfl) (by rfl) (by rfl) (by rfl) (by decide) (by first | rfl | assumption) ?_ | refine AL.gOffE (by rfl) (by rfl) (by rfl) (by rfl) (by rfl) (by decide) (by first | rfl | assumption) ?_ | refine AL.pickE (b' := true) (by rfl) (by rfl) (by rfl) (by rfl) (by first | rfl | assumption) ?_ | refine AL.pickE (b' := false) (by rfl) (by rfl) (by rfl) (by rfl) (by first | rfl | assumption) ?_ | refine AL.extract (by rfl) (by rfl) (by rfl) (by rfl) (by rfl) ?_ | refine AL.boxD tyOk (by rfl) (by rfl) (by rfl) (Nat.le_of_ble_eq_true rfl) (by rfl) (by rfl) (by rfl) (by decide) (by rfl) ?_ | refine AL.allocD tyOk (by rfl) (by rfl) (by rfl) (Nat.le_of_ble_eq_true rfl) (by rfl) (by rfl) (by decide) (by rfl) ?_ | refine AL.indexN tyOk (by rfl) (by rfl) (by rfl) (by rfl) (by rfl) (by rfl) (by rfl) (by rfl) (by first | rfl | exact (Int.toNat_of_nonneg (by omega)).symm) (by omega) ?_ | refine AL.indexSl tyOk (by rfl) (by rfl) (by rfl) (by rfl) (by rfl) (by rfl) (by rfl) (by rfl) (by constructor <;> omega) ?_ | refine AL.indexArr tyOk (by rfl) (by rfl) (by rfl) (by rfl) (by rfl) (by rfl) (by constructor <;> omega) ?_ | refine AL.makeD tyOk _ (by rfl) (by rfl) (by rfl) (Nat.le_of_ble_eq_true rfl) (by rfl) (by rfl) (by rfl) (by rfl) (by rfl) (by rfl) (by rfl) (by omega) (by omega) (by decide) (by rfl) ?_ | refine AL.build (qs := []) tyOk (by rfl) (by rfl) (by rfl) (by rfl) (by rfl) (by exact PartsOk.nil) (by rfl) ?_ | refine AL.build (qs := [(_, _)]) tyOk (by rfl) (by rfl) (by rfl) (by rfl) (by rfl) (by exact PartsOk.cons (by rfl) (by rfl) PartsOk.nil) (by rfl) ?_ | refine AL.build (qs := [(_, _), (_, _)]) tyOk (by rfl) (by rfl) (by rfl) (by rfl) (by rfl) (by exact PartsOk.cons (by rfl) (by rfl) (PartsOk.cons (by rfl) (by rfl) PartsOk.nil)) (by rfl) ?_ | refine AL.nilCheck (by rfl) (by rfl) (by rfl) (by rfl) ?_) | refine AL.buildSl0D tyOk (by rfl) (by rfl) (by rfl) (by rfl) (Nat.le_of_ble_eq_true rfl) (by rfl) (by decide) (by rfl) ?_ | refine AL.copyN tyOk (by rfl) (by rfl) (by rfl) (by rfl) (by rfl) (by rfl) (by rfl) (by rfl) (by rfl) (by rfl) (by rfl) (by rfl) (by rfl) ?_ | refine AL.append0 tyOk (by rfl) (by rfl) (by rfl) (by rfl) (by rfl) (by rfl) (by rfl) (by rfl) (by rfl) (by rfl) (by rfl) (by rfl) (by rfl) (by rfl) (by rfl) (okK_lt (by decide)) (by first | omega | (dsimp only; omega) | (unfold maxLen; dsimp only; omega)) (by first | omega | (dsimp only; omega) | (unfold maxLen; dsimp only; omega)) ?_ | refine AL.appendL tyOk (by rfl) (by rfl) (by rfl) (by rfl) (by rfl) (by rfl) (by rfl) (by rfl) (by rfl) (by rfl) (by rfl) (by rfl) (by rfl) (by rfl) (by rfl) (fun _ _ _ _ => rfl) (okK_lt (by decide)) (by first | omega | (dsimp only; omega) | (unfold maxLen; dsimp only; omega)) (by first | omega | (dsimp only; omega) | (unfold maxLen; dsimp only; omega)) ?_) | (first | refine AC.region ?_ | refine AC.seq ?_ | refine AC.block ?_ | refine AC.exit ?_ | refine AC.skip ?_))
    refine AC.nilRoot (t := 2) (d := 3) 3 1 (by rfl) (Nat.le_of_ble_eq_true rfl) (by rfl) ?_
    refine AC.le (St.le.sub (σ' := ⟨[(2, .a (.ref 3 0 0))], [(3, ⟨.own, true, 3, 1, 0, row, []⟩)]⟩) (And.intro rfl trivial) (And.intro ⟨_, rfl, ⟨rfl, (fun _ => And.intro rfl rfl), rfl, rfl, fun i r hi hr => absurd hi (Nat.not_lt_zero _)⟩⟩ trivial) (by rfl) (by rfl)) ?_
    refine AC.ret ?_
    refine And.intro (by first | exact .inr rfl | exact .inl rfl) (And.intro (by repeat (first | exact trivial | exact Nat.le_of_ble_eq_true rfl | rfl | exact ⟨_, rfl, rfl, Nat.le_refl _, rfl⟩ | refine And.intro ?_ ?_)) (And.intro (by rfl) (And.intro (by rfl) (And.intro (by repeat (first | exact trivial | exact Nat.le_of_ble_eq_true rfl | rfl | exact ⟨_, rfl, rfl, Nat.le_refl _, rfl⟩ | refine And.intro ?_ ?_)) (And.intro (by repeat (first | exact trivial | exact Nat.le_of_ble_eq_true rfl | rfl | exact ⟨_, rfl, rfl, Nat.le_refl _, rfl⟩ | refine And.intro ?_ ?_)) ?_)))))
    exact And.intro rfl rfl
  · repeat (first | (first | (first | refine AL.nil ?_ | refine AL.move (.inl (by rfl)) (by rfl) (by rfl) ?_ | refine AL.move (.inr (by rfl)) (by rfl) (by rfl) ?_ | refine AL.fieldAddr tyOk (by rfl) (by rfl) (by rfl) (by rfl) (by rfl) (by rfl) ?_ | refine AL.load1 tyOk (by rfl) (by rfl) (by rfl) (by rfl) (by rfl) (by rfl) (by rfl) (by first | exact Nat.le_of_ble_eq_true rfl | (dsimp only; omega) | omega | assumption | (simp only [openR]; omega) | exact Nat.lt_of_lt_of_le (m := 3) (by omega) (Nat.le_of_ble_eq_true rfl)) (by first | exact Nat.le_of_ble_eq_true rfl | (dsimp only; omega) | omega | assumption | (simp only [openR]; omega) | exact Nat.lt_of_lt_of_le (m := 3) (by omega) (Nat.le_of_ble_eq_true rfl)) (by rfl) ?_ | refine AL.loadAggE tyOk (by rfl) (by rfl) (by rfl) (by rfl) (by rfl) (by rfl) (by rfl) (by first | exact Nat.le_of_ble_eq_true rfl | (dsimp only; omega) | omega | assumption | (simp only [openR]; omega) | exact Nat.lt_of_lt_of_le (m := 3) (by omega) (Nat.le_of_ble_eq_true rfl)) (by first | exact Nat.le_of_ble_eq_true rfl | (dsimp only; omega) | omega | assumption | (simp only [openR]; omega) | exact Nat.lt_of_lt_of_le (m := 3) (by omega) (Nat.le_of_ble_eq_true rfl)) (by rfl) ?_ | refine AL.stor tyOk (by rfl) (by rfl) (by rfl) (by rfl) (by rfl) (by rfl) (by rfl) (by rfl) (by rfl) (by first | exact Nat.le_of_ble_eq_true rfl | (dsimp only; omega) | omega | assumption | (simp only [openR]; omega) | exact Nat.lt_of_lt_of_le (m := 3) (by omega) (Nat.le_of_ble_eq_true rfl)) (by first | exact Nat.le_of_ble_eq_true rfl | (dsimp only; omega) | omega | assumption | (simp only [openR]; omega) | exact Nat.lt_of_lt_of_le (m := 3) (by omega) (Nat.le_of_ble_eq_true rfl)) ?_ | refine AL.len (ty := 0) tyOk (by rfl) (by rfl) (by rfl) (by rfl) (by rfl) ?_ | refine AL.add (by rfl) (by rfl) (by rfl) (by rfl) (by rfl) (by constructor <;> omega) ?_ | refine AL.sub (by rfl) (by rfl) (by rfl) (by rfl) (by rfl) (by constructor <;> omega) ?_ | refine AL.mul (by rfl) (by rfl) (by rfl) (by rfl) (by rfl) (by constructor <;> omega) ?_ | refine AL.int2 (by rfl) (by rfl) (by rfl) (by rfl) (by rfl) (by rfl) (by first | trivial | decide | omega) ?_ | refine AL.bEq (by rfl) (by rfl) (by rfl) (by rfl) (by rfl) Tryz.underlying4 ?_ | refine AL.bNe (by rfl) (by rfl) (by rfl) (by rfl) (by rfl) Tryz.underlying4 ?_ | refine AL.not (by rfl) (by rfl) (by rfl) (by rfl) ?_ | refine AL.gOnE (by rfl) (by rfl) (by rfl) (by rfl) (by decide) (by first | rfl | assumption) ?_ | refine AL.gOffE (by rfl) (by rfl) (by rfl) (by rfl) (by rfl) (by decide) (by first | rfl | assumption) ?_ | refine AL.pickE (b' := true) (by rfl) (by rfl) (by rfl) (by rfl) (by first | rfl | assumption) ?_ | refine AL.pickE (b' := false) (by rfl) (by rfl) (by rfl) (by rfl) (by first | rfl | assumption) ?_ | refine AL.extract (by rfl) (by rfl) (by rfl) (by rfl) (by rfl) ?_ | refine AL.boxD tyOk (by rfl) (by rfl) (by rfl) (Nat.le_of_ble_eq_true rfl) (by rfl) (by rfl) (by rfl) (by decide) (by rfl) ?_ | refine AL.allocD tyOk (by rfl) (by rfl) (by rfl) (Nat.le_of_ble_eq_true rfl) (by rfl) (by rfl) (by decide) (by rfl) ?_ | refine AL.indexN tyOk (by rfl) (by rfl) (by rfl) (by rfl) (by rfl) (by rfl) (by rfl) (by rfl) (by first | rfl | exact (Int.toNat_of_nonneg (by omega)).symm) (by omega) ?_ | refine AL.indexSl tyOk (by rfl) (by rfl) (by rfl) (by rfl) (by rfl) (by rfl) (by rfl) (by rfl) (by constructor <;> omega) ?_ | refine AL.indexArr tyOk (by rfl) (by rfl) (by rfl) (by rfl) (by rfl) (by rfl) (by constructor <;> omega) ?_ | refine AL.makeD tyOk _ (by rfl) (by rfl) (by rfl) (Nat.le_of_ble_eq_true rfl) (by rfl) (by rfl) (by rfl) (by rfl) (by rfl) (by rfl) (by rfl) (by omega) (by omega) (by decide) (by rfl) ?_ | refine AL.build (qs := []) tyOk (by rfl) (by rfl) (by rfl) (by rfl) (by rfl) (by exact PartsOk.nil) (by rfl) ?_ | refine AL.build (qs := [(_, _)]) tyOk (by rfl) (by rfl) (by rfl) (by rfl) (by rfl) (by exact PartsOk.cons (by rfl) (by rfl) PartsOk.nil) (by rfl) ?_ | refine AL.build (qs := [(_, _), (_, _)]) tyOk (by rfl) (by rfl) (by rfl) (by rfl) (by rfl) (by exact PartsOk.cons (by rfl) (by rfl) (PartsOk.cons (by rfl) (by rfl) PartsOk.nil)) (by rfl) ?_ | refine AL.nilCheck (by rfl) (by rfl) (by rfl) (by rfl) ?_) | refine AL.buildSl0D tyOk (by rfl) (by rfl) (by rfl) (by rfl) (Nat.le_of_ble_eq_true rfl) (by rfl) (by decide) (by rfl) ?_ | refine AL.copyN tyOk (by rfl) (by rfl) (by rfl) (by rfl) (by rfl) (by rfl) (by rfl) (by rfl) (by rfl) (by rfl) (by rfl) (by rfl) (by rfl) ?_ | refine AL.append0 tyOk (by rfl) (by rfl) (by rfl) (by rfl) (by rfl) (by rfl) (by rfl) (by rfl) (by rfl) (by rfl) (by rfl) (by rfl) (by rfl) (by rfl) (by rfl) (okK_lt (by decide)) (by first | omega | (dsimp only; omega) | (unfold maxLen; dsimp only; omega)) (by first | omega | (dsimp only; omega) | (unfold maxLen; dsimp only; omega)) ?_ | refine AL.appendL tyOk (by rfl) (by rfl) (by rfl) (by rfl) (by rfl) (by rfl) (by rfl) (by rfl) (by rfl) (by rfl) (by rfl) (by rfl) (by rfl) (by rfl) (by rfl) (fun _ _ _ _ => rfl) (okK_lt (by decide)) (by first | omega | (dsimp only; omega) | (unfold maxLen; dsimp only; omega)) (by first | omega | (dsimp only; omega) | (unfold maxLen; dsimp only; omega)) ?_) | (first | refine AC.region ?_ | refine AC.seq ?_ | refine AC.block ?_ | refine AC.exit ?_ | refine AC.skip ?_))
    refine AC.le (St.le.sub (σ' := ⟨[(2, .a (.ref 5 0 n))], [(5, ⟨.own, true, 3, 1, n, row, []⟩)]⟩) (And.intro rfl trivial) (And.intro ⟨_, rfl, ⟨rfl, (fun _ => And.intro rfl rfl), rfl, rfl, fun i r hi hr => (by obtain ⟨v, hv⟩ := hfl i r hr; show Cl.cl (row i r) = Cl.cl (flat (row (0 + i) r)); rw [Nat.zero_add, hv]; rfl)⟩⟩ trivial) (by rfl) (by rfl)) ?_
    refine AC.ret ?_
    refine And.intro (by first | exact .inr rfl | exact .inl rfl) (And.intro (by repeat (first | exact trivial | exact Nat.le_of_ble_eq_true rfl | rfl | exact ⟨_, rfl, rfl, Nat.le_refl _, rfl⟩ | refine And.intro ?_ ?_)) (And.intro (by rfl) (And.intro (by rfl) (And.intro (by repeat (first | exact trivial | exact Nat.le_of_ble_eq_true rfl | rfl | exact ⟨_, rfl, rfl, Nat.le_refl _, rfl⟩ | refine And.intro ?_ ?_)) (And.intro (by repeat (first | exact trivial | exact Nat.le_of_ble_eq_true rfl | rfl | exact ⟨_, rfl, rfl, Nat.le_refl _, rfl⟩ | refine And.intro ?_ ?_)) ?_)))))
    exact And.intro rfl rfl
theorem CloneI_run (xs : List Int) (hn : xs.length ≤ 1048576) : RunT Tryz.prog 180 [.one (.c (tI xs))] [] [.one (tI xs)] [] := by
  refine ⟨⟨_, Tryz.func180, rfl, rfl⟩, fun w q A args he => ?_⟩
  refine (CloneI_base 3 xs.length (fun i r => (encI (xs.getD i 0) r).er .fro) hn (fun i r _ => ⟨_, rfl⟩) w q A args he).mono fun e w' hx => ?_
  obtain ⟨us, outs, ext, q', h1, ⟨rfl, rfl⟩, h2⟩ := hx
  exact ⟨us, _, _, q', h1, ⟨rfl, rfl⟩, h2⟩
end Go.Proofs.YtpmhkpmkmbkjbaaGreatDoor
end

section
/- Copies of a heap. -/
namespace Go.Proofs.YtpmhkpmkmbkjbaaGreatDoor
open Go Go.Tr
set_option maxRecDepth 100000
set_option maxHeartbeats 4000000
set_option linter.unusedVariables false
set_option linter.unusedSimpArgs false
theorem copyHeap_run (b c : List Int) (hb : b.length ≤ 1048576) (hc : c.length ≤ 1048576) : RunT Tryz.prog 115 [aHp b c] [] [.agg [tI b, tI c]] [] := by
  have c1 := CloneI_run b hb
  have c2 := CloneI_run c hc
  refine RunT.of_vc gOk Tryz.func115 rfl rfl (Nat.le_of_ble_eq_true rfl) (by repeat' (first | exact trivial | exact ⟨_, rfl, Nat.le_refl _⟩ | exact Nat.le_of_ble_eq_true rfl | refine And.intro ?_ ?_)) (Nat.le_of_ble_eq_true rfl) rfl (fun F hE => ?_)
  repeat' (first | exact trivial | refine BS.d (fun h => ?_) (fun h => ?_) | refine BS.e (fun h => ?_) (fun h => ?_) | refine BS.ne (fun h => ?_) (fun h => ?_) | refine BS.n ?_ | refine BS.s (fun h => ?_) (fun h => ?_) | refine And.intro ?_ ?_ | (refine Need.mk ?_; first | with_reducible rfl | (show @Eq TC _ _; rfl) | omega | (simp only [adN_zero]; omega)) | exact OutS.whole rfl rfl | (refine OpK.call c1 rfl rfl rfl rfl hE ?_ rfl rfl ?_; focus ((repeat' (first | exact PsA.lit _ | exact PsA.ref rfl rfl | constructor)); all_goals (fail "ps"))) | (refine OpK.call c2 rfl rfl rfl rfl hE ?_ rfl rfl ?_; focus ((repeat' (first | exact PsA.lit _ | exact PsA.ref rfl rfl | constructor)); all_goals (fail "ps"))) | (refine CodeK.draw gOk hE rfl (fun _ _ h => h) (.take 0 (.take 3 (.alt 1 (.alt 2 (.alt 4 (.alt 5 (.alt 6 (.alt 7 .done .stop) .stop) .stop) .stop) (.alt 4 (.alt 2 (.alt 5 (.alt 6 (.alt 7 .done .stop) .stop) .stop) .stop) .stop)) (.alt 4 (.alt 1 (.alt 2 (.alt 5 (.alt 6 (.alt 7 .done .stop) .stop) .stop) .stop) .stop) .stop)))) ?_ ?_; focus (decide +kernel)) | refine ListO.go gOk hE ?_)
theorem l7Copy_run (b c : List Int) (hb : b.length ≤ 1048576) (hc : c.length ≤ 1048576) : RunT Tryz.prog 109 [aHp b c] [] [.agg [tI b, tI c]] [] := by
  have c1 := l3Copy_run b hb
  have c2 := l3Copy_run c hc
  refine RunT.of_vc gOk Tryz.func109 rfl rfl (Nat.le_of_ble_eq_true rfl) (by repeat' (first | exact trivial | exact ⟨_, rfl, Nat.le_refl _⟩ | exact Nat.le_of_ble_eq_true rfl | refine And.intro ?_ ?_)) (Nat.le_of_ble_eq_true rfl) rfl (fun F hE => ?_)
  repeat' (first | exact trivial | refine BS.d (fun h => ?_) (fun h => ?_) | refine BS.e (fun h => ?_) (fun h => ?_) | refine BS.ne (fun h => ?_) (fun h => ?_) | refine BS.n ?_ | refine BS.s (fun h => ?_) (fun h => ?_) | refine And.intro ?_ ?_ | (refine Need.mk ?_; first | with_reducible rfl | (show @Eq TC _ _; rfl) | omega | (simp only [adN_zero]; omega)) | exact OutS.whole rfl rfl | (refine OpK.call c1 rfl rfl rfl rfl hE ?_ rfl rfl ?_; focus ((repeat' (first | exact PsA.lit _ | exact PsA.ref rfl rfl | constructor)); all_goals (fail "ps"))) | (refine OpK.call c2 rfl rfl rfl rfl hE ?_ rfl rfl ?_; focus ((repeat' (first | exact PsA.lit _ | exact PsA.ref rfl rfl | constructor)); all_goals (fail "ps"))) | (refine CodeK.draw gOk hE rfl (fun _ _ h => h) (.take 0 (.take 3 (.alt 1 (.alt 2 (.alt 4 (.alt 5 (.alt 6 (.alt 7 .done .stop) .stop) .stop) .stop) (.alt 4 (.alt 2 (.alt 5 (.alt 6 (.alt 7 .done .stop) .stop) .stop) .stop) .stop)) (.alt 4 (.alt 1 (.alt 2 (.alt 5 (.alt 6 (.alt 7 .done .stop) .stop) .stop) .stop) .stop) .stop)))) ?_ ?_; focus (decide +kernel)) | refine ListO.go gOk hE ?_)
end Go.Proofs.YtpmhkpmkmbkjbaaGreatDoor
end

section
/- Marks of numbers. -/
namespace Go.Proofs.YtpmhkpmkmbkjbaaGreatDoor
open Go Go.Tr
set_option maxRecDepth 100000
set_option maxHeartbeats 4000000
set_option linter.unusedVariables false
set_option linter.unusedSimpArgs false
abbrev fI (m : Int) (j : Nat) : Int := m + j
abbrev bInt (e κ : Nat) (xs xs' : List Int) : Bt := ⟨κ, 0, true, .sl e 1 Int encI decI 0 xs, .sl e 1 Int encI decI 0 xs', .ty .own true e 1 Int encI decI 0 xs'⟩
abbrev bIntX (κ : Nat) (xs xs' : List Int) : Bt := ⟨κ, 0, true, .sl 0 1 Int encI decI 0 xs, .sl 0 1 Int encI decI 0 xs', .ty .own false 0 1 Int encI decI 0 xs'⟩
theorem markI_run (e : Nat) (xs : List Int) (m : Int) (h0 : 0 ≤ m) (h1 : m ≤ 33554432) (hn : xs.length ≤ 4000000) : RunT Tryz.prog 34 [.one (.h 0 xs.length), ti m] [.sl e 1 Int encI decI 0 xs] [oi (m + xs.length)] [.sl e 1 Int encI decI 0 (mkL 0 (fI m) xs xs.length)] := by
  refine RunT.of_vc gOk Tryz.func34 rfl rfl (Nat.le_of_ble_eq_true rfl) (by repeat' (first | exact trivial | exact ⟨_, rfl, Nat.le_refl _⟩ | exact Nat.le_of_ble_eq_true rfl | refine And.intro ?_ ?_)) (Nat.le_of_ble_eq_true rfl) rfl (fun F hE => ?_)
  repeat' (first | exact trivial | refine BS.d (fun h => ?_) (fun h => ?_) | refine BS.e (fun h => ?_) (fun h => ?_) | refine BS.ne (fun h => ?_) (fun h => ?_) | refine BS.n ?_ | refine BS.s (fun h => ?_) (fun h => ?_) | refine And.intro ?_ ?_ | (refine Need.mk ?_; first | with_reducible rfl | (show @Eq TC _ _; rfl) | omega | (simp only [adN_zero]; omega)) | exact OutS.whole rfl rfl | refine ListO.go gOk hE ?_)
  refine CodeK.loop gOk hE (fun i : Nat => ⟨[(0, vr 1000000 xs.length), (1, vi (m + i)), (5, vi i)], [(1000000, .ty .own false 0 1 Int encI decI 0 (mkL 0 (fI m) xs i))]⟩) (fun i => i ≤ xs.length) (fun i => xs.length - i) 0 (by refine leT.of ?_ ?_ rfl <;> repeat' (first | exact trivial | refine And.intro rfl ?_ | refine And.intro (by simp [mkL_zero] <;> rfl) ?_)) (Nat.zero_le _) ?_
  rintro i hi
  have hl := mkL_len 0 (fI m) xs i
  repeat' (first | exact trivial | refine BS.d (fun h => ?_) (fun h => ?_) | refine BS.e (fun h => ?_) (fun h => ?_) | refine BS.ne (fun h => ?_) (fun h => ?_) | refine BS.n ?_ | refine BS.s (fun h => ?_) (fun h => ?_) | refine And.intro ?_ ?_ | (refine Need.mk ?_; first | with_reducible rfl | (show @Eq TC _ _; rfl) | omega | (simp only [adN_zero]; omega)) | exact OutS.whole rfl rfl | refine ListO.go gOk hE ?_)
  all_goals (try simp only [adN_zero] at *)
  all_goals first
    | (refine Need.mk ?_; first | omega | (rw [List.length_set]; omega) | rw [show i = xs.length by omega])
    | (refine ⟨i + 1, (by refine leT.of ?_ ?_ rfl <;> repeat' (first | exact trivial | refine And.intro rfl ?_ | refine And.intro (by first | rfl | (refine litInt ?_; omega) | (refine congrArg (fun l => some (TRoot.ty .own false 0 1 Int encI decI 0 l)) ?_; exact mkL_set 0 (fI m) _ _ (by omega))) ?_)), by omega, by first | omega | (dsimp only; omega)⟩)
theorem heldI_run (xs : List Int) (m : Int) (h0 : 0 ≤ m) (h1 : m ≤ 33554432) (hn : xs.length ≤ 4000000) : RunT Tryz.prog 35 [.one (.c (tI (mkL 0 (fI m) xs xs.length))), ti m] [] [oi (m + xs.length)] [] := by
  have hl := mkL_len 0 (fI m) xs xs.length
  refine RunT.of_vc gOk Tryz.func35 rfl rfl (Nat.le_of_ble_eq_true rfl) (by repeat' (first | exact trivial | exact ⟨_, rfl, Nat.le_refl _⟩ | exact Nat.le_of_ble_eq_true rfl | refine And.intro ?_ ?_)) (Nat.le_of_ble_eq_true rfl) rfl (fun F hE => ?_)
  repeat' (first | exact trivial | refine BS.d (fun h => ?_) (fun h => ?_) | refine BS.e (fun h => ?_) (fun h => ?_) | refine BS.ne (fun h => ?_) (fun h => ?_) | refine BS.n ?_ | refine BS.s (fun h => ?_) (fun h => ?_) | refine And.intro ?_ ?_ | (refine Need.mk ?_; first | with_reducible rfl | (show @Eq TC _ _; rfl) | omega | (simp only [adN_zero]; omega)) | exact OutS.whole rfl rfl | refine ListO.go gOk hE ?_)
  refine CodeK.loop gOk hE (fun i : Nat => ⟨[(0, vr 1000000 (mkL 0 (fI m) xs xs.length).length), (1, vi (m + i)), (5, vi i)], [(1000000, rI .fro false (mkL 0 (fI m) xs xs.length))]⟩) (fun i => i ≤ xs.length) (fun i => xs.length - i) 0 (by refine leT.of ?_ ?_ rfl <;> repeat' (first | exact trivial | refine And.intro rfl ?_ | refine And.intro (by simp <;> rfl) ?_)) (Nat.zero_le _) ?_
  rintro i hi
  have hg : i < xs.length → (mkL 0 (fI m) xs xs.length).getD i 0 = fI m i := fun h => mkL_get _ _ _ _ _ h h
  repeat' (first | exact trivial | refine BS.d (fun h => ?_) (fun h => ?_) | refine BS.e (fun h => ?_) (fun h => ?_) | refine BS.ne (fun h => ?_) (fun h => ?_) | refine BS.n ?_ | refine BS.s (fun h => ?_) (fun h => ?_) | refine And.intro ?_ ?_ | (refine Need.mk ?_; first | with_reducible rfl | (show @Eq TC _ _; rfl) | omega | (simp only [adN_zero]; omega)) | exact OutS.whole rfl rfl | refine ListO.go gOk hE ?_)
  all_goals (try simp only [adN_zero] at *)
  all_goals first
    | (exfalso; have h9 := hg (by omega); rw [h9] at *; first | omega | (simp_all; done))
    | (refine Need.mk ?_; first | omega | rw [show i = xs.length by omega])
    | (refine ⟨i + 1, (by refine leT.of ?_ ?_ rfl <;> repeat' (first | exact trivial | refine And.intro rfl ?_ | refine And.intro (by first | rfl | (refine litInt ?_; omega)) ?_)), by omega, by first | omega | (dsimp only; omega)⟩)
end Go.Proofs.YtpmhkpmkmbkjbaaGreatDoor
end

section
/- Marks of a heap. -/
namespace Go.Proofs.YtpmhkpmkmbkjbaaGreatDoor
open Go Go.Tr
set_option maxRecDepth 100000
set_option maxHeartbeats 4000000
set_option linter.unusedVariables false
set_option linter.unusedSimpArgs false
theorem markH_run (e : Nat) (b c : List Int) (m : Int) (h0 : 0 ≤ m) (h1 : m ≤ 1048577) (hb : b.length ≤ 1048576) (hc : c.length ≤ 1048576) : RunT Tryz.prog 53 [.agg [.h 0 b.length, .h 1 c.length], ti m] [.sl e 1 Int encI decI 0 b, .sl e 1 Int encI decI 0 c] [oi (m + b.length + c.length)]
    [.sl e 1 Int encI decI 0 (mkL 0 (fI m) b b.length), .sl e 1 Int encI decI 0 (mkL 0 (fI (m + b.length)) c c.length)] := by
  have c1 := markI_run 0 b m h0 (by omega) (by omega)
  have c2 := markI_run 0 c (m + b.length) (by omega) (by omega) (by omega)
  refine RunT.of_vc gOk Tryz.func53 rfl rfl (Nat.le_of_ble_eq_true rfl) (by repeat' (first | exact trivial | exact ⟨_, rfl, Nat.le_refl _⟩ | exact Nat.le_of_ble_eq_true rfl | refine And.intro ?_ ?_)) (Nat.le_of_ble_eq_true rfl) rfl (fun F hE => ?_)
  repeat' (first | exact trivial | refine BS.d (fun h => ?_) (fun h => ?_) | refine BS.e (fun h => ?_) (fun h => ?_) | refine BS.ne (fun h => ?_) (fun h => ?_) | refine BS.n ?_ | refine BS.s (fun h => ?_) (fun h => ?_) | refine And.intro ?_ ?_ | (refine Need.mk ?_; first | with_reducible rfl | (show @Eq TC _ _; rfl) | omega | (simp only [adN_zero]; omega)) | exact OutS.whole rfl rfl | (refine OpK.callB (bIntX 1000000 b (mkL 0 (fI m) b b.length)) c1 rfl rfl rfl rfl hE (BtOk.sl rfl (mkL_len _ _ _ _)) rfl (QsVs.cons (.one (.h rfl rfl rfl)) (.cons (.one (.c (.lit _) rfl)) .nil)) rfl rfl ?_) | (refine OpK.callB (bIntX 1000001 c (mkL 0 (fI (m + b.length)) c c.length)) c2 rfl rfl rfl rfl hE (BtOk.sl rfl (mkL_len _ _ _ _)) rfl (QsVs.cons (.one (.h rfl rfl rfl)) (.cons (.one (.c (.lit _) rfl)) .nil)) rfl rfl ?_) | refine ListO.go gOk hE ?_)
  all_goals first | exact Need.mk rfl | trace_state
theorem heldH_run (b c : List Int) (m : Int) (h0 : 0 ≤ m) (h1 : m ≤ 1048577) (hb : b.length ≤ 1048576) (hc : c.length ≤ 1048576) : RunT Tryz.prog 55 [.agg [.c (tI (mkL 0 (fI m) b b.length)), .c (tI (mkL 0 (fI (m + b.length)) c c.length))], ti m] [] [oi (m + b.length + c.length)] [] := by
  have c1 := heldI_run b m h0 (by omega) (by omega)
  have c2 := heldI_run c (m + b.length) (by omega) (by omega) (by omega)
  refine RunT.of_vc gOk Tryz.func55 rfl rfl (Nat.le_of_ble_eq_true rfl) (by repeat' (first | exact trivial | exact ⟨_, rfl, Nat.le_refl _⟩ | exact Nat.le_of_ble_eq_true rfl | refine And.intro ?_ ?_)) (Nat.le_of_ble_eq_true rfl) rfl (fun F hE => ?_)
  repeat' (first | exact trivial | refine BS.d (fun h => ?_) (fun h => ?_) | refine BS.e (fun h => ?_) (fun h => ?_) | refine BS.ne (fun h => ?_) (fun h => ?_) | refine BS.n ?_ | refine BS.s (fun h => ?_) (fun h => ?_) | refine And.intro ?_ ?_ | (refine Need.mk ?_; first | with_reducible rfl | (show @Eq TC _ _; rfl) | omega | (simp only [adN_zero]; omega)) | exact OutS.whole rfl rfl | (refine OpK.call c1 rfl rfl rfl rfl hE ?_ rfl rfl ?_; focus ((repeat' (first | exact PsA.lit _ | exact PsA.ref rfl rfl | exact PsA.ref rfl (mkL_len _ _ _ _).symm | constructor)); all_goals (fail "ps"))) | (refine OpK.call c2 rfl rfl rfl rfl hE ?_ rfl rfl ?_; focus ((repeat' (first | exact PsA.lit _ | exact PsA.ref rfl rfl | exact PsA.ref rfl (mkL_len _ _ _ _).symm | constructor)); all_goals (fail "ps"))) | refine ListO.go gOk hE ?_)
  all_goals first | exact Need.mk rfl | (exfalso; omega) | trace_state
end Go.Proofs.YtpmhkpmkmbkjbaaGreatDoor
end

section
/- Marks of lists. -/
namespace Go.Proofs.YtpmhkpmkmbkjbaaGreatDoor
open Go Go.Tr
set_option maxRecDepth 100000
set_option maxHeartbeats 4000000
set_option linter.unusedVariables false
set_option linter.unusedSimpArgs false
abbrev bSL (e κ : Nat) (xs xs' : List (List Int)) : Bt := ⟨κ, 0, true, .sl e 1 (List Int) encL decL [] xs, .sl e 1 (List Int) encL decL [] xs', .ty .own true e 1 (List Int) encL decL [] xs'⟩
abbrev bSLX (κ : Nat) (xs xs' : List (List Int)) : Bt := ⟨κ, 0, true, .sl 0 1 (List Int) encL decL [] xs, .sl 0 1 (List Int) encL decL [] xs', .ty .own false 0 1 (List Int) encL decL [] xs'⟩
/-- The number that a list begins with. -/
def offI (m : Int) (xs : List (List Int)) : Nat → Int
  | 0 => m
  | i + 1 => offI m xs i + (xs.getD i []).length
theorem offI_eq (m : Int) (xs : List (List Int)) : ∀ i, i ≤ xs.length → offI m xs i = m + (xs.take i).flatten.length
  | 0, _ => by simp [offI]
  | i + 1, h => by
    have e : (xs.take (i + 1)).flatten = (xs.take i).flatten ++ xs.getD i [] := by
      rw [List.take_succ_eq_append_getElem (show i < xs.length by omega), List.flatten_append]
      simp [List.getD, show i < xs.length by omega]
    rw [offI, offI_eq m xs i (by omega), e, List.length_append]; omega
theorem offI_bd {m : Int} {xs : List (List Int)} {i : Nat} (hi : i ≤ xs.length) : m ≤ offI m xs i ∧ offI m xs i ≤ m + xs.flatten.length := by
  rw [offI_eq m xs i hi]
  have : (xs.take i).flatten.length ≤ xs.flatten.length := by
    conv => rhs; rw [← List.take_append_drop i xs, List.flatten_append, List.length_append]
    omega
  omega
abbrev gSL (m : Int) (xs : List (List Int)) (j : Nat) : List Int := mkL 0 (fI (offI m xs j)) (xs.getD j []) (xs.getD j []).length
theorem markSL_run (e : Nat) (xs : List (List Int)) (m : Int) (h0 : 0 ≤ m) (h1 : m ≤ 3145728) (hn : xs.length ≤ 1048576) (hc : xs.flatten.length ≤ 1048576) (hx : ∀ i, (xs.getD i []).length ≤ 1048576) : RunT Tryz.prog 123 [.one (.h 0 xs.length), ti m] [.sl e 1 (List Int) encL decL [] xs] [oi (offI m xs xs.length)] [.sl e 1 (List Int) encL decL [] (mkL [] (gSL m xs) xs xs.length)] := by
  refine RunT.of_vc gOk Tryz.func123 rfl rfl (Nat.le_of_ble_eq_true rfl) (by repeat' (first | exact trivial | exact ⟨_, rfl, Nat.le_refl _⟩ | exact Nat.le_of_ble_eq_true rfl | refine And.intro ?_ ?_)) (Nat.le_of_ble_eq_true rfl) rfl (fun F hE => ?_)
  repeat' (first | exact trivial | refine BS.d (fun h => ?_) (fun h => ?_) | refine BS.e (fun h => ?_) (fun h => ?_) | refine BS.ne (fun h => ?_) (fun h => ?_) | refine BS.n ?_ | refine BS.s (fun h => ?_) (fun h => ?_) | refine And.intro ?_ ?_ | (refine Need.mk ?_; first | with_reducible rfl | (show @Eq TC _ _; rfl) | omega | (simp only [adN_zero]; omega)) | exact OutS.whole rfl rfl | refine ListO.go gOk hE ?_)
  refine CodeK.loop gOk hE (fun i : Nat => ⟨[(0, vr 1000000 xs.length), (1, vi (offI m xs i)), (5, vi i)], [(1000000, rSL .own false 0 (mkL [] (gSL m xs) xs i))]⟩) (fun i => i ≤ xs.length) (fun i => xs.length - i) 0 (by refine leT.of ?_ ?_ rfl <;> repeat' (first | exact trivial | refine And.intro rfl ?_ | refine And.intro (by first | rfl | (simp [mkL_zero] <;> rfl)) ?_)) (Nat.zero_le _) ?_
  rintro i hi
  have hl := mkL_len [] (gSL m xs) xs i
  have hb := offI_bd (m := m) hi
  by_cases hi2 : i < xs.length
  · have hgi := mkL_ge [] (gSL m xs) xs i i (Nat.le_refl _)
    have hxi := hx i
    have c1 := markI_run 3 ((mkL [] (gSL m xs) xs i).getD i []) (offI m xs i) (by omega) (by omega) (by rw [hgi]; omega)
    repeat' (first | exact trivial | refine BS.d (fun h => ?_) (fun h => ?_) | refine BS.e (fun h => ?_) (fun h => ?_) | refine BS.ne (fun h => ?_) (fun h => ?_) | refine BS.n ?_ | refine BS.s (fun h => ?_) (fun h => ?_) | refine And.intro ?_ ?_ | (refine Need.mk ?_; first | with_reducible rfl | (show @Eq TC _ _; rfl) | omega | (simp only [adN_zero]; omega)) | exact OutS.whole rfl rfl | (refine ListO.open_ gOk hE 5000 rfl rfl rfl rfl rfl rfl rfl rfl (by (try simp only [adN_zero]); omega) (by decide) rfl rfl rfl rfl ?_) | (refine OpK.callB (bInt 3 5000 ((mkL [] (gSL m xs) xs i).getD i []) (mkL 0 (fI (offI m xs i)) ((mkL [] (gSL m xs) xs i).getD i []) ((mkL [] (gSL m xs) xs i).getD i []).length)) c1 rfl rfl rfl rfl hE (BtOk.sl rfl (mkL_len _ _ _ _)) rfl (QsVs.cons (.one (.h rfl rfl rfl)) (.cons (.one (.c (.lit _) rfl)) .nil)) rfl rfl ?_) | refine ListO.go gOk hE ?_)
    all_goals (try simp only [adN_zero] at *)
    all_goals first
      | (exfalso; omega)
      | (refine Need.mk ?_; omega)
      | (refine ⟨i + 1, ?_, by omega, by first | omega | (dsimp only; omega)⟩
         refine St.le.trans (close_le (κ := 1000000) (key := 5000) (mkL 0 (fI (offI m xs i)) ((mkL [] (gSL m xs) xs i).getD i []) ((mkL [] (gSL m xs) xs i).getD i []).length) (by rfl) (by rfl) (by exact (mkL_len _ _ _ _).symm) (by rfl) (by rfl) (by omega) (by decide) (by rfl) (fun r' h8 h9 => absurd (Nat.lt_one_iff.1 h8) h9)) ?_
         exact (by refine leT.of ?_ ?_ rfl <;> repeat' (first | exact trivial | refine And.intro rfl ?_ | refine And.intro (by first | rfl | (rw [hgi]; rfl) | (refine congrArg (fun l => some (rSL .own false 0 l)) ?_; rw [hgi]; exact mkL_set [] (gSL m xs) _ _ (by omega))) ?_)))
  · repeat' (first | exact trivial | refine BS.d (fun h => ?_) (fun h => ?_) | refine BS.e (fun h => ?_) (fun h => ?_) | refine BS.ne (fun h => ?_) (fun h => ?_) | refine BS.n ?_ | refine BS.s (fun h => ?_) (fun h => ?_) | refine And.intro ?_ ?_ | (refine Need.mk ?_; first | with_reducible rfl | (show @Eq TC _ _; rfl) | omega | (simp only [adN_zero]; omega)) | exact OutS.whole rfl rfl | refine ListO.go gOk hE ?_)
    all_goals (try simp only [adN_zero] at *)
    all_goals first
      | (exfalso; omega)
      | (refine Need.mk ?_; first | omega | rw [show i = xs.length by omega])
      | (refine Need.mk ?_; (try rw [show i = xs.length by omega]); rfl)
theorem markLs_run (e e' : Nat) (g o : List (List Int)) (m : Int) (h0 : 0 ≤ m) (h1 : m ≤ 1048577) (hg : g.length ≤ 1048576) (hcg : g.flatten.length ≤ 1048576) (hxg : ∀ i, (g.getD i []).length ≤ 1048576) (ho : o.length ≤ 1048576) (hco : o.flatten.length ≤ 1048576) (hxo : ∀ i, (o.getD i []).length ≤ 1048576) (hs : m + g.flatten.length ≤ 3145728) :
    RunT Tryz.prog 54 [.agg [.h 0 g.length, .h 1 o.length], ti m] [.sl e 1 (List Int) encL decL [] g, .sl e' 1 (List Int) encL decL [] o] [oi (offI (offI m g g.length) o o.length)]
      [.sl e 1 (List Int) encL decL [] (mkL [] (gSL m g) g g.length), .sl e' 1 (List Int) encL decL [] (mkL [] (gSL (offI m g g.length) o) o o.length)] := by
  have hb := offI_bd (m := m) (Nat.le_refl g.length)
  have c1 := markSL_run 0 g m h0 (by omega) hg hcg hxg
  have c2 := markSL_run 0 o (offI m g g.length) (by omega) (by omega) ho hco hxo
  generalize hq : offI m g g.length = m2 at *
  refine RunT.of_vc gOk Tryz.func54 rfl rfl (Nat.le_of_ble_eq_true rfl) (by repeat' (first | exact trivial | exact ⟨_, rfl, Nat.le_refl _⟩ | exact Nat.le_of_ble_eq_true rfl | refine And.intro ?_ ?_)) (Nat.le_of_ble_eq_true rfl) rfl (fun F hE => ?_)
  repeat' (first | exact trivial | refine BS.d (fun h => ?_) (fun h => ?_) | refine BS.e (fun h => ?_) (fun h => ?_) | refine BS.ne (fun h => ?_) (fun h => ?_) | refine BS.n ?_ | refine BS.s (fun h => ?_) (fun h => ?_) | refine And.intro ?_ ?_ | (refine Need.mk ?_; first | with_reducible rfl | (show @Eq TC _ _; rfl) | omega | (simp only [adN_zero]; omega)) | exact OutS.whole rfl rfl | (refine OpK.callB (bSLX 1000000 g (mkL [] (gSL m g) g g.length)) c1 rfl rfl rfl rfl hE (BtOk.sl rfl (mkL_len _ _ _ _)) rfl (QsVs.cons (.one (.h rfl rfl rfl)) (.cons (.one (.c (.lit _) rfl)) .nil)) rfl rfl ?_) | (refine OpK.callB (bSLX 1000001 o (mkL [] (gSL m2 o) o o.length)) c2 rfl rfl rfl rfl hE (BtOk.sl rfl (mkL_len _ _ _ _)) rfl (QsVs.cons (.one (.h rfl rfl rfl)) (.cons (.one (.c (.lit _) rfl)) .nil)) rfl rfl ?_) | refine ListO.go gOk hE ?_)
  all_goals first | exact Need.mk rfl | trace_state
end Go.Proofs.YtpmhkpmkmbkjbaaGreatDoor
end

section
/- The marks of a row of lists, read. -/
namespace Go.Proofs.YtpmhkpmkmbkjbaaGreatDoor
open Go Go.Tr
set_option maxRecDepth 100000
set_option maxHeartbeats 4000000
set_option linter.unusedVariables false
set_option linter.unusedSimpArgs false
theorem heldSL_run (e : Nat) (xs : List (List Int)) (m : Int) (h0 : 0 ≤ m) (h1 : m ≤ 3145728) (hn : xs.length ≤ 1048576) (hc : xs.flatten.length ≤ 1048576) (hx : ∀ i, (xs.getD i []).length ≤ 1048576) : RunT Tryz.prog 124 [.one (.c (tSL e (mkL [] (gSL m xs) xs xs.length))), ti m] [] [oi (offI m xs xs.length)] [] := by
  have hl := mkL_len [] (gSL m xs) xs xs.length
  refine RunT.of_vc gOk Tryz.func124 rfl rfl (Nat.le_of_ble_eq_true rfl) (by repeat' (first | exact trivial | exact ⟨_, rfl, Nat.le_refl _⟩ | exact Nat.le_of_ble_eq_true rfl | refine And.intro ?_ ?_)) (Nat.le_of_ble_eq_true rfl) rfl (fun F hE => ?_)
  repeat' (first | exact trivial | refine BS.d (fun h => ?_) (fun h => ?_) | refine BS.e (fun h => ?_) (fun h => ?_) | refine BS.ne (fun h => ?_) (fun h => ?_) | refine BS.n ?_ | refine BS.s (fun h => ?_) (fun h => ?_) | refine And.intro ?_ ?_ | (refine Need.mk ?_; first | with_reducible rfl | (show @Eq TC _ _; rfl) | omega | (simp only [adN_zero]; omega)) | exact OutS.whole rfl rfl | refine ListO.go gOk hE ?_)
  refine CodeK.loop gOk hE (fun i : Nat => ⟨[(0, vr 1000000 (mkL [] (gSL m xs) xs xs.length).length), (1, vi (offI m xs i)), (5, vi i)], [(1000000, rSL .fro false e (mkL [] (gSL m xs) xs xs.length))]⟩) (fun i => i ≤ xs.length) (fun i => xs.length - i) 0 (by refine leT.of ?_ ?_ rfl <;> repeat' (first | exact trivial | refine And.intro rfl ?_ | refine And.intro (by first | rfl | (simp [offI] <;> rfl)) ?_)) (Nat.zero_le _) ?_
  rintro i hi
  have hb := offI_bd (m := m) hi
  by_cases hi2 : i < xs.length
  · have hg : (mkL [] (gSL m xs) xs xs.length).getD i [] = gSL m xs i := mkL_get _ _ _ _ _ hi2 hi2
    have hxi := hx i
    have c1 := heldI_run (xs.getD i []) (offI m xs i) (by omega) (by omega) (by omega)
    have hb2 := offI_bd (m := m) (xs := xs) (i := i + 1) (by omega)
    have hofs : offI m xs (i + 1) = offI m xs i + (xs.getD i []).length := rfl
    rw [show mkL 0 (fI (offI m xs i)) (xs.getD i []) (xs.getD i []).length = (mkL [] (gSL m xs) xs xs.length).getD i [] from hg.symm, ← hofs] at c1
    repeat' (first | exact trivial | refine BS.d (fun h => ?_) (fun h => ?_) | refine BS.e (fun h => ?_) (fun h => ?_) | refine BS.ne (fun h => ?_) (fun h => ?_) | refine BS.n ?_ | refine BS.s (fun h => ?_) (fun h => ?_) | refine And.intro ?_ ?_ | (refine Need.mk ?_; first | with_reducible rfl | (show @Eq TC _ _; rfl) | omega | (simp only [adN_zero]; omega)) | exact OutS.whole rfl rfl | (refine OpK.call c1 rfl rfl rfl rfl hE ?_ rfl rfl ?_; focus ((repeat' (first | exact PsA.lit _ | exact PsA.ref rfl rfl | constructor)); all_goals (fail "ps"))) | refine ListO.go gOk hE ?_)
    all_goals (try simp only [adN_zero] at *)
    all_goals first
      | (exfalso; omega)
      | (refine Need.mk ?_; omega)
      | (refine ⟨i + 1, (by refine leT.of ?_ ?_ rfl <;> repeat' (first | exact trivial | refine And.intro rfl ?_ | refine And.intro (by first | rfl | (simp; done)) ?_)), by omega, by first | omega | (dsimp only; omega)⟩)
      | trace_state
  · repeat' (first | exact trivial | refine BS.d (fun h => ?_) (fun h => ?_) | refine BS.e (fun h => ?_) (fun h => ?_) | refine BS.ne (fun h => ?_) (fun h => ?_) | refine BS.n ?_ | refine BS.s (fun h => ?_) (fun h => ?_) | refine And.intro ?_ ?_ | (refine Need.mk ?_; first | with_reducible rfl | (show @Eq TC _ _; rfl) | omega | (simp only [adN_zero]; omega)) | exact OutS.whole rfl rfl | refine ListO.go gOk hE ?_)
    all_goals (try simp only [adN_zero] at *)
    all_goals first
      | (exfalso; omega)
      | (refine Need.mk ?_; first | omega | rw [show i = xs.length by omega])
      | (refine Need.mk ?_; (try rw [show i = xs.length by omega]); rfl)
      | trace_state
end Go.Proofs.YtpmhkpmkmbkjbaaGreatDoor
end

section
/- Marks of a memory, told, and read. -/
namespace Go.Proofs.YtpmhkpmkmbkjbaaGreatDoor
open Go Go.Tr
set_option maxRecDepth 100000
set_option maxHeartbeats 4000000
set_option linter.unusedVariables false
set_option linter.unusedSimpArgs false
abbrev mB (b : List Int) : List Int := mkL 0 (fI 1) b b.length
abbrev mC (b c : List Int) : List Int := mkL 0 (fI (1 + b.length)) c c.length
abbrev mG (b c : List Int) (g : List (List Int)) : List (List Int) := mkL [] (gSL (1 + b.length + c.length) g) g g.length
abbrev mO (b c : List Int) (g o : List (List Int)) : List (List Int) := mkL [] (gSL (offI (1 + b.length + c.length) g g.length) o) o o.length
def mZ (b c : List Int) (g o : List (List Int)) : Int := offI (offI (1 + b.length + c.length) g g.length) o o.length
theorem mZ_bd {b c : List Int} {g o : List (List Int)} : 1 ≤ mZ b c g o ∧ mZ b c g o ≤ 1 + b.length + c.length + g.flatten.length + o.flatten.length := by
  have q1 := offI_bd (m := 1 + b.length + c.length) (Nat.le_refl g.length)
  have q2 := offI_bd (m := offI (1 + b.length + c.length) g g.length) (Nat.le_refl o.length)
  unfold mZ; omega
structure MkOk (b c : List Int) (g o : List (List Int)) : Prop where
  ok : MmOk 1048576 b c g o
  bc : b.length + c.length ≤ 1048576
  fg : g.flatten.length + o.flatten.length ≤ 1048576
theorem markMemX_run (ei e e' : Nat) (b c : List Int) (g o : List (List Int)) (h : MkOk b c g o) : RunT Tryz.prog 16 [.agg [.h 0 b.length, .h 1 c.length, .h 2 g.length, .h 3 o.length], ti 1] [.sl ei 1 Int encI decI 0 b, .sl ei 1 Int encI decI 0 c, .sl e 1 (List Int) encL decL [] g, .sl e' 1 (List Int) encL decL [] o] [oi (mZ b c g o)]
      [.sl ei 1 Int encI decI 0 (mB b), .sl ei 1 Int encI decI 0 (mC b c), .sl e 1 (List Int) encL decL [] (mG b c g), .sl e' 1 (List Int) encL decL [] (mO b c g o)] := by
  have hb := h.ok.hb
  have hc := h.ok.hc
  have hg := h.ok.hg
  have ho := h.ok.ho
  have hfg := h.fg
  have hbc := h.bc
  have hxg := h.ok.hg'
  have hxo := h.ok.ho'
  have c1 := markH_run 0 b c 1 (by omega) (by omega) hb hc
  have c2 := markLs_run 0 0 g o (1 + b.length + c.length) (by omega) (by omega) (by omega) (by omega) hxg (by omega) (by omega) hxo (by omega)
  have q1 := offI_bd (m := 1 + b.length + c.length) (Nat.le_refl g.length)
  have q2 := offI_bd (m := offI (1 + b.length + c.length) g g.length) (Nat.le_refl o.length)
  unfold mZ
  generalize offI (offI (1 + b.length + c.length) g g.length) o o.length = z at *
  refine RunT.of_vc gOk Tryz.func16 rfl rfl (Nat.le_of_ble_eq_true rfl) (by repeat' (first | exact trivial | exact ⟨_, rfl, Nat.le_refl _⟩ | exact Nat.le_of_ble_eq_true rfl | refine And.intro ?_ ?_)) (Nat.le_of_ble_eq_true rfl) rfl (fun F hE => ?_)
  repeat' (first | exact trivial | refine BS.d (fun h => ?_) (fun h => ?_) | refine BS.e (fun h => ?_) (fun h => ?_) | refine BS.ne (fun h => ?_) (fun h => ?_) | refine BS.n ?_ | refine BS.s (fun h => ?_) (fun h => ?_) | refine And.intro ?_ ?_ | (refine Need.mk ?_; first | with_reducible rfl | (show @Eq TC _ _; rfl) | omega | (simp only [adN_zero]; omega)) | exact OutS.whole rfl rfl | (refine OpK.callBs [bIntX 1000000 b (mkL 0 (fI 1) b b.length), bIntX 1000001 c (mkL 0 (fI (1 + b.length)) c c.length)] c1 rfl rfl rfl rfl hE (List.forall_mem_cons.2 ⟨BtOk.sl rfl (mkL_len _ _ _ _), List.forall_mem_cons.2 ⟨BtOk.sl rfl (mkL_len _ _ _ _), fun _ h => nomatch h⟩⟩) (List.forall_mem_cons.2 ⟨rfl, List.forall_mem_cons.2 ⟨rfl, fun _ h => nomatch h⟩⟩) (show List.Nodup [1000000, 1000001] by decide) (QsVs.cons (.agg (.cons (.h rfl rfl rfl) (.cons (.h rfl rfl rfl) .nil))) (.cons (.one (.c (.lit _) rfl)) .nil)) rfl rfl ?_) | (refine OpK.callBs [bSLX 1000002 g (mkL [] (gSL (1 + b.length + c.length) g) g g.length), bSLX 1000003 o (mkL [] (gSL (offI (1 + b.length + c.length) g g.length) o) o o.length)] c2 rfl rfl rfl rfl hE (List.forall_mem_cons.2 ⟨BtOk.sl rfl (mkL_len _ _ _ _), List.forall_mem_cons.2 ⟨BtOk.sl rfl (mkL_len _ _ _ _), fun _ h => nomatch h⟩⟩) (List.forall_mem_cons.2 ⟨rfl, List.forall_mem_cons.2 ⟨rfl, fun _ h => nomatch h⟩⟩) (show List.Nodup [1000002, 1000003] by decide) (QsVs.cons (.agg (.cons (.h rfl rfl rfl) (.cons (.h rfl rfl rfl) .nil))) (.cons (.one (.c (.lit _) rfl)) .nil)) rfl rfl ?_) | refine ListO.go gOk hE ?_)
  all_goals first | exact Need.mk rfl | trace_state
theorem heldMem_run (e e' : Nat) (b c : List Int) (g o : List (List Int)) (h : MkOk b c g o) : RunT Tryz.prog 17 [.agg [.c (tI (mB b)), .c (tI (mC b c)), .c (tSL e (mG b c g)), .c (tSL e' (mO b c g o))], ti 1] [] [oi (mZ b c g o)] [] := by
  have hb := h.ok.hb
  have hc := h.ok.hc
  have hg := h.ok.hg
  have ho := h.ok.ho
  have hfg := h.fg
  have hbc := h.bc
  have q1 := offI_bd (m := 1 + b.length + c.length) (Nat.le_refl g.length)
  have q2 := offI_bd (m := offI (1 + b.length + c.length) g g.length) (Nat.le_refl o.length)
  have c1 := heldH_run b c 1 (by omega) (by omega) hb hc
  have c2 := heldSL_run e g (1 + b.length + c.length) (by omega) (by omega) hg (by omega) h.ok.hg'
  have c3 := heldSL_run e' o (offI (1 + b.length + c.length) g g.length) (by omega) (by omega) ho (by omega) h.ok.ho'
  have c4 : RunT Tryz.prog 56 [.agg [.c (tSL e (mG b c g)), .c (tSL e' (mO b c g o))], ti (1 + b.length + c.length)] [] [oi (mZ b c g o)] [] := by
    unfold mZ
    refine RunT.of_vc gOk Tryz.func56 rfl rfl (Nat.le_of_ble_eq_true rfl) (by repeat' (first | exact trivial | exact ⟨_, rfl, Nat.le_refl _⟩ | exact Nat.le_of_ble_eq_true rfl | refine And.intro ?_ ?_)) (Nat.le_of_ble_eq_true rfl) rfl (fun F hE => ?_)
    repeat' (first | exact trivial | refine BS.d (fun h => ?_) (fun h => ?_) | refine BS.e (fun h => ?_) (fun h => ?_) | refine BS.ne (fun h => ?_) (fun h => ?_) | refine BS.n ?_ | refine BS.s (fun h => ?_) (fun h => ?_) | refine And.intro ?_ ?_ | (refine Need.mk ?_; first | with_reducible rfl | (show @Eq TC _ _; rfl) | omega | (simp only [adN_zero]; omega)) | exact OutS.whole rfl rfl | (refine OpK.call c2 rfl rfl rfl rfl hE ?_ rfl rfl ?_; focus ((repeat' (first | exact PsA.lit _ | exact PsA.ref rfl rfl | exact PsA.ref rfl (mkL_len _ _ _ _).symm | constructor)); all_goals (fail "ps"))) | (refine OpK.call c3 rfl rfl rfl rfl hE ?_ rfl rfl ?_; focus ((repeat' (first | exact PsA.lit _ | exact PsA.ref rfl rfl | exact PsA.ref rfl (mkL_len _ _ _ _).symm | constructor)); all_goals (fail "ps"))) | refine ListO.go gOk hE ?_)
    all_goals first | exact Need.mk rfl | (exfalso; omega) | trace_state
  have q3 : 0 ≤ mZ b c g o := by unfold mZ; omega
  refine RunT.of_vc gOk Tryz.func17 rfl rfl (Nat.le_of_ble_eq_true rfl) (by repeat' (first | exact trivial | exact ⟨_, rfl, Nat.le_refl _⟩ | exact Nat.le_of_ble_eq_true rfl | refine And.intro ?_ ?_)) (Nat.le_of_ble_eq_true rfl) rfl (fun F hE => ?_)
  repeat' (first | exact trivial | refine BS.d (fun h => ?_) (fun h => ?_) | refine BS.e (fun h => ?_) (fun h => ?_) | refine BS.ne (fun h => ?_) (fun h => ?_) | refine BS.n ?_ | refine BS.s (fun h => ?_) (fun h => ?_) | refine And.intro ?_ ?_ | (refine Need.mk ?_; first | with_reducible rfl | (show @Eq TC _ _; rfl) | omega | (simp only [adN_zero]; omega)) | exact OutS.whole rfl rfl | (refine OpK.call c1 rfl rfl rfl rfl hE ?_ rfl rfl ?_; focus ((repeat' (first | exact PsA.lit _ | exact PsA.ref rfl rfl | exact PsA.ref rfl (mkL_len _ _ _ _).symm | constructor)); all_goals (fail "ps"))) | (refine OpK.call c4 rfl rfl rfl rfl hE ?_ rfl rfl ?_; focus ((repeat' (first | exact PsA.lit _ | exact PsA.ref rfl rfl | exact PsA.ref rfl (mkL_len _ _ _ _).symm | constructor)); all_goals (fail "ps"))) | refine ListO.go gOk hE ?_)
  all_goals first | exact Need.mk rfl | (exfalso; omega) | trace_state
end Go.Proofs.YtpmhkpmkmbkjbaaGreatDoor
end

section
/- Where a node lies. -/
namespace Go.Proofs.YtpmhkpmkmbkjbaaGreatDoor
open Go Go.Tr
set_option maxRecDepth 100000
set_option maxHeartbeats 4000000
set_option linter.unusedVariables false
set_option linter.unusedSimpArgs false
def ndX (c : List Int) (x : Int) : Int × Int := if clIn c (hSlot x) = -1 then (0, 4) else if szC (clIn c (hSlot x)) < 10 then (0, 2) else (genA (hSlot x) (clIn c (hSlot x)) + 4, 0)
theorem ndX_ok {c : List Int} {x : Int} (h : (ndX c x).2 = 0) : clIn c (hSlot x) ≠ -1 ∧ 10 ≤ szC (clIn c (hSlot x)) ∧ (ndX c x).1 = genA (hSlot x) (clIn c (hSlot x)) + 4 ∧ 0 ≤ (ndX c x).1 ∧ (ndX c x).1 + 10 ≤ 384 := by
  by_cases h1 : clIn c (hSlot x) = -1
  · unfold ndX at h; rw [if_pos h1] at h; cases h
  · by_cases h2 : szC (clIn c (hSlot x)) < 10
    · unfold ndX at h; rw [if_neg h1, if_pos h2] at h; cases h
    · have e : ndX c x = (genA (hSlot x) (clIn c (hSlot x)) + 4, 0) := by unfold ndX; rw [if_neg h1, if_neg h2]
      have hs := clIn_some h1
      rw [e]
      exact ⟨h1, by omega, rfl, by dsimp only; omega, by dsimp only; omega⟩
theorem ndX_cd (c : List Int) (x : Int) : (ndX c x).2 = 0 ∨ ndX c x = (0, 4) ∨ ndX c x = (0, 2) := by
  unfold ndX
  split
  · exact .inr (.inl rfl)
  · split
    · exact .inr (.inr rfl)
    · exact .inl rfl
theorem nodeStart_run (e : Nat) (b c : List Int) (g o : List (List Int)) (x : Int) (hc : c.length = 6) (hx : x ≤ 9223372036854775807) : RunH Tryz.prog hT 138 [aMm e b c g o, ti x] [] [oi (ndX c x).1, oi (ndX c x).2] [] := by
  have c1 := iHandleSlot_run x hx
  have c2 := classIn_run b c (hSlot x) hc
  unfold ndX
  by_cases h1 : clIn c (hSlot x) = -1
  · rw [if_pos h1]
    rw [h1] at c2
    refine RunH.of_vc gOk Tryz.func138 rfl rfl (Nat.le_of_ble_eq_true rfl) (by repeat' (first | exact trivial | exact ⟨_, rfl, Nat.le_refl _⟩ | exact Nat.le_of_ble_eq_true rfl | refine And.intro ?_ ?_)) (Nat.le_of_ble_eq_true rfl) rfl (fun F hE hA => ?_)
    repeat' (first | exact trivial | refine BS.d (fun h => ?_) (fun h => ?_) | refine BS.e (fun h => ?_) (fun h => ?_) | refine BS.ne (fun h => ?_) (fun h => ?_) | refine BS.n ?_ | refine BS.s (fun h => ?_) (fun h => ?_) | refine And.intro ?_ ?_ | (refine Need.mk ?_; first | with_reducible rfl | (show @Eq TC _ _; rfl) | omega | (simp only [adN_zero]; omega)) | exact OutS.whole rfl rfl | (refine OpK.call c1 rfl rfl rfl rfl hE ?_ rfl rfl ?_; focus ((repeat' (first | exact PsA.lit _ | exact PsA.ref rfl rfl | constructor)); all_goals (fail "ps"))) | (refine OpK.callH c2 hA rfl rfl rfl rfl hE ?_ rfl rfl ?_; focus ((repeat' (first | exact PsA.lit _ | exact PsA.ref rfl rfl | constructor)); all_goals (fail "ps"))) | refine ListO.go gOk hE ?_)
    all_goals first | exact Need.mk rfl | (exfalso; omega) | trace_state
  · rw [if_neg h1]
    have c3 := SizeOfI_run (clIn c (hSlot x))
    have c4 := StartOfI_run (hSlot x) (clIn c (hSlot x))
    have hs := clIn_some h1
    rw [if_neg (by omega)] at c4
    generalize genA (hSlot x) (clIn c (hSlot x)) = gg at *
    generalize szC (clIn c (hSlot x)) = z at *
    generalize clIn c (hSlot x) = cl at *
    by_cases h2 : z < 10
    · rw [if_pos h2]
      refine RunH.of_vc gOk Tryz.func138 rfl rfl (Nat.le_of_ble_eq_true rfl) (by repeat' (first | exact trivial | exact ⟨_, rfl, Nat.le_refl _⟩ | exact Nat.le_of_ble_eq_true rfl | refine And.intro ?_ ?_)) (Nat.le_of_ble_eq_true rfl) rfl (fun F hE hA => ?_)
      repeat' (first | exact trivial | refine BS.d (fun h => ?_) (fun h => ?_) | refine BS.e (fun h => ?_) (fun h => ?_) | refine BS.ne (fun h => ?_) (fun h => ?_) | refine BS.n ?_ | refine BS.s (fun h => ?_) (fun h => ?_) | refine And.intro ?_ ?_ | (refine Need.mk ?_; first | with_reducible rfl | (show @Eq TC _ _; rfl) | omega | (simp only [adN_zero]; omega)) | exact OutS.whole rfl rfl | (refine OpK.call c1 rfl rfl rfl rfl hE ?_ rfl rfl ?_; focus ((repeat' (first | exact PsA.lit _ | exact PsA.ref rfl rfl | constructor)); all_goals (fail "ps"))) | (refine OpK.callH c2 hA rfl rfl rfl rfl hE ?_ rfl rfl ?_; focus ((repeat' (first | exact PsA.lit _ | exact PsA.ref rfl rfl | constructor)); all_goals (fail "ps"))) | (refine OpK.callH c3 hA rfl rfl rfl rfl hE ?_ rfl rfl ?_; focus ((repeat' (first | exact PsA.lit _ | exact PsA.ref rfl rfl | constructor)); all_goals (fail "ps"))) | refine ListO.go gOk hE ?_)
      all_goals first | exact Need.mk rfl | (exfalso; omega) | trace_state
    · rw [if_neg h2]
      refine RunH.of_vc gOk Tryz.func138 rfl rfl (Nat.le_of_ble_eq_true rfl) (by repeat' (first | exact trivial | exact ⟨_, rfl, Nat.le_refl _⟩ | exact Nat.le_of_ble_eq_true rfl | refine And.intro ?_ ?_)) (Nat.le_of_ble_eq_true rfl) rfl (fun F hE hA => ?_)
      repeat' (first | exact trivial | refine BS.d (fun h => ?_) (fun h => ?_) | refine BS.e (fun h => ?_) (fun h => ?_) | refine BS.ne (fun h => ?_) (fun h => ?_) | refine BS.n ?_ | refine BS.s (fun h => ?_) (fun h => ?_) | refine And.intro ?_ ?_ | (refine Need.mk ?_; first | with_reducible rfl | (show @Eq TC _ _; rfl) | omega | (simp only [adN_zero]; omega)) | exact OutS.whole rfl rfl | (refine OpK.call c1 rfl rfl rfl rfl hE ?_ rfl rfl ?_; focus ((repeat' (first | exact PsA.lit _ | exact PsA.ref rfl rfl | constructor)); all_goals (fail "ps"))) | (refine OpK.callH c2 hA rfl rfl rfl rfl hE ?_ rfl rfl ?_; focus ((repeat' (first | exact PsA.lit _ | exact PsA.ref rfl rfl | constructor)); all_goals (fail "ps"))) | (refine OpK.callH c3 hA rfl rfl rfl rfl hE ?_ rfl rfl ?_; focus ((repeat' (first | exact PsA.lit _ | exact PsA.ref rfl rfl | constructor)); all_goals (fail "ps"))) | (refine OpK.callH c4 hA rfl rfl rfl rfl hE ?_ rfl rfl ?_; focus ((repeat' (first | exact PsA.lit _ | exact PsA.ref rfl rfl | constructor)); all_goals (fail "ps"))) | refine ListO.go gOk hE ?_)
      all_goals first | exact Need.mk rfl | (exfalso; omega) | trace_state
theorem l19Spot_run (e : Nat) (b c : List Int) (g o : List (List Int)) (x : Int) (hc : c.length = 6) : RunT Tryz.prog 60 [aMm e b c g o, ti x] [] [oi (ndX c x).1, oi (ndX c x).2] [] := by
  have c0 := sHandleOk_run x
  have c1 := sHandleSlot_run x
  have c2 := l7Class_run b c (hSlot x) hc
  unfold ndX
  cases hk : hOk x with
  | false =>
    have hs : hSlot x = -1 := by unfold hSlot; rw [hk]; rfl
    have h1 : clIn c (hSlot x) = -1 := by rw [hs]; exact clIn_no (by omega)
    rw [if_pos h1]
    rw [hk] at c0
    refine RunT.of_vc gOk Tryz.func60 rfl rfl (Nat.le_of_ble_eq_true rfl) (by repeat' (first | exact trivial | exact ⟨_, rfl, Nat.le_refl _⟩ | exact Nat.le_of_ble_eq_true rfl | refine And.intro ?_ ?_)) (Nat.le_of_ble_eq_true rfl) rfl (fun F hE => ?_)
    repeat' (first | exact trivial | refine BS.d (fun h => ?_) (fun h => ?_) | refine BS.e (fun h => ?_) (fun h => ?_) | refine BS.ne (fun h => ?_) (fun h => ?_) | refine BS.n ?_ | refine BS.s (fun h => ?_) (fun h => ?_) | refine And.intro ?_ ?_ | (refine Need.mk ?_; first | with_reducible rfl | (show @Eq TC _ _; rfl) | omega | (simp only [adN_zero]; omega)) | exact OutS.whole rfl rfl | (refine OpK.call c0 rfl rfl rfl rfl hE ?_ rfl rfl ?_; focus ((repeat' (first | exact PsA.lit _ | exact PsA.ref rfl rfl | constructor)); all_goals (fail "ps"))) | (refine CodeK.draw gOk hE rfl (fun _ _ h => h) (.take 0 (.alt 1 (.take 2 (.take 3 (.take 4 (.take 6 (.alt 5 (.alt 7 (.alt 8 (.take 9 (.take 10 .done)) .stop) .stop) (.alt 7 (.alt 5 (.alt 8 (.take 9 (.take 10 .done)) .stop) .stop) .stop)))))) .stop)) ?_ ?_; focus (decide +kernel)) | refine ListO.go gOk hE ?_)
    all_goals first | exact Need.mk rfl | (exfalso; omega) | trace_state
  | true =>
    rw [hk] at c0
    by_cases h1 : clIn c (hSlot x) = -1
    · rw [if_pos h1]
      rw [h1] at c2
      refine RunT.of_vc gOk Tryz.func60 rfl rfl (Nat.le_of_ble_eq_true rfl) (by repeat' (first | exact trivial | exact ⟨_, rfl, Nat.le_refl _⟩ | exact Nat.le_of_ble_eq_true rfl | refine And.intro ?_ ?_)) (Nat.le_of_ble_eq_true rfl) rfl (fun F hE => ?_)
      repeat' (first | exact trivial | refine BS.d (fun h => ?_) (fun h => ?_) | refine BS.e (fun h => ?_) (fun h => ?_) | refine BS.ne (fun h => ?_) (fun h => ?_) | refine BS.n ?_ | refine BS.s (fun h => ?_) (fun h => ?_) | refine And.intro ?_ ?_ | (refine Need.mk ?_; first | with_reducible rfl | (show @Eq TC _ _; rfl) | omega | (simp only [adN_zero]; omega)) | exact OutS.whole rfl rfl | (refine OpK.call c0 rfl rfl rfl rfl hE ?_ rfl rfl ?_; focus ((repeat' (first | exact PsA.lit _ | exact PsA.ref rfl rfl | constructor)); all_goals (fail "ps"))) | (refine OpK.call c1 rfl rfl rfl rfl hE ?_ rfl rfl ?_; focus ((repeat' (first | exact PsA.lit _ | exact PsA.ref rfl rfl | constructor)); all_goals (fail "ps"))) | (refine OpK.call c2 rfl rfl rfl rfl hE ?_ rfl rfl ?_; focus ((repeat' (first | exact PsA.lit _ | exact PsA.ref rfl rfl | constructor)); all_goals (fail "ps"))) | (refine CodeK.draw gOk hE rfl (fun _ _ h => h) (.take 0 (.alt 1 (.take 2 (.take 3 (.take 4 (.take 6 (.alt 5 (.alt 7 (.alt 8 (.take 9 (.take 10 .done)) .stop) .stop) (.alt 7 (.alt 5 (.alt 8 (.take 9 (.take 10 .done)) .stop) .stop) .stop)))))) .stop)) ?_ ?_; focus (decide +kernel)) | (refine CodeK.draw gOk hE rfl (fun _ _ h => h) (.take 0 (.take 2 (.alt 1 (.alt 3 (.alt 4 (.take 5 .done) .stop) .stop) (.alt 3 (.alt 1 (.alt 4 (.take 5 .done) .stop) .stop) .stop)))) ?_ ?_; focus (decide +kernel)) | refine ListO.go gOk hE ?_)
      all_goals first | exact Need.mk rfl | (exfalso; omega) | trace_state
    · rw [if_neg h1]
      have c3 := SizeOfS_run (clIn c (hSlot x))
      have c4 := StartOfS_run (hSlot x) (clIn c (hSlot x))
      have hs := clIn_some h1
      rw [if_neg (by omega)] at c4
      generalize genA (hSlot x) (clIn c (hSlot x)) = gg at *
      generalize szC (clIn c (hSlot x)) = z at *
      generalize clIn c (hSlot x) = cl at *
      by_cases h2 : z < 10
      · rw [if_pos h2]
        refine RunT.of_vc gOk Tryz.func60 rfl rfl (Nat.le_of_ble_eq_true rfl) (by repeat' (first | exact trivial | exact ⟨_, rfl, Nat.le_refl _⟩ | exact Nat.le_of_ble_eq_true rfl | refine And.intro ?_ ?_)) (Nat.le_of_ble_eq_true rfl) rfl (fun F hE => ?_)
        repeat' (first | exact trivial | refine BS.d (fun h => ?_) (fun h => ?_) | refine BS.e (fun h => ?_) (fun h => ?_) | refine BS.ne (fun h => ?_) (fun h => ?_) | refine BS.n ?_ | refine BS.s (fun h => ?_) (fun h => ?_) | refine And.intro ?_ ?_ | (refine Need.mk ?_; first | with_reducible rfl | (show @Eq TC _ _; rfl) | omega | (simp only [adN_zero]; omega)) | exact OutS.whole rfl rfl | (refine OpK.call c0 rfl rfl rfl rfl hE ?_ rfl rfl ?_; focus ((repeat' (first | exact PsA.lit _ | exact PsA.ref rfl rfl | constructor)); all_goals (fail "ps"))) | (refine OpK.call c1 rfl rfl rfl rfl hE ?_ rfl rfl ?_; focus ((repeat' (first | exact PsA.lit _ | exact PsA.ref rfl rfl | constructor)); all_goals (fail "ps"))) | (refine OpK.call c2 rfl rfl rfl rfl hE ?_ rfl rfl ?_; focus ((repeat' (first | exact PsA.lit _ | exact PsA.ref rfl rfl | constructor)); all_goals (fail "ps"))) | (refine OpK.call c3 rfl rfl rfl rfl hE ?_ rfl rfl ?_; focus ((repeat' (first | exact PsA.lit _ | exact PsA.ref rfl rfl | constructor)); all_goals (fail "ps"))) | (refine CodeK.draw gOk hE rfl (fun _ _ h => h) (.take 0 (.alt 1 (.take 2 (.take 3 (.take 4 (.take 6 (.alt 5 (.alt 7 (.alt 8 (.take 9 (.take 10 .done)) .stop) .stop) (.alt 7 (.alt 5 (.alt 8 (.take 9 (.take 10 .done)) .stop) .stop) .stop)))))) .stop)) ?_ ?_; focus (decide +kernel)) | (refine CodeK.draw gOk hE rfl (fun _ _ h => h) (.take 0 (.take 2 (.alt 1 (.alt 3 (.alt 4 (.take 5 .done) .stop) .stop) (.alt 3 (.alt 1 (.alt 4 (.take 5 .done) .stop) .stop) .stop)))) ?_ ?_; focus (decide +kernel)) | refine ListO.go gOk hE ?_)
        all_goals first | exact Need.mk rfl | (exfalso; omega) | trace_state
      · rw [if_neg h2]
        refine RunT.of_vc gOk Tryz.func60 rfl rfl (Nat.le_of_ble_eq_true rfl) (by repeat' (first | exact trivial | exact ⟨_, rfl, Nat.le_refl _⟩ | exact Nat.le_of_ble_eq_true rfl | refine And.intro ?_ ?_)) (Nat.le_of_ble_eq_true rfl) rfl (fun F hE => ?_)
        repeat' (first | exact trivial | refine BS.d (fun h => ?_) (fun h => ?_) | refine BS.e (fun h => ?_) (fun h => ?_) | refine BS.ne (fun h => ?_) (fun h => ?_) | refine BS.n ?_ | refine BS.s (fun h => ?_) (fun h => ?_) | refine And.intro ?_ ?_ | (refine Need.mk ?_; first | with_reducible rfl | (show @Eq TC _ _; rfl) | omega | (simp only [adN_zero]; omega)) | exact OutS.whole rfl rfl | (refine OpK.call c0 rfl rfl rfl rfl hE ?_ rfl rfl ?_; focus ((repeat' (first | exact PsA.lit _ | exact PsA.ref rfl rfl | constructor)); all_goals (fail "ps"))) | (refine OpK.call c1 rfl rfl rfl rfl hE ?_ rfl rfl ?_; focus ((repeat' (first | exact PsA.lit _ | exact PsA.ref rfl rfl | constructor)); all_goals (fail "ps"))) | (refine OpK.call c2 rfl rfl rfl rfl hE ?_ rfl rfl ?_; focus ((repeat' (first | exact PsA.lit _ | exact PsA.ref rfl rfl | constructor)); all_goals (fail "ps"))) | (refine OpK.call c3 rfl rfl rfl rfl hE ?_ rfl rfl ?_; focus ((repeat' (first | exact PsA.lit _ | exact PsA.ref rfl rfl | constructor)); all_goals (fail "ps"))) | (refine OpK.call c4 rfl rfl rfl rfl hE ?_ rfl rfl ?_; focus ((repeat' (first | exact PsA.lit _ | exact PsA.ref rfl rfl | constructor)); all_goals (fail "ps"))) | (refine CodeK.draw gOk hE rfl (fun _ _ h => h) (.take 0 (.alt 1 (.take 2 (.take 3 (.take 4 (.take 6 (.alt 5 (.alt 7 (.alt 8 (.take 9 (.take 10 .done)) .stop) .stop) (.alt 7 (.alt 5 (.alt 8 (.take 9 (.take 10 .done)) .stop) .stop) .stop)))))) .stop)) ?_ ?_; focus (decide +kernel)) | (refine CodeK.draw gOk hE rfl (fun _ _ h => h) (.take 0 (.take 2 (.alt 1 (.alt 3 (.alt 4 (.take 5 .done) .stop) .stop) (.alt 3 (.alt 1 (.alt 4 (.take 5 .done) .stop) .stop) .stop)))) ?_ ?_; focus (decide +kernel)) | refine ListO.go gOk hE ?_)
        all_goals first | exact Need.mk rfl | (exfalso; omega) | trace_state
end Go.Proofs.YtpmhkpmkmbkjbaaGreatDoor
end

section
/- Lists and a memory are copied. -/
namespace Go.Proofs.YtpmhkpmkmbkjbaaGreatDoor
open Go Go.Tr
set_option maxRecDepth 100000
set_option maxHeartbeats 4000000
set_option linter.unusedVariables false
set_option linter.unusedSimpArgs false
theorem copySLists_run (e : Nat) (xs : List (List Int)) (hn : xs.length ≤ 1048576) (hx : ∀ i, (xs.getD i []).length ≤ 1048576) : RunT Tryz.prog 181 [.one (.c (tSL e xs))] [] [.one (tSL 136 xs)] [] := by
  refine RunT.of_vc gOk Tryz.func181 rfl rfl (Nat.le_of_ble_eq_true rfl) (by repeat' (first | exact trivial | exact ⟨_, rfl, Nat.le_refl _⟩ | exact Nat.le_of_ble_eq_true rfl | refine And.intro ?_ ?_)) (Nat.le_of_ble_eq_true rfl) rfl (fun F hE => ?_)
  repeat' (first | exact trivial | refine BS.d (fun h => ?_) (fun h => ?_) | refine BS.e (fun h => ?_) (fun h => ?_) | refine BS.ne (fun h => ?_) (fun h => ?_) | refine BS.n ?_ | refine BS.s (fun h => ?_) (fun h => ?_) | refine And.intro ?_ ?_ | (refine Need.mk ?_; first | with_reducible rfl | (show @Eq TC _ _; rfl) | omega | (simp only [adN_zero]; omega)) | exact OutS.whole rfl rfl | refine ListO.go gOk hE ?_)
  refine CodeK.loop gOk hE (fun i : Nat => ⟨[(3, vr 8 xs.length), (9, vr 1000000 xs.length), (10, vi xs.length), (11, vi i)], [(8, rSL .own true 136 (fl [] xs i)), (1000000, rSL .fro false e xs)]⟩) (fun i => i ≤ xs.length) (fun i => xs.length - i) 0 (by refine leT.of ?_ ?_ rfl <;> repeat' (first | exact trivial | refine And.intro rfl ?_ | refine And.intro (by simp [fl_zero] <;> rfl) ?_)) (Nat.zero_le _) ?_
  rintro i hi
  have hl := fl_len [] xs i hi
  have c1 := CloneI_run (xs.getD i []) (hx i)
  by_cases hi2 : i < xs.length
  · have hfs := fl_set [] xs i hi2
    repeat' (first | exact trivial | refine BS.d (fun h => ?_) (fun h => ?_) | refine BS.e (fun h => ?_) (fun h => ?_) | refine BS.ne (fun h => ?_) (fun h => ?_) | refine BS.n ?_ | refine BS.s (fun h => ?_) (fun h => ?_) | refine And.intro ?_ ?_ | (refine Need.mk ?_; first | with_reducible rfl | (show @Eq TC _ _; rfl) | omega | (simp only [adN_zero]; omega)) | exact OutS.whole rfl rfl | (refine OpK.call c1 rfl rfl rfl rfl hE ?_ rfl rfl ?_; focus ((repeat' (first | exact PsA.lit _ | exact PsA.ref rfl rfl | constructor)); all_goals (fail "ps"))) | (refine OpK.stN gOk (xs.getD i []) rfl rfl rfl rfl rfl rfl rfl rfl rfl (by (try simp only [adN_zero]); omega) (StN.ref rfl rfl rfl rfl rfl StN.nil) ?_) | refine ListO.go gOk hE ?_)
    all_goals (try simp only [adN_zero] at *)
    all_goals first
      | (exfalso; omega)
      | (refine Need.mk ?_; omega)
      | (refine ⟨i + 1, (by refine leT.of ?_ ?_ rfl <;> repeat' (first | exact trivial | refine And.intro rfl ?_ | refine And.intro (by first | rfl | (rw [← hfs]; rfl) | (simp <;> rfl)) ?_)), by omega, by first | omega | (dsimp only; omega)⟩)
      | trace_state
  · repeat' (first | exact trivial | refine BS.d (fun h => ?_) (fun h => ?_) | refine BS.e (fun h => ?_) (fun h => ?_) | refine BS.ne (fun h => ?_) (fun h => ?_) | refine BS.n ?_ | refine BS.s (fun h => ?_) (fun h => ?_) | refine And.intro ?_ ?_ | (refine Need.mk ?_; first | with_reducible rfl | (show @Eq TC _ _; rfl) | omega | (simp only [adN_zero]; omega)) | exact OutS.whole rfl rfl | refine ListO.go gOk hE ?_)
    all_goals first
      | (exfalso; omega)
      | exact OutS.whole hl.symm (by rw [fl_full _ _ _ (by omega) hi]; rfl)
      | trace_state
theorem l8Rows_run (e : Nat) (xs : List (List Int)) (hn : xs.length ≤ 1048576) (hx : ∀ i, (xs.getD i []).length ≤ 1048576) : RunT Tryz.prog 175 [.one (.c (tSL e xs))] [] [.one (tSL 136 xs)] [] := by
  refine RunT.of_vc gOk Tryz.func175 rfl rfl (Nat.le_of_ble_eq_true rfl) (by repeat' (first | exact trivial | exact ⟨_, rfl, Nat.le_refl _⟩ | exact Nat.le_of_ble_eq_true rfl | refine And.intro ?_ ?_)) (Nat.le_of_ble_eq_true rfl) rfl (fun F hE => ?_)
  repeat' (first | exact trivial | refine BS.d (fun h => ?_) (fun h => ?_) | refine BS.e (fun h => ?_) (fun h => ?_) | refine BS.ne (fun h => ?_) (fun h => ?_) | refine BS.n ?_ | refine BS.s (fun h => ?_) (fun h => ?_) | refine And.intro ?_ ?_ | (refine Need.mk ?_; first | with_reducible rfl | (show @Eq TC _ _; rfl) | omega | (simp only [adN_zero]; omega)) | exact OutS.whole rfl rfl | refine ListO.go gOk hE ?_)
  refine CodeK.loop gOk hE (fun i : Nat => ⟨[(0, vr 1000000 xs.length), (3, vr 5 (xs.take i).length), (4, vi i)], [(5, rSL .own true 136 (xs.take i)), (1000000, rSL .fro false e xs)]⟩) (fun i => i ≤ xs.length) (fun i => xs.length - i) 0 (by refine leT.of ?_ ?_ rfl <;> repeat' (first | exact trivial | refine And.intro rfl ?_ | refine And.intro (by first | rfl | (simp <;> rfl)) ?_)) (Nat.zero_le _) ?_
  rintro i hi
  have hxi := hx i
  have c1 := l3Copy_run (xs.getD i []) (hx i)
  by_cases hi2 : i < xs.length
  · have htk : xs.take (i + 1) = xs.take i ++ [xs.getD i []] := by
      rw [List.take_succ_eq_append_getElem hi2]; simp [List.getD, hi2]
    have hlt : (xs.take i).length ≤ 1048576 := by rw [List.length_take]; omega
    repeat' (first | exact trivial | refine BS.d (fun h => ?_) (fun h => ?_) | refine BS.e (fun h => ?_) (fun h => ?_) | refine BS.ne (fun h => ?_) (fun h => ?_) | refine BS.n ?_ | refine BS.s (fun h => ?_) (fun h => ?_) | refine And.intro ?_ ?_ | (refine Need.mk ?_; first | with_reducible rfl | (show @Eq TC _ _; rfl) | omega | (simp only [adN_zero]; omega)) | exact OutS.whole rfl rfl | (refine OpK.call c1 rfl rfl rfl rfl hE ?_ rfl rfl ?_; focus ((repeat' (first | exact PsA.lit _ | exact PsA.ref rfl rfl | constructor)); all_goals (fail "ps"))) | (refine OpK.app1N (l := [.ref 2002304 0 (xs.getD i []).length]) gOk (xs.getD i []) (by rfl) (by rfl) (by rfl) (by rfl) (by rfl) (by rfl) (by rfl) (by rfl) (by rfl) (by rfl) (by rfl) (by refine ⟨?_, ?_⟩ <;> (try unfold maxLen) <;> omega) (by rfl) (by rfl) (StN.ref (by rfl) (by rfl) (by rfl) (by rfl) (by rfl) StN.nil) ?_) | refine ListO.go gOk hE ?_)
    all_goals (try simp only [adN_zero] at *)
    all_goals first
      | (exfalso; omega)
      | (refine Need.mk ?_; omega)
      | (refine ⟨i + 1, (by refine leT.of ?_ ?_ rfl <;> repeat' (first | exact trivial | refine And.intro rfl ?_ | refine And.intro (by first | rfl | (rw [htk]; first | rfl | (simp; done)) | (simp [htk] <;> rfl)) ?_)), by omega, by first | omega | (dsimp only; omega)⟩)
      | trace_state
  · repeat' (first | exact trivial | refine BS.d (fun h => ?_) (fun h => ?_) | refine BS.e (fun h => ?_) (fun h => ?_) | refine BS.ne (fun h => ?_) (fun h => ?_) | refine BS.n ?_ | refine BS.s (fun h => ?_) (fun h => ?_) | refine And.intro ?_ ?_ | (refine Need.mk ?_; first | with_reducible rfl | (show @Eq TC _ _; rfl) | omega | (simp only [adN_zero]; omega)) | exact OutS.whole rfl rfl | refine ListO.go gOk hE ?_)
    all_goals first
      | (exfalso; omega)
      | exact OutS.whole rfl (by rw [List.take_of_length_le (by omega)]; rfl)
      | trace_state
abbrev oMm (b c : List Int) (g o : List (List Int)) : TAr := .agg [tI b, tI c, tSL 136 g, tSL 136 o]
theorem copyMem_run (e : Nat) (b c : List Int) (g o : List (List Int)) (h : MmOk 1048576 b c g o) : RunT Tryz.prog 48 [aMm e b c g o] [] [oMm b c g o] [] := by
  have c1 := copyHeap_run b c h.hb h.hc
  have c2 := copySLists_run e g h.hg h.hg'
  have c3 := copySLists_run e o h.ho h.ho'
  have c4 : RunT Tryz.prog 116 [.agg [.c (tSL e g), .c (tSL e o)]] [] [.agg [tSL 136 g, tSL 136 o]] [] := by
    refine RunT.of_vc gOk Tryz.func116 rfl rfl (Nat.le_of_ble_eq_true rfl) (by repeat' (first | exact trivial | exact ⟨_, rfl, Nat.le_refl _⟩ | exact Nat.le_of_ble_eq_true rfl | refine And.intro ?_ ?_)) (Nat.le_of_ble_eq_true rfl) rfl (fun F hE => ?_)
    repeat' (first | exact trivial | refine BS.d (fun h => ?_) (fun h => ?_) | refine BS.e (fun h => ?_) (fun h => ?_) | refine BS.ne (fun h => ?_) (fun h => ?_) | refine BS.n ?_ | refine BS.s (fun h => ?_) (fun h => ?_) | refine And.intro ?_ ?_ | (refine Need.mk ?_; first | with_reducible rfl | (show @Eq TC _ _; rfl) | omega | (simp only [adN_zero]; omega)) | exact OutS.whole rfl rfl | (refine OpK.call c2 rfl rfl rfl rfl hE ?_ rfl rfl ?_; focus ((repeat' (first | exact PsA.lit _ | exact PsA.ref rfl rfl | constructor)); all_goals (fail "ps"))) | (refine OpK.call c3 rfl rfl rfl rfl hE ?_ rfl rfl ?_; focus ((repeat' (first | exact PsA.lit _ | exact PsA.ref rfl rfl | constructor)); all_goals (fail "ps"))) | (refine CodeK.draw gOk hE rfl (fun _ _ h => h) (.take 0 (.take 3 (.alt 1 (.alt 2 (.alt 4 (.alt 5 (.alt 6 (.alt 7 .done .stop) .stop) .stop) .stop) (.alt 4 (.alt 2 (.alt 5 (.alt 6 (.alt 7 .done .stop) .stop) .stop) .stop) .stop)) (.alt 4 (.alt 1 (.alt 2 (.alt 5 (.alt 6 (.alt 7 .done .stop) .stop) .stop) .stop) .stop) .stop)))) ?_ ?_; focus (decide +kernel)) | refine ListO.go gOk hE ?_)
    all_goals trace_state
  refine RunT.of_vc gOk Tryz.func48 rfl rfl (Nat.le_of_ble_eq_true rfl) (by repeat' (first | exact trivial | exact ⟨_, rfl, Nat.le_refl _⟩ | exact Nat.le_of_ble_eq_true rfl | refine And.intro ?_ ?_)) (Nat.le_of_ble_eq_true rfl) rfl (fun F hE => ?_)
  repeat' (first | exact trivial | refine BS.d (fun h => ?_) (fun h => ?_) | refine BS.e (fun h => ?_) (fun h => ?_) | refine BS.ne (fun h => ?_) (fun h => ?_) | refine BS.n ?_ | refine BS.s (fun h => ?_) (fun h => ?_) | refine And.intro ?_ ?_ | (refine Need.mk ?_; first | with_reducible rfl | (show @Eq TC _ _; rfl) | omega | (simp only [adN_zero]; omega)) | exact OutS.whole rfl rfl | (refine OpK.call c1 rfl rfl rfl rfl hE ?_ rfl rfl ?_; focus ((repeat' (first | exact PsA.lit _ | exact PsA.ref rfl rfl | constructor)); all_goals (fail "ps"))) | (refine OpK.call c4 rfl rfl rfl rfl hE ?_ rfl rfl ?_; focus ((repeat' (first | exact PsA.lit _ | exact PsA.ref rfl rfl | constructor)); all_goals (fail "ps"))) | (refine CodeK.draw gOk hE rfl (fun _ _ h => h) (.take 0 (.take 3 (.alt 1 (.alt 2 (.alt 4 (.alt 5 (.alt 6 (.alt 7 .done .stop) .stop) .stop) .stop) (.alt 4 (.alt 2 (.alt 5 (.alt 6 (.alt 7 .done .stop) .stop) .stop) .stop) .stop)) (.alt 4 (.alt 1 (.alt 2 (.alt 5 (.alt 6 (.alt 7 .done .stop) .stop) .stop) .stop) .stop) .stop)))) ?_ ?_; focus (decide +kernel)) | refine ListO.go gOk hE ?_)
  all_goals trace_state
theorem l9Copy_run (e : Nat) (b c : List Int) (g o : List (List Int)) (h : MmOk 1048576 b c g o) : RunT Tryz.prog 42 [aMm e b c g o] [] [oMm b c g o] [] := by
  have c1 := l7Copy_run b c h.hb h.hc
  have c2 := l8Rows_run e g h.hg h.hg'
  have c3 := l8Rows_run e o h.ho h.ho'
  have c4 : RunT Tryz.prog 110 [.agg [.c (tSL e g), .c (tSL e o)]] [] [.agg [tSL 136 g, tSL 136 o]] [] := by
    refine RunT.of_vc gOk Tryz.func110 rfl rfl (Nat.le_of_ble_eq_true rfl) (by repeat' (first | exact trivial | exact ⟨_, rfl, Nat.le_refl _⟩ | exact Nat.le_of_ble_eq_true rfl | refine And.intro ?_ ?_)) (Nat.le_of_ble_eq_true rfl) rfl (fun F hE => ?_)
    repeat' (first | exact trivial | refine BS.d (fun h => ?_) (fun h => ?_) | refine BS.e (fun h => ?_) (fun h => ?_) | refine BS.ne (fun h => ?_) (fun h => ?_) | refine BS.n ?_ | refine BS.s (fun h => ?_) (fun h => ?_) | refine And.intro ?_ ?_ | (refine Need.mk ?_; first | with_reducible rfl | (show @Eq TC _ _; rfl) | omega | (simp only [adN_zero]; omega)) | exact OutS.whole rfl rfl | (refine OpK.call c2 rfl rfl rfl rfl hE ?_ rfl rfl ?_; focus ((repeat' (first | exact PsA.lit _ | exact PsA.ref rfl rfl | constructor)); all_goals (fail "ps"))) | (refine OpK.call c3 rfl rfl rfl rfl hE ?_ rfl rfl ?_; focus ((repeat' (first | exact PsA.lit _ | exact PsA.ref rfl rfl | constructor)); all_goals (fail "ps"))) | (refine CodeK.draw gOk hE rfl (fun _ _ h => h) (.take 0 (.take 3 (.alt 1 (.alt 2 (.alt 4 (.alt 5 (.alt 6 (.alt 7 .done .stop) .stop) .stop) .stop) (.alt 4 (.alt 2 (.alt 5 (.alt 6 (.alt 7 .done .stop) .stop) .stop) .stop) .stop)) (.alt 4 (.alt 1 (.alt 2 (.alt 5 (.alt 6 (.alt 7 .done .stop) .stop) .stop) .stop) .stop) .stop)))) ?_ ?_; focus (decide +kernel)) | refine ListO.go gOk hE ?_)
    all_goals trace_state
  refine RunT.of_vc gOk Tryz.func42 rfl rfl (Nat.le_of_ble_eq_true rfl) (by repeat' (first | exact trivial | exact ⟨_, rfl, Nat.le_refl _⟩ | exact Nat.le_of_ble_eq_true rfl | refine And.intro ?_ ?_)) (Nat.le_of_ble_eq_true rfl) rfl (fun F hE => ?_)
  repeat' (first | exact trivial | refine BS.d (fun h => ?_) (fun h => ?_) | refine BS.e (fun h => ?_) (fun h => ?_) | refine BS.ne (fun h => ?_) (fun h => ?_) | refine BS.n ?_ | refine BS.s (fun h => ?_) (fun h => ?_) | refine And.intro ?_ ?_ | (refine Need.mk ?_; first | with_reducible rfl | (show @Eq TC _ _; rfl) | omega | (simp only [adN_zero]; omega)) | exact OutS.whole rfl rfl | (refine OpK.call c1 rfl rfl rfl rfl hE ?_ rfl rfl ?_; focus ((repeat' (first | exact PsA.lit _ | exact PsA.ref rfl rfl | constructor)); all_goals (fail "ps"))) | (refine OpK.call c4 rfl rfl rfl rfl hE ?_ rfl rfl ?_; focus ((repeat' (first | exact PsA.lit _ | exact PsA.ref rfl rfl | constructor)); all_goals (fail "ps"))) | (refine CodeK.draw gOk hE rfl (fun _ _ h => h) (.take 0 (.take 3 (.alt 1 (.alt 2 (.alt 4 (.alt 5 (.alt 6 (.alt 7 .done .stop) .stop) .stop) .stop) (.alt 4 (.alt 2 (.alt 5 (.alt 6 (.alt 7 .done .stop) .stop) .stop) .stop) .stop)) (.alt 4 (.alt 1 (.alt 2 (.alt 5 (.alt 6 (.alt 7 .done .stop) .stop) .stop) .stop) .stop) .stop)))) ?_ ?_; focus (decide +kernel)) | refine ListO.go gOk hE ?_)
  all_goals trace_state
end Go.Proofs.YtpmhkpmkmbkjbaaGreatDoor
end

section
/- NextTo, both packages. -/
namespace Go.Proofs.YtpmhkpmkmbkjbaaGreatDoor
open Go Go.Tr
set_option maxRecDepth 100000
set_option maxHeartbeats 4000000
set_option linter.unusedVariables false
set_option linter.unusedSimpArgs false
theorem l15SomeN_run (x : Int) : RunT Tryz.prog 65 [ti x] [] [ob (decide (x = 0) || hOk x)] [] := by
  have c1 := sHandleOk_run x
  cases hk : hOk x
  all_goals (rw [hk] at c1)
  all_goals (refine RunT.of_vc gOk Tryz.func65 rfl rfl (Nat.le_of_ble_eq_true rfl) (by repeat' (first | exact trivial | exact ⟨_, rfl, Nat.le_refl _⟩ | exact Nat.le_of_ble_eq_true rfl | refine And.intro ?_ ?_)) (Nat.le_of_ble_eq_true rfl) rfl (fun F hE => ?_))
  all_goals (repeat' (first | exact trivial | refine BS.d (fun h => ?_) (fun h => ?_) | refine BS.e (fun h => ?_) (fun h => ?_) | refine BS.ne (fun h => ?_) (fun h => ?_) | refine BS.n ?_ | refine BS.s (fun h => ?_) (fun h => ?_) | refine And.intro ?_ ?_ | (refine Need.mk ?_; first | with_reducible rfl | (show @Eq TC _ _; rfl) | omega | (simp only [adN_zero]; omega)) | exact OutS.whole rfl rfl | (refine OpK.call c1 rfl rfl rfl rfl hE ?_ rfl rfl ?_; focus ((repeat' (first | exact PsA.lit _ | exact PsA.ref rfl rfl | constructor)); all_goals (fail "ps"))) | refine ListO.go gOk hE ?_))
  all_goals (refine Need.mk ?_; simp_all)
/-- The place of a node that may be written, and a code. -/
noncomputable def nsX (b c : List Int) (g o : List (List Int)) (x : Int) : Int × Int := if vlB b c g o x = true then ndX c x else (0, 4)
theorem nsX_ok {b c : List Int} {g o : List (List Int)} {x : Int} (h : (nsX b c g o x).2 = 0) : vlB b c g o x = true ∧ nsX b c g o x = ndX c x ∧ 0 ≤ (nsX b c g o x).1 ∧ (nsX b c g o x).1 + 10 ≤ 384 := by
  unfold nsX at h ⊢
  by_cases hv : vlB b c g o x = true
  · rw [if_pos hv] at h ⊢
    obtain ⟨_, _, _, h0, h1⟩ := ndX_ok h
    exact ⟨hv, rfl, h0, h1⟩
  · rw [if_neg hv] at h; cases h
theorem nodeToSet_run (e : Nat) (b c : List Int) (g o : List (List Int)) (x : Int) (h : MmT b c g o) (hp : hpP b c) (hx : x ≤ 9223372036854775807) : RunH Tryz.prog hT 64 [aMm e b c g o, ti x] [] [oi (nsX b c g o x).1, oi (nsX b c g o x).2] [] := by
  have c1 := validIn_run e b c g o x h hp hx
  have c2 := nodeStart_run e b c g o x hp.1.2.1 hx
  unfold nsX
  cases hv : vlB b c g o x with
  | true =>
    rw [hv] at c1
    rw [if_pos rfl]
    generalize ndX c x = r at *
    obtain ⟨r1, r2⟩ := r
    dsimp only at *
    refine RunH.of_vc gOk Tryz.func64 rfl rfl (Nat.le_of_ble_eq_true rfl) (by repeat' (first | exact trivial | exact ⟨_, rfl, Nat.le_refl _⟩ | exact Nat.le_of_ble_eq_true rfl | refine And.intro ?_ ?_)) (Nat.le_of_ble_eq_true rfl) rfl (fun F hE hA => ?_)
    repeat' (first | exact trivial | refine BS.d (fun h => ?_) (fun h => ?_) | refine BS.e (fun h => ?_) (fun h => ?_) | refine BS.ne (fun h => ?_) (fun h => ?_) | refine BS.n ?_ | refine BS.s (fun h => ?_) (fun h => ?_) | refine And.intro ?_ ?_ | (refine Need.mk ?_; first | with_reducible rfl | (show @Eq TC _ _; rfl) | omega | (simp only [adN_zero]; omega)) | exact OutS.whole rfl rfl | (refine OpK.callH c1 hA rfl rfl rfl rfl hE ?_ rfl rfl ?_; focus ((repeat' (first | exact PsA.lit _ | exact PsA.ref rfl rfl | constructor)); all_goals (fail "ps"))) | (refine OpK.callH c2 hA rfl rfl rfl rfl hE ?_ rfl rfl ?_; focus ((repeat' (first | exact PsA.lit _ | exact PsA.ref rfl rfl | constructor)); all_goals (fail "ps"))) | refine ListO.go gOk hE ?_)
    all_goals first | exact Need.mk rfl | (exfalso; omega) | trace_state
  | false =>
    rw [hv] at c1
    rw [if_neg (by decide)]
    refine RunH.of_vc gOk Tryz.func64 rfl rfl (Nat.le_of_ble_eq_true rfl) (by repeat' (first | exact trivial | exact ⟨_, rfl, Nat.le_refl _⟩ | exact Nat.le_of_ble_eq_true rfl | refine And.intro ?_ ?_)) (Nat.le_of_ble_eq_true rfl) rfl (fun F hE hA => ?_)
    repeat' (first | exact trivial | refine BS.d (fun h => ?_) (fun h => ?_) | refine BS.e (fun h => ?_) (fun h => ?_) | refine BS.ne (fun h => ?_) (fun h => ?_) | refine BS.n ?_ | refine BS.s (fun h => ?_) (fun h => ?_) | refine And.intro ?_ ?_ | (refine Need.mk ?_; first | with_reducible rfl | (show @Eq TC _ _; rfl) | omega | (simp only [adN_zero]; omega)) | exact OutS.whole rfl rfl | (refine OpK.callH c1 hA rfl rfl rfl rfl hE ?_ rfl rfl ?_; focus ((repeat' (first | exact PsA.lit _ | exact PsA.ref rfl rfl | constructor)); all_goals (fail "ps"))) | (refine OpK.callH c2 hA rfl rfl rfl rfl hE ?_ rfl rfl ?_; focus ((repeat' (first | exact PsA.lit _ | exact PsA.ref rfl rfl | constructor)); all_goals (fail "ps"))) | refine ListO.go gOk hE ?_)
    all_goals first | exact Need.mk rfl | (exfalso; omega) | trace_state
end Go.Proofs.YtpmhkpmkmbkjbaaGreatDoor
end

section
/- NextTo, both packages. -/
namespace Go.Proofs.YtpmhkpmkmbkjbaaGreatDoor
open Go Go.Tr
set_option maxRecDepth 100000
set_option maxHeartbeats 4000000
set_option linter.unusedVariables false
set_option linter.unusedSimpArgs false
theorem fxOk_four {n : Int} (h : 0 ≤ n ∧ n < 4294967296) : fxOk n 4 = true := by
  unfold fxOk
  apply decide_eq_true
  refine ⟨by decide, by decide, h.1, ?_⟩
  show n < 256 ^ (4 : Int).toNat
  have : (256 : Int) ^ (4 : Int).toNat = 4294967296 := by decide
  omega
noncomputable def ntC (b c : List Int) (g o : List (List Int)) (x n : Int) : Int := if dcB (mmP b c g o) = true ∧ (decide (n = 0) || hOk n) = true then (nsX b c g o x).2 else 1
noncomputable def ntL (b c : List Int) (g o : List (List Int)) (x n : Int) : List Int := if ntC b c g o x n = 0 then putL b ((nsX b c g o x).1 + 6).toNat (fxd 4 n) 4 else b
theorem ntL_len (b c : List Int) (g o : List (List Int)) (x n : Int) : (ntL b c g o x n).length = b.length := by
  unfold ntL
  split
  · exact putL_len _ _ _ _
  · rfl
theorem hs_bd {n : Int} (h : (decide (n = 0) || hOk n) = true) : 0 ≤ n ∧ n < 4294967296 := by
  rcases Bool.or_eq_true _ _ ▸ h with h1 | h1
  · have := of_decide_eq_true h1; omega
  · have := hOk_iff.1 h1; omega
theorem NextToI_run (e : Nat) (b c : List Int) (g o : List (List Int)) (x n : Int) (h : MmT b c g o) (hx : x ≤ 9223372036854775807) (hn : n ≤ 9223372036854775807) : RunH Tryz.prog hT 22 [aMm e b c g o, ti x, ti n] [] [.agg [tI (ntL b c g o x n), tI c, tSL 136 g, tSL 136 o], oi (ntC b c g o x n)] [] := by
  have c1 := copyMem_run e b c g o h.ok
  have c2 := h.I e
  have c3 := handleOrNone_run n hn
  have hbd := @hs_bd n
  unfold ntL ntC
  generalize hs9 : (decide (n = 0) || hOk n) = hs at *
  by_cases hm : mmP b c g o
  · rw [dcB_true hm] at c2 ⊢
    have c4 := nodeToSet_run e b c g o x h hm.1 hx
    have hok := @nsX_ok b c g o x
    cases hs with
    | true =>
      simp only [true_and, if_true]
      by_cases hq : (nsX b c g o x).2 = 0
      · obtain ⟨_, _, h0, h1⟩ := hok hq
        rw [if_pos hq]
        rw [hq] at c4 ⊢
        have hbl := hm.1.1.1
        obtain ⟨p, hp⟩ := Int.eq_ofNat_of_zero_le h0
        rw [hp] at c4 h1 ⊢
        have hb9 := hbd rfl
        have c5 := putNum_run 3 b (p + 6) 4 n (by omega) (by omega) (by omega) (fxOk_four hb9) (by omega) hn
        have hpl := putL_len b (p + 6) (fxd 4 n) 4
        rw [show ((p : Int) + 6).toNat = p + 6 by omega]
        generalize putL b (p + 6) (fxd 4 n) 4 = nb at *
        rw [show (((p + 6 : Nat) : Int)) = (p : Int) + 6 by omega] at c5
        refine RunH.of_vc gOk Tryz.func22 rfl rfl (Nat.le_of_ble_eq_true rfl) (by repeat' (first | exact trivial | exact ⟨_, rfl, Nat.le_refl _⟩ | exact Nat.le_of_ble_eq_true rfl | refine And.intro ?_ ?_)) (Nat.le_of_ble_eq_true rfl) rfl (fun F hE hA => ?_)
        repeat' (first | exact trivial | refine BS.d (fun h => ?_) (fun h => ?_) | refine BS.e (fun h => ?_) (fun h => ?_) | refine BS.ne (fun h => ?_) (fun h => ?_) | refine BS.n ?_ | refine BS.s (fun h => ?_) (fun h => ?_) | refine And.intro ?_ ?_ | (refine Need.mk ?_; first | with_reducible rfl | (show @Eq TC _ _; rfl) | omega | (simp only [adN_zero]; omega)) | exact OutS.whole rfl rfl | (refine OpK.call c1 rfl rfl rfl rfl hE ?_ rfl rfl ?_; focus ((repeat' (first | exact PsA.lit _ | exact PsA.ref rfl rfl | constructor)); all_goals (fail "ps"))) | (refine OpK.callH c2 hA rfl rfl rfl rfl hE ?_ rfl rfl ?_; focus ((repeat' (first | exact PsA.lit _ | exact PsA.ref rfl rfl | constructor)); all_goals (fail "ps"))) | (refine OpK.call c3 rfl rfl rfl rfl hE ?_ rfl rfl ?_; focus ((repeat' (first | exact PsA.lit _ | exact PsA.ref rfl rfl | constructor)); all_goals (fail "ps"))) | (refine OpK.callH c4 hA rfl rfl rfl rfl hE ?_ rfl rfl ?_; focus ((repeat' (first | exact PsA.lit _ | exact PsA.ref rfl rfl | constructor)); all_goals (fail "ps"))) | (refine OpK.callB (bInt 3 2001536 b nb) c5 rfl rfl rfl rfl hE (BtOk.sl rfl hpl) rfl (QsVs.cons (.one (.h rfl rfl rfl)) (.cons (.one (.c (.lit _) rfl)) (.cons (.one (.c (.lit _) rfl)) (.cons (.one (.c (.lit _) rfl)) .nil)))) rfl rfl ?_) | refine ListO.go gOk hE ?_)
        all_goals first | exact Need.mk rfl | exact OutS.whole rfl rfl | exact OutS.whole hpl.symm rfl | (exfalso; omega) | trace_state
      · rw [if_neg hq]
        generalize nsX b c g o x = r at *
        obtain ⟨r1, r2⟩ := r
        dsimp only at *
        refine RunH.of_vc gOk Tryz.func22 rfl rfl (Nat.le_of_ble_eq_true rfl) (by repeat' (first | exact trivial | exact ⟨_, rfl, Nat.le_refl _⟩ | exact Nat.le_of_ble_eq_true rfl | refine And.intro ?_ ?_)) (Nat.le_of_ble_eq_true rfl) rfl (fun F hE hA => ?_)
        repeat' (first | exact trivial | refine BS.d (fun h => ?_) (fun h => ?_) | refine BS.e (fun h => ?_) (fun h => ?_) | refine BS.ne (fun h => ?_) (fun h => ?_) | refine BS.n ?_ | refine BS.s (fun h => ?_) (fun h => ?_) | refine And.intro ?_ ?_ | (refine Need.mk ?_; first | with_reducible rfl | (show @Eq TC _ _; rfl) | omega | (simp only [adN_zero]; omega)) | exact OutS.whole rfl rfl | (refine OpK.call c1 rfl rfl rfl rfl hE ?_ rfl rfl ?_; focus ((repeat' (first | exact PsA.lit _ | exact PsA.ref rfl rfl | constructor)); all_goals (fail "ps"))) | (refine OpK.callH c2 hA rfl rfl rfl rfl hE ?_ rfl rfl ?_; focus ((repeat' (first | exact PsA.lit _ | exact PsA.ref rfl rfl | constructor)); all_goals (fail "ps"))) | (refine OpK.call c3 rfl rfl rfl rfl hE ?_ rfl rfl ?_; focus ((repeat' (first | exact PsA.lit _ | exact PsA.ref rfl rfl | constructor)); all_goals (fail "ps"))) | (refine OpK.callH c4 hA rfl rfl rfl rfl hE ?_ rfl rfl ?_; focus ((repeat' (first | exact PsA.lit _ | exact PsA.ref rfl rfl | constructor)); all_goals (fail "ps"))) | refine ListO.go gOk hE ?_)
        all_goals first | exact Need.mk rfl | exact OutS.whole rfl rfl | (exfalso; omega) | (exfalso; simp_all; done) | trace_state
    | false =>
      simp only [Bool.false_eq_true, and_false, if_false]
      rw [if_neg (by decide)]
      refine RunH.of_vc gOk Tryz.func22 rfl rfl (Nat.le_of_ble_eq_true rfl) (by repeat' (first | exact trivial | exact ⟨_, rfl, Nat.le_refl _⟩ | exact Nat.le_of_ble_eq_true rfl | refine And.intro ?_ ?_)) (Nat.le_of_ble_eq_true rfl) rfl (fun F hE hA => ?_)
      repeat' (first | exact trivial | refine BS.d (fun h => ?_) (fun h => ?_) | refine BS.e (fun h => ?_) (fun h => ?_) | refine BS.ne (fun h => ?_) (fun h => ?_) | refine BS.n ?_ | refine BS.s (fun h => ?_) (fun h => ?_) | refine And.intro ?_ ?_ | (refine Need.mk ?_; first | with_reducible rfl | (show @Eq TC _ _; rfl) | omega | (simp only [adN_zero]; omega)) | exact OutS.whole rfl rfl | (refine OpK.call c1 rfl rfl rfl rfl hE ?_ rfl rfl ?_; focus ((repeat' (first | exact PsA.lit _ | exact PsA.ref rfl rfl | constructor)); all_goals (fail "ps"))) | (refine OpK.callH c2 hA rfl rfl rfl rfl hE ?_ rfl rfl ?_; focus ((repeat' (first | exact PsA.lit _ | exact PsA.ref rfl rfl | constructor)); all_goals (fail "ps"))) | (refine OpK.call c3 rfl rfl rfl rfl hE ?_ rfl rfl ?_; focus ((repeat' (first | exact PsA.lit _ | exact PsA.ref rfl rfl | constructor)); all_goals (fail "ps"))) | refine ListO.go gOk hE ?_)
      all_goals first | exact Need.mk rfl | exact OutS.whole rfl rfl | (exfalso; omega) | trace_state
  · rw [dcB_false hm] at c2 ⊢
    simp only [Bool.false_eq_true, false_and, if_false]
    rw [if_neg (by decide)]
    refine RunH.of_vc gOk Tryz.func22 rfl rfl (Nat.le_of_ble_eq_true rfl) (by repeat' (first | exact trivial | exact ⟨_, rfl, Nat.le_refl _⟩ | exact Nat.le_of_ble_eq_true rfl | refine And.intro ?_ ?_)) (Nat.le_of_ble_eq_true rfl) rfl (fun F hE hA => ?_)
    repeat' (first | exact trivial | refine BS.d (fun h => ?_) (fun h => ?_) | refine BS.e (fun h => ?_) (fun h => ?_) | refine BS.ne (fun h => ?_) (fun h => ?_) | refine BS.n ?_ | refine BS.s (fun h => ?_) (fun h => ?_) | refine And.intro ?_ ?_ | (refine Need.mk ?_; first | with_reducible rfl | (show @Eq TC _ _; rfl) | omega | (simp only [adN_zero]; omega)) | exact OutS.whole rfl rfl | (refine OpK.call c1 rfl rfl rfl rfl hE ?_ rfl rfl ?_; focus ((repeat' (first | exact PsA.lit _ | exact PsA.ref rfl rfl | constructor)); all_goals (fail "ps"))) | (refine OpK.callH c2 hA rfl rfl rfl rfl hE ?_ rfl rfl ?_; focus ((repeat' (first | exact PsA.lit _ | exact PsA.ref rfl rfl | constructor)); all_goals (fail "ps"))) | (refine OpK.call c3 rfl rfl rfl rfl hE ?_ rfl rfl ?_; focus ((repeat' (first | exact PsA.lit _ | exact PsA.ref rfl rfl | constructor)); all_goals (fail "ps"))) | refine ListO.go gOk hE ?_)
    all_goals first | exact Need.mk rfl | exact OutS.whole rfl rfl | (exfalso; omega) | trace_state
theorem NextToS_run (e : Nat) (b c : List Int) (g o : List (List Int)) (x n : Int) (h : MmT b c g o) (hn : n ≤ 9223372036854775807) : RunT Tryz.prog 21 [aMm e b c g o, ti x, ti n] [] [.agg [tI (ntL b c g o x n), tI c, tSL 136 g, tSL 136 o], oi (ntC b c g o x n)] [] := by
  have c1 := l9Copy_run e b c g o h.ok
  have c2 := h.S e
  have c3 := l15SomeN_run n
  have hbd := @hs_bd n
  unfold ntL ntC
  generalize hs9 : (decide (n = 0) || hOk n) = hs at *
  by_cases hm : mmP b c g o
  · rw [dcB_true hm] at c2 ⊢
    have c4 := l9Valid_run e b c g o x h hm.1
    have c6 := l19Spot_run e b c g o x hm.1.1.2.1
    have hok := @nsX_ok b c g o x
    cases hs with
    | true =>
      simp only [true_and, if_true]
      by_cases hq : (nsX b c g o x).2 = 0
      · obtain ⟨hv, he, h0, h1⟩ := hok hq
        rw [if_pos hq]
        rw [← he] at c6
        rw [hv] at c4
        rw [hq] at c6 ⊢
        have hbl := hm.1.1.1
        obtain ⟨p, hp⟩ := Int.eq_ofNat_of_zero_le h0
        rw [hp] at c6 h1 ⊢
        have hb9 := hbd rfl
        have c5 := l3Store_run b (p + 6) 4 n (by omega) (by omega) (by omega) hb9.1 hn
        have hpl := putL_len b (p + 6) (fxd 4 n) 4
        rw [show ((p : Int) + 6).toNat = p + 6 by omega]
        generalize putL b (p + 6) (fxd 4 n) 4 = nb at *
        rw [show (((p + 6 : Nat) : Int)) = (p : Int) + 6 by omega] at c5
        refine RunT.of_vc gOk Tryz.func21 rfl rfl (Nat.le_of_ble_eq_true rfl) (by repeat' (first | exact trivial | exact ⟨_, rfl, Nat.le_refl _⟩ | exact Nat.le_of_ble_eq_true rfl | refine And.intro ?_ ?_)) (Nat.le_of_ble_eq_true rfl) rfl (fun F hE => ?_)
        repeat' (first | exact trivial | refine BS.d (fun h => ?_) (fun h => ?_) | refine BS.e (fun h => ?_) (fun h => ?_) | refine BS.ne (fun h => ?_) (fun h => ?_) | refine BS.n ?_ | refine BS.s (fun h => ?_) (fun h => ?_) | refine And.intro ?_ ?_ | (refine Need.mk ?_; first | with_reducible rfl | (show @Eq TC _ _; rfl) | omega | (simp only [adN_zero]; omega)) | exact OutS.whole rfl rfl | (refine OpK.call c1 rfl rfl rfl rfl hE ?_ rfl rfl ?_; focus ((repeat' (first | exact PsA.lit _ | exact PsA.ref rfl rfl | constructor)); all_goals (fail "ps"))) | (refine OpK.call c2 rfl rfl rfl rfl hE ?_ rfl rfl ?_; focus ((repeat' (first | exact PsA.lit _ | exact PsA.ref rfl rfl | constructor)); all_goals (fail "ps"))) | (refine OpK.call c3 rfl rfl rfl rfl hE ?_ rfl rfl ?_; focus ((repeat' (first | exact PsA.lit _ | exact PsA.ref rfl rfl | constructor)); all_goals (fail "ps"))) | (refine OpK.call c4 rfl rfl rfl rfl hE ?_ rfl rfl ?_; focus ((repeat' (first | exact PsA.lit _ | exact PsA.ref rfl rfl | constructor)); all_goals (fail "ps"))) | (refine OpK.call c6 rfl rfl rfl rfl hE ?_ rfl rfl ?_; focus ((repeat' (first | exact PsA.lit _ | exact PsA.ref rfl rfl | constructor)); all_goals (fail "ps"))) | (refine OpK.callM 2001536 0 0 c5 rfl rfl rfl rfl hE rfl (QsVs.cons (.one (.m rfl rfl (.whole rfl rfl))) (.cons (.one (.c (.lit _) rfl)) (.cons (.one (.c (.lit _) rfl)) (.cons (.one (.c (.lit _) rfl)) .nil)))) rfl rfl ?_) | refine ListO.go gOk hE ?_)
        all_goals first | exact Need.mk rfl | exact OutS.whole rfl rfl | exact OutS.whole hpl.symm rfl | (exfalso; omega) | trace_state
      · rw [if_neg hq]
        unfold nsX at hq ⊢
        cases hv : vlB b c g o x with
        | true =>
          rw [hv] at c4 hq
          rw [if_pos rfl] at hq ⊢
          generalize ndX c x = r at *
          obtain ⟨r1, r2⟩ := r
          dsimp only at *
          refine RunT.of_vc gOk Tryz.func21 rfl rfl (Nat.le_of_ble_eq_true rfl) (by repeat' (first | exact trivial | exact ⟨_, rfl, Nat.le_refl _⟩ | exact Nat.le_of_ble_eq_true rfl | refine And.intro ?_ ?_)) (Nat.le_of_ble_eq_true rfl) rfl (fun F hE => ?_)
          repeat' (first | exact trivial | refine BS.d (fun h => ?_) (fun h => ?_) | refine BS.e (fun h => ?_) (fun h => ?_) | refine BS.ne (fun h => ?_) (fun h => ?_) | refine BS.n ?_ | refine BS.s (fun h => ?_) (fun h => ?_) | refine And.intro ?_ ?_ | (refine Need.mk ?_; first | with_reducible rfl | (show @Eq TC _ _; rfl) | omega | (simp only [adN_zero]; omega)) | exact OutS.whole rfl rfl | (refine OpK.call c1 rfl rfl rfl rfl hE ?_ rfl rfl ?_; focus ((repeat' (first | exact PsA.lit _ | exact PsA.ref rfl rfl | constructor)); all_goals (fail "ps"))) | (refine OpK.call c2 rfl rfl rfl rfl hE ?_ rfl rfl ?_; focus ((repeat' (first | exact PsA.lit _ | exact PsA.ref rfl rfl | constructor)); all_goals (fail "ps"))) | (refine OpK.call c3 rfl rfl rfl rfl hE ?_ rfl rfl ?_; focus ((repeat' (first | exact PsA.lit _ | exact PsA.ref rfl rfl | constructor)); all_goals (fail "ps"))) | (refine OpK.call c4 rfl rfl rfl rfl hE ?_ rfl rfl ?_; focus ((repeat' (first | exact PsA.lit _ | exact PsA.ref rfl rfl | constructor)); all_goals (fail "ps"))) | (refine OpK.call c6 rfl rfl rfl rfl hE ?_ rfl rfl ?_; focus ((repeat' (first | exact PsA.lit _ | exact PsA.ref rfl rfl | constructor)); all_goals (fail "ps"))) | refine ListO.go gOk hE ?_)
          all_goals first | exact Need.mk rfl | exact OutS.whole rfl rfl | (exfalso; omega) | (exfalso; simp_all; done) | trace_state
        | false =>
          rw [hv] at c4
          rw [if_neg (by decide)]
          refine RunT.of_vc gOk Tryz.func21 rfl rfl (Nat.le_of_ble_eq_true rfl) (by repeat' (first | exact trivial | exact ⟨_, rfl, Nat.le_refl _⟩ | exact Nat.le_of_ble_eq_true rfl | refine And.intro ?_ ?_)) (Nat.le_of_ble_eq_true rfl) rfl (fun F hE => ?_)
          repeat' (first | exact trivial | refine BS.d (fun h => ?_) (fun h => ?_) | refine BS.e (fun h => ?_) (fun h => ?_) | refine BS.ne (fun h => ?_) (fun h => ?_) | refine BS.n ?_ | refine BS.s (fun h => ?_) (fun h => ?_) | refine And.intro ?_ ?_ | (refine Need.mk ?_; first | with_reducible rfl | (show @Eq TC _ _; rfl) | omega | (simp only [adN_zero]; omega)) | exact OutS.whole rfl rfl | (refine OpK.call c1 rfl rfl rfl rfl hE ?_ rfl rfl ?_; focus ((repeat' (first | exact PsA.lit _ | exact PsA.ref rfl rfl | constructor)); all_goals (fail "ps"))) | (refine OpK.call c2 rfl rfl rfl rfl hE ?_ rfl rfl ?_; focus ((repeat' (first | exact PsA.lit _ | exact PsA.ref rfl rfl | constructor)); all_goals (fail "ps"))) | (refine OpK.call c3 rfl rfl rfl rfl hE ?_ rfl rfl ?_; focus ((repeat' (first | exact PsA.lit _ | exact PsA.ref rfl rfl | constructor)); all_goals (fail "ps"))) | (refine OpK.call c4 rfl rfl rfl rfl hE ?_ rfl rfl ?_; focus ((repeat' (first | exact PsA.lit _ | exact PsA.ref rfl rfl | constructor)); all_goals (fail "ps"))) | refine ListO.go gOk hE ?_)
          all_goals first | exact Need.mk rfl | exact OutS.whole rfl rfl | (exfalso; omega) | trace_state
    | false =>
      simp only [Bool.false_eq_true, and_false, if_false]
      rw [if_neg (by decide)]
      refine RunT.of_vc gOk Tryz.func21 rfl rfl (Nat.le_of_ble_eq_true rfl) (by repeat' (first | exact trivial | exact ⟨_, rfl, Nat.le_refl _⟩ | exact Nat.le_of_ble_eq_true rfl | refine And.intro ?_ ?_)) (Nat.le_of_ble_eq_true rfl) rfl (fun F hE => ?_)
      repeat' (first | exact trivial | refine BS.d (fun h => ?_) (fun h => ?_) | refine BS.e (fun h => ?_) (fun h => ?_) | refine BS.ne (fun h => ?_) (fun h => ?_) | refine BS.n ?_ | refine BS.s (fun h => ?_) (fun h => ?_) | refine And.intro ?_ ?_ | (refine Need.mk ?_; first | with_reducible rfl | (show @Eq TC _ _; rfl) | omega | (simp only [adN_zero]; omega)) | exact OutS.whole rfl rfl | (refine OpK.call c1 rfl rfl rfl rfl hE ?_ rfl rfl ?_; focus ((repeat' (first | exact PsA.lit _ | exact PsA.ref rfl rfl | constructor)); all_goals (fail "ps"))) | (refine OpK.call c2 rfl rfl rfl rfl hE ?_ rfl rfl ?_; focus ((repeat' (first | exact PsA.lit _ | exact PsA.ref rfl rfl | constructor)); all_goals (fail "ps"))) | (refine OpK.call c3 rfl rfl rfl rfl hE ?_ rfl rfl ?_; focus ((repeat' (first | exact PsA.lit _ | exact PsA.ref rfl rfl | constructor)); all_goals (fail "ps"))) | refine ListO.go gOk hE ?_)
      all_goals first | exact Need.mk rfl | exact OutS.whole rfl rfl | (exfalso; omega) | trace_state
  · rw [dcB_false hm] at c2 ⊢
    simp only [Bool.false_eq_true, false_and, if_false]
    rw [if_neg (by decide)]
    refine RunT.of_vc gOk Tryz.func21 rfl rfl (Nat.le_of_ble_eq_true rfl) (by repeat' (first | exact trivial | exact ⟨_, rfl, Nat.le_refl _⟩ | exact Nat.le_of_ble_eq_true rfl | refine And.intro ?_ ?_)) (Nat.le_of_ble_eq_true rfl) rfl (fun F hE => ?_)
    repeat' (first | exact trivial | refine BS.d (fun h => ?_) (fun h => ?_) | refine BS.e (fun h => ?_) (fun h => ?_) | refine BS.ne (fun h => ?_) (fun h => ?_) | refine BS.n ?_ | refine BS.s (fun h => ?_) (fun h => ?_) | refine And.intro ?_ ?_ | (refine Need.mk ?_; first | with_reducible rfl | (show @Eq TC _ _; rfl) | omega | (simp only [adN_zero]; omega)) | exact OutS.whole rfl rfl | (refine OpK.call c1 rfl rfl rfl rfl hE ?_ rfl rfl ?_; focus ((repeat' (first | exact PsA.lit _ | exact PsA.ref rfl rfl | constructor)); all_goals (fail "ps"))) | (refine OpK.call c2 rfl rfl rfl rfl hE ?_ rfl rfl ?_; focus ((repeat' (first | exact PsA.lit _ | exact PsA.ref rfl rfl | constructor)); all_goals (fail "ps"))) | (refine OpK.call c3 rfl rfl rfl rfl hE ?_ rfl rfl ?_; focus ((repeat' (first | exact PsA.lit _ | exact PsA.ref rfl rfl | constructor)); all_goals (fail "ps"))) | refine ListO.go gOk hE ?_)
    all_goals first | exact Need.mk rfl | exact OutS.whole rfl rfl | (exfalso; omega) | trace_state
end Go.Proofs.YtpmhkpmkmbkjbaaGreatDoor
end
