import Derived.Test.YtpmhkpmkmbkjbaaGreatDoorZA
namespace Go.Proofs.YtpmhkpmkmbkjbaaGreatDoor
open Go Go.Tr
set_option maxRecDepth 100000
set_option maxHeartbeats 4000000
set_option linter.unusedVariables false
set_option linter.unusedSimpArgs false
/-- All of the first n have the property. -/
noncomputable def allP (n : Nat) (p : Nat → Prop) : Bool := @decide (∀ j, j < n → p j) (Classical.propDecidable _)
theorem allP_false {n i : Nat} {p : Nat → Prop} (hi : i < n) (h : ¬ p i) : allP n p = false := by
  unfold allP; exact @decide_eq_false _ (Classical.propDecidable _) (fun k => h (k i hi))
theorem allP_true {n : Nat} {p : Nat → Prop} (h : ∀ j, j < n → p j) : allP n p = true := by
  unfold allP; exact @decide_eq_true _ (Classical.propDecidable _) h
end Go.Proofs.YtpmhkpmkmbkjbaaGreatDoor
