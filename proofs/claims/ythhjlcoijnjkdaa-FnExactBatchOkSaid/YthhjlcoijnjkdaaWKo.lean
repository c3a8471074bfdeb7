import Derived.Test.YthhjlcoijnjkdaaWA
namespace Go.Proofs.Ythhjlcoijnjkdaa
open Go Go.Tr
set_option maxRecDepth 100000
set_option maxHeartbeats 1000000
set_option linter.unusedVariables false
set_option linter.unusedSimpArgs false
theorem keyOk_run (x : Int) : RunT Try.prog 61 [ti x] [] [ob (decide (0 ≤ x ∧ x ≤ 99))] [] := by
  refine RunT.of_vc gOk Try.func61 rfl rfl (Nat.le_of_ble_eq_true rfl) (by repeat' (first | exact trivial | exact ⟨_, rfl, Nat.le_refl _⟩ | exact Nat.le_of_ble_eq_true rfl | refine And.intro ?_ ?_)) (Nat.le_of_ble_eq_true rfl) rfl (fun F hE => ?_)
  repeat' (first | exact trivial | refine BS.d (fun h => ?_) (fun h => ?_) | refine BS.e (fun h => ?_) (fun h => ?_) | refine BS.ne (fun h => ?_) (fun h => ?_) | refine BS.n ?_ | refine BS.s (fun h => ?_) (fun h => ?_) | refine And.intro ?_ ?_ | (refine Need.mk ?_; first | with_reducible rfl | (show @Eq TC _ _; rfl) | omega | (simp only [adN_zero]; omega)) | exact OutS.whole rfl rfl)
  all_goals (refine Need.mk ?_; first | rfl | (symm; apply decide_eq_true; omega) | (symm; apply decide_eq_false; omega) | (apply decide_eq_decide.2; omega) | (simp only [beq_iff_eq, Bool.beq_eq_decide_eq] at *; apply decide_eq_decide.2; omega) | (simp; omega))
theorem valOk_run (x : Int) : RunT Try.prog 62 [ti x] [] [ob (decide (0 ≤ x ∧ x ≤ 65535))] [] := by
  refine RunT.of_vc gOk Try.func62 rfl rfl (Nat.le_of_ble_eq_true rfl) (by repeat' (first | exact trivial | exact ⟨_, rfl, Nat.le_refl _⟩ | exact Nat.le_of_ble_eq_true rfl | refine And.intro ?_ ?_)) (Nat.le_of_ble_eq_true rfl) rfl (fun F hE => ?_)
  repeat' (first | exact trivial | refine BS.d (fun h => ?_) (fun h => ?_) | refine BS.e (fun h => ?_) (fun h => ?_) | refine BS.ne (fun h => ?_) (fun h => ?_) | refine BS.n ?_ | refine BS.s (fun h => ?_) (fun h => ?_) | refine And.intro ?_ ?_ | (refine Need.mk ?_; first | with_reducible rfl | (show @Eq TC _ _; rfl) | omega | (simp only [adN_zero]; omega)) | exact OutS.whole rfl rfl)
  all_goals (refine Need.mk ?_; first | rfl | (symm; apply decide_eq_true; omega) | (symm; apply decide_eq_false; omega) | (apply decide_eq_decide.2; omega) | (simp only [beq_iff_eq, Bool.beq_eq_decide_eq] at *; apply decide_eq_decide.2; omega) | (simp; omega))
end Go.Proofs.Ythhjlcoijnjkdaa
