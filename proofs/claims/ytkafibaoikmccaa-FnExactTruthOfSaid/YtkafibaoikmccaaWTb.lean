import Derived.Test.YtkafibaoikmccaaWTa
namespace Go.Proofs.Ytkafibaoikmccaa
open Go Go.Tr
set_option maxRecDepth 100000
set_option maxHeartbeats 4000000
set_option linter.unusedVariables false
set_option linter.unusedSimpArgs false
abbrev trueT (t r s : EvT) : Prop := (t.2.2.2.2.2.2 ≠ 0 ∨ (s.2.2.2.2.1 ≠ 0 ∧ s.2.2.2.2.1 = r.2.2.2.2.1 ∧ s.2.2.2.2.2.1 = t.2.2.2.2.2.1)) ∧ (t.2.2.2.2.2.2 ≠ 8 ∨ (s.2.2.2.2.1 = 0 ∧ r.2.2.2.2.1 = 0))
/-- What is told at place i is true. -/
def pt (xs : List EvT) (i : Nat) : Prop := (xs.getD i zEv).1 = 4 → ∀ k, lastP (pr xs (xs.getD i zEv).2.2.1) i = some k → trueT (xs.getD i zEv) (xs.getD k zEv) (cellAt xs k (xs.getD k zEv).2.2.2.1)
theorem trueTell_run (t r s : EvT) : RunT Try.prog 60 [aEv t, aEv r, aEv s] [] [ob (decide (trueT t r s))] [] := by
  refine RunT.of_vc gOk Try.func60 rfl rfl (Nat.le_of_ble_eq_true rfl) (by repeat' (first | exact trivial | exact ⟨_, rfl, Nat.le_refl _⟩ | exact Nat.le_of_ble_eq_true rfl | refine And.intro ?_ ?_)) (Nat.le_of_ble_eq_true rfl) rfl (fun F hE => ?_)
  repeat' (first | exact trivial | refine BS.d (fun h => ?_) (fun h => ?_) | refine BS.e (fun h => ?_) (fun h => ?_) | refine BS.ne (fun h => ?_) (fun h => ?_) | refine BS.n ?_ | refine BS.s (fun h => ?_) (fun h => ?_) | refine And.intro ?_ ?_ | (refine Need.mk ?_; first | with_reducible rfl | (show @Eq TC _ _; rfl) | omega | (simp only [adN_zero]; omega)) | exact OutS.whole rfl rfl)
  all_goals first | (refine Need.mk ?_; first | rfl | (symm; apply decide_eq_true; omega) | (symm; apply decide_eq_false; omega) | (apply decide_eq_decide.2; omega) | (simp only [beq_iff_eq, Bool.beq_eq_decide_eq] at *; apply decide_eq_decide.2; omega) | (simp; omega)) | (refine Need.mk ?_; simp_all; done) | (refine Need.mk ?_; simp_all; omega)
end Go.Proofs.Ytkafibaoikmccaa
