import Derived.Test.YthhjlcoijnjkdaaWA
namespace Go.Proofs.Ythhjlcoijnjkdaa
open Go Go.Tr
set_option maxRecDepth 100000
set_option linter.unusedVariables false
set_option linter.unusedSimpArgs false
theorem l1In_run (x a b : Int) : RunT Try.prog 34 [ti x, ti a, ti b] [] [ob (decide (a ≤ x ∧ x ≤ b))] [] := by
  refine RunT.of_vc gOk Try.func34 rfl rfl (Nat.le_of_ble_eq_true rfl) (by repeat' (first | exact trivial | exact ⟨_, rfl, Nat.le_refl _⟩ | exact Nat.le_of_ble_eq_true rfl | refine And.intro ?_ ?_)) (Nat.le_of_ble_eq_true rfl) rfl (fun F hE => ?_)
  repeat' (first | exact trivial | refine BS.d (fun h => ?_) (fun h => ?_) | refine BS.e (fun h => ?_) (fun h => ?_) | refine BS.ne (fun h => ?_) (fun h => ?_) | refine BS.n ?_ | refine BS.s (fun h => ?_) (fun h => ?_) | refine And.intro ?_ ?_ | (refine Need.mk ?_; first | with_reducible rfl | (show @Eq TC _ _; rfl) | omega | (simp only [adN_zero]; omega)) | exact OutS.whole rfl rfl)
  all_goals (refine Need.mk ?_; simp [*])
/-- Is this number a handle? -/
def hOk (h : Int) : Bool := decide (32 ≤ h ∧ h ≤ 223 ∧ h % 32 < 24)
def hSlot (h : Int) : Int := if hOk h then h % 32 else -1
def hSome (h : Int) : Bool := decide (h = 0) || hOk h
end Go.Proofs.Ythhjlcoijnjkdaa
