import Derived.Test.YtkafibaoikmccaaWA
import Derived.Test.YtkafibaoikmccaaVS
namespace Go.Proofs.Ytkafibaoikmccaa
open Go Go.Tr
set_option maxRecDepth 100000
set_option linter.unusedVariables false
set_option linter.unusedSimpArgs false
set_option maxHeartbeats 4000000
theorem Op_eq (p q : OpT) (w : World) : (Op.equalIn 10000 40 (.agg (vOp p).toArray) (.agg (vOp q).toArray)).run Try.prog w = .ok (decide (p = q)) w := by
  have u3 := Try.underlying3
  obtain ⟨p0, p1, p2, p3⟩ := p
  obtain ⟨q0, q1, q2, q3⟩ := q
  have hS : Try.prog.underlying 40 = some (.struct (Try.prog.fieldsOf 40)) := by kernel_rfl
  rw [show (10000 : Nat) = 9999 + 1 from rfl, run_equalIn_agg w 9999 40 _ _ hS (by kernel_rfl)]
  simp only [Program.fieldsOf, Try.underlying40]
  go_simp
  by_cases h0 : p0 = q0 <;> by_cases h1 : p1 = q1 <;> by_cases h2 : p2 = q2 <;> by_cases h3 : p3 = q3 <;> simp [h0, h1, h2, h3]
end Go.Proofs.Ytkafibaoikmccaa
