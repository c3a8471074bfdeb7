import Derived.Test.YtkafibaoikmccabWA
import Derived.Test.YtkafibaoikmccabVS
namespace Go.Proofs.Ytkafibaoikmccab
open Go Go.Tr
set_option maxRecDepth 100000
set_option linter.unusedVariables false
set_option linter.unusedSimpArgs false
set_option maxHeartbeats 4000000
theorem KV_eq (p q : KVT) (w : World) : (Op.equalIn 10000 68 (.agg (vKV p).toArray) (.agg (vKV q).toArray)).run Try.prog w = .ok (decide (p = q)) w := by
  have u3 := Try.underlying3
  obtain ⟨p0, p1⟩ := p
  obtain ⟨q0, q1⟩ := q
  have hS : Try.prog.underlying 68 = some (.struct (Try.prog.fieldsOf 68)) := by kernel_rfl
  rw [show (10000 : Nat) = 9999 + 1 from rfl, run_equalIn_agg w 9999 68 _ _ hS (by kernel_rfl)]
  simp only [Program.fieldsOf, Try.underlying68]
  go_simp
  by_cases h0 : p0 = q0 <;> by_cases h1 : p1 = q1 <;> simp [h0, h1]
end Go.Proofs.Ytkafibaoikmccab
