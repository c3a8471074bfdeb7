import Derived.Test.YtbfkdbbgbdihdabDoorMBi
import Derived.Test.YtbfkdbbgbdihdabDoorVP
namespace Go.Proofs.YtbfkdbbgbdihdabDoor
open Go Go.Tr
set_option maxRecDepth 100000
set_option linter.unusedVariables false
set_option linter.unusedSimpArgs false
theorem ints_of {e n : Nat} {row : Nat → Nat → C} (hn : n ≤ 9223372036854775807) (h : ∀ i r t, i < n → ([Dt.i] : List Dt)[r]? = some t → DtOk t (row i r)) : ∃ xs : List Int, xs.length = n ∧ (∀ x ∈ xs, -9223372036854775808 ≤ x ∧ x ≤ 9223372036854775807) ∧ CSame (.sl .fro e 1 n row) ((tI xs).er .fro) :=
  list_of decI 0 1 (fun f hf => by
    obtain ⟨z, hz, h1, h2⟩ := (hf 0 .i rfl).int
    refine ⟨z, ⟨h1, h2⟩, fun r hr => ?_⟩
    obtain rfl : r = 0 := by omega
    rw [hz]; exact rfl) h
end Go.Proofs.YtbfkdbbgbdihdabDoor
