import Derived.Test.YtbfkdbbgbdihdaaLMC
namespace Go.Proofs.Ytbfkdbbgbdihdaa
open Go Go.Tr
set_option maxRecDepth 100000
set_option linter.unusedVariables false
set_option linter.unusedSimpArgs false
theorem rows_of {e e' n : Nat} {row : Nat → Nat → C} (hn : n ≤ 9223372036854775807) (h : ∀ i r t, i < n → ([Dt.i, Dt.i] : List Dt)[r]? = some t → DtOk t (row i r)) : ∃ xs : List Row, xs.length = n ∧ (∀ x ∈ xs, (-9223372036854775808 ≤ x.1 ∧ x.1 ≤ 9223372036854775807) ∧ -9223372036854775808 ≤ x.2 ∧ x.2 ≤ 9223372036854775807) ∧ CSame (.sl .fro e 2 n row) ((tR e' xs).er .fro) :=
  list_of decR (0, 0) 2 (fun f hf => by
    obtain ⟨z, hz, h1, h2⟩ := (hf 0 .i rfl).int
    obtain ⟨y, hy, h3, h4⟩ := (hf 1 .i rfl).int
    refine ⟨(z, y), ⟨⟨h1, h2⟩, h3, h4⟩, fun r hr => ?_⟩
    match r, hr with
    | 0, _ => rw [hz]; exact rfl
    | 1, _ => rw [hy]; exact rfl) h
theorem llists_of {e e' e2 n : Nat} {row : Nat → Nat → C} (hn : n ≤ 9223372036854775807) (h : ∀ i r t, i < n → ([Dt.sl [.i, .i]] : List Dt)[r]? = some t → DtOk t (row i r)) : ∃ xs : List (List Row), xs.length = n ∧ (∀ x ∈ xs, x.length ≤ 9223372036854775807 ∧ ∀ z ∈ x, (-9223372036854775808 ≤ z.1 ∧ z.1 ≤ 9223372036854775807) ∧ -9223372036854775808 ≤ z.2 ∧ z.2 ≤ 9223372036854775807) ∧ CSame (.sl .fro e 1 n row) ((tLL e2 e' xs).er .fro) :=
  list_of decLL [] 1 (fun f hf => by
    obtain ⟨e3, n2, row2, hz, h1, h2⟩ := (hf 0 (.sl [.i, .i]) rfl).slice
    obtain ⟨xs, k1, k2, k3⟩ := rows_of (e := e3) (e' := e2) h1 h2
    refine ⟨xs, ⟨by omega, k2⟩, fun r hr => ?_⟩
    obtain rfl : r = 0 := by omega
    rw [hz]; exact k3) h
end Go.Proofs.Ytbfkdbbgbdihdaa
