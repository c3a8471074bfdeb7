import Derived.Test.YtnfjpjgmhhmdeaaGreatDoorZKSB
/- Jobs of an argument, with bounds. -/
namespace Go.Proofs.YtnfjpjgmhhmdeaaGreatDoor
open Go Go.Tr
set_option maxRecDepth 100000
set_option maxHeartbeats 4000000
set_option linter.unusedVariables false
set_option linter.unusedSimpArgs false
theorem JobsB_of {e e' n : Nat} {row : Nat → Nat → C} (hn : n ≤ 9223372036854775807) (h : ∀ i r t, i < n → ([Dt.b, Dt.i, Dt.i, Dt.i, Dt.i, Dt.i, Dt.i, Dt.i, Dt.i, Dt.i, Dt.i, Dt.i, Dt.i, Dt.i, Dt.i, Dt.i, Dt.b, Dt.i, Dt.i, Dt.i, Dt.i] : List Dt)[r]? = some t → DtOk t (row i r)) : ∃ xs : List JobT, xs.length = n ∧ (∀ x ∈ xs, hJ x ≤ 9223372036854775807 ∧ oJ x ≤ 9223372036854775807) ∧ CSame (.sl .fro e 21 n row) ((tJob e' xs).er .fro) :=
  list_of decJob zJob 21 (fun f hf => by
    obtain ⟨z0, hz0⟩ := (hf 0 .b rfl).bool
    obtain ⟨z1, hz1, _⟩ := (hf 1 .i rfl).int
    obtain ⟨z2, hz2, _⟩ := (hf 2 .i rfl).int
    obtain ⟨z3, hz3, _⟩ := (hf 3 .i rfl).int
    obtain ⟨z4, hz4, _⟩ := (hf 4 .i rfl).int
    obtain ⟨z5, hz5, _⟩ := (hf 5 .i rfl).int
    obtain ⟨z6, hz6, _⟩ := (hf 6 .i rfl).int
    obtain ⟨z7, hz7, _⟩ := (hf 7 .i rfl).int
    obtain ⟨z8, hz8, _⟩ := (hf 8 .i rfl).int
    obtain ⟨z9, hz9, _⟩ := (hf 9 .i rfl).int
    obtain ⟨z10, hz10, _⟩ := (hf 10 .i rfl).int
    obtain ⟨z11, hz11, _⟩ := (hf 11 .i rfl).int
    obtain ⟨z12, hz12, _⟩ := (hf 12 .i rfl).int
    obtain ⟨z13, hz13, _⟩ := (hf 13 .i rfl).int
    obtain ⟨z14, hz14, _⟩ := (hf 14 .i rfl).int
    obtain ⟨z15, hz15, _⟩ := (hf 15 .i rfl).int
    obtain ⟨z16, hz16⟩ := (hf 16 .b rfl).bool
    obtain ⟨z17, hz17, hb17⟩ := (hf 17 .i rfl).int
    obtain ⟨z18, hz18, hb18⟩ := (hf 18 .i rfl).int
    obtain ⟨z19, hz19, _⟩ := (hf 19 .i rfl).int
    obtain ⟨z20, hz20, _⟩ := (hf 20 .i rfl).int
    refine ⟨(z0, z1, z2, z3, z4, z5, z6, z7, z8, z9, z10, z11, z12, z13, z14, z15, z16, z17, z18, z19, z20)  , ⟨hb17.2, hb18.2⟩, fun r hr => ?_⟩
    match r, hr with
    | 0, _ => rw [hz0]; exact rfl
    | 1, _ => rw [hz1]; exact rfl
    | 2, _ => rw [hz2]; exact rfl
    | 3, _ => rw [hz3]; exact rfl
    | 4, _ => rw [hz4]; exact rfl
    | 5, _ => rw [hz5]; exact rfl
    | 6, _ => rw [hz6]; exact rfl
    | 7, _ => rw [hz7]; exact rfl
    | 8, _ => rw [hz8]; exact rfl
    | 9, _ => rw [hz9]; exact rfl
    | 10, _ => rw [hz10]; exact rfl
    | 11, _ => rw [hz11]; exact rfl
    | 12, _ => rw [hz12]; exact rfl
    | 13, _ => rw [hz13]; exact rfl
    | 14, _ => rw [hz14]; exact rfl
    | 15, _ => rw [hz15]; exact rfl
    | 16, _ => rw [hz16]; exact rfl
    | 17, _ => rw [hz17]; exact rfl
    | 18, _ => rw [hz18]; exact rfl
    | 19, _ => rw [hz19]; exact rfl
    | 20, _ => rw [hz20]; exact rfl
    | r + 21, hr => exact absurd hr (by omega)
    ) h
end Go.Proofs.YtnfjpjgmhhmdeaaGreatDoor
