/- A row of pins that came in. -/
import Derived.Test.YtbdegnamlmabbabCk8
namespace Go.Proofs.Ytbdegnamlmabbab
open Go Go.Tr
set_option linter.unusedVariables false
set_option linter.unusedSimpArgs false
theorem pins_of {n : Nat} {row : Nat → Nat → C} (h : ∀ i r d, i < n → ([.b, .i, .b, .i] : List Dt)[r]? = some d → DtOk d (row i r)) : ∃ ps : Nat → Pn, ∀ i r, i < n → r < 4 → row i r = pinC (ps i) r := by
  have hg : ∀ i, ∃ p : Pn, i < n → ∀ r, r < 4 → row i r = pinC p r := by
    intro i
    by_cases hi : i < n
    · obtain ⟨x0, h0⟩ := (h i 0 .b hi rfl).bool
      obtain ⟨x1, h1, _⟩ := (h i 1 .i hi rfl).int
      obtain ⟨x2, h2⟩ := (h i 2 .b hi rfl).bool
      obtain ⟨x3, h3, _⟩ := (h i 3 .i hi rfl).int
      refine ⟨(x0, x1, x2, x3), fun _ r hr => ?_⟩
      rcases r with _ | _ | _ | _ | r
      · exact h0
      · exact h1
      · exact h2
      · exact h3
      · omega
    · exact ⟨(false, 0, false, 0), fun h => absurd h hi⟩
  exact ⟨fun i => (hg i).choose, fun i r hi hr => (hg i).choose_spec hi r hr⟩
theorem szClock_ok (E : Int) (n e : Nat) (row : Nat → Nat → C) (hb : n ≤ 1048576) :
    Run Try.prog 20 [.agg [.c (.lit (.int .i64 E)), .c (.sl .fro e 4 n row)], .one (.c (.lit (.int .i64 1048576)))] [] fun outs ext => outs = [.one (.lit (.int .i64 (1048576 - (n : Int))))] ∧ ext = [] := by
  have := szClock_run E n e row 1048576 (by omega) (by omega)
  rwa [if_pos (by omega)] at this
theorem szClock_no (E : Int) (n e : Nat) (row : Nat → Nat → C) (hb : ¬ n ≤ 1048576) (hn : n ≤ 9223372036854775807) :
    Run Try.prog 20 [.agg [.c (.lit (.int .i64 E)), .c (.sl .fro e 4 n row)], .one (.c (.lit (.int .i64 1048576)))] [] fun outs ext => outs = [.one (.lit (.int .i64 (-1)))] ∧ ext = [] := by
  have := szClock_run E n e row 1048576 (by omega) hn
  rwa [if_neg (by omega)] at this
end Go.Proofs.Ytbdegnamlmabbab
