/- Sizes of two clocks. -/
import Derived.Test.YtbdegnamlmabbabCkL
import Derived.Test.YtbdegnamlmabbabCkF
namespace Go.Proofs.Ytbdegnamlmabbab
open Go Go.Tr
theorem szClock_ok2 (E : Int) (n e : Nat) (row : Nat → Nat → C) (left : Int) (hl : 0 ≤ left ∧ left ≤ 1048576) (hb : (n : Int) ≤ left) :
    Run Try.prog 20 [.agg [.c (.lit (.int .i64 E)), .c (.sl .fro e 4 n row)], .one (.c (.lit (.int .i64 left)))] [] fun outs ext => outs = [.one (.lit (.int .i64 (left - (n : Int))))] ∧ ext = [] := by
  have := szClock_run E n e row left hl (by omega)
  rwa [if_pos (by omega)] at this
theorem szClock_no2 (E : Int) (n e : Nat) (row : Nat → Nat → C) (left : Int) (hl : 0 ≤ left ∧ left ≤ 1048576) (hb : ¬ (n : Int) ≤ left) (hn : n ≤ 9223372036854775807) :
    Run Try.prog 20 [.agg [.c (.lit (.int .i64 E)), .c (.sl .fro e 4 n row)], .one (.c (.lit (.int .i64 left)))] [] fun outs ext => outs = [.one (.lit (.int .i64 (-1)))] ∧ ext = [] := by
  have := szClock_run E n e row left hl hn
  rwa [if_neg (by omega)] at this
end Go.Proofs.Ytbdegnamlmabbab
