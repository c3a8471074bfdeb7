/- The smaller of two numbers. -/
import Derived.Test.YtlnlogflhagocaaVS
set_option linter.unusedVariables false
set_option linter.unusedSimpArgs false
namespace Go.Tr
open Go Go.RowKit
section
variable {P : Program} {F : Fm} {N : Nat} {o : Oper} {σ : TS} {k : TS → Prop}
theorem OpK.min {t t' : Nat} {x y : Operand} {i j : Int} (hop : o.op = .call { callee := .builtin .min, args := #[x, y], argTypes := #[t, t'] }) (hg : o.guard = none) (hd : okD N o.dst = true) (hx : evS σ x = .a (.lit (.int .i64 i))) (hy : evS σ y = .a (.lit (.int .i64 j)))
    (h : stO o σ (.a (.lit (.int .i64 (if j < i then j else i)))) k) : OpK P F N o σ k :=
  ⟨fun ops Q rest kk => AL.val hg hd (fun a w ω β hr => by
    have h1 : a.eval x = .int .i64 i := ev_lit hr (by rw [evS_eq, hx]; rfl)
    have h2 : a.eval y = .int .i64 j := ev_lit hr (by rw [evS_eq, hy]; rfl)
    refine ⟨.int .i64 (if j < i then j else i), ?_, VRel.lit rfl⟩
    generalize a.eval = ρ at h1 h2 ⊢
    simp [execOp, hop, go_sem, h1, h2, resolve, invoke, builtin, Builtin.min_, Builtin.min2]) (stO_ok hd kk h)⟩
end
end Go.Tr
