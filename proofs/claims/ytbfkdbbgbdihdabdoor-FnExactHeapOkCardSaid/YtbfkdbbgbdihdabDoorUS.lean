/- Shifts by a constant. -/
import Derived.Test.YtbfkdbbgbdihdabDoorVZ
import Derived.Laws.BitsLemmas
set_option linter.unusedVariables false
set_option linter.unusedSimpArgs false
universe u
namespace Go.Tr
open Go Go.RowKit
section
variable {P : Program} {F : Fm} {N : Nat} {G : Gt} {o : Oper} {τ σ : TS} {k : TS → Prop}
theorem PK.shl8 {t u : Nat} {x y : Operand} {k' : IntKind} {i : Int} {kv : V → Prop} (hop : o.op = .binOp .shl t x y u) (hx : evS σ x = .a (.lit (.int .i64 i))) (hy : evS σ y = .a (.lit (.int k' 8))) (hb : -36028797018963968 ≤ i ∧ i ≤ 36028797018963967)
    (h : kv (.a (.lit (.int .i64 (i * 256))))) : PK P F N o σ kv := by
  refine ⟨_, h, fun a w ω β hr => ?_⟩
  have ex : a.eval x = .int .i64 i := ev_lit hr (by rw [evS_eq, hx]; rfl)
  have ey : a.eval y = .int k' 8 := ev_lit hr (by rw [evS_eq, hy]; rfl)
  refine ⟨.int .i64 (i * 256), fun w' => ?_, rfl, rfl⟩
  generalize a.eval = ρ at ex ey ⊢
  refine run_bin ρ w' hop (by rw [ex, ey]; exact run_guard_int w' _ _ _ _ _ _ _ _) ?_
  rw [ex, ey]
  show (Op.shift .shl .i64 i k' 8).run P w' = _
  unfold Op.shift
  rw [if_neg (by omega)]
  show Result.ok (Value.int .i64 (IntKind.i64.wrap (i * 2 ^ 8))) w' = _
  rw [show i * 2 ^ 8 = i * 256 by omega, IntWalk.i64_in _ (by omega)]
theorem or8 (x y : Int) (h0 : 0 ≤ x) (h1 : x ≤ 281474976710655) (h2 : 0 ≤ y) (h3 : y ≤ 255) : wr .i64 ((BitVec.ofInt IntKind.i64.bits (x * 256) ||| BitVec.ofInt IntKind.i64.bits y).toNat) = x * 256 + y := by
  rw [wr_eq]
  exact bits_join .i64 63 (by decide) (fun n h₀ h₁ => by rw [IntKind.wrap_i64]; omega) 8 (x * 256) y (by omega) (by omega) (by omega) h2 (by omega) (by omega)
end
end Go.Tr
