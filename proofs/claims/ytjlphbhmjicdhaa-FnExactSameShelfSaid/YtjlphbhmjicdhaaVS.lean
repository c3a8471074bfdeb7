/- Structs of one-cell fields are compared. -/
import Derived.Test.YtjlphbhmjicdhaaVR
set_option linter.unusedVariables false
set_option linter.unusedSimpArgs false
namespace Go.Tr
open Go Go.RowKit
section
variable {P : Program} {F : Fm} {N : Nat} {o : Oper} {σ : TS} {k : V → Prop}
theorem st_lits (vs : List Value) : stV (.agg (vs.map At.lit)) = .agg (vs.map .lit) := by
  show V.agg ((vs.map At.lit).map stA) = _
  rw [List.map_map]; rfl
theorem PK.eqA {t u : Nat} {x y : Operand} {lx ly : List At} {b : Bool} (vx vy : List Value) (hop : o.op = .binOp .eql t x y u) (hx : evS σ x = .agg lx) (hy : evS σ y = .agg ly) (hlx : lx = vx.map .lit) (hly : ly = vy.map .lit) (hm : P.eqGuardType P.depth t = false)
    (hrun : ∀ w, (Op.equalIn 10000 t (.agg vx.toArray) (.agg vy.toArray)).run P w = .ok b w) (h : k (.a (.lit (.bool b)))) : PK P F N o σ k := by
  subst hlx hly
  refine ⟨_, h, fun a w ω β h => ⟨.bool b, fun w' => ?_, VRel.lit rfl⟩⟩
  have h1 := h.ev x
  have h2 := h.ev y
  rw [evS_eq, hx, st_lits] at h1; rw [evS_eq, hy, st_lits] at h2
  refine run_bin _ w' hop (by rw [lits_rel h1, lits_rel h2]; exact run_eqGuard_agg _ _ _ _ _ _ _ hm) ?_
  rw [lits_rel h1, lits_rel h2]
  simp only [Go.binOp, Op.equal, Op.maxDepth, Sem.run_bind, hrun]
  rfl
theorem PK.neA {t u : Nat} {x y : Operand} {lx ly : List At} {b : Bool} (vx vy : List Value) (hop : o.op = .binOp .neq t x y u) (hx : evS σ x = .agg lx) (hy : evS σ y = .agg ly) (hlx : lx = vx.map .lit) (hly : ly = vy.map .lit) (hm : P.eqGuardType P.depth t = false)
    (hrun : ∀ w, (Op.equalIn 10000 t (.agg vx.toArray) (.agg vy.toArray)).run P w = .ok b w) (h : k (.a (.lit (.bool !b)))) : PK P F N o σ k := by
  subst hlx hly
  refine ⟨_, h, fun a w ω β h => ⟨.bool !b, fun w' => ?_, VRel.lit rfl⟩⟩
  have h1 := h.ev x
  have h2 := h.ev y
  rw [evS_eq, hx, st_lits] at h1; rw [evS_eq, hy, st_lits] at h2
  refine run_bin _ w' hop (by rw [lits_rel h1, lits_rel h2]; exact run_eqGuard_agg _ _ _ _ _ _ _ hm) ?_
  rw [lits_rel h1, lits_rel h2]
  simp only [Go.binOp, Op.equal, Op.maxDepth, Sem.run_bind, hrun]
  rfl
end
end Go.Tr
