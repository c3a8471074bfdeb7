/- Whether a slice is nil. -/
import Derived.Test.YtjlphbhmjicdhaaVS
set_option linter.unusedVariables false
set_option linter.unusedSimpArgs false
namespace Go.Tr
open Go Go.RowKit
section
variable {P : Program} {F : Fm} {N : Nat} {Q : Exit → St → Prop} {σ : St} {ops : Array Oper} {o : Oper} {rest : List Oper}
theorem run_equal_sl {t e d : Nat} (h : P.underlying t = some (.slice e)) (A : Option Addr) (n c : Nat) (w : World) : (Op.equalIn (d + 1) t (.slice A n c) (.slice none 0 0)).run P w = .ok A.isNone w := by
  have h1 : (underlying t).run P w = .ok (.slice e) w := by simp [underlying, h, go_sem]
  rw [Op.equalIn, Sem.run_bind, h1]
  cases A <;> rfl
/-- A slice is asked whether it is nil: the answer is left open, but a nil slice has no elements. -/
theorem AL.isNil {t u e : Nat} {x y : Operand} {κ lo n : Nat} (hop : o.op = .binOp .eql t x y u) (hg : o.guard = none) (hd : okD N o.dst = true) (hx : σ.ev x = .a (.ref κ lo n)) (hy : σ.ev y = .a (.nil 0 0)) (hu : P.underlying t = some (.slice e))
    (k : ∀ b : Bool, (b = true → n = 0) → AL P F N ops Q rest (σ.putO o.dst (.a (.lit (.bool b))))) : AL P F N ops Q (o :: rest) σ := by
  intro a w hr
  obtain ⟨ω, β, h⟩ := hr
  have h1 := h.ev x
  have h2 := h.ev y
  rw [hx] at h1; rw [hy] at h2
  obtain ⟨R, _, _, A, c, e1, _, _, _, _, hpos⟩ := h1
  have e2 : a.eval y = .slice none 0 0 := h2
  refine wpList_plain hg fun K hK => ?_
  have hrun : (execOp a.eval o).run P w = .ok (.value (.bool A.isNone)) w := by
    refine run_bin _ w hop (by rw [e1, e2]; rfl) ?_
    rw [e1, e2]
    have h1 := run_equal_sl (P := P) (d := 9999) hu A n c w
    simp [Go.binOp, Op.equal, go_sem, Op.maxDepth, h1]
  unfold Oper.wp
  rw [hrun, Oper.upon_value]
  refine hK _ _ (k A.isNone (fun hb => ?_) _ _ ⟨ω, β, h.putO hd (VRel.lit rfl)⟩)
  by_cases hn : n = 0
  · exact hn
  · obtain ⟨g, o', _, e3⟩ := hpos (by omega)
    rw [e3] at hb; cases hb
end
end Go.Tr
