/- An element of an array of truth values. -/
import Derived.Test.YtjlphbhmjicdhaaVV
set_option linter.unusedVariables false
set_option linter.unusedSimpArgs false
universe u
namespace Go.Tr
open Go Go.RowKit
section
variable {P : Program} {F : Fm} {N : Nat} {G : Gt} {o : Oper} {σ : TS} {k : TS → Prop}
theorem OpK.indexB (hG : GOk P G) {t m n e : Nat} {z : List ZC} {x ix : Operand} {l : List At} {kx : IntKind} {i : Int} {v : Value} (hop : o.op = .index t x ix) (hg : o.guard = none) (hd : okD N o.dst = true) (ht : G.T t = some ⟨m, .arr n e 1, z⟩) (he : P.underlying e = some .bool) (hx : evS σ x = .agg l) (hi : evS σ ix = .a (.lit (.int kx i)))
    (hb : 0 ≤ i ∧ i < n) (hy : l[i.toNat]? = some (.lit v)) (h : stO o σ (.a (.lit v)) k) : OpK P F N o σ k :=
  ⟨fun ops Q rest kk => AL.val hg hd (fun a w ω β hr => by
    obtain ⟨h1, inf, h2, h3⟩ := (hG.T t _ ht).kind
    have h4 := hr.ev x
    rw [evS_eq, hx] at h4
    obtain ⟨us, e1, e2, e3⟩ := h4
    obtain ⟨y, f1, f2⟩ := e3 i.toNat (.lit v) (by rw [List.getElem?_map, hy]; rfl)
    obtain ⟨f2, f3⟩ := f2
    rw [f2] at f1
    have ei : a.eval ix = .int kx i := ev_lit hr (by rw [evS_eq, hi]; rfl)
    refine ⟨v, ?_, VRel.lit f3⟩
    generalize a.eval = ρ at e1 ei ⊢
    simp [execOp, hop, go_sem, e1, ei, Instr.index, asIntOf, underlying, h1, sizeOf, typeInfo, h2, hb.1, hb.2, part, isAgg, he, h3, f1]) (stO_ok hd kk h)⟩
end
end Go.Tr
