/- One cell of an element that may hold slices too is written. -/
import Derived.Test.YtbfkdbbgbdihdaaUO
set_option linter.unusedVariables false
set_option linter.unusedSimpArgs false
universe u
namespace Go.Tr
open Go Go.RowKit
section
variable {P : Program} {F : Fm} {N : Nat} {G : Gt} {o : Oper} {σ : TS} {k : TS → Prop}
theorem OpK.stE (hG : GOk P G) {t : Nat} {kd : TK} {z : List ZC} {x y : Operand} {κ i r : Nat} {full : Bool} {e kw : Nat} {X : Type} {enc : X → Nat → TC} {dec : List Value → Option X} {d : X} {xs : List X} {v : Value} (x' : X) (hop : o.op = .store t x y) (hg : o.guard = none) (hd : o.dst = none)
    (hx : evS σ x = .ptr κ i r) (ht : G.T t = some ⟨1, kd, z⟩) (hy : evS σ y = .a (.lit v)) (hR : lkR σ.r κ = some (.ty .own full e kw X enc dec d xs)) (hi : i < xs.length) (hr : r < kw)
    (he : enc x' r = .lit v) (he' : ∀ r', r' < kw → r' ≠ r → enc x' r' = enc (xs.getD i d) r') (h : setK σ κ (.ty .own full e kw X enc dec d (xs.set i x')) k) : OpK P F N o σ k := by
  rw [setK_eq] at h
  refine ⟨fun ops Q rest kk => ?_⟩
  have hye : (σ.er.ev y).atoms = some [.lit v] := by rw [evS_eq, hy]; rfl
  refine AL.store hG.T hop hg hd (by rw [evS_eq, hx]; rfl) ht hye rfl (TS.rt_some hR) rfl hi (show r + 1 ≤ kw by omega) (liveL_true _ _ _ _) ?_
  refine AL.le (le_lk (τ := ⟨σ.t, (κ, .ty .own full e kw X enc dec d (xs.set i x')) :: erl σ.r κ⟩) (fun t' => .inr ?_) (fun κ' => ?_)) (kk _ h)
  · show _ = (look (σ.er.t.map fun p => (p.1, p.2.map (dimA κ) none)) t').getD .any
    rw [St.tv_map σ.er _ rfl, TS.tv_er, dim_st]
  · show OSim (if κ' = κ then some _ else σ.er.rt κ') _
    rw [lkR_cons, lkR_erl]
    by_cases e1 : κ' = κ
    · rw [if_pos e1, if_pos e1]
      have hw := wrL_same i ([At.lit v].map At.cl) (TRoot.ty .own full e kw X enc dec d xs).er r
      have hsl : (xs.set i x').length = xs.length := List.length_set
      refine ⟨hw.1.symm, (fun hf => ⟨hw.2.1.trans hf, hw.2.2.1⟩), hw.2.2.2.1.symm, by rw [hw.2.2.2.2]; exact hsl, fun i' r' hi' hr' => ?_⟩
      rw [ty_get]
      by_cases e2 : i' = i
      · subst e2
        have hg' : (xs.set i' x').getD i' d = x' := by rw [List.getD_eq_getElem?_getD, List.getElem?_set_self hi]; rfl
        rw [hg']
        by_cases e3 : r' = r
        · subst e3
          rw [get_wrL_eq _ _ _ ⟨Nat.le_refl _, by simp⟩, Nat.sub_self, he]
          exact CSame.rfl _
        · rw [get_wrL_out _ _ _ (by simp; omega), ty_get, he' r' (by rw [hw.2.2.2.1] at hr'; exact hr') e3]
          exact CSame.rfl _
      · rw [get_wrL_ne e2, ty_get]
        have hg' : (xs.set i x').getD i' d = xs.getD i' d := by rw [List.getD_eq_getElem?_getD, List.getElem?_set_ne (fun e => e2 e.symm), ← List.getD_eq_getElem?_getD]
        rw [hg']
        exact CSame.rfl _
    · rw [if_neg e1, if_neg e1, if_neg e1, TS.rt_er]; exact OSim.rfl _
end
end Go.Tr
