/- What is left to show is enough: operations that write or make memory; code. -/
import Derived.Test.YtjlphbhmjicdhaaVF
set_option linter.unusedVariables false
set_option linter.unusedSimpArgs false
universe u
namespace Go.Tr
open Go Go.RowKit

theorem splL_len {α : Type u} {l xs : List α} {r : Nat} (h : r + xs.length ≤ l.length) : (splL l r xs).length = l.length := by
  simp only [splL, List.length_append, List.length_take, List.length_drop]; omega
theorem splL_get {α : Type u} {l xs : List α} {r : Nat} (h : r + xs.length ≤ l.length) (q : Nat) : (splL l r xs)[q]? = if r ≤ q ∧ q < r + xs.length then xs[q - r]? else l[q]? := by
  unfold splL
  have h1 : (l.take r).length = r := by rw [List.length_take]; omega
  by_cases a : q < r
  · rw [if_neg (by omega), List.append_assoc, List.getElem?_append_left (by omega), List.getElem?_take, if_pos a]
  · by_cases b : q < r + xs.length
    · rw [if_pos ⟨by omega, b⟩, List.append_assoc, List.getElem?_append_right (by omega), h1, List.getElem?_append_left (by omega)]
    · rw [if_neg (by omega), List.append_assoc, List.getElem?_append_right (by omega), h1, List.getElem?_append_right (by omega), List.getElem?_drop]
      congr 1; omega
theorem toTCl_er (x : At) : (toTCl x).er = (stA x).cl := by cases x <;> rfl
theorem litsA_ok : ∀ {l : List At} {vs : List Value}, litsA l = some vs → l = vs.map .lit
  | [], vs, h => by injection h with h; subst h; rfl
  | x :: l, vs, h => by
    cases x <;> simp only [litsA] at h <;> try cases h
    split at h
    · rename_i vs' he
      injection h with h; subst h
      rw [litsA_ok he]; rfl
    · cases h
theorem cellsV_ok {f : Nat → TC} : ∀ {m r : Nat} {vs : List Value}, cellsV f r m = some vs → vs.length = m ∧ ∀ q v, vs[q]? = some v → f (r + q) = .lit v
  | 0, r, vs, h => by injection h with h; subst h; exact ⟨rfl, fun q v hq => by simp at hq⟩
  | m + 1, r, vs, h => by
    simp only [cellsV] at h
    split at h
    · rename_i v hv
      split at h
      · rename_i vs' he
        injection h with h; subst h
        obtain ⟨h1, h2⟩ := cellsV_ok he
        refine ⟨by simp [h1], fun q v' hq => ?_⟩
        cases q with
        | zero => injection hq with hq; subst hq; exact hv
        | succ q => have := h2 q v' hq; rwa [show r + 1 + q = r + (q + 1) by omega] at this
      · cases h
    · cases h
theorem encOk_ok {X : Type} {enc : X → Nat → TC} {x : X} {p : Prop} : ∀ {vs : List Value} {r : Nat}, encOk enc x r vs p → p ∧ ∀ q v, vs[q]? = some v → enc x (r + q) = .lit v
  | [], r, h => ⟨h, fun q v hq => by simp at hq⟩
  | v :: vs, r, h => by
    obtain ⟨⟨h1⟩, h2⟩ := h
    obtain ⟨h3, h4⟩ := encOk_ok h2
    refine ⟨h3, fun q v' hq => ?_⟩
    cases q with
    | zero => injection hq with hq; subst hq; exact h1
    | succ q => have := h4 q v' hq; rwa [show r + 1 + q = r + (q + 1) by omega] at this
theorem dim_st (κ : Nat) (v : V) : (stV v).map (dimA κ) none = stV v := by
  have h0 : ∀ x : At, dimA κ (stA x) = stA x := by intro x; cases x <;> rfl
  cases v with
  | any => rfl
  | a x => simp [stV, V.map, V.map0, h0]
  | agg l => simp [stV, V.map, V.map0, h0, Function.comp]
  | ptr a b c => simp [stV, V.map, V.map0]
  | tup l =>
    simp only [stV, V.map, List.map_map]
    congr 1
    apply List.map_congr_left
    intro x _
    cases x <;> simp [stV0, V.map0, Function.comp, h0]
theorem ty_set_get {X : Type} (enc : X → Nat → TC) (d x' : X) (xs : List X) (i q r : Nat) (hi : i < xs.length) : enc ((xs.set i x').getD q d) r = if q = i then enc x' r else enc (xs.getD q d) r := by
  by_cases h : q = i
  · subst h; simp [List.getD, hi]
  · rw [if_neg h]; simp [List.getD, List.getElem?_set_ne (Ne.symm h)]

section
variable {P : Program} {F : Fm} {N : Nat} {G : Gt} {o : Oper} {σ : TS} {k : TS → Prop} {ops : Array Oper} {Q : Exit → St → Prop} {rest : List Oper}

theorem st_ok (hG : GOk P G) (hg : o.guard = none) (hdn : o.dst = none) {t : Nat} {x y : Operand} (hop : o.op = .store t x y) (kk : ∀ τ, k τ → AL P F N ops Q rest τ.er) (h : stK P F N G o σ t x y k) : AL P F N ops Q (o :: rest) σ.er := by
  unfold stK at h
  split at h
  · rename_i κ i r m kd z l hx ht hy
    cases hlm : Nat.beq l.length m with
    | false => rw [hlm] at h; exact h.h _ _ _ kk
    | true =>
      rw [hlm] at h
      simp only [cond_true] at h
      simp only [beq_dec, decide_eq_true_eq] at hlm
      have hxe : σ.er.ev x = .ptr κ i r := by rw [evS_eq, hx]; rfl
      have hye : (σ.er.ev y).atoms = some (l.map stA) := by
        rw [evS_eq]
        cases hv : evS σ y with
        | a x => rw [hv] at hy; injection hy with hy; subst hy; rfl
        | agg l' => rw [hv] at hy; injection hy with hy; subst hy; rfl
        | any => rw [hv] at hy; cases hy
        | ptr => rw [hv] at hy; cases hy
        | tup => rw [hv] at hy; cases hy
      have fin : ∀ (R R' : TRoot), lkR σ.r κ = some R → R.er.o = .own → i < R.er.n → r + m ≤ R.er.k → RSim (R.er.wrL i r ((l.map stA).map At.cl)) R'.er → setK σ κ R' k → AL P F N ops Q (o :: rest) σ.er := by
        intro R R' hR ho hi hr hs h
        refine AL.store hG.T hop hg hdn hxe ht hye (by simpa using hlm) (TS.rt_some hR) ho hi hr (liveL_true _ _ _ _) ?_
        refine set_ok (κ := κ) (R := R') (R0 := R.er.wrL i r ((l.map stA).map At.cl)) (fun t' => ?_) (fun κ' => rfl) hs kk h
        show (look (σ.er.t.map fun p => (p.1, p.2.map (dimA κ) none)) t').getD .any = _
        rw [St.tv_map σ.er _ rfl, TS.tv_er, dim_st]
      split at h
      · rename_i e cs hR
        split at h
        · cases hb : Nat.ble (r + m) cs.length with
          | false => rw [hb] at h; exact h.h _ _ _ kk
          | true =>
            rw [hb] at h
            simp only [cond_true] at h
            simp only [ble_dec, decide_eq_true_eq] at hb
            have hlen : r + (l.map toTCl).length ≤ cs.length := by simpa [hlm] using hb
            refine fin _ _ hR rfl Nat.zero_lt_one hb ?_ h
            have hw := wrL_same 0 ((l.map stA).map At.cl) (TRoot.box e cs).er r
            refine ⟨hw.1.symm ▸ rfl, (fun hf => by cases hf), ?_, hw.2.2.2.2.symm ▸ rfl, fun i' r' hi' hr' => ?_⟩
            · rw [hw.2.2.2.1]; exact splL_len hlen
            · rw [hw.2.2.2.2] at hi'; rw [hw.2.2.2.1] at hr'
              have hi0 : i' = 0 := by
                have : i' < 1 := hi'
                omega
              subst hi0
              rw [box_get, splL_get hlen]
              by_cases hin : r ≤ r' ∧ r' < r + (l.map toTCl).length
              · rw [if_pos hin, get_wrL_eq _ _ _ ⟨hin.1, by simpa using hin.2⟩]
                have : (((l.map stA).map At.cl)[r' - r]?).getD (.cl .any) = (((l.map toTCl)[r' - r]?).map TCl.er).getD (.cl .any) := by
                  rw [List.getElem?_map, List.getElem?_map, List.getElem?_map]
                  cases l[r' - r]? with
                  | none => rfl
                  | some y => simp [toTCl_er]
                rw [this]; exact ClSim.rfl _
              · rw [if_neg hin, get_wrL_out _ _ _ (by simp only [List.length_map] at hin ⊢; omega), box_get]; exact ClSim.rfl _
        · exact h.h _ _ _ kk
      · rename_i full e kw X enc dec d xs hR
        split at h
        · rename_i vs ws hvs hws
          split at h
          · rename_i x' hdec
            cases hb : Nat.ble (r + m) kw with
            | false => rw [hb] at h; exact h.h _ _ _ kk
            | true =>
              rw [hb] at h
              simp only [cond_true] at h
              simp only [ble_dec, decide_eq_true_eq] at hb
              obtain ⟨⟨hi⟩, h⟩ := h
              obtain ⟨h, henc⟩ := encOk_ok h
              obtain ⟨hwl, hwc⟩ := cellsV_ok hws
              have hlv := litsA_ok hvs
              have hvl : vs.length = m := by rw [hlv] at hlm; simpa using hlm
              have hlen : r + vs.length ≤ ws.length := by omega
              refine fin _ _ hR rfl hi hb ?_ h
              have hw := wrL_same i ((l.map stA).map At.cl) (TRoot.ty .own full e kw X enc dec d xs).er r
              refine ⟨hw.1.symm ▸ rfl, (fun hf => ⟨hw.2.1.symm ▸ hf, hw.2.2.1.symm ▸ rfl⟩), hw.2.2.2.1.symm ▸ rfl, ?_, fun i' r' hi' hr' => ?_⟩
              · rw [hw.2.2.2.2]; show (xs.set i x').length = xs.length; simp
              · rw [hw.2.2.2.2] at hi'; rw [hw.2.2.2.1] at hr'
                change r' < kw at hr'
                have hgt : (TRoot.ty .own full e kw X enc dec d (xs.set i x')).er.get i' r' = .cl ((if i' = i then enc x' r' else enc (xs.getD i' d) r').er .own) := by
                  rw [ty_get, ty_set_get enc d x' xs i i' r' hi]; rfl
                rw [hgt]
                by_cases hii : i' = i
                · subst hii
                  rw [if_pos rfl]
                  obtain ⟨v, hv⟩ : ∃ v, (splL ws r vs)[r']? = some v := ⟨_, List.getElem?_eq_getElem (by rw [splL_len hlen]; omega)⟩
                  have he := henc r' v hv
                  rw [Nat.zero_add] at he
                  rw [he]
                  rw [splL_get hlen] at hv
                  by_cases hin : r ≤ r' ∧ r' < r + vs.length
                  · rw [if_pos hin] at hv
                    rw [get_wrL_eq _ _ _ ⟨hin.1, by simp; omega⟩, hlv]
                    simp only [List.map_map, List.getElem?_map, hv, Option.map_some, Option.getD_some, Function.comp]
                    exact CSame.rfl _
                  · rw [if_neg hin] at hv
                    rw [get_wrL_out _ _ _ (by simp only [List.length_map]; omega), ty_get]
                    have := hwc r' v hv
                    rw [Nat.zero_add] at this
                    rw [this]; exact CSame.rfl _
                · rw [if_neg hii, get_wrL_ne hii, ty_get]; exact CSame.rfl _
          · exact h.h _ _ _ kk
        · exact h.h _ _ _ kk
      · exact h.h _ _ _ kk
  · exact h.h _ _ _ kk

/-- A new root and a slot for it. -/
theorem new_ok {d : Nat} {R0 : Root} {R : TRoot} {v : V} (hs : RSim R0 R.er) (kk : ∀ τ, k τ → AL P F N ops Q rest τ.er) (h : setK σ d R fun σ => putK σ d v k) : AL P F N ops Q rest ((σ.er.setR d R0).put d (stV v)) := by
  rw [setK_eq, putK_eq] at h
  refine AL.le (le_lk (τ := ⟨(d, v) :: σ.t, (d, R) :: erl σ.r d⟩) (fun t => .inr ?_) (fun κ' => ?_)) (kk _ h)
  · rw [lkT_cons, St.tv_put]
    by_cases e : t = d
    · simp [e]
    · simp only [e, if_neg, not_false_eq_true, if_false]; exact (TS.tv_er σ t).symm
  · rw [lkR_cons, lkR_erl]
    show OSim (if κ' = d then some R0 else σ.er.rt κ') _
    by_cases e : κ' = d
    · simp only [e, if_pos]; exact hs
    · simp only [e, if_neg, not_false_eq_true, if_false]; rw [TS.rt_er]; exact OSim.rfl _
theorem none_of {d : Nat} (h : (lkR σ.r d).isNone = true) : σ.er.rt d = none := by
  rw [TS.rt_er]
  cases hq : lkR σ.r d with
  | none => rfl
  | some _ => rw [hq] at h; cases h
theorem stV_atoms {v : V} {l : List At} (h : (stV v).atoms = some l) : l.map stA = l := by
  have h0 : ∀ x : At, stA (stA x) = stA x := stA_stA
  cases v with
  | a x => injection h with h; subst h; simp [h0]
  | agg l' => injection h with h; subst h; simp [h0, Function.comp]
  | any => cases h
  | ptr => cases h
  | tup => cases h
theorem toTCl_list {l : List At} (h : l.map stA = l) : (l.map toTCl).map TCl.er = l.map At.cl := by
  rw [List.map_map]
  conv => rhs; rw [← h]
  rw [List.map_map]
  apply List.map_congr_left
  intro x _
  exact toTCl_er x
/-- Every kind of zero may be laid into a cell. -/
theorem zall (z : List ZC) (h : z.all ZC.ok = true) : z.all ZC.ok = true := h
end
end Go.Tr
