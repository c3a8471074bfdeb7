/- Rows of values: literals, appends, append of a make. -/
import Derived.Test.YtbfkdbbgbdihdabUA
import Derived.Lib.AppendZerosOnto
set_option linter.unusedVariables false
set_option linter.unusedSimpArgs false
universe u
namespace Go.Tr
open Go Go.RowKit
/-- A header: where, how long, how far. -/
abbrev Hdr := Option Addr × Nat × Nat
def encH (x : Hdr) (_ : Nat) : TC := .lit (.slice x.1 x.2.1 x.2.2)
def decH : List Value → Option Hdr
  | [.slice A n c] => some (A, n, c)
  | _ => none
def dH : Hdr := (none, 0, 0)
/-- A row of headers, told as values. -/
def tH (e : Nat) (xs : List Hdr) : TC := .sl e 1 Hdr encH decH dH xs
abbrev rH (o : RO) (f : Bool) (e : Nat) (xs : List Hdr) : TRoot := .ty o f e 1 Hdr encH decH dH xs
/-- A contract that gives nil gives an empty row. -/
theorem RunH.nilOut {P : Program} {hc : Hc} {f : FuncId} {args : List TAg} {ext ext' : List TX} (e kw : Nat) (X : Type) (enc : X → Nat → TC) (dec : List Value → Option X) (d : X) (h : RunH P hc f args ext [.one (.lit (.slice none 0 0))] ext') : RunH P hc f args ext [.one (.sl e kw X enc dec d [])] ext' := by
  refine ⟨h.fn, fun w q A cargs he ha => (h.run w q A cargs he ha).mono fun e' w' hx => ?_⟩
  obtain ⟨us, outs, ext0, q', h1, ⟨rfl, rfl⟩, hx⟩ := hx
  refine ⟨us, _, _, q', h1, ⟨rfl, rfl⟩, hx.size, fun i x hi => ?_, hx.ext, hx.lt, hx.fr⟩
  cases i with
  | succ i => simp at hi
  | zero =>
    injection hi with hi; subst hi
    obtain ⟨u, h2, h3⟩ := hx.outs 0 _ rfl
    obtain ⟨rfl, _⟩ := h3
    exact ⟨_, h2, none, 0, rfl, Nat.le_refl _, Nat.zero_le _, .inl ⟨rfl, rfl⟩⟩
section
variable {P : Program} {F : Fm} {N : Nat} {G : Gt} {o : Oper} {σ : TS} {k : TS → Prop}
theorem OpK.bs2 (hG : GOk P G) {t e bs kt d : Nat} {kd : TK} {zt z : List ZC} {x y : Operand} {A1 A2 : Option Addr} {n1 n2 c1 c2 : Nat} (hop : o.op = .buildSlice t 2 #[(0, x), (1, y)]) (hg : o.guard = none) (hdst : o.dst = some d) (hd : okD N o.dst = true) (ht : G.T t = some ⟨kt, .sl e 1 bs, zt⟩) (he : G.T e = some ⟨1, kd, z⟩) (hz : z.all ZC.ok = true)
    (hx : evS σ x = .a (.lit (.slice A1 n1 c1))) (hy : evS σ y = .a (.lit (.slice A2 n2 c2))) (hf : (lkR σ.r d).isNone = true) (hdd : d < 1000000) (h : setK σ d (rH .own true e [(A1, n1, c1), (A2, n2, c2)]) fun σ => putK σ d (.a (.ref d 0 2)) k) : OpK P F N o σ k := by
  refine ⟨fun ops Q rest kk => ?_⟩
  have hzl := zall_ok hG.T he
  change z.length = 1 at hzl
  obtain ⟨zc, rfl⟩ : ∃ zc, z = [zc] := by
    match z, hzl with
    | [zc], _ => exact ⟨zc, rfl⟩
  refine AL.buildSlD hG.T (qs := [(0, [.lit (.slice A1 n1 c1)]), (1, [.lit (.slice A2 n2 c2)])]) hop hg hdst (by simpa [hdst, okD] using hd) ht he hz ⟨rfl, by rw [evS_eq, hx]; rfl, rfl, by rw [evS_eq, hy]; rfl, trivial⟩ rfl (by decide) (by decide) hdd (none_of hf) ?_
  refine new_ok (v := .a (.ref d 0 2)) (R := rH .own true e [(A1, n1, c1), (A2, n2, c2)]) ?_ kk h
  show RSim (litR e 1 2 [.lit (.slice A1 n1 c1), .lit (.slice A2 n2 c2)]) _
  refine ⟨rfl, fun _ => ⟨rfl, rfl⟩, rfl, rfl, fun i r hi hr => ?_⟩
  change i < 2 at hi; change r < 1 at hr
  have hr0 : r = 0 := by omega
  subst hr0
  have hget := litR_get 1 (c := .cl .any) 2 [At.cl (.lit (.slice A1 n1 c1)), At.cl (.lit (.slice A2 n2 c2))] [] i 0 rfl hi (by decide)
  rw [List.append_nil] at hget
  show ClSim (look2 (litR.mkops 1 2 [At.cl (.lit (.slice A1 n1 c1)), At.cl (.lit (.slice A2 n2 c2))]) i 0 (.cl .any)) _
  rw [hget]
  have : i = 0 ∨ i = 1 := by omega
  rcases this with rfl | rfl <;> exact CSame.rfl _
/-- A whole slice of flat elements is appended; the row may be one that a call gave. -/
theorem OpK.apps2 (hG : GOk P G) (hE : F.nE ≤ 1000000) {s x : Operand} {t κ n κs e e2 ke bs kt d' m : Nat} {z : List ZC} {X : Type} {enc enc2 : X → Nat → TC} {dec dec2 : List Value → Option X} {d d2 : X} {xs ys : List X} {f : Bool} {ro : RO} (hop : o.op = .call { callee := .builtin .append, args := #[s, x], argTypes := #[t, t] }) (hg : o.guard = none) (hdst : o.dst = some d') (hd : okD N o.dst = true)
    (ht : G.T t = some ⟨kt, .sl e ke bs, z⟩) (hs : evS σ s = .a (.ref κ 0 n)) (hR : lkR σ.r κ = some (.ty .own true e ke X enc dec d xs)) (hn : n = xs.length) (hx : evS σ x = .a (.ref κs 0 m)) (hS : lkR σ.r κs = some (.ty ro f e2 ke X enc2 dec2 d2 ys)) (hm : m = ys.length)
    (hfl : ∀ (x : X) (r : Nat), r < ke → ∃ v, enc x r = .lit v ∧ enc2 x r = .lit v) (hkk : (Nat.blt κ 1000000 || Nat.ble 2000000 κ) = true) (h63 : xs.length + m ≤ maxLen ∧ (xs.length + m) * bs ≤ 140737488355328)
    (h : dropK σ κ fun σ => setK σ κ (.ty .own true e ke X enc dec d (xs ++ ys)) fun σ => putK σ d' (.a (.ref κ 0 (xs ++ ys).length)) k) : OpK P F N o σ k := by
  subst hm
  refine ⟨fun ops Q rest kk => ?_⟩
  rw [dropK, fS_eq, setK_eq, putK_eq] at h
  have hRe := TS.rt_some hR
  have hSe := TS.rt_some hS
  refine AL.appendL hG.T hop hg hd ht (by rw [evS_eq, hs]; rfl) hRe rfl hn rfl rfl rfl (by rw [evS_eq, hx]; rfl) hSe rfl rfl (fun _ _ _ _ => rfl) (okK_far hE hkk) h63.1 h63.2 ?_
  rw [hdst]
  refine AL.le (le_lk (τ := ⟨(d', .a (.ref κ 0 (xs ++ ys).length)) :: (σ.drop κ).t, (κ, .ty .own true e ke X enc dec d (xs ++ ys)) :: erl (σ.drop κ).r κ⟩) (fun t' => .inr ?_) (fun κ' => ?_)) (kk _ h)
  · rw [lkT_cons]
    show _ = (((σ.er.drop κ).setR κ _).put d' _).tv t'
    rw [St.tv_put]
    by_cases e2 : t' = d'
    · simp [e2, stV, Tr.stA, hn]
    · simp only [e2, if_neg, not_false_eq_true, if_false]
      rw [← TS.tv_er, drop_tv]; rfl
  · rw [lkR_cons, lkR_erl]
    show OSim (if κ' = κ then some _ else (σ.er.drop κ).rt κ') _
    by_cases e2 : κ' = κ
    · rw [if_pos e2, if_pos e2]
      refine ⟨rfl, fun _ => ⟨rfl, rfl⟩, rfl, by show (xs ++ ys).length = xs.length + ys.length; simp, fun i r hi hr => ?_⟩
      change i < xs.length + ys.length at hi; change r < ke at hr
      rw [ty_get]
      show ClSim (.cl (if i < xs.length then (enc (xs.getD i d) r).er .own else flat ((enc2 (ys.getD (0 + (i - xs.length)) d2) r).er (owOf ro)))) _
      by_cases hin : i < xs.length
      · rw [if_pos hin]
        have hgd : (xs ++ ys).getD i d = xs.getD i d := by simp only [List.getD]; rw [List.getElem?_append_left hin]
        rw [hgd]; exact CSame.rfl _
      · rw [if_neg hin, Nat.zero_add]
        have hj : i - xs.length < ys.length := by omega
        have hgd : (xs ++ ys).getD i d = ys.getD (i - xs.length) d2 := by
          simp only [List.getD]; rw [List.getElem?_append_right (by omega), List.getElem?_eq_getElem hj]; rfl
        rw [hgd]
        obtain ⟨v, h1, h2⟩ := hfl (ys.getD (i - xs.length) d2) r hr
        rw [h1, h2]
        exact CSame.rfl _
    · rw [if_neg e2, if_neg e2, if_neg e2]
      rw [← TS.rt_er, drop_rt]; exact OSim.rfl _
/-- The append of a make to nothing: m empty headers. -/
theorem OpK.growZ (hG : GOk P G) {s x : Operand} {t tn e bs kt d' : Nat} {kn : IntKind} {m : Nat} {zt : List ZC} {kd : TK} {ee ek : Nat} (hop : o.op = .call { callee := .builtin .append, args := #[s, x], argTypes := #[t, tn] }) (hg : o.guard = none) (hdst : o.dst = some d') (hd : okD N o.dst = true)
    (ht : G.T t = some ⟨kt, .sl e 1 bs, zt⟩) (he : G.T e = some ⟨1, kd, [.sl ee ek]⟩) (htn : P.underlying tn = some (.int kn)) (hs : evS σ s = .a (.lit (.slice none 0 0))) {i : Int} (hx : evS σ x = .a (.lit (.int .i64 i))) (hi : i = (m : Int)) (hm : 0 < m) (hmx : m ≤ maxLen ∧ m * bs ≤ 140737488355328) (hf : (lkR σ.r d').isNone = true) (hdd : d' < 1000000)
    (h : setK σ d' (rH .own true e (List.replicate m dH)) fun σ => putK σ d' (.a (.ref d' 0 m)) k) : OpK P F N o σ k := by
  subst hi
  refine ⟨fun ops Q rest kk => ?_⟩
  obtain ⟨h1, inf, zv, h2, h3, h4, h5, h6, h7⟩ := (hG.T t _ ht).kind
  have hF := hG.T e _ he
  obtain ⟨inf', zv', g3, g4, g5, g6⟩ := hF.info
  rw [h2] at g3; injection g3 with g3; subst g3
  rw [h5] at g5; injection g5 with g5; subst g5
  simp only [blt_dec, decide_eq_true_eq] at *
  have hzc : zv.cells = #[Value.slice none 0 0] := by apply Array.toList_inj.1; rw [g6]; rfl
  have hs1 : inf.size = 1 := h3
  have hge := fun w : World => grownCap_ge w (0 + m) 0 e
  have hle := fun w : World => grownCap_le_maxLen w (0 + m) 0 e (by rw [Nat.zero_add]; exact hmx.1)
  have hcel : ∀ n : Nat, Builtin.zeroCells zv.cells n = Array.replicate n (Value.slice none 0 0) := by
    intro n
    rw [hzc]
    apply Array.ext_getElem?
    intro i
    simp only [Builtin.zeroCells, List.size_toArray, List.length_cons, List.length_nil, Nat.zero_add, Nat.mul_one, Nat.mod_one, Array.getElem?_map, Array.getElem?_range, Array.getElem?_replicate]
    split <;> rfl
  refine AL.step (σ' := σ.er.setR d' ⟨.own, true, e, 1, m, fun _ _ => .lit (.slice none 0 0), []⟩) (v := .a (.ref d' 0 m)) hg hd (fun a w ω β hr => ?_) ?_
  · have hr1 := (hr.drew).alloc (okK_lt hdd) (none_of hf) (cs := #[] ++ Builtin.zeroCells zv.cells m ++ Builtin.zeroCells zv.cells (grownCap w (0 + m) 0 e - (0 + m))) (e := e) (cap := grownCap w (0 + m) 0 e) (R := ⟨.own, true, e, 1, m, fun _ _ => .lit (.slice none 0 0), []⟩) rfl (fun i r hi hr _ => ?_) (fun _ => ⟨fun _ _ _ _ => rfl, rfl, by have := hge w; show m ≤ _; omega, hle w, ?_⟩)
    · refine ⟨.slice (some ⟨w.heap.size, 0, none⟩) (0 + m) (grownCap w (0 + m) 0 e), _, _, _, ?_, hr1, ?_⟩
      · have e1 : a.eval s = .slice none 0 0 := ev_lit hr (by rw [evS_eq, hs]; rfl)
        have e2 : a.eval x = .int .i64 m := ev_lit hr (by rw [evS_eq, hx]; rfl)
        have hrun := Lib.run_append_grow_zeros (P := P) w t tn o.type e inf zv .i64 kn h1 htn h2 h5 none 0 0 [] (run_firstCells_none w.drew inf.size 0 0 0) m hm (by rw [hs1]; decide) (by omega) (by have := hmx.1; unfold maxLen at this; omega) (by rw [h4]; have := hmx.2; omega) (growslice_fits (by omega) (by rw [Nat.zero_add, h4]; exact hmx.2))
        generalize a.eval = ρ at e1 e2 ⊢
        simp [execOp, hop, resolve, invoke, builtin, e1, e2, hrun]
      · refine ⟨⟨.own, true, e, 1, m, fun _ _ => .lit (.slice none 0 0), []⟩, by show (if d' = d' then _ else _) = _; rw [if_pos rfl], by show 0 + m ≤ m; omega, some ⟨w.heap.size, 0, none⟩, grownCap w (0 + m) 0 e, by rw [Nat.zero_add], by have := hge w; omega, hle w, (by intro e; cases e), fun _ => by simp, fun _ => ⟨w.heap.size, 0, by simp, by simp⟩⟩
    · change i < m at hi; change r < 1 at hr
      refine ⟨.slice none 0 0, ?_, rfl, rfl⟩
      rw [hcel, hcel]
      show (#[] ++ Array.replicate m _ ++ Array.replicate _ _)[i * 1 + r]? = _
      have hr0 : r = 0 := by omega
      subst hr0
      rw [Array.getElem?_append_left (by simp; omega)]
      simp [Array.getElem?_replicate, hi]
    · rw [hcel, hcel]
      have := hge w
      simp only [Nat.zero_add] at *
      simp
      omega
  · rw [hdst]
    refine new_ok (v := .a (.ref d' 0 m)) (R := rH .own true e (List.replicate m dH)) ?_ kk h
    refine ⟨rfl, fun _ => ⟨rfl, rfl⟩, rfl, by show (List.replicate m dH).length = m; simp, fun i r hi hr => ?_⟩
    change i < m at hi
    rw [ty_get]
    have : (List.replicate m dH).getD i dH = dH := by rw [List.getD_eq_getElem?_getD, List.getElem?_replicate]; split <;> rfl
    rw [this]
    exact CSame.rfl _
end
end Go.Tr
