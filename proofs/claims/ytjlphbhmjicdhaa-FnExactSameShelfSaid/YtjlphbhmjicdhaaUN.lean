/- Nested slices of own rows: opened as a struct, laid down again after they were given away, appended as a struct; a slice beyond the length; several slices given away at once. -/
import Derived.Test.YtjlphbhmjicdhaaUO
import Derived.Test.YtjlphbhmjicdhaaVW
set_option linter.unusedVariables false
set_option linter.unusedSimpArgs false
universe u
namespace Go.Tr
open Go Go.RowKit
section
variable {P : Program} {F : Fm} {N : Nat} {G : Gt} {o : Oper} {σ : TS} {k : TS → Prop}
/-- As ListO.open_, where the struct of one slice is loaded as a whole. -/
theorem ListO.openS (hG : GOk P G) (hE : F.nE ≤ 1000000) {ops : Array Oper} {l : List Oper} (key : Nat) {t κ i e kw e' k' dd : Nat} {kd : TK} {z : List ZC} {x : Operand} {full : Bool} {X Y : Type} {enc : X → Nat → TC} {dec : List Value → Option X} {d : X} {xs : List X} {enc' : Y → Nat → TC} {dec' : List Value → Option Y} {d' : Y} {ys : List Y}
    (hop : o.op = .load t x) (hg : o.guard = none) (hdst : o.dst = some dd) (hd : Nat.blt dd N = true) (hx : evS σ x = .ptr κ i 0) (ht : G.T t = some ⟨1, kd, z⟩) (hk : agK kd = true) (hR : lkR σ.r κ = some (.ty .own full e kw X enc dec d xs)) (hi : i < xs.length) (hr : 0 < kw)
    (hc : enc (xs.getD i d) 0 = .sl e' k' Y enc' dec' d' ys) (hkey : lkR σ.r key = none) (hkk : (Nat.blt key 1000000 || Nat.ble 2000000 key) = true) (hvw : noVw κ σ.r = true)
    (h : fS ⟨(dd, .agg [.ref key 0 ys.length]) :: σ.t, (κ, .tyo full e kw X enc dec d xs i 0 key ys.length) :: (key, .ty .own true e' k' Y enc' dec' d' ys) :: erl σ.r κ⟩ fun σ => vcL P F N G ops l σ k) : ListO P F N ops (o :: l) σ k := by
  refine ⟨fun Q kk => ?_⟩
  rw [fS_eq] at h
  simp only [blt_dec, decide_eq_true_eq] at hd
  have hRe := TS.rt_some hR
  have hne : κ ≠ key := by rintro rfl; rw [hkey] at hR; cases hR
  have hgR : (TRoot.ty .own full e kw X enc dec d xs).er.get i 0 = .cl (.sl .own e' k' ys.length (fun i r => (enc' (ys.getD i d') r).er .own)) := by
    rw [ty_get, hc]; rfl
  have hopen : ∀ a w, Rel F N σ.er a w → Rel F N (TS.mk σ.t ((κ, .tyo full e kw X enc dec d xs i 0 key ys.length) :: (key, .ty .own true e' k' Y enc' dec' d' ys) :: erl σ.r κ)).er a w := by
    intro a w ⟨ω, β, hrel⟩
    obtain ⟨ω', β', h1, _⟩ := hrel.open_ hRe rfl hi hr hgR (okK_far' hE hkk) (by rw [TS.rt_er, hkey]; rfl) (fun κ' R' hR' => noVw_ok hvw κ' R' i 0 (by rw [← TS.rt_er]; exact hR'))
    refine ⟨ω', β', le_of_osim (fun t => ?_) (fun κ' => ?_) h1⟩
    · rfl
    · rw [rt_mk, lkR_cons, lkR_cons, lkR_erl]
      show OSim (if κ' = κ then some _ else if κ' = key then some _ else σ.er.rt κ') _
      by_cases e1 : κ' = κ
      · rw [if_pos e1, if_pos e1]; exact RSim.rfl _
      · rw [if_neg e1, if_neg e1]
        by_cases e2 : κ' = key
        · rw [if_pos e2, if_pos e2]; exact RSim.rfl _
        · rw [if_neg e2, if_neg e2, if_neg e1, TS.rt_er]; exact OSim.rfl _
  have hRo : (TS.mk σ.t ((κ, .tyo full e kw X enc dec d xs i 0 key ys.length) :: (key, .ty .own true e' k' Y enc' dec' d' ys) :: erl σ.r κ)).er.rt κ = some (TRoot.tyo full e kw X enc dec d xs i 0 key ys.length).er := by
    rw [rt_mk, lkR_cons, if_pos rfl]; rfl
  have hat : (TRoot.tyo full e kw X enc dec d xs i 0 key ys.length).er.atom κ i 0 = .ref key 0 ys.length := by
    unfold Root.atom
    show (match look2 [((i, 0), Cl.ref key 0 ys.length)] i 0 _ with | .ref κ' lo n => At.ref κ' lo n | .cl (.lit v) => .lit v | .cl (.sl _ _ _ _ _) => .spot κ i 0 | .cl _ => .any) = _
    simp [look2]
  have hevx : (TS.mk σ.t ((κ, .tyo full e kw X enc dec d xs i 0 key ys.length) :: (key, .ty .own true e' k' Y enc' dec' d' ys) :: erl σ.r κ)).er.ev x = .ptr κ i 0 := by
    rw [evS_eq, show evS (TS.mk σ.t _) x = evS σ x by cases x <;> rfl, hx]; rfl
  have hld : AL P F N ops Q (o :: l) (TS.mk σ.t ((κ, .tyo full e kw X enc dec d xs i 0 key ys.length) :: (key, .ty .own true e' k' Y enc' dec' d' ys) :: erl σ.r κ)).er := by
    refine AL.loadAgg hG.T hop hg (by rw [hdst]; simpa [okD] using hd) hevx ht hk hRo hi (show 0 + 1 ≤ kw by omega) (liveL_true _ _ _ _) ?_
    have hats : atomsL (TRoot.tyo full e kw X enc dec d xs i 0 key ys.length).er κ i 0 1 = [.ref key 0 ys.length] := by simp only [atomsL, hat]
    rw [hats, hdst]
    exact vcL_ok hG hE kk h
  exact fun a w hr => hld a w (hopen a w hr)
theorem tyo_kill_get {κ' key i n e kw : Nat} {full : Bool} {X : Type} {enc : X → Nat → TC} {dec : List Value → Option X} {d : X} {xs : List X} (i' r' : Nat) (hi : i' ≠ i) : ((TRoot.tyo full e kw X enc dec d xs i 0 key n).er.kill κ').get i' r' = .cl ((enc (xs.getD i' d) r').er .own) := by
  rw [Root.get_kill]
  show (look2 [((i, 0), Cl.ref key 0 n)] i' r' (.cl ((enc (xs.getD i' d) r').er .own))).kill κ' = _
  simp only [look2]
  by_cases h : r' = 0
  · rw [if_pos h, if_neg (fun h => hi h)]; rfl
  · rw [if_neg h]; rfl
/-- A struct of one slice is laid down where the slice that was there has been given away. -/
theorem OpK.stNR (hG : GOk P G) {t m : Nat} {kd : TK} {z : List ZC} {x y : Operand} {κ i key key' n : Nat} {full : Bool} {e kw : Nat} {X : Type} {enc : X → Nat → TC} {dec : List Value → Option X} {d : X} {xs : List X} (x' : X) {l : List At} {τ' : TS} (hop : o.op = .store t x y) (hg : o.guard = none) (hd : o.dst = none)
    (hx : evS σ x = .ptr κ i 0) (ht : G.T t = some ⟨m, kd, z⟩) (hy : (stV (evS σ y)).atoms = some l) (hR : lkR σ.r κ = some (.raw ((TRoot.tyo full e kw X enc dec d xs i 0 key n).er.kill key'))) (hl : Nat.beq l.length kw = true) (hm : Nat.beq l.length m = true) (hi : i < xs.length)
    (hs : StN κ enc x' 0 l ⟨σ.t, erl σ.r κ⟩ τ') (h : fS ⟨τ'.t, (κ, .ty .own full e kw X enc dec d (xs.set i x')) :: erl τ'.r κ⟩ k) : OpK P F N o σ k := by
  simp only [beq_dec, decide_eq_true_eq] at hl hm
  rw [fS_eq] at h
  refine ⟨fun ops Q rest kk => ?_⟩
  have hxe : σ.er.ev x = .ptr κ i 0 := by rw [evS_eq, hx]; rfl
  have hye : (σ.er.ev y).atoms = some l := by rw [evS_eq]; exact hy
  refine AL.store hG.T hop hg hd hxe ht hye hm (TS.rt_some hR) rfl hi (by show 0 + m ≤ kw; omega) (liveL_true _ _ _ _) ?_
  have hw := wrL_same i (l.map At.cl) ((TRoot.tyo full e kw X enc dec d xs i 0 key n).er.kill key') 0
  have hle := StN.ok (e := e) (kw := kw) (full := full) (dec := dec) (d := d) hi hs (((TRoot.tyo full e kw X enc dec d xs i 0 key n).er.kill key').wrL i 0 (l.map At.cl)) (by omega) ⟨hw.1, hw.2.1, hw.2.2.1, hw.2.2.2.1, hw.2.2.2.2, fun i' r' hii => by rw [get_wrL_ne hii]; exact tyo_kill_get i' r' hii, fun r' hr' => by omega, fun j x hj => by
    have hjl : j < l.length := (List.getElem?_eq_some_iff.1 hj).1
    rw [get_wrL_eq _ _ _ ⟨by omega, by simp; omega⟩, List.getElem?_map, show 0 + j - 0 = j by omega, hj]; rfl⟩ ⟨σ.t, (κ, .raw (((TRoot.tyo full e kw X enc dec d xs i 0 key n).er.kill key').wrL i 0 (l.map At.cl))) :: erl (erl σ.r κ) κ⟩ rfl rfl
  refine AL.le ?_ (kk _ h)
  refine St.le.trans ?_ hle
  refine le_lk (fun t' => .inr ?_) (fun κ' => ?_)
  · show _ = (look (σ.er.t.map fun p => (p.1, p.2.map (dimA κ) none)) t').getD .any
    rw [St.tv_map σ.er _ rfl, TS.tv_er, dim_st]
  · show OSim (if κ' = κ then some _ else σ.er.rt κ') _
    rw [lkR_cons, lkR_erl, lkR_erl]
    by_cases e1 : κ' = κ
    · rw [if_pos e1, if_pos e1]; exact RSim.rfl _
    · rw [if_neg e1, if_neg e1, if_neg e1, if_neg e1, TS.rt_er]; exact OSim.rfl _
/-- A struct with slices of its own is appended. -/
theorem OpK.app1N (hG : GOk P G) {s x : Operand} {t κ n κs e es ke bs kt d' : Nat} {z : List ZC} {X : Type} {enc : X → Nat → TC} {dec : List Value → Option X} {d : X} {xs : List X} {cs : List TCl} (x' : X) {l : List At} {τ' : TS} (hop : o.op = .call { callee := .builtin .append, args := #[s, x], argTypes := #[t, t] }) (hg : o.guard = none) (hdst : o.dst = some d') (hd : okD N o.dst = true)
    (ht : G.T t = some ⟨kt, .sl e ke bs, z⟩) (hs : evS σ s = .a (.ref κ 0 n)) (hR : lkR σ.r κ = some (.ty .own true e ke X enc dec d xs)) (hn : n = xs.length) (hx : evS σ x = .a (.ref κs 0 1)) (hS : lkR σ.r κs = some (.litr es ke [cs]))
    (hkk : Nat.blt κ 1000000 = true) (h63 : xs.length + 1 ≤ maxLen ∧ (xs.length + 1) * bs ≤ 140737488355328) (hl : ((atomsL (TRoot.litr es ke [cs]).er κs 0 0 ke).map fun x => (killA κ x).cl) = l.map At.cl) (hlk : l.length = ke)
    (hsn : StN κ enc x' 0 l ⟨(d', .a (.ref κ 0 (xs.length + 1))) :: (σ.drop κ).t, (σ.drop κ).r⟩ τ') (h : fS ⟨τ'.t, (κ, .ty .own true e ke X enc dec d (xs ++ [x'])) :: erl τ'.r κ⟩ k) : OpK P F N o σ k := by
  rw [fS_eq] at h
  refine ⟨fun ops Q rest kk => ?_⟩
  simp only [blt_dec, decide_eq_true_eq] at hkk
  have hRe := TS.rt_some hR
  have hSe := TS.rt_some hS
  subst hn
  refine AL.append1 hG.T hop hg hd ht (by rw [evS_eq, hs]; rfl) hRe rfl rfl rfl rfl (by rw [evS_eq, hx]; rfl) hSe rfl (liveL_true _ _ _ _) (okK_lt hkk) h63.1 h63.2 ?_
  rw [hdst]
  have hset : (xs ++ [d]).set xs.length x' = xs ++ [x'] := by simp
  have hget : ∀ i r, (appR (TRoot.ty .own true e ke X enc dec d xs).er κ (atomsL (TRoot.litr es ke [cs]).er κs 0 0 ke)).get i r = if i = xs.length ∧ 0 ≤ r ∧ r < 0 + (l.map At.cl).length then ((l.map At.cl)[r - 0]?).getD (.cl ((enc (xs.getD i d) r).er .own)) else (.cl ((enc (xs.getD i d) r).er .own)) := by
    intro i r
    rw [← hl]
    exact look2_mkop (i := xs.length) (i' := i) (c := .cl ((enc (xs.getD i d) r).er .own)) [] _ 0 r
  have hle := StN.ok (e := e) (kw := ke) (full := true) (dec := dec) (d := d) (xs := xs ++ [d]) (i := xs.length) (by simp) hsn (appR (TRoot.ty .own true e ke X enc dec d xs).er κ (atomsL (TRoot.litr es ke [cs]).er κs 0 0 ke)) (by omega) ⟨rfl, rfl, rfl, rfl, by show xs.length + 1 = (xs ++ [d]).length; simp, fun i' r' hii => by
    rw [hget, if_neg (fun h => hii h.1)]
    have : (xs ++ [d]).getD i' d = xs.getD i' d := by
      simp only [List.getD]
      rcases Nat.lt_or_ge i' xs.length with h9 | h9
      · rw [List.getElem?_append_left h9]
      · rw [List.getElem?_eq_none (by simp; omega), List.getElem?_eq_none (by omega)]
    rw [this], fun r' hr' => by omega, fun j x hj => by
    have hjl : j < l.length := (List.getElem?_eq_some_iff.1 hj).1
    rw [hget, if_pos ⟨rfl, Nat.zero_le _, by simp; omega⟩, List.getElem?_map, show 0 + j - 0 = j by omega, hj]; rfl⟩ ⟨(d', .a (.ref κ 0 (xs.length + 1))) :: (σ.drop κ).t, (κ, .raw (appR (TRoot.ty .own true e ke X enc dec d xs).er κ (atomsL (TRoot.litr es ke [cs]).er κs 0 0 ke))) :: erl (σ.drop κ).r κ⟩ rfl rfl
  rw [hset] at hle
  refine AL.le ?_ (kk _ h)
  refine St.le.trans ?_ hle
  refine le_lk (fun t' => .inr ?_) (fun κ' => ?_)
  · rw [lkT_cons]
    show _ = (((σ.er.drop κ).setR κ _).put d' _).tv t'
    rw [St.tv_put]
    by_cases e2 : t' = d'
    · rw [if_pos e2, if_pos e2]; rfl
    · rw [if_neg e2, if_neg e2]
      rw [← TS.tv_er, drop_tv]; rfl
  · rw [lkR_cons, lkR_erl]
    show OSim (if κ' = κ then some _ else (σ.er.drop κ).rt κ') _
    by_cases e2 : κ' = κ
    · rw [if_pos e2, if_pos e2]; exact RSim.rfl _
    · rw [if_neg e2, if_neg e2, if_neg e2]
      rw [← TS.rt_er, drop_rt]; exact OSim.rfl _
end
section
variable {P : Program} {F : Fm} {N : Nat} {o : Oper} {σ : St}
/-- A slice beyond the length, within what the row holds. -/
theorem Pure1.sliceX {T : Nat → Option TyI} (hT : TOk P T) {t e ke bs kt κ n l h' : Nat} {z : List ZC} {x : Operand} {lo hi : Option Operand} {R : Root} (hop : o.op = .slice t x lo hi none)
    (ht : T t = some ⟨kt, .sl e ke bs, z⟩) (hx : σ.ev x = .a (.ref κ 0 n)) (hR : σ.rt κ = some R) (hf : R.full = true) (hke : R.k = ke)
    (hlo : (lo = none ∧ l = 0) ∨ ∃ y ki i, lo = some y ∧ σ.ev y = .a (.lit (.int ki i)) ∧ i = (l : Int)) (hhi : ∃ y ki i, hi = some y ∧ σ.ev y = .a (.lit (.int ki i)) ∧ i = (h' : Int))
    (hb : l ≤ h' ∧ h' ≤ R.n) : Pure1 P F N σ o (.a (.ref κ l (h' - l))) := fun a w ω β h => by
  obtain ⟨h1, inf, zv, h2, h3, _⟩ := (hT t _ ht).kind
  have hx' := h.ev x
  rw [hx] at hx'
  obtain ⟨R1, e1, e2, A, c, e3, e4, e5, e6, e7, e8⟩ := hx'
  rw [hR] at e1; injection e1 with e1; subst e1
  obtain ⟨q71, q72⟩ := e7 rfl
  obtain ⟨f0, f1, f2, f3, f4⟩ := (h.roots κ R hR).full hf
  have hcap : h' ≤ c := by omega
  have hrun : ∀ w : World, (Instr.sliceAt t (a.eval x) (lo.map a.eval) (hi.map a.eval) none).run P w = .ok (.slice (if c = l then A else A.map (·.add (l * inf.size))) (h' - l) (c - l)) w := by
    intro w
    have hH : (match hi.map a.eval with | some v => Instr.sliceBound v c .sliceAcap | none => (pure n : Sem Nat)).run P w = .ok h' w := by
      obtain ⟨y, ki, i, rfl, hy, rfl⟩ := hhi
      have := ev_lit h hy
      have h9 : (0 : Int) ≤ (h' : Int) ∧ (h' : Int) ≤ (c : Int) := by omega
      simp [this, Instr.sliceBound, asIntOf, h9]
    have hL : (match lo.map a.eval with | some v => Instr.sliceBound v h' .sliceB | none => (pure 0 : Sem Nat)).run P w = .ok l w := by
      rcases hlo with ⟨rfl, rfl⟩ | ⟨y, ki, i, rfl, hy, rfl⟩
      · rfl
      · have := ev_lit h hy
        have h9 : (0 : Int) ≤ (l : Int) ∧ (l : Int) ≤ (h' : Int) := by omega
        simp [this, Instr.sliceBound, asIntOf, h9]
    rw [e3]
    unfold Instr.sliceAt
    rw [Sem.run_bind, run_underlying h1]
    show (Instr.slice t (.slice A n c) (lo.map a.eval) (hi.map a.eval) none).run P w = _
    unfold Instr.slice
    rw [Sem.run_bind, run_underlying h1]
    simp only [Result.andThen]
    rw [Sem.run_bind]
    have hsb : (Instr.sliceBounds true n c (lo.map a.eval) (hi.map a.eval) none).run P w = .ok (l, h', c) w := by
      unfold Instr.sliceBounds
      simp only [Sem.run_bind]
      obtain ⟨y, ki, i, rfl, hy, rfl⟩ := hhi
      rcases hlo with ⟨rfl, rfl⟩ | ⟨y2, ki2, i2, rfl, hy2, rfl⟩ <;> simp_all
    rw [hsb]
    simp [sizeOf, typeInfo, h2]
  refine ⟨.slice (if c = l then A else A.map (·.add (l * inf.size))) (h' - l) (c - l), fun w' => ?_, R, hR, by omega, _, _, rfl, by omega, by omega, ?_, ?_, ?_⟩
  · unfold execOp
    rw [hop]
    show ((Instr.sliceAt t (a.eval x) (lo.map a.eval) (hi.map a.eval) none >>= fun v => pure (Next.value v)) : Sem Next).run P w' = _
    rw [Sem.run_bind, hrun]
    rfl
  · intro hA
    split at hA
    · omega
    · cases A with
      | none => have := e6 rfl; omega
      | some b => cases hA
  · intro hl0
    subst hl0
    rw [q71, q72]
    constructor
    · split
      · rfl
      · cases (β κ).A with
        | none => rfl
        | some b => obtain ⟨g, o, s⟩ := b; simp [Addr.add]
    · omega
  · intro h0
    rcases f4 with ⟨f5, f6⟩ | ⟨g2, cur, n1, n2, n3, n4⟩
    · omega
    · refine ⟨g2, 0, n1, ?_⟩
      rw [if_neg (by omega), q71, n1, h3, hke]
      show some (Addr.add ⟨g2, 0, none⟩ (l * ke)) = _
      rw [add_addr]
end
section
variable {P : Program} {F : Fm} {N : Nat} {G : Gt} {o : Oper} {σ : TS} {k : V → Prop}
theorem PK.sliceX (hG : GOk P G) {t e ke bs kt κ n l h' : Nat} {z : List ZC} {x y : Operand} {lo : Option Operand} {ki : IntKind} {ih : Int} {er : Nat} {X : Type} {enc : X → Nat → TC} {dec : List Value → Option X} {d : X} {xs : List X} (hop : o.op = .slice t x lo (some y) none)
    (ht : G.T t = some ⟨kt, .sl e ke bs, z⟩) (hx : evS σ x = .a (.ref κ 0 n)) (hR : lkR σ.r κ = some (.ty .own true er ke X enc dec d xs))
    (hlo : (lo = none ∧ l = 0) ∨ ∃ y ki i, lo = some y ∧ evS σ y = .a (.lit (.int ki i)) ∧ i = (l : Int)) (hy : evS σ y = .a (.lit (.int ki ih))) (hih : ih = (h' : Int))
    (hb : l ≤ h' ∧ h' ≤ xs.length) (h : k (.a (.ref κ l (h' - l)))) : PK P F N o σ k :=
  ⟨.a (.ref κ l (h' - l)), h, Pure1.sliceX hG.T hop ht (by rw [evS_eq, hx]; rfl) (TS.rt_some hR) rfl rfl (by
    rcases hlo with h | ⟨y, ki, i, h1, h2, h3⟩
    · exact .inl h
    · exact .inr ⟨y, ki, i, h1, by rw [evS_eq, h2]; rfl, h3⟩) ⟨y, ki, ih, rfl, by rw [evS_eq, hy]; rfl, hih⟩ hb⟩
end
end Go.Tr
