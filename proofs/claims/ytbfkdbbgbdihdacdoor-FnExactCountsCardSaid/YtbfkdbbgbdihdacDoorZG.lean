import Derived.Test.YtbfkdbbgbdihdacDoorVZ
import Derived.Test.YtbfkdbbgbdihdacDoorVR
import Derived.Test.YtbfkdbbgbdihdacDoorZA
section
/- A slice that lies in an element of an own row is opened, to be written, and closed again. -/
set_option linter.unusedVariables false
set_option linter.unusedSimpArgs false
universe u
namespace Go.Tr
open Go Go.RowKit
theorem okK_far' {F : Fm} (hE : F.nE ≤ 1000000) {κ : Nat} (h : (Nat.blt κ 1000000 || Nat.ble 2000000 κ) = true) : okK F κ := by
  simp only [Bool.or_eq_true, Nat.ble_eq, blt_dec, decide_eq_true_eq] at h
  intro ρ hρ e; omega
section
variable {P : Program} {F : Fm} {N : Nat} {G : Gt} {o : Oper} {σ : TS} {k : TS → Prop}
theorem ListO.open_ (hG : GOk P G) (hE : F.nE ≤ 1000000) {ops : Array Oper} {l : List Oper} (key : Nat) {t m κ i r e kw e' k' dd : Nat} {kd : TK} {z : List ZC} {x : Operand} {full : Bool} {X Y : Type} {enc : X → Nat → TC} {dec : List Value → Option X} {d : X} {xs : List X} {enc' : Y → Nat → TC} {dec' : List Value → Option Y} {d' : Y} {ys : List Y}
    (hop : o.op = .load t x) (hg : o.guard = none) (hdst : o.dst = some dd) (hd : Nat.blt dd N = true) (hx : evS σ x = .ptr κ i r) (ht : G.T t = some ⟨m, kd, z⟩) (hk : scK kd = true) (hR : lkR σ.r κ = some (.ty .own full e kw X enc dec d xs)) (hi : i < xs.length) (hr : r < kw)
    (hc : enc (xs.getD i d) r = .sl e' k' Y enc' dec' d' ys) (hkey : lkR σ.r key = none) (hkk : (Nat.blt key 1000000 || Nat.ble 2000000 key) = true) (hvw : noVw κ σ.r = true)
    (h : fS ⟨(dd, .a (.ref key 0 ys.length)) :: σ.t, (κ, .tyo full e kw X enc dec d xs i r key ys.length) :: (key, .ty .own true e' k' Y enc' dec' d' ys) :: erl σ.r κ⟩ fun σ => vcL P F N G ops l σ k) : ListO P F N ops (o :: l) σ k := by
  refine ⟨fun Q kk => ?_⟩
  rw [fS_eq] at h
  simp only [blt_dec, decide_eq_true_eq] at hd
  have hRe := TS.rt_some hR
  have hne : κ ≠ key := by rintro rfl; rw [hkey] at hR; cases hR
  have hgR : (TRoot.ty .own full e kw X enc dec d xs).er.get i r = .cl (.sl .own e' k' ys.length (fun i r => (enc' (ys.getD i d') r).er .own)) := by
    rw [ty_get, hc]; rfl
  -- the state with the cell open
  have hopen : ∀ a w, Rel F N σ.er a w → Rel F N (TS.mk σ.t ((κ, .tyo full e kw X enc dec d xs i r key ys.length) :: (key, .ty .own true e' k' Y enc' dec' d' ys) :: erl σ.r κ)).er a w := by
    intro a w ⟨ω, β, hrel⟩
    obtain ⟨ω', β', h1, _⟩ := hrel.open_ hRe rfl hi hr hgR (okK_far' hE hkk) (by rw [TS.rt_er, hkey]; rfl) (fun κ' R' hR' => noVw_ok hvw κ' R' i r (by rw [← TS.rt_er]; exact hR'))
    refine ⟨ω', β', le_of_osim (fun t => ?_) (fun κ' => ?_) h1⟩
    · rfl
    · rw [rt_mk, lkR_cons, lkR_cons, lkR_erl]
      show OSim (if κ' = κ then some _ else if κ' = key then some _ else σ.er.rt κ') _
      by_cases e1 : κ' = κ
      · rw [if_pos e1, if_pos e1]; exact RSim.rfl _
      · rw [if_neg e1, if_neg e1]
        by_cases e2 : κ' = key
        · rw [if_pos e2, if_pos e2]; exact RSim.rfl _
        · rw [if_neg e2, if_neg e2, if_neg e1, TS.rt_er]; exact OSim.rfl _
  have hRo : (TS.mk σ.t ((κ, .tyo full e kw X enc dec d xs i r key ys.length) :: (key, .ty .own true e' k' Y enc' dec' d' ys) :: erl σ.r κ)).er.rt κ = some (TRoot.tyo full e kw X enc dec d xs i r key ys.length).er := by
    rw [rt_mk, lkR_cons, if_pos rfl]; rfl
  have hat : (TRoot.tyo full e kw X enc dec d xs i r key ys.length).er.atom κ i r = .ref key 0 ys.length := by
    unfold Root.atom
    show (match look2 [((i, r), Cl.ref key 0 ys.length)] i r _ with | .ref κ' lo n => At.ref κ' lo n | .cl (.lit v) => .lit v | .cl (.sl _ _ _ _ _) => .spot κ i r | .cl _ => .any) = _
    simp [look2]
  have hevx : (TS.mk σ.t ((κ, .tyo full e kw X enc dec d xs i r key ys.length) :: (key, .ty .own true e' k' Y enc' dec' d' ys) :: erl σ.r κ)).er.ev x = .ptr κ i r := by
    rw [evS_eq, show evS (TS.mk σ.t _) x = evS σ x by cases x <;> rfl, hx]; rfl
  have hld : AL P F N ops Q (o :: l) (TS.mk σ.t ((κ, .tyo full e kw X enc dec d xs i r key ys.length) :: (key, .ty .own true e' k' Y enc' dec' d' ys) :: erl σ.r κ)).er := by
    refine AL.load1 hG.T hop hg (by rw [hdst]; simpa [okD] using hd) hevx ht hk hRo hi hr rfl ?_
    rw [hat, hdst]
    exact vcL_ok hG hE kk h
  exact fun a w hr => hld a w (hopen a w hr)
/-- The open slice goes back into its element. -/
def closeT (σ : TS) (κ key : Nat) (full : Bool) (e kw : Nat) (X : Type) (enc : X → Nat → TC) (dec : List Value → Option X) (d : X) (xs : List X) : TS := ⟨(σ.drop key).t, (κ, .ty .own full e kw X enc dec d xs) :: erl (σ.drop key).r κ⟩
theorem close_le {κ key i r n e kw e' k' : Nat} {full : Bool} {X Y : Type} {enc : X → Nat → TC} {dec : List Value → Option X} {d : X} {xs : List X} {enc' : Y → Nat → TC} {dec' : List Value → Option Y} {d' : Y} {ys : List Y} (x' : X)
    (hR : lkR σ.r κ = some (.tyo full e kw X enc dec d xs i r key n)) (hD : lkR σ.r key = some (.ty .own true e' k' Y enc' dec' d' ys)) (hn : n = ys.length) (hne : Nat.beq κ key = false) (hv : noVw key σ.r = true) (hi : i < xs.length) (hr : r < kw)
    (hx : enc x' r = .sl e' k' Y enc' dec' d' ys) (ho : ∀ r', r' < kw → r' ≠ r → enc x' r' = enc (xs.getD i d) r') : leT σ (closeT σ κ key full e kw X enc dec d (xs.set i x')) := by
  subst hn
  have hne' : κ ≠ key := by simpa [beq_dec] using hne
  intro F N a w ⟨ω, β, h⟩
  have hg : (TRoot.tyo full e kw X enc dec d xs i r key ys.length).er.get i r = .ref key 0 ys.length := by
    show look2 [((i, r), Cl.ref key 0 ys.length)] i r _ = _
    simp [look2]
  obtain ⟨ω', h1⟩ := h.close (TS.rt_some hR) hi hr (d := key) (n := ys.length) hg (TS.rt_some hD) hne' rfl rfl (fun κ' R' i' r' hR' => noVw_ok hv κ' R' i' r' (by rw [← TS.rt_er]; exact hR'))
  refine ⟨ω', β, le_of_osim (fun t => ?_) (fun κ' => ?_) h1⟩
  · exact drop_tv σ key t
  · show OSim _ ((TS.mk (σ.drop key).t ((κ, .ty .own full e kw X enc dec d (xs.set i x')) :: erl (σ.drop key).r κ)).er.rt κ')
    rw [rt_mk, lkR_cons, lkR_erl]
    show OSim ((St.drop _ key).rt κ') _
    rw [St.rt_drop]
    by_cases e1 : κ' = key
    · rw [if_pos e1]
      have e2 : κ' ≠ κ := fun h => hne' (h.symm.trans e1)
      rw [if_neg e2, if_neg e2, ← rt_mk (σ.drop key).t, drop_rt, St.rt_drop, if_pos e1]
      trivial
    · rw [if_neg e1]
      show OSim (((if κ' = κ then some _ else σ.er.rt κ') : Option Root).map (Root.kill key)) _
      by_cases e2 : κ' = κ
      · rw [if_pos e2, if_pos e2]
        refine ⟨rfl, fun hf => ⟨hf, rfl⟩, rfl, ?_, fun i' r' hi' hr' => ?_⟩
        · show (xs.set i x').length = xs.length; simp
        · change i' < xs.length at hi'; change r' < kw at hr'
          have hgk := Root.get_kill key { (TRoot.tyo full e kw X enc dec d xs i r key ys.length).er with op := ((i, r), .cl ((TRoot.ty .own true e' k' Y enc' dec' d' ys).er.shutN ys.length)) :: (TRoot.tyo full e kw X enc dec d xs i r key ys.length).er.op } i' r'
          rw [hgk, ty_get, ty_set_get enc d x' xs i i' r' hi]
          have hget : ({ (TRoot.tyo full e kw X enc dec d xs i r key ys.length).er with op := ((i, r), .cl ((TRoot.ty .own true e' k' Y enc' dec' d' ys).er.shutN ys.length)) :: (TRoot.tyo full e kw X enc dec d xs i r key ys.length).er.op } : Root).get i' r' = if r' = r ∧ i' = i then .cl ((TRoot.ty .own true e' k' Y enc' dec' d' ys).er.shutN ys.length) else .cl ((enc (xs.getD i' d) r').er .own) := by
            show look2 [((i, r), _), ((i, r), Cl.ref key 0 ys.length)] i' r' _ = _
            simp only [look2]
            by_cases a1 : r' = r
            · by_cases a2 : i' = i
              · simp [a1, a2]
              · simp only [a1, a2, if_true, if_false, and_false]; rfl
            · simp only [a1, if_false, false_and]; rfl
          rw [hget]
          by_cases a1 : r' = r ∧ i' = i
          · obtain ⟨rfl, rfl⟩ := a1
            rw [if_pos ⟨rfl, rfl⟩, if_pos rfl, hx]
            exact CSame.rfl _
          · rw [if_neg a1]
            by_cases a2 : i' = i
            · subst a2
              rw [if_pos rfl, ho r' hr' (fun h => a1 ⟨h, rfl⟩)]; exact CSame.rfl _
            · rw [if_neg a2]; exact CSame.rfl _
      · rw [if_neg e2, if_neg e2, if_neg e2, ← rt_mk (σ.drop key).t, drop_rt, St.rt_drop, if_neg e1]
        exact OSim.rfl _
theorem ListO.close (hG : GOk P G) (hE : F.nE ≤ 1000000) {ops : Array Oper} {l : List Oper} {κ key i r n e kw e' k' : Nat} {full : Bool} {X Y : Type} {enc : X → Nat → TC} {dec : List Value → Option X} {d : X} {xs : List X} {enc' : Y → Nat → TC} {dec' : List Value → Option Y} {d' : Y} {ys : List Y} (x' : X)
    (hR : lkR σ.r κ = some (.tyo full e kw X enc dec d xs i r key n)) (hD : lkR σ.r key = some (.ty .own true e' k' Y enc' dec' d' ys)) (hn : n = ys.length) (hne : Nat.beq κ key = false) (hv : noVw key σ.r = true) (hi : i < xs.length) (hr : r < kw)
    (hx : enc x' r = .sl e' k' Y enc' dec' d' ys) (ho : ∀ r', r' < kw → r' ≠ r → enc x' r' = enc (xs.getD i d) r') (h : fS (closeT σ κ key full e kw X enc dec d (xs.set i x')) fun σ => vcL P F N G ops l σ k) : ListO P F N ops l σ k := by
  rw [fS_eq] at h
  exact ⟨fun Q kk a w hr' => vcL_ok hG hE kk h a w (close_le x' hR hD hn hne hv hi hr hx ho _ _ _ _ hr')⟩
end
end Go.Tr
end

section
namespace Go.Proofs.YtbfkdbbgbdihdacDoor
open Go Go.Tr
set_option maxRecDepth 100000
set_option linter.unusedVariables false
set_option linter.unusedSimpArgs false
/-- The first i elements are told by f, the others stand as they were. -/
def mkL {α : Type} (d : α) (f : Nat → α) (xs : List α) (i : Nat) : List α := (List.range xs.length).map fun j => if j < i then f j else xs.getD j d
theorem mkL_len {α : Type} (d : α) (f : Nat → α) (xs : List α) (i : Nat) : (mkL d f xs i).length = xs.length := by simp [mkL]
theorem mkL_zero {α : Type} (d : α) (f : Nat → α) (xs : List α) : mkL d f xs 0 = xs := by
  apply List.ext_getElem
  · simp [mkL]
  · intro j h1 h2
    have : j < xs.length := h2
    simp [mkL, List.getD, this]
theorem mkL_set {α : Type} (d : α) (f : Nat → α) (xs : List α) (i : Nat) (h : i < xs.length) : (mkL d f xs i).set i (f i) = mkL d f xs (i + 1) := by
  apply List.ext_getElem
  · simp [mkL]
  · intro j h1 h2
    simp only [List.getElem_set, mkL, List.getElem_map, List.getElem_range]
    by_cases e : i = j
    · subst e; rw [if_pos rfl, if_pos (by omega)]
    · rw [if_neg e]
      by_cases hj : j < i
      · rw [if_pos hj, if_pos (by omega)]
      · rw [if_neg hj, if_neg (by omega)]
theorem mkL_get {α : Type} (d : α) (f : Nat → α) (xs : List α) (i j : Nat) (h : j < i) (hj : j < xs.length) : (mkL d f xs i).getD j d = f j := by
  simp [mkL, List.getD, h, hj]
theorem set_getD {α : Type} (ys : List α) (d x : α) (i : Nat) (h : i < ys.length) : (ys.set i x).getD i d = x := by simp [List.getD, h]
theorem mkL_ge {α : Type} (d : α) (f : Nat → α) (xs : List α) (i j : Nat) (h : i ≤ j) : (mkL d f xs i).getD j d = xs.getD j d := by
  by_cases hj : j < xs.length
  · simp [mkL, List.getD, hj, show ¬ j < i by omega]
  · simp [mkL, List.getD, hj]
end Go.Proofs.YtbfkdbbgbdihdacDoor
end

section
/- A call to which several slices are handed in to be written. -/
set_option linter.unusedVariables false
set_option linter.unusedSimpArgs false
universe u
namespace Go.Tr
open Go Go.RowKit
section
variable {P : Program} {F : Fm} {N : Nat} {G : Gt} {o : Oper} {τ : TS} {k : TS → Prop}
def bkR : List Bt → List (Nat × TRoot) → List (Nat × TRoot)
  | [], r => r
  | b :: bs, r => (b.κ, b.R') :: erl (bkR bs r) b.κ
theorem bwFind_none {l : List Bt} {ρ κ : Nat} (h : ∀ b ∈ l, b.κ ≠ κ) : bwFind (l.map Bt.b) ρ κ = none := by
  induction l generalizing ρ with
  | nil => rfl
  | cons b l ih =>
    simp only [List.map_cons, bwFind]
    rw [if_neg (show ¬ b.b.κ = κ from h b (by simp)), ih (fun c hc => h c (by simp [hc]))]
theorem bwFind_nd : ∀ {l : List Bt} {ρ0 ρ : Nat} {b : Bt}, (l.map Bt.κ).Nodup → l[ρ]? = some b → bwFind (l.map Bt.b) ρ0 b.κ = some (ρ0 + ρ, b.b)
  | [], _, _, _, _, h => by simp at h
  | c :: l, ρ0, 0, b, hn, h => by
    injection h with h; subst h
    simp only [List.map_cons, bwFind]
    rw [if_pos (show c.b.κ = c.κ from rfl)]; rfl
  | c :: l, ρ0, ρ + 1, b, hn, h => by
    have h' : l[ρ]? = some b := h
    rw [List.map_cons, List.nodup_cons] at hn
    have hne : c.κ ≠ b.κ := fun e => hn.1 (List.mem_map.2 ⟨b, List.mem_of_getElem? h', e.symm⟩)
    simp only [List.map_cons, bwFind]
    rw [if_neg (show ¬ c.b.κ = b.κ from hne), bwFind_nd hn.2 h']
    rw [show ρ0 + 1 + ρ = ρ0 + (ρ + 1) by omega]
theorem lkR_bkR : ∀ {l : List Bt} {r : List (Nat × TRoot)} {κ : Nat}, (l.map Bt.κ).Nodup → ((∀ b ∈ l, b.κ ≠ κ) ∧ lkR (bkR l r) κ = lkR r κ) ∨ ∃ (ρ : Nat) (b : Bt), l[ρ]? = some b ∧ b.κ = κ ∧ lkR (bkR l r) κ = some b.R'
  | [], r, κ, _ => .inl ⟨fun b h => by simp at h, rfl⟩
  | c :: l, r, κ, hn => by
    rw [List.map_cons, List.nodup_cons] at hn
    simp only [bkR]
    rw [lkR_cons, lkR_erl]
    by_cases e : κ = c.κ
    · refine .inr ⟨0, c, rfl, e.symm, ?_⟩
      rw [if_pos e]
    · rw [if_neg e, if_neg e]
      rcases lkR_bkR (l := l) (r := r) (κ := κ) hn.2 with ⟨h1, h2⟩ | ⟨ρ, b, h1, h2, h3⟩
      · exact .inl ⟨fun b hb => by
          rcases List.mem_cons.1 hb with rfl | hb
          · exact fun h => e h.symm
          · exact h1 b hb, h2⟩
      · exact .inr ⟨ρ + 1, b, h1, h2, h3⟩
/-- What comes back of the slices that were handed in. -/
theorem OpK.callBs {f : FuncId} {ags : Array Operand} {ats : Array TypeId} {args : List TAg} {outs : List TAr} {fx : Operand} (bs : List Bt) (hrun : RunT P f args (bs.map Bt.x) outs (bs.map Bt.x')) (hop : o.op = .call ⟨.value fx, ags, ats⟩) (hfx : evS τ fx = .a (.lit (.func (.func f) #[] #[]))) (hg : o.guard = none) (hd : okD N o.dst = true) (hE : F.nE ≤ 1000000)
    (hb : ∀ b ∈ bs, BtOk τ b) (hvw : ∀ b ∈ bs, noVw b.κ τ.r = true) (hnd : (bs.map Bt.κ).Nodup) (hps : QsVs τ τ bs [] 0 (ags.toList.map (evS τ)) args) (hfree : freeT (keyOf o) τ.r = true) (hcnt : Nat.ble (cntT outs) 100 = true) (hk : nextK o outs ⟨τ.t, bkR bs τ.r⟩ k) : OpK P F N o τ k := by
  obtain ⟨fn, hf, hname, hb0⟩ := hrun.fn
  refine ⟨fun ops Q rest kk => ?_⟩
  intro a w hr
  obtain ⟨ω, β, h⟩ := hr
  have hkey : 2000000 ≤ keyOf o := by unfold keyOf; split <;> omega
  have hbw : BwOk τ.er (bs.map Bt.b) := by
    refine ⟨fun ρ c hc => ?_, fun κ R2 h2 => ?_⟩
    · rw [List.getElem?_map] at hc
      cases hq : bs[ρ]? with
      | none => rw [hq] at hc; cases hc
      | some b =>
        rw [hq] at hc; injection hc with hc; subst hc
        obtain ⟨R, hR, hRo, hRk, hRn, hRw, hRg, hRs⟩ := (hb b (List.mem_of_getElem? hq)).ok
        refine ⟨?_, R.er, TS.rt_some hR, hRo, hRk, hRn, hRw, hRg⟩
        have := bwFind_nd (ρ0 := 0) hnd hq
        rw [Nat.zero_add] at this; exact this
    · rw [TS.rt_er] at h2
      cases ho : R2.o with
      | own => trivial
      | fro => trivial
      | vw κ' i r =>
        show bwFind _ 0 κ' = none
        refine bwFind_none fun b hm => ?_
        intro e; subst e
        exact noVw_ok (hvw b hm) κ R2 i r h2 ho
  have hent := hps.ok h (by rw [rmM_nil]; exact h) hbw (fun κ R h => ⟨R, h, rfl, Nat.le_refl _⟩)
  rw [rmM_nil, qM_nil] at hent
  rw [show (bs.map fun b => b.x.er) = (bs.map Bt.x).map TX.er from (List.map_map (g := TX.er) (f := Bt.x) (l := bs)).symm] at hent
  refine wpList_plain hg fun K hK => ?_
  unfold Oper.wp
  rw [run_callV hop (ev_lit (v := .func (.func f) #[] #[]) h (by rw [evS_eq, hfx]; rfl)) hf hname hb0, Oper.upon_enter]
  have hargs : ags.map a.eval = (ags.toList.map a.eval).toArray := by apply Array.ext'; rw [Array.toList_map]
  rw [hargs]
  refine (hrun.run w _ _ _ hent).mono fun e w' he => ?_
  obtain ⟨us, outs0, ext0, q', rfl, ⟨rfl, rfl⟩, hx⟩ := he
  have hmine : ∀ x ∈ outs.map TAr.er, x.mine := by
    intro x hx
    obtain ⟨t, _, rfl⟩ := List.mem_map.1 hx
    cases t with
    | one t => exact t.mine
    | agg ts => intro c hc; obtain ⟨t, _, rfl⟩ := List.mem_map.1 hc; exact t.mine
  have hs : ∀ (ρ : Nat) (c : Bw) (x : Xr), (bs.map Bt.b)[ρ]? = some c → ((bs.map Bt.x').map TX.er)[ρ]? = some x → x.k = c.x.k ∧ x.n = c.x.n ∧ x.mine := by
    intro ρ c x h1 h2
    rw [List.getElem?_map] at h1
    rw [List.getElem?_map, List.getElem?_map] at h2
    cases hq : bs[ρ]? with
    | none => rw [hq] at h1; cases h1
    | some b =>
      rw [hq] at h1 h2; injection h1 with h1; injection h2 with h2; subst h1 h2
      have hbb := hb b (List.mem_of_getElem? hq)
      exact ⟨hbb.k, hbb.n, b.x'.mine⟩
  obtain ⟨ω', β', hrel⟩ := call_backQ h hbw (fun _ _ _ _ => rfl) (fun b j y hy _ hn => by rw [q_none hn] at hy; cases hy) hx (by simp) hs hE (keyOf o) hkey (freeT_ok hfree) hmine (by rw [cntT_eq]; exact Nat.le_of_ble_eq_true hcnt) hd
  refine hK _ _ ?_
  have hsm : Sm (τ.er.back (bs.map Bt.b) ((bs.map Bt.x').map TX.er)) ⟨τ.t, bkR bs τ.r⟩ := by
    refine ⟨fun t => ?_, fun κ => ?_⟩
    · have : ((fun p : Nat × V => (p.1, p.2.map (dimB (bs.map Bt.b)) none)) ∘ fun p : Nat × V => (p.1, stV p.2)) = fun p => (p.1, stV p.2) := by
        funext p; show (p.1, _) = _; rw [map_stV]
      have e2 := TS.tv_er τ t
      cases bs with
      | nil => exact e2
      | cons b0 bs0 =>
        show (look (List.map (fun p : Nat × V => (p.1, p.2.map (dimB ((b0 :: bs0).map Bt.b)) none)) (τ.t.map fun p => (p.1, stV p.2))) t).getD .any = _
        rw [List.map_map, this]; exact e2
    · rw [rt_back (by simp)]
      show OSim _ ((lkR (bkR bs τ.r) κ).map TRoot.er)
      rcases lkR_bkR (l := bs) (r := τ.r) (κ := κ) hnd with ⟨h1, h2⟩ | ⟨ρ, b, h1, h2, h3⟩
      · rw [bwFind_none h1, h2, TS.rt_er]
        exact OSim.rfl _
      · subst h2
        have hf := bwFind_nd (ρ0 := 0) hnd h1
        rw [Nat.zero_add] at hf
        obtain ⟨R, hR, hRo, hRk, hRn, hRw, hRg, hRs⟩ := (hb b (List.mem_of_getElem? h1)).ok
        rw [hf, h3]
        have e4 : ((bs.map Bt.x').map TX.er)[ρ]? = some b.x'.er := by rw [List.getElem?_map, List.getElem?_map, h1]; rfl
        simp only [e4]
        show OSim (some (match τ.er.rt b.κ with | some R => mixR b.b R b.x'.er | none => _)) _
        rw [TS.rt_some hR]
        exact hRs
  obtain ⟨s1, s2, s3⟩ := outsE_ok outs _ _ (keyOf o) hsm
  unfold nextK at hk
  generalize outsE outs ⟨τ.t, bkR bs τ.r⟩ (keyOf o) = p at hk s1 s2 s3
  obtain ⟨τ', vs⟩ := p
  dsimp only at hk s1 s2 s3
  rw [fS_eq] at hk
  have hst := tupV_st s3
  cases hds : o.dst with
  | none =>
    rw [hds] at hk hrel
    exact kk _ hk _ _ (s1.le _ _ _ _ ⟨ω', β', hrel⟩)
  | some d =>
    rw [hds] at hk hrel
    dsimp only at hk
    rw [putK_eq] at hk
    refine kk _ hk _ _ ?_
    have h2 := s1.put d (tupV vs)
    rw [hst, ← s2] at h2
    rw [← s2]
    exact h2.le _ _ _ _ ⟨ω', β', hrel⟩
end
end Go.Tr
end

section
/- Marks of ints and of lists. -/
namespace Go.Proofs.YtbfkdbbgbdihdacDoor
open Go Go.Tr
set_option maxRecDepth 100000
set_option maxHeartbeats 4000000
set_option linter.unusedVariables false
set_option linter.unusedSimpArgs false
abbrev fI (m : Int) (j : Nat) : Int := m + j
abbrev bInt (e κ : Nat) (xs xs' : List Int) : Bt := ⟨κ, 0, true, .sl e 1 Int encI decI 0 xs, .sl e 1 Int encI decI 0 xs', .ty .own true e 1 Int encI decI 0 xs'⟩
abbrev bSL (e κ : Nat) (xs xs' : List (List Int)) : Bt := ⟨κ, 0, true, .sl e 1 (List Int) encL decL [] xs, .sl e 1 (List Int) encL decL [] xs', .ty .own true e 1 (List Int) encL decL [] xs'⟩
abbrev bIntX (κ : Nat) (xs xs' : List Int) : Bt := ⟨κ, 0, true, .sl 0 1 Int encI decI 0 xs, .sl 0 1 Int encI decI 0 xs', .ty .own false 0 1 Int encI decI 0 xs'⟩
abbrev bSLX (κ : Nat) (xs xs' : List (List Int)) : Bt := ⟨κ, 0, true, .sl 0 1 (List Int) encL decL [] xs, .sl 0 1 (List Int) encL decL [] xs', .ty .own false 0 1 (List Int) encL decL [] xs'⟩
theorem markI_run (e : Nat) (xs : List Int) (m : Int) (h0 : 0 ≤ m) (h1 : m ≤ 4194304) (hn : xs.length ≤ 4000000) : RunT Tryd.prog 20 [.one (.h 0 xs.length), ti m] [.sl e 1 Int encI decI 0 xs] [oi (m + xs.length)] [.sl e 1 Int encI decI 0 (mkL 0 (fI m) xs xs.length)] := by
  refine RunT.of_vc gOk Tryd.func20 rfl rfl (Nat.le_of_ble_eq_true rfl) (by repeat' (first | exact trivial | exact ⟨_, rfl, Nat.le_refl _⟩ | exact Nat.le_of_ble_eq_true rfl | refine And.intro ?_ ?_)) (Nat.le_of_ble_eq_true rfl) rfl (fun F hE => ?_)
  repeat' (first | exact trivial | refine BS.d (fun h => ?_) (fun h => ?_) | refine BS.e (fun h => ?_) (fun h => ?_) | refine BS.ne (fun h => ?_) (fun h => ?_) | refine BS.n ?_ | refine BS.s (fun h => ?_) (fun h => ?_) | refine And.intro ?_ ?_ | (refine Need.mk ?_; first | with_reducible rfl | (show @Eq TC _ _; rfl) | omega | (simp only [adN_zero]; omega)) | exact OutS.whole rfl rfl | refine ListO.go gOk hE ?_)
  refine CodeK.loop gOk hE (fun i : Nat => ⟨[(0, vr 1000000 xs.length), (1, vi (m + i)), (5, vi i)], [(1000000, .ty .own false 0 1 Int encI decI 0 (mkL 0 (fI m) xs i))]⟩) (fun i => i ≤ xs.length) (fun i => xs.length - i) 0 (by refine leT.of ?_ ?_ rfl <;> repeat' (first | exact trivial | refine And.intro rfl ?_ | refine And.intro (by simp [mkL_zero] <;> rfl) ?_)) (Nat.zero_le _) ?_
  rintro i hi
  have hl := mkL_len 0 (fI m) xs i
  repeat' (first | exact trivial | refine BS.d (fun h => ?_) (fun h => ?_) | refine BS.e (fun h => ?_) (fun h => ?_) | refine BS.ne (fun h => ?_) (fun h => ?_) | refine BS.n ?_ | refine BS.s (fun h => ?_) (fun h => ?_) | refine And.intro ?_ ?_ | (refine Need.mk ?_; first | with_reducible rfl | (show @Eq TC _ _; rfl) | omega | (simp only [adN_zero]; omega)) | exact OutS.whole rfl rfl | refine ListO.go gOk hE ?_)
  all_goals (try simp only [adN_zero] at *)
  all_goals first
    | (refine Need.mk ?_; first | omega | (rw [List.length_set]; omega) | rw [show i = xs.length by omega])
    | (refine ⟨i + 1, (by refine leT.of ?_ ?_ rfl <;> repeat' (first | exact trivial | refine And.intro rfl ?_ | refine And.intro (by first | rfl | (refine litInt ?_; omega) | (refine congrArg (fun l => some (TRoot.ty .own false 0 1 Int encI decI 0 l)) ?_; exact mkL_set 0 (fI m) _ _ (by omega))) ?_)), by omega, by first | omega | (dsimp only; omega)⟩)
theorem heldI_run (xs : List Int) (m : Int) (h0 : 0 ≤ m) (h1 : m ≤ 4194304) (hn : xs.length ≤ 4000000) : RunT Tryd.prog 21 [.one (.c (tI (mkL 0 (fI m) xs xs.length))), ti m] [] [oi (m + xs.length)] [] := by
  have hl := mkL_len 0 (fI m) xs xs.length
  refine RunT.of_vc gOk Tryd.func21 rfl rfl (Nat.le_of_ble_eq_true rfl) (by repeat' (first | exact trivial | exact ⟨_, rfl, Nat.le_refl _⟩ | exact Nat.le_of_ble_eq_true rfl | refine And.intro ?_ ?_)) (Nat.le_of_ble_eq_true rfl) rfl (fun F hE => ?_)
  repeat' (first | exact trivial | refine BS.d (fun h => ?_) (fun h => ?_) | refine BS.e (fun h => ?_) (fun h => ?_) | refine BS.ne (fun h => ?_) (fun h => ?_) | refine BS.n ?_ | refine BS.s (fun h => ?_) (fun h => ?_) | refine And.intro ?_ ?_ | (refine Need.mk ?_; first | with_reducible rfl | (show @Eq TC _ _; rfl) | omega | (simp only [adN_zero]; omega)) | exact OutS.whole rfl rfl | refine ListO.go gOk hE ?_)
  refine CodeK.loop gOk hE (fun i : Nat => ⟨[(0, vr 1000000 (mkL 0 (fI m) xs xs.length).length), (1, vi (m + i)), (5, vi i)], [(1000000, rI .fro false (mkL 0 (fI m) xs xs.length))]⟩) (fun i => i ≤ xs.length) (fun i => xs.length - i) 0 (by refine leT.of ?_ ?_ rfl <;> repeat' (first | exact trivial | refine And.intro rfl ?_ | refine And.intro (by simp <;> rfl) ?_)) (Nat.zero_le _) ?_
  rintro i hi
  have hg : i < xs.length → (mkL 0 (fI m) xs xs.length).getD i 0 = fI m i := fun h => mkL_get _ _ _ _ _ h h
  repeat' (first | exact trivial | refine BS.d (fun h => ?_) (fun h => ?_) | refine BS.e (fun h => ?_) (fun h => ?_) | refine BS.ne (fun h => ?_) (fun h => ?_) | refine BS.n ?_ | refine BS.s (fun h => ?_) (fun h => ?_) | refine And.intro ?_ ?_ | (refine Need.mk ?_; first | with_reducible rfl | (show @Eq TC _ _; rfl) | omega | (simp only [adN_zero]; omega)) | exact OutS.whole rfl rfl | refine ListO.go gOk hE ?_)
  all_goals (try simp only [adN_zero] at *)
  all_goals first
    | (exfalso; have h9 := hg (by omega); rw [h9] at *; first | omega | (simp_all; done))
    | (refine Need.mk ?_; first | omega | rw [show i = xs.length by omega])
    | (refine ⟨i + 1, (by refine leT.of ?_ ?_ rfl <;> repeat' (first | exact trivial | refine And.intro rfl ?_ | refine And.intro (by first | rfl | (refine litInt ?_; omega)) ?_)), by omega, by first | omega | (dsimp only; omega)⟩)
/-- The number that a list begins with. -/
def offI (m : Int) (xs : List (List Int)) : Nat → Int
  | 0 => m
  | i + 1 => offI m xs i + (xs.getD i []).length
theorem offI_eq (m : Int) (xs : List (List Int)) : ∀ i, i ≤ xs.length → offI m xs i = m + (xs.take i).flatten.length
  | 0, _ => by simp [offI]
  | i + 1, h => by
    have e : (xs.take (i + 1)).flatten = (xs.take i).flatten ++ xs.getD i [] := by
      rw [List.take_succ_eq_append_getElem (show i < xs.length by omega), List.flatten_append]
      simp [List.getD, show i < xs.length by omega]
    rw [offI, offI_eq m xs i (by omega), e, List.length_append]; omega
theorem offI_bd {m : Int} {xs : List (List Int)} {i : Nat} (hi : i ≤ xs.length) : m ≤ offI m xs i ∧ offI m xs i ≤ m + xs.flatten.length := by
  rw [offI_eq m xs i hi]
  have : (xs.take i).flatten.length ≤ xs.flatten.length := by
    conv => rhs; rw [← List.take_append_drop i xs, List.flatten_append, List.length_append]
    omega
  omega
abbrev gSL (m : Int) (xs : List (List Int)) (j : Nat) : List Int := mkL 0 (fI (offI m xs j)) (xs.getD j []) (xs.getD j []).length
theorem markSL_run (e : Nat) (xs : List (List Int)) (m : Int) (h0 : 0 ≤ m) (h1 : m ≤ 2097152) (hn : xs.length ≤ 1048576) (hc : xs.flatten.length ≤ 1048576) (hx : ∀ i, (xs.getD i []).length ≤ 1048576) : RunT Tryd.prog 107 [.one (.h 0 xs.length), ti m] [.sl e 1 (List Int) encL decL [] xs] [oi (offI m xs xs.length)] [.sl e 1 (List Int) encL decL [] (mkL [] (gSL m xs) xs xs.length)] := by
  refine RunT.of_vc gOk Tryd.func107 rfl rfl (Nat.le_of_ble_eq_true rfl) (by repeat' (first | exact trivial | exact ⟨_, rfl, Nat.le_refl _⟩ | exact Nat.le_of_ble_eq_true rfl | refine And.intro ?_ ?_)) (Nat.le_of_ble_eq_true rfl) rfl (fun F hE => ?_)
  repeat' (first | exact trivial | refine BS.d (fun h => ?_) (fun h => ?_) | refine BS.e (fun h => ?_) (fun h => ?_) | refine BS.ne (fun h => ?_) (fun h => ?_) | refine BS.n ?_ | refine BS.s (fun h => ?_) (fun h => ?_) | refine And.intro ?_ ?_ | (refine Need.mk ?_; first | with_reducible rfl | (show @Eq TC _ _; rfl) | omega | (simp only [adN_zero]; omega)) | exact OutS.whole rfl rfl | refine ListO.go gOk hE ?_)
  refine CodeK.loop gOk hE (fun i : Nat => ⟨[(0, vr 1000000 xs.length), (1, vi (offI m xs i)), (5, vi i)], [(1000000, rSL .own false 0 (mkL [] (gSL m xs) xs i))]⟩) (fun i => i ≤ xs.length) (fun i => xs.length - i) 0 (by refine leT.of ?_ ?_ rfl <;> repeat' (first | exact trivial | refine And.intro rfl ?_ | refine And.intro (by first | rfl | (simp [mkL_zero] <;> rfl)) ?_)) (Nat.zero_le _) ?_
  rintro i hi
  have hl := mkL_len [] (gSL m xs) xs i
  have hb := offI_bd (m := m) hi
  by_cases hi2 : i < xs.length
  · have hgi := mkL_ge [] (gSL m xs) xs i i (Nat.le_refl _)
    have hxi := hx i
    have c1 := markI_run 3 ((mkL [] (gSL m xs) xs i).getD i []) (offI m xs i) (by omega) (by omega) (by rw [hgi]; omega)
    repeat' (first | exact trivial | refine BS.d (fun h => ?_) (fun h => ?_) | refine BS.e (fun h => ?_) (fun h => ?_) | refine BS.ne (fun h => ?_) (fun h => ?_) | refine BS.n ?_ | refine BS.s (fun h => ?_) (fun h => ?_) | refine And.intro ?_ ?_ | (refine Need.mk ?_; first | with_reducible rfl | (show @Eq TC _ _; rfl) | omega | (simp only [adN_zero]; omega)) | exact OutS.whole rfl rfl | (refine ListO.open_ gOk hE 5000 rfl rfl rfl rfl rfl rfl rfl rfl (by (try simp only [adN_zero]); omega) (by decide) rfl rfl rfl rfl ?_) | (refine OpK.callB (bInt 3 5000 ((mkL [] (gSL m xs) xs i).getD i []) (mkL 0 (fI (offI m xs i)) ((mkL [] (gSL m xs) xs i).getD i []) ((mkL [] (gSL m xs) xs i).getD i []).length)) c1 rfl rfl rfl rfl hE (BtOk.sl rfl (mkL_len _ _ _ _)) rfl (QsVs.cons (.one (.h rfl rfl rfl)) (.cons (.one (.c (.lit _) rfl)) .nil)) rfl rfl ?_) | refine ListO.go gOk hE ?_)
    all_goals (try simp only [adN_zero] at *)
    all_goals first
      | (exfalso; omega)
      | (refine Need.mk ?_; omega)
      | (refine ⟨i + 1, ?_, by omega, by first | omega | (dsimp only; omega)⟩
         refine St.le.trans (close_le (κ := 1000000) (key := 5000) (mkL 0 (fI (offI m xs i)) ((mkL [] (gSL m xs) xs i).getD i []) ((mkL [] (gSL m xs) xs i).getD i []).length) (by rfl) (by rfl) (by exact (mkL_len _ _ _ _).symm) (by rfl) (by rfl) (by omega) (by decide) (by rfl) (fun r' h8 h9 => absurd (Nat.lt_one_iff.1 h8) h9)) ?_
         exact (by refine leT.of ?_ ?_ rfl <;> repeat' (first | exact trivial | refine And.intro rfl ?_ | refine And.intro (by first | rfl | (rw [hgi]; rfl) | (refine congrArg (fun l => some (rSL .own false 0 l)) ?_; rw [hgi]; exact mkL_set [] (gSL m xs) _ _ (by omega))) ?_)))
  · repeat' (first | exact trivial | refine BS.d (fun h => ?_) (fun h => ?_) | refine BS.e (fun h => ?_) (fun h => ?_) | refine BS.ne (fun h => ?_) (fun h => ?_) | refine BS.n ?_ | refine BS.s (fun h => ?_) (fun h => ?_) | refine And.intro ?_ ?_ | (refine Need.mk ?_; first | with_reducible rfl | (show @Eq TC _ _; rfl) | omega | (simp only [adN_zero]; omega)) | exact OutS.whole rfl rfl | refine ListO.go gOk hE ?_)
    all_goals (try simp only [adN_zero] at *)
    all_goals first
      | (exfalso; omega)
      | (refine Need.mk ?_; first | omega | rw [show i = xs.length by omega])
      | (refine Need.mk ?_; (try rw [show i = xs.length by omega]); rfl)
theorem markLs_run (e e' : Nat) (g o : List (List Int)) (m : Int) (h0 : 0 ≤ m) (h1 : m ≤ 1048577) (hg : g.length ≤ 1048576) (hcg : g.flatten.length ≤ 1048576) (hxg : ∀ i, (g.getD i []).length ≤ 1048576) (ho : o.length ≤ 1048576) (hco : o.flatten.length ≤ 1048576) (hxo : ∀ i, (o.getD i []).length ≤ 1048576) (hs : m + g.flatten.length ≤ 2097152) :
    RunT Tryd.prog 69 [.agg [.h 0 g.length, .h 1 o.length], ti m] [.sl e 1 (List Int) encL decL [] g, .sl e' 1 (List Int) encL decL [] o] [oi (offI (offI m g g.length) o o.length)]
      [.sl e 1 (List Int) encL decL [] (mkL [] (gSL m g) g g.length), .sl e' 1 (List Int) encL decL [] (mkL [] (gSL (offI m g g.length) o) o o.length)] := by
  have hb := offI_bd (m := m) (Nat.le_refl g.length)
  have c1 := markSL_run 0 g m h0 (by omega) hg hcg hxg
  have c2 := markSL_run 0 o (offI m g g.length) (by omega) (by omega) ho hco hxo
  generalize hq : offI m g g.length = m2 at *
  refine RunT.of_vc gOk Tryd.func69 rfl rfl (Nat.le_of_ble_eq_true rfl) (by repeat' (first | exact trivial | exact ⟨_, rfl, Nat.le_refl _⟩ | exact Nat.le_of_ble_eq_true rfl | refine And.intro ?_ ?_)) (Nat.le_of_ble_eq_true rfl) rfl (fun F hE => ?_)
  repeat' (first | exact trivial | refine BS.d (fun h => ?_) (fun h => ?_) | refine BS.e (fun h => ?_) (fun h => ?_) | refine BS.ne (fun h => ?_) (fun h => ?_) | refine BS.n ?_ | refine BS.s (fun h => ?_) (fun h => ?_) | refine And.intro ?_ ?_ | (refine Need.mk ?_; first | with_reducible rfl | (show @Eq TC _ _; rfl) | omega | (simp only [adN_zero]; omega)) | exact OutS.whole rfl rfl | (refine OpK.callB (bSLX 1000000 g (mkL [] (gSL m g) g g.length)) c1 rfl rfl rfl rfl hE (BtOk.sl rfl (mkL_len _ _ _ _)) rfl (QsVs.cons (.one (.h rfl rfl rfl)) (.cons (.one (.c (.lit _) rfl)) .nil)) rfl rfl ?_) | (refine OpK.callB (bSLX 1000001 o (mkL [] (gSL m2 o) o o.length)) c2 rfl rfl rfl rfl hE (BtOk.sl rfl (mkL_len _ _ _ _)) rfl (QsVs.cons (.one (.h rfl rfl rfl)) (.cons (.one (.c (.lit _) rfl)) .nil)) rfl rfl ?_) | refine ListO.go gOk hE ?_)
  all_goals first | exact Need.mk rfl | trace_state
end Go.Proofs.YtbfkdbbgbdihdacDoor
end

section
/- Marks of a heap and of a memory. -/
namespace Go.Proofs.YtbfkdbbgbdihdacDoor
open Go Go.Tr
set_option maxRecDepth 100000
set_option maxHeartbeats 4000000
set_option linter.unusedVariables false
set_option linter.unusedSimpArgs false
theorem markH_run (e : Nat) (b c : List Int) (m : Int) (h0 : 0 ≤ m) (h1 : m ≤ 1048577) (hb : b.length ≤ 1048576) (hc : c.length ≤ 1048576) : RunT Tryd.prog 15 [.agg [.h 0 b.length, .h 1 c.length], ti m] [.sl e 1 Int encI decI 0 b, .sl e 1 Int encI decI 0 c] [oi (m + b.length + c.length)]
    [.sl e 1 Int encI decI 0 (mkL 0 (fI m) b b.length), .sl e 1 Int encI decI 0 (mkL 0 (fI (m + b.length)) c c.length)] := by
  have c1 := markI_run 0 b m h0 (by omega) (by omega)
  have c2 := markI_run 0 c (m + b.length) (by omega) (by omega) (by omega)
  refine RunT.of_vc gOk Tryd.func15 rfl rfl (Nat.le_of_ble_eq_true rfl) (by repeat' (first | exact trivial | exact ⟨_, rfl, Nat.le_refl _⟩ | exact Nat.le_of_ble_eq_true rfl | refine And.intro ?_ ?_)) (Nat.le_of_ble_eq_true rfl) rfl (fun F hE => ?_)
  repeat' (first | exact trivial | refine BS.d (fun h => ?_) (fun h => ?_) | refine BS.e (fun h => ?_) (fun h => ?_) | refine BS.ne (fun h => ?_) (fun h => ?_) | refine BS.n ?_ | refine BS.s (fun h => ?_) (fun h => ?_) | refine And.intro ?_ ?_ | (refine Need.mk ?_; first | with_reducible rfl | (show @Eq TC _ _; rfl) | omega | (simp only [adN_zero]; omega)) | exact OutS.whole rfl rfl | (refine OpK.callB (bIntX 1000000 b (mkL 0 (fI m) b b.length)) c1 rfl rfl rfl rfl hE (BtOk.sl rfl (mkL_len _ _ _ _)) rfl (QsVs.cons (.one (.h rfl rfl rfl)) (.cons (.one (.c (.lit _) rfl)) .nil)) rfl rfl ?_) | (refine OpK.callB (bIntX 1000001 c (mkL 0 (fI (m + b.length)) c c.length)) c2 rfl rfl rfl rfl hE (BtOk.sl rfl (mkL_len _ _ _ _)) rfl (QsVs.cons (.one (.h rfl rfl rfl)) (.cons (.one (.c (.lit _) rfl)) .nil)) rfl rfl ?_) | refine ListO.go gOk hE ?_)
  all_goals first | exact Need.mk rfl | trace_state
theorem markMem_run (e e' : Nat) (b c : List Int) (g o : List (List Int)) (hb : b.length ≤ 1048576) (hc : c.length ≤ 1048576) (hsz : b.length + c.length + g.length + o.length + g.flatten.length + o.flatten.length ≤ 1048576) (hxg : ∀ i, (g.getD i []).length ≤ 1048576) (hxo : ∀ i, (o.getD i []).length ≤ 1048576) :
    ∃ z : Int, 0 ≤ z ∧ z ≤ 1048577 ∧ ∃ b' c' : List Int, ∃ g' o' : List (List Int), b'.length = b.length ∧ c'.length = c.length ∧ g'.length = g.length ∧ o'.length = o.length ∧
    RunT Tryd.prog 33 [.agg [.h 0 b.length, .h 1 c.length, .h 2 g.length, .h 3 o.length], ti 1] [.sl 3 1 Int encI decI 0 b, .sl 3 1 Int encI decI 0 c, .sl e 1 (List Int) encL decL [] g, .sl e' 1 (List Int) encL decL [] o] [oi z]
      [.sl 3 1 Int encI decI 0 b', .sl 3 1 Int encI decI 0 c', .sl e 1 (List Int) encL decL [] g', .sl e' 1 (List Int) encL decL [] o'] := by
  have c1 := markH_run 0 b c 1 (by omega) (by omega) hb hc
  have c2 := markLs_run 0 0 g o (1 + b.length + c.length) (by omega) (by omega) (by omega) (by omega) hxg (by omega) (by omega) hxo (by omega)
  have q1 := offI_bd (m := 1 + b.length + c.length) (Nat.le_refl g.length)
  have q2 := offI_bd (m := offI (1 + b.length + c.length) g g.length) (Nat.le_refl o.length)
  refine ⟨offI (offI (1 + b.length + c.length) g g.length) o o.length, by omega, by omega, mkL 0 (fI 1) b b.length, mkL 0 (fI (1 + b.length)) c c.length, mkL [] (gSL (1 + b.length + c.length) g) g g.length, mkL [] (gSL (offI (1 + b.length + c.length) g g.length) o) o o.length, mkL_len _ _ _ _, mkL_len _ _ _ _, mkL_len _ _ _ _, mkL_len _ _ _ _, ?_⟩
  generalize offI (offI (1 + b.length + c.length) g g.length) o o.length = z at *
  refine RunT.of_vc gOk Tryd.func33 rfl rfl (Nat.le_of_ble_eq_true rfl) (by repeat' (first | exact trivial | exact ⟨_, rfl, Nat.le_refl _⟩ | exact Nat.le_of_ble_eq_true rfl | refine And.intro ?_ ?_)) (Nat.le_of_ble_eq_true rfl) rfl (fun F hE => ?_)
  repeat' (first | exact trivial | refine BS.d (fun h => ?_) (fun h => ?_) | refine BS.e (fun h => ?_) (fun h => ?_) | refine BS.ne (fun h => ?_) (fun h => ?_) | refine BS.n ?_ | refine BS.s (fun h => ?_) (fun h => ?_) | refine And.intro ?_ ?_ | (refine Need.mk ?_; first | with_reducible rfl | (show @Eq TC _ _; rfl) | omega | (simp only [adN_zero]; omega)) | exact OutS.whole rfl rfl | (refine OpK.callBs [bIntX 1000000 b (mkL 0 (fI 1) b b.length), bIntX 1000001 c (mkL 0 (fI (1 + b.length)) c c.length)] c1 rfl rfl rfl rfl hE (List.forall_mem_cons.2 ⟨BtOk.sl rfl (mkL_len _ _ _ _), List.forall_mem_cons.2 ⟨BtOk.sl rfl (mkL_len _ _ _ _), fun _ h => nomatch h⟩⟩) (List.forall_mem_cons.2 ⟨rfl, List.forall_mem_cons.2 ⟨rfl, fun _ h => nomatch h⟩⟩) (show List.Nodup [1000000, 1000001] by decide) (QsVs.cons (.agg (.cons (.h rfl rfl rfl) (.cons (.h rfl rfl rfl) .nil))) (.cons (.one (.c (.lit _) rfl)) .nil)) rfl rfl ?_) | (refine OpK.callBs [bSLX 1000002 g (mkL [] (gSL (1 + b.length + c.length) g) g g.length), bSLX 1000003 o (mkL [] (gSL (offI (1 + b.length + c.length) g g.length) o) o o.length)] c2 rfl rfl rfl rfl hE (List.forall_mem_cons.2 ⟨BtOk.sl rfl (mkL_len _ _ _ _), List.forall_mem_cons.2 ⟨BtOk.sl rfl (mkL_len _ _ _ _), fun _ h => nomatch h⟩⟩) (List.forall_mem_cons.2 ⟨rfl, List.forall_mem_cons.2 ⟨rfl, fun _ h => nomatch h⟩⟩) (show List.Nodup [1000002, 1000003] by decide) (QsVs.cons (.agg (.cons (.h rfl rfl rfl) (.cons (.h rfl rfl rfl) .nil))) (.cons (.one (.c (.lit _) rfl)) .nil)) rfl rfl ?_) | refine ListO.go gOk hE ?_)
  all_goals first | exact Need.mk rfl | trace_state
end Go.Proofs.YtbfkdbbgbdihdacDoor
end
