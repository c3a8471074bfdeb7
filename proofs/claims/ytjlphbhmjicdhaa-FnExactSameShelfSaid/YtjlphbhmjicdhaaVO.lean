/- A struct with slices of its own is laid into a slice's element. -/
import Derived.Test.YtjlphbhmjicdhaaVN
set_option linter.unusedVariables false
set_option linter.unusedSimpArgs false
universe u
namespace Go.Tr
open Go Go.RowKit

theorem le_of_osim {s s' : St} (ht : ∀ t, s'.tv t = s.tv t) (hle : ∀ κ', OSim (s.rt κ') (s'.rt κ')) {F : Fm} {N : Nat} {a : Act} {w : World} {ω : Om} {β : Nat → Bs} (h : Rel1 F N s a w ω β) : Rel1 F N s' a w ω β := by
  refine h.sim (fun t => .inr (ht t)) ?_ ?_
  · intro κ' R' hR'
    have := hle κ'; rw [hR'] at this
    cases hq : s'.rt κ' with
    | none => rw [hq] at this; exact this.elim
    | some R2 => rw [hq] at this; exact ⟨R2, by first | exact hq | rfl, this⟩
  · intro κ' R' hR'
    have := hle κ'; rw [hR'] at this
    cases hq : s.rt κ' with
    | none => rw [hq] at this; exact this.elim
    | some R2 => exact ⟨R2, by first | exact hq | rfl⟩

def clsR (τ : TS) (κ : Nat) (R : Root) (i r d : Nat) (t : TC) : TS := (⟨τ.t, (κ, .raw { R with op := ((i, r), .cl (t.er .own)) :: R.op }) :: erl τ.r κ⟩ : TS).drop d
theorem clsR_ok {τ : TS} {κ i r d n e' k' : Nat} {R : Root} {X : Type} {enc : X → Nat → TC} {dec : List Value → Option X} {d0 : X} {ys : List X} (hR : lkR τ.r κ = some (.raw R)) (ho : R.o = .own) (hi : i < R.n) (hr : r < R.k) (hc : R.get i r = .ref d 0 n)
    (hD : lkR τ.r d = some (.ty .own true e' k' X enc dec d0 ys)) (hne : κ ≠ d) (hv : ∀ κ' R' i' r', (lkR τ.r κ').map TRoot.er = some R' → R'.o ≠ .vw d i' r') (hn : n = ys.length) : τ.er.le (clsR τ κ R i r d (.sl e' k' X enc dec d0 ys)).er := by
  subst hn
  intro F N a w ⟨ω, β, h⟩
  obtain ⟨ω', h1⟩ := h.close (TS.rt_some hR) hi hr (d := d) (n := ys.length) hc (TS.rt_some hD) hne ho rfl (fun κ' R' i' r' hR' => hv κ' R' i' r' (by rw [← TS.rt_er]; exact hR'))
  refine ⟨ω', β, le_of_osim (s := τ.er.cls κ (TRoot.raw R).er i r d (TRoot.ty .own true e' k' X enc dec d0 ys).er ys.length) (fun t => ?_) (fun κ' => ?_) h1⟩
  · exact drop_tv _ d t
  show OSim _ ((TS.drop _ d).er.rt κ')
  rw [drop_rt, St.rt_drop]
  show OSim ((St.drop _ d).rt κ') _
  rw [St.rt_drop]
  by_cases e1 : κ' = d
  · rw [if_pos e1, if_pos e1]; trivial
  · rw [if_neg e1, if_neg e1, rt_mk, lkR_cons, lkR_erl]
    show OSim (((if κ' = κ then some _ else τ.er.rt κ') : Option Root).map (Root.kill d)) _
    by_cases e2 : κ' = κ
    · rw [if_pos e2, if_pos e2]
      exact RSim.rfl _
    · rw [if_neg e2, if_neg e2, if_neg e2, TS.rt_er]; exact OSim.rfl _

/-- The columns of a struct that is laid down: what they hold moves into the element. -/
inductive StN {X : Type} (κ : Nat) (enc : X → Nat → TC) (x' : X) : Nat → List At → TS → TS → Prop where
  | nil {r τ} : StN κ enc x' r [] τ τ
  | lit {r v l τ τ'} (h : enc x' r = .lit v) (t : StN κ enc x' (r + 1) l τ τ') : StN κ enc x' r (.lit v :: l) τ τ'
  | emp {r e k l τ τ'} (h : enc x' r = .nil e k) (t : StN κ enc x' (r + 1) l τ τ') : StN κ enc x' r (.nil e k :: l) τ τ'
  | ref {r d n l τ τ' e k Y enc' dec' d' ys} (hD : lkR τ.r d = some (.ty .own true e k Y enc' dec' d' ys)) (hn : n = ys.length) (hne : Nat.beq κ d = false) (hv : noVw d τ.r = true) (h : enc x' r = .sl e k Y enc' dec' d' ys)
      (t : StN κ enc x' (r + 1) l (τ.drop d) τ') : StN κ enc x' r (.ref d 0 n :: l) τ τ'

theorem drop_none (τ : TS) (d : Nat) : (lkR (τ.drop d).r d).isSome = false := by
  show (lkR ((erl τ.r d).map fun p => (p.1, p.2.kill d)) d).isSome = false
  rw [lkR_map, lkR_erl, if_pos rfl]; rfl
theorem drop_some {τ : TS} {d κ : Nat} (h : (lkR (τ.drop d).r κ).isSome = true) : (lkR τ.r κ).isSome = true := by
  change (lkR ((erl τ.r d).map fun p => (p.1, p.2.kill d)) κ).isSome = true at h
  rw [lkR_map, lkR_erl] at h
  by_cases e : κ = d
  · rw [if_pos e] at h; cases h
  · rw [if_neg e] at h; simpa using h
theorem StN.has {X : Type} {κ : Nat} {enc : X → Nat → TC} {x' : X} : ∀ {r : Nat} {l : List At} {τ τ' : TS}, StN κ enc x' r l τ τ' → ∀ (j d lo n : Nat), l[j]? = some (.ref d lo n) → (lkR τ.r d).isSome = true := by
  intro r l τ τ' h
  induction h with
  | nil => intro j d lo n hj; simp at hj
  | lit h t ih => intro j d lo n hj; cases j with | zero => simp at hj | succ j => exact ih j d lo n hj
  | emp h t ih => intro j d lo n hj; cases j with | zero => simp at hj | succ j => exact ih j d lo n hj
  | ref hD hn hne hv h t ih =>
    intro j d lo n hj
    cases j with
    | zero => simp at hj; rw [← hj.1, hD]; rfl
    | succ j => exact drop_some (ih j d lo n hj)
theorem beq_self (n : Nat) : Nat.beq n n = true := by simp
theorem erl_drop (l : List (Nat × TRoot)) (κ d : Nat) : (erl (erl (erl l κ) κ) d).map (fun p => (p.1, p.2.kill d)) = erl ((erl l d).map fun p => (p.1, p.2.kill d)) κ := by
  induction l with
  | nil => rfl
  | cons p l ih =>
    simp only [erl]
    cases h1 : Nat.beq p.1 κ <;> cases h2 : Nat.beq p.1 d <;> simp [erl, h1, h2, ih]

structure NInv {X : Type} (R : Root) (full : Bool) (e kw : Nat) (enc : X → Nat → TC) (d : X) (xs : List X) (i : Nat) (x' : X) (r : Nat) (l : List At) : Prop where
  o : R.o = .own
  full : R.full = full
  e : R.e = e
  k : R.k = kw
  n : R.n = xs.length
  ne : ∀ i' r', i' ≠ i → R.get i' r' = .cl ((enc (xs.getD i' d) r').er .own)
  lo : ∀ r', r' < r → R.get i r' = .cl ((enc x' r').er .own)
  hi : ∀ (j : Nat) (x : At), l[j]? = some x → R.get i (r + j) = x.cl

theorem StN.ok {X : Type} {κ i : Nat} {full : Bool} {e kw : Nat} {enc : X → Nat → TC} {dec : List Value → Option X} {d : X} {xs : List X} {x' : X} (hi : i < xs.length) : ∀ {r : Nat} {l : List At} {τ τ' : TS}, StN κ enc x' r l τ τ' → ∀ (R : Root), r + l.length = kw → NInv R full e kw enc d xs i x' r l →
    ∀ (T : TS), T.t = τ.t → T.r = (κ, .raw R) :: erl τ.r κ → T.er.le (⟨τ'.t, (κ, .ty .own full e kw X enc dec d (xs.set i x')) :: erl τ'.r κ⟩ : TS).er := by
  intro r l τ τ' h
  induction h with
  | @nil r τ =>
    intro R hk iv T ht hr
    intro F N a w ⟨ω, β, h⟩
    refine ⟨ω, β, le_of_osim (fun t => ?_) (fun κ' => ?_) h⟩
    · rw [TS.tv_er, TS.tv_er, ht]
    · rw [TS.rt_er, TS.rt_er, hr, lkR_cons, lkR_cons]
      by_cases e1 : κ' = κ
      · rw [if_pos e1, if_pos e1]
        refine ⟨iv.o.symm ▸ rfl, fun hf => ⟨iv.full.trans hf, iv.e.symm ▸ rfl⟩, iv.k.symm ▸ rfl, ?_, fun i' r' hi' hr' => ?_⟩
        · show (xs.set i x').length = R.n
          rw [iv.n]; simp
        · have hk' : r' < r := by rw [← iv.k] at hk; simp at hk; change r' < R.k at hr'; omega
          show ClSim (R.get i' r') ((TRoot.ty .own full e kw X enc dec d (xs.set i x')).er.get i' r')
          rw [ty_get, ty_set_get enc d x' xs i i' r' hi]
          by_cases hii : i' = i
          · subst hii; rw [if_pos rfl, iv.lo r' hk']; exact CSame.rfl _
          · rw [if_neg hii, iv.ne i' r' hii]; exact CSame.rfl _
      · rw [if_neg e1, if_neg e1]; exact OSim.rfl _
  | @lit r v l τ τ' h t ih =>
    intro R hk iv T ht hr
    refine ih R (by simp at hk; omega) ⟨iv.o, iv.full, iv.e, iv.k, iv.n, iv.ne, fun r' hr' => ?_, fun j x hj => ?_⟩ T ht hr
    · by_cases er : r' = r
      · subst er; rw [h]; have := iv.hi 0 _ rfl; rw [Nat.add_zero] at this; exact this
      · exact iv.lo r' (by omega)
    · have := iv.hi (j + 1) x hj; rw [show r + 1 + j = r + (j + 1) by omega]; exact this
  | @emp r e1 k1 l τ τ' h t ih =>
    intro R hk iv T ht hr
    have hc : R.get i r = At.cl (.nil e1 k1) := by have := iv.hi 0 _ rfl; rw [Nat.add_zero] at this; exact this
    refine ih R (by simp at hk; omega) ⟨iv.o, iv.full, iv.e, iv.k, iv.n, iv.ne, fun r' hr' => ?_, fun j x hj => ?_⟩ T ht hr
    · by_cases er : r' = r
      · subst er; rw [h]; exact hc
      · exact iv.lo r' (by omega)
    · have := iv.hi (j + 1) x hj; rw [show r + 1 + j = r + (j + 1) by omega]; exact this
  | @ref r d2 n l τ τ' e2 k2 Y enc2 dec2 d3 ys hD hn hne hv h t ih =>
    intro R hk iv T ht hr
    have hne' : κ ≠ d2 := by simpa [beq_dec] using hne
    have hc : R.get i r = .ref d2 0 n := by have := iv.hi 0 _ rfl; rw [Nat.add_zero] at this; exact this
    have hlk : lkR T.r κ = some (.raw R) := by rw [hr, lkR_cons, if_pos rfl]
    have hDT : lkR T.r d2 = some (.ty .own true e2 k2 Y enc2 dec2 d3 ys) := by rw [hr, lkR_cons, if_neg (Ne.symm hne'), lkR_erl, if_neg (Ne.symm hne')]; exact hD
    have hvT : ∀ κ' R' i' r', (lkR T.r κ').map TRoot.er = some R' → R'.o ≠ .vw d2 i' r' := by
      intro κ' R' i' r' hR'
      rw [hr, lkR_cons] at hR'
      by_cases e1 : κ' = κ
      · rw [if_pos e1] at hR'; injection hR' with hR'; subst hR'
        show R.o ≠ _
        rw [iv.o]; exact fun h => by cases h
      · rw [if_neg e1, lkR_erl, if_neg e1] at hR'
        exact noVw_ok hv κ' R' i' r' hR'
    have hrk : r < R.k := by rw [iv.k]; simp at hk; omega
    refine (clsR_ok hlk iv.o (by rw [iv.n]; exact hi) hrk hc hDT hne' hvT hn).trans ?_
    refine ih ((({ R with op := ((i, r), .cl ((TC.sl e2 k2 Y enc2 dec2 d3 ys).er .own)) :: R.op } : Root)).kill d2) (by simp at hk; omega) ⟨iv.o, iv.full, iv.e, iv.k, iv.n, fun i' r' hii => ?_, fun r' hr' => ?_, fun j x hj => ?_⟩ _ ?_ ?_
    · rw [Root.get_kill, Root.get_wr]
      by_cases er : r' = r
      · rw [if_pos er, if_neg hii, iv.ne i' r' hii]; rfl
      · rw [if_neg er, iv.ne i' r' hii]; rfl
    · rw [Root.get_kill, Root.get_wr]
      by_cases er : r' = r
      · rw [if_pos er, if_pos rfl, er, h]; rfl
      · rw [if_neg er, iv.lo r' (by omega)]; rfl
    · have hj1 := iv.hi (j + 1) x hj
      rw [Root.get_kill, Root.get_wr, if_neg (by omega), show r + 1 + j = r + (j + 1) by omega, hj1]
      cases x with
      | ref d' lo n' =>
        have := t.has j d' lo n' hj
        have hne2 : d' ≠ d2 := by
          intro e; subst e
          rw [drop_none] at this; cases this
        show (if d' = d2 then _ else _) = _
        rw [if_neg hne2]; rfl
      | _ => rfl
    · show (TS.drop _ d2).t = (τ.drop d2).t
      show (T.t.map _) = (τ.t.map _)
      rw [ht]
    · show (erl ((κ, _) :: erl T.r κ) d2).map _ = _
      rw [hr]
      simp only [erl, hne, beq_self, cond_true, cond_false, List.map_cons]
      congr 1
      exact erl_drop _ _ _

section
variable {P : Program} {F : Fm} {N : Nat} {G : Gt} {o : Oper} {σ : TS} {k : TS → Prop}
theorem OpK.stN (hG : GOk P G) {t m : Nat} {kd : TK} {z : List ZC} {x y : Operand} {κ i : Nat} {full : Bool} {e kw : Nat} {X : Type} {enc : X → Nat → TC} {dec : List Value → Option X} {d : X} {xs : List X} (x' : X) {l : List At} {τ' : TS} (hop : o.op = .store t x y) (hg : o.guard = none) (hd : o.dst = none)
    (hx : evS σ x = .ptr κ i 0) (ht : G.T t = some ⟨m, kd, z⟩) (hy : (stV (evS σ y)).atoms = some l) (hR : lkR σ.r κ = some (.ty .own full e kw X enc dec d xs)) (hl : Nat.beq l.length kw = true) (hm : Nat.beq l.length m = true) (hi : i < xs.length)
    (hs : StN κ enc x' 0 l σ τ') (h : fS ⟨τ'.t, (κ, .ty .own full e kw X enc dec d (xs.set i x')) :: erl τ'.r κ⟩ k) : OpK P F N o σ k := by
  simp only [beq_dec, decide_eq_true_eq] at hl hm
  rw [fS_eq] at h
  refine ⟨fun ops Q rest kk => ?_⟩
  have hxe : σ.er.ev x = .ptr κ i 0 := by rw [evS_eq, hx]; rfl
  have hye : (σ.er.ev y).atoms = some l := by rw [evS_eq]; exact hy
  refine AL.store hG.T hop hg hd hxe ht hye hm (TS.rt_some hR) rfl hi (by show 0 + m ≤ kw; omega) (liveL_true _ _ _ _) ?_
  have hw := wrL_same i (l.map At.cl) (TRoot.ty .own full e kw X enc dec d xs).er 0
  have hle := StN.ok (e := e) (kw := kw) (full := full) (dec := dec) (d := d) hi hs ((TRoot.ty .own full e kw X enc dec d xs).er.wrL i 0 (l.map At.cl)) (by omega) ⟨hw.1, hw.2.1, hw.2.2.1, hw.2.2.2.1, hw.2.2.2.2, fun i' r' hii => by rw [get_wrL_ne hii, ty_get]; rfl, fun r' hr' => by omega, fun j x hj => by
    have hjl : j < l.length := (List.getElem?_eq_some_iff.1 hj).1
    rw [get_wrL_eq _ _ _ ⟨by omega, by simp; omega⟩, List.getElem?_map, show 0 + j - 0 = j by omega, hj]; rfl⟩ ⟨σ.t, (κ, .raw ((TRoot.ty .own full e kw X enc dec d xs).er.wrL i 0 (l.map At.cl))) :: erl σ.r κ⟩ rfl rfl
  refine AL.le ?_ (kk _ h)
  refine St.le.trans ?_ hle
  refine le_lk (fun t' => .inr ?_) (fun κ' => ?_)
  · show _ = (look (σ.er.t.map fun p => (p.1, p.2.map (dimA κ) none)) t').getD .any
    rw [St.tv_map σ.er _ rfl, TS.tv_er, dim_st]
  · show OSim (if κ' = κ then some _ else σ.er.rt κ') _
    rw [lkR_cons, lkR_erl]
    by_cases e1 : κ' = κ
    · rw [if_pos e1, if_pos e1]; exact RSim.rfl _
    · rw [if_neg e1, if_neg e1, if_neg e1, TS.rt_er]; exact OSim.rfl _
end
end Go.Tr
