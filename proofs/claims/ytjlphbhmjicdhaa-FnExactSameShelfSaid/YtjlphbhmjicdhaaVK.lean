/- Contracts over typed trees: the exit, and the whole. -/
import Derived.Test.YtjlphbhmjicdhaaVJ
set_option linter.unusedVariables false
set_option linter.unusedSimpArgs false
universe u
namespace Go.Tr
open Go Go.RowKit

theorem RSim.kill {A B : Root} (h : RSim A B) (d : Nat) : RSim (A.kill d) (B.kill d) :=
  ⟨h.o, h.full, h.k, h.n, fun i r hi hr => by
    rw [Root.get_kill, Root.get_kill]
    have := h.at_ i r hi hr
    cases hx : A.get i r with
    | ref a b n => rw [hx] at this; rw [show B.get i r = _ from this]; exact ClSim.rfl _
    | cl c =>
      rw [hx] at this
      cases hy : B.get i r with
      | ref => rw [hy] at this; exact this.elim
      | cl c' => rw [hy] at this; exact this⟩
/-- A slice's elements become a tree in the variable's cell. -/
def clsT (τ : TS) (κ e : Nat) (cs : List TCl) (r d : Nat) (t : TC) : TS := (⟨τ.t, (κ, .box e (cs.set r (.cl t))) :: erl τ.r κ⟩ : TS).drop d
theorem cls_ok {τ : TS} {κ e r d n e' k' : Nat} {cs : List TCl} {X : Type} {enc : X → Nat → TC} {dec : List Value → Option X} {d0 : X} {xs : List X} (hR : lkR τ.r κ = some (.box e cs)) (hc : cs[r]? = some (.ref d 0 n)) (hD : lkR τ.r d = some (.ty .own true e' k' X enc dec d0 xs))
    (hne : κ ≠ d) (hv : noVw d τ.r = true) (hn : n ≤ xs.length) : τ.er.le (clsT τ κ e cs r d (.sl e' k' X enc dec d0 (xs.take n))).er := by
  intro F N a w ⟨ω, β, h⟩
  have hrlt : r < cs.length := (List.getElem?_eq_some_iff.1 hc).1
  obtain ⟨ω', h1⟩ := h.close (TS.rt_some hR) (i := 0) (r := r) Nat.zero_lt_one hrlt (d := d) (n := n) (by rw [box_get, hc]; rfl) (TS.rt_some hD) hne rfl rfl (fun κ' R' i' r' hR' => noVw_ok hv κ' R' i' r' (by rw [← TS.rt_er]; exact hR'))
  refine ⟨ω', β, h1.sim (fun t => .inr ?_) ?_ ?_⟩
  · exact drop_tv _ d t
  all_goals
    have hle : ∀ κ', OSim ((τ.er.cls κ (TRoot.box e cs).er 0 r d (TRoot.ty .own true e' k' X enc dec d0 xs).er n).rt κ') ((clsT τ κ e cs r d (.sl e' k' X enc dec d0 (xs.take n))).er.rt κ') := by
      intro κ'
      show OSim _ ((TS.drop _ d).er.rt κ')
      rw [drop_rt, St.rt_drop]
      show OSim ((St.drop _ d).rt κ') _
      rw [St.rt_drop]
      by_cases e1 : κ' = d
      · rw [if_pos e1, if_pos e1]; trivial
      · rw [if_neg e1, if_neg e1, rt_mk, lkR_cons, lkR_erl]
        show OSim (((if κ' = κ then some _ else τ.er.rt κ') : Option Root).map (Root.kill d)) _
        by_cases e2 : κ' = κ
        · rw [if_pos e2, if_pos e2]
          refine RSim.kill (A := { (TRoot.box e cs).er with op := ((0, r), .cl ((TRoot.ty .own true e' k' X enc dec d0 xs).er.shutN n)) :: (TRoot.box e cs).er.op }) (B := (TRoot.box e (cs.set r (.cl (.sl e' k' X enc dec d0 (xs.take n))))).er) ⟨rfl, (fun h => (Bool.false_ne_true h).elim), by show (cs.set r _).length = cs.length; simp, rfl, fun i' r' hi' hr' => ?_⟩ d
          have hi0 : i' = 0 := by
            have : i' < 1 := hi'
            omega
          subst hi0
          rw [Root.get_wr, box_get, box_get]
          by_cases er : r' = r
          · subst er
            rw [if_pos rfl, if_pos rfl]
            simp only [List.getElem?_set_self hrlt, Option.map_some, Option.getD_some]
            refine ⟨rfl, fun _ => rfl, rfl, by simp [hn], fun i r hi hr => ?_⟩
            show CSame ((enc (xs.getD i d0) r).er .own) ((enc ((xs.take n).getD i d0) r).er .own)
            have : (xs.take n).getD i d0 = xs.getD i d0 := by simp [List.getD, List.getElem?_take, hi]
            rw [this]; exact CSame.rfl _
          · rw [if_neg er, List.getElem?_set_ne (by omega)]; exact ClSim.rfl _
        · rw [if_neg e2, if_neg e2, if_neg e2, TS.rt_er]; exact OSim.rfl _
  · intro κ' R' hR'
    have := hle κ'; rw [hR'] at this
    cases hq : (clsT τ κ e cs r d (.sl e' k' X enc dec d0 (xs.take n))).er.rt κ' with
    | none => rw [hq] at this; exact this.elim
    | some R2 => rw [hq] at this; exact ⟨R2, by first | exact hq | rfl, this⟩
  · intro κ' R' hR'
    have := hle κ'; rw [hR'] at this
    cases hq : (τ.er.cls κ (TRoot.box e cs).er 0 r d (TRoot.ty .own true e' k' X enc dec d0 xs).er n).rt κ' with
    | none => rw [hq] at this; exact this.elim
    | some R2 => exact ⟨R2, by first | exact hq | rfl⟩

def closeB (κ : Nat) : Nat → TS → (TS → Prop) → Prop → Prop
  | 0, τ, k, lf => k τ
  | m + 1, τ, k, lf => match lkR τ.r κ with
    | some (.box e cs) => (match cs[m]? with
      | some (.ref d 0 n) => (match lkR τ.r d with
        | some (.ty .own true e' k' X enc dec d0 xs) => bif Nat.beq κ d || !noVw d τ.r then lf else
            (Need (n ≤ xs.length) ∧ ∀ zs, zs = xs.take n → fS (clsT τ κ e cs m d (.sl e' k' X enc dec d0 zs)) fun τ => closeB κ m τ k lf)
        | _ => lf)
      | some (.ref _ _ _) => lf
      | _ => closeB κ m τ k lf)
    | _ => lf
theorem closeB_ok {κ : Nat} {k : TS → Prop} {lf : Prop} : ∀ {m : Nat} {τ : TS}, closeB κ m τ k lf → lf ∨ ∃ τ', τ.er.le τ'.er ∧ k τ'
  | 0, τ, h => .inr ⟨τ, St.le.refl _, h⟩
  | m + 1, τ, h => by
    simp only [closeB] at h
    split at h
    · rename_i e cs hR
      split at h
      · rename_i d n hc
        split at h
        · rename_i e' k' X enc dec d0 xs hD
          cases hb : Nat.beq κ d || !noVw d τ.r with
          | true => rw [hb] at h; exact .inl h
          | false =>
            rw [hb] at h
            simp only [cond_false] at h
            simp only [Bool.or_eq_false_iff, beq_dec, decide_eq_false_iff_not, Bool.not_eq_false'] at hb
            obtain ⟨⟨hn⟩, h⟩ := h
            have h := h _ rfl
            rw [fS_eq] at h
            have hle := cls_ok hR hc hD hb.1 hb.2 hn
            rcases closeB_ok h with h | ⟨τ', h1, h2⟩
            · exact .inl h
            · exact .inr ⟨τ', hle.trans h1, h2⟩
        · exact .inl h
      · exact .inl h
      · exact closeB_ok h
    · exact .inl h
def closeX : List TX → Nat → TS → (TS → Prop) → Prop → Prop
  | [], _, τ, k, _ => k τ
  | .st cs :: l, ρ, τ, k, lf => closeB (1000000 + ρ) cs.length τ (fun τ => closeX l (ρ + 1) τ k lf) lf
  | .sl _ _ _ _ _ _ _ :: l, ρ, τ, k, lf => closeX l (ρ + 1) τ k lf
theorem closeX_ok {k : TS → Prop} {lf : Prop} : ∀ {l : List TX} {ρ : Nat} {τ : TS}, closeX l ρ τ k lf → lf ∨ ∃ τ', τ.er.le τ'.er ∧ k τ'
  | [], _, τ, h => .inr ⟨τ, St.le.refl _, h⟩
  | .st cs :: l, ρ, τ, h => by
    rcases closeB_ok h with h | ⟨τ', h1, h2⟩
    · exact .inl h
    · rcases closeX_ok h2 with h | ⟨τ'', h3, h4⟩
      · exact .inl h
      · exact .inr ⟨τ'', h1.trans h3, h4⟩
  | .sl _ _ _ _ _ _ _ :: l, ρ, τ, h => closeX_ok (l := l) h

def litN (v v' : Value) : Prop :=
  match v, v' with
  | .int .i64 x, .int .i64 y => Need (x = y)
  | .bool b, .bool c => Need (b = c)
  | v, v' => Need (v = v')
theorem litN_ok {v v' : Value} (h : litN v v') : v = v' := by
  unfold litN at h
  split at h
  · rw [h.h]
  · rw [h.h]
  · exact h.h
def tcN (t t' : TC) : Prop :=
  match t, t' with
  | .lit v, .lit v' => litN v v'
  | t, t' => Need (t = t')
theorem tcN_ok {t t' : TC} (h : tcN t t') : t = t' := by
  unfold tcN at h
  split at h
  · rw [litN_ok h]
  · exact h.h
/-- A slice that is handed out: the whole of a root, or its first elements. -/
inductive OutS (n e k : Nat) (X : Type) (enc : X → Nat → TC) (dec : List Value → Option X) (d : X) (xs : List X) (t : TC) : Prop where
  | whole (h1 : n = xs.length) (h2 : TC.sl e k X enc dec d xs = t)
  | pre (h1 : n ≤ xs.length) (h2 : TC.sl e k X enc dec d (xs.take n) = t)
def outA (τ : TS) (x : At) (t : TC) (k : Prop) : Prop :=
  match x with
  | .lit v => (match t with
    | .lit v' => litN v v' ∧ k
    | _ => False)
  | .nil e n => (match t with
    | .nil e' n' => Need (e = e' ∧ n = n') ∧ k
    | .sl e' n' _ _ _ _ xs => Need (e = e' ∧ n = n' ∧ xs.length = 0) ∧ k
    | _ => False)
  | .ref κ lo n => (match lkR τ.r κ, lo with
    | some (.ty .own true e n' X enc dec d xs), 0 => OutS n e n' X enc dec d xs t ∧ k
    | _, _ => False)
  | .spot κ i r => (match lkR τ.r κ with
    | some (.box e cs) => (match i, cs[r]? with
      | 0, some (.cl t') => tcN t' t ∧ k
      | _, _ => False)
    | _ => False)
  | .any => (match t with
    | .any => k
    | _ => False)
def outL (τ : TS) : List At → List TC → Prop → Prop
  | [], [], k => k
  | x :: l, t :: ts, k => outA τ x t (outL τ l ts k)
  | _, _, _ => False
def outV (τ : TS) (v : V) (t : TAr) (k : Prop) : Prop :=
  match v, t with
  | .a x, .one t => outA τ x t k
  | .agg l, .agg ts => outL τ l ts k
  | _, _ => False
def outVs (τ : TS) : List V → List TAr → Prop → Prop
  | [], [], k => k
  | v :: vs, t :: ts, k => outV τ v t (outVs τ vs ts k)
  | _, _, _ => False
def resE (G : Gt) (τ : TS) : ResultVar → Option V
  | .tmp t => some (stV (lkT τ.t t))
  | .cell p t => match lkT τ.t p, G.T t with
    | .ptr κ 0 r, some ⟨m, kd, _⟩ => (match lkR τ.r κ with
      | some (.box e cs) => (match atomsT (.box e cs) κ 0 r m with
        | some l => bif Nat.blt 0 m && ((scK kd && Nat.beq m 1) || (!scK kd && agK kd)) then some (bif scK kd then .a (l.headD .any) else .agg l) else none
        | none => none)
      | _ => none)
    | _, _ => none
def resEs (G : Gt) (τ : TS) : List ResultVar → Option (List V)
  | [] => some []
  | x :: l => match resE G τ x, resEs G τ l with
    | some v, some vs => some (v :: vs)
    | _, _ => none
def extC (τ : TS) : List TX → Nat → Prop → Prop
  | [], _, k => k
  | .st ts :: l, ρ, k => (match lkR τ.r (1000000 + ρ) with
    | some (.box _ cs) => stC cs ts (extC τ l (ρ + 1) k)
    | _ => False)
  | .sl e n X enc dec d xs :: l, ρ, k => (match lkR τ.r (1000000 + ρ) with
    | some (.ty .own _ _ n' X' enc' dec' d' xs') => Need (TC.sl e n' X' enc' dec' d' xs' = TC.sl e n X enc dec d xs) ∧ extC τ l (ρ + 1) k
    | _ => False)
where stC : List TCl → List TC → Prop → Prop
  | [], [], k => k
  | .cl t :: cs, t' :: ts, k => tcN t t' ∧ stC cs ts k
  | _, _, _ => False
/-- The atoms of some values, in their order. -/
def atsV : V → List At
  | .a x => [x]
  | .agg l => l
  | _ => []
def atsVs : List V → List At
  | [] => []
  | v :: vs => atsV v ++ atsVs vs
theorem tagV_snd (i : Nat) (v : V) : (tagV i v).map (·.2) = atsV v := by
  cases v with
  | a x => rfl
  | agg l =>
    simp only [tagV, atsV]
    apply List.ext_getElem
    · simp
    · intro j h1 h2; simp
  | _ => rfl
theorem tagVs_snd : ∀ (i : Nat) (vs : List V), (tagVs i vs).map (·.2) = atsVs vs
  | _, [] => rfl
  | i, v :: vs => by simp only [tagVs, atsVs, List.map_append, tagV_snd, tagVs_snd (i + 1) vs]
/-- At the exit. -/
def finT (G : Gt) (fn : Func) (outs : List TAr) (ext' : List TX) (e : Exit) (τ : TS) : Prop :=
  match e with
  | .ret | .normal => closeX ext' 0 τ (fun τ => match resEs G τ fn.results.toList with
    | some vs => bif apartL (atsVs vs) && (atsVs vs).all (notExt ext'.length) then outVs τ vs outs (extC τ ext' 0 True) else False
    | none => False) False
  | _ => False

def ArSim : Ar → Ar → Prop
  | .one c, .one c' => CSame c c'
  | .agg l, .agg l' => l.length = l'.length ∧ ∀ (j : Nat) (c c' : C), l[j]? = some c → l'[j]? = some c' → CSame c c'
  | _, _ => False
def ArsSim (l l' : List Ar) : Prop := l.length = l'.length ∧ ∀ (j : Nat) (x x' : Ar), l[j]? = some x → l'[j]? = some x' → ArSim x x'
def XrSim (x x' : Xr) : Prop := x.k = x'.k ∧ x.n = x'.n ∧ ∀ i r, i < x.n → r < x.k → CSame (x.row i r) (x'.row i r)
def XrsSim (l l' : List Xr) : Prop := l.length = l'.length ∧ ∀ (j : Nat) (x x' : Xr), l[j]? = some x → l'[j]? = some x' → XrSim x x'

theorem Exi.sim {w w' : World} {q q' : Qm} {A : Nat → Bs} {us : List Value} {outs outs' : List Ar} {ext ext' : List Xr} (h : Exi w w' q q' A us outs ext) (ho : ArsSim outs outs') (he : XrsSim ext ext') : Exi w w' q q' A us outs' ext' := by
  refine ⟨h.size.trans ho.1, fun i x hx => ?_, fun ρ x hx => ?_, h.lt, h.fr⟩
  · obtain ⟨y, hy⟩ : ∃ y, outs[i]? = some y := ⟨_, List.getElem?_eq_getElem (by rw [ho.1]; exact (List.getElem?_eq_some_iff.1 hx).1)⟩
    obtain ⟨u, h1, h2⟩ := h.outs i y hy
    refine ⟨u, h1, ?_⟩
    have hs := ho.2 i y x hy hx
    cases y with
    | one c =>
      cases x with
      | one c' => exact CSame.rel _ _ _ _ hs h2
      | agg => exact hs.elim
    | agg l =>
      cases x with
      | one => exact hs.elim
      | agg l' =>
        obtain ⟨us', e1, e2, e3⟩ := h2
        refine ⟨us', e1, e2.trans hs.1, fun j c hj => ?_⟩
        obtain ⟨c0, hc0⟩ : ∃ c0, l[j]? = some c0 := ⟨_, List.getElem?_eq_getElem (by rw [hs.1]; exact (List.getElem?_eq_some_iff.1 hj).1)⟩
        obtain ⟨y, f1, f2⟩ := e3 j c0 hc0
        exact ⟨y, f1, CSame.rel _ _ _ _ (hs.2 j c0 c hc0 hj) f2⟩
  · obtain ⟨y, hy⟩ : ∃ y, ext[ρ]? = some y := ⟨_, List.getElem?_eq_getElem (by rw [he.1]; exact (List.getElem?_eq_some_iff.1 hx).1)⟩
    have hs := he.2 ρ y x hy hx
    intro i r hi hr
    obtain ⟨g, o, u, e1, e2, e3, e4, e5⟩ := h.ext ρ y hy i r (by rw [hs.2.1]; exact hi) (by rw [hs.1]; exact hr)
    rw [hs.1] at e2 e3 e4
    exact ⟨g, o, u, e1, e2, e3, e4, CSame.rel _ _ _ _ (hs.2.2 i r (by rw [hs.2.1]; exact hi) (by rw [hs.1]; exact hr)) e5⟩
theorem Run.sim {P : Program} {f : FuncId} {args : List Ag} {ext : List Xr} {outs' : List Ar} {ext' : List Xr} (h : Run P f args ext fun o e => ArsSim o outs' ∧ XrsSim e ext') : Run P f args ext fun o e => o = outs' ∧ e = ext' := by
  intro w q A cargs hent
  refine (h w q A cargs hent).mono fun e w' he => ?_
  obtain ⟨us, outs, ex, q', h1, ⟨h2, h3⟩, h4⟩ := he
  exact ⟨us, outs', ext', q', h1, ⟨rfl, rfl⟩, h4.sim h2 h3⟩

theorem shutA_spot {s : St} {κ i r : Nat} {R : Root} {c : C} (h1 : s.rt κ = some R) (h2 : R.o = .own) (h3 : R.get i r = .cl c) : shutA s (.spot κ i r) = (True, c) := by
  simp only [shutA, h1, h2, h3]
section
variable {G : Gt} {τ : TS}
theorem outA_ok {x : At} {t : TC} {k : Prop} (h : outA τ x t k) : k ∧ (shutA τ.er x).1 ∧ CSame (shutA τ.er x).2 (t.er .own) := by
  unfold outA at h
  split at h
  · split at h
    · obtain ⟨h1, h2⟩ := h
      rw [litN_ok h1]; exact ⟨h2, trivial, CSame.rfl _⟩
    · exact h.elim
  · split at h
    · obtain ⟨⟨rfl, rfl⟩, h2⟩ := h; exact ⟨h2, trivial, CSame.rfl (.sl .own _ _ 0 (fun _ _ => .any))⟩
    · rename_i xs
      obtain ⟨⟨rfl, rfl, h3⟩, h2⟩ := h
      exact ⟨h2, trivial, rfl, fun _ => rfl, rfl, h3, fun i r hi => by omega⟩
    · exact h.elim
  · split at h
    · rename_i e k X enc dec d xs hR
      obtain ⟨h1, h2⟩ := h
      have hRe := TS.rt_some hR
      refine ⟨h2, ?_⟩
      unfold shutA
      dsimp only
      rw [hRe]
      refine ⟨⟨rfl, rfl⟩, ?_⟩
      rcases h1 with ⟨e1, e2⟩ | ⟨e1, e2⟩
      · subst e1 e2; exact CSame.rfl _
      · subst e2
        refine ⟨rfl, fun _ => rfl, rfl, by simp [e1], fun i r hi hr => ?_⟩
        have : ∀ m, i < m → (xs.take m).getD i d = xs.getD i d := fun m hm => by simp [List.getD, List.getElem?_take, hm]
        show CSame ((enc (xs.getD i d) r).er .own) ((enc (List.getD _ i d) r).er .own)
        rw [this _ hi]; exact CSame.rfl _
    · exact h.elim
  · split at h
    · rename_i e cs hR
      split at h
      · rename_i t' hc
        obtain ⟨h1, h2⟩ := h
        have hRe := TS.rt_some hR
        rw [tcN_ok h1] at hc
        have hg : ∀ r, cs[r]? = some (.cl t) → (TRoot.box e cs).er.get 0 r = .cl (t.er .own) := fun r hc => by rw [box_get, hc]; rfl
        refine ⟨h2, ?_⟩
        rw [shutA_spot hRe rfl (hg _ hc)]
        exact ⟨trivial, CSame.rfl _⟩
      · exact h.elim
    · exact h.elim
  · split at h
    · exact ⟨h, trivial, CSame.rfl _⟩
    · exact h.elim
theorem outL_ok : ∀ {l : List At} {ts : List TC} {k : Prop}, outL τ l ts k → k ∧ (shutL τ.er l).1 ∧ l.length = ts.length ∧ ∀ (j : Nat) (c c' : C), (shutL τ.er l).2[j]? = some c → (ts.map (TC.er .own))[j]? = some c' → CSame c c'
  | [], [], k, h => ⟨h, trivial, rfl, fun j c c' hj => by simp [shutL] at hj⟩
  | x :: l, t :: ts, k, h => by
    obtain ⟨h1, h2, h3⟩ := outA_ok h
    obtain ⟨k1, k2, k3, k4⟩ := outL_ok h1
    refine ⟨k1, ⟨h2, k2⟩, by simp [k3], fun j c c' hj hj' => ?_⟩
    cases j with
    | zero => injection hj with hj; injection hj' with hj'; subst hj hj'; exact h3
    | succ j => exact k4 j c c' hj hj'
  | [], _ :: _, k, h => h.elim
  | _ :: _, [], k, h => h.elim
theorem outV_ok {v : V} {t : TAr} {k : Prop} (h : outV τ v t k) : k ∧ (shutV τ.er v).1 ∧ ArSim (shutV τ.er v).2 t.er := by
  unfold outV at h
  split at h
  · obtain ⟨h1, h2, h3⟩ := outA_ok h; exact ⟨h1, h2, h3⟩
  · rename_i l ts
    obtain ⟨h1, h2, h3, h4⟩ := outL_ok h
    exact ⟨h1, h2, by rw [shutL_len, h3, List.length_map], h4⟩
  · exact h.elim
theorem outVs_ok : ∀ {vs : List V} {ts : List TAr} {k : Prop}, outVs τ vs ts k → k ∧ (shutVs τ.er vs).1 ∧ ArsSim (shutVs τ.er vs).2 (ts.map TAr.er)
  | [], [], k, h => ⟨h, trivial, rfl, fun j x x' hj => by simp [shutVs] at hj⟩
  | v :: vs, t :: ts, k, h => by
    obtain ⟨h1, h2, h3⟩ := outV_ok h
    obtain ⟨k1, k2, k3, k4⟩ := outVs_ok h1
    refine ⟨k1, ⟨h2, k2⟩, by simp [shutVs, k3], fun j c c' hj hj' => ?_⟩
    cases j with
    | zero => injection hj with hj; injection hj' with hj'; subst hj hj'; exact h3
    | succ j => exact k4 j c c' hj hj'
  | [], _ :: _, k, h => h.elim
  | _ :: _, [], k, h => h.elim
theorem resE_ok {x : ResultVar} {v : V} (h : resE G τ x = some v) : (resV G.T τ.er x).1 ∧ (resV G.T τ.er x).2 = v := by
  cases x with
  | tmp t => injection h with h; subst h; exact ⟨trivial, TS.tv_er τ t⟩
  | cell p t =>
    simp only [resE] at h
    split at h
    · rename_i κ r m kd z hp ht
      split at h
      · rename_i e cs hR
        split at h
        · rename_i l hl
          cases hb : Nat.blt 0 m && ((scK kd && Nat.beq m 1) || (!scK kd && agK kd)) with
          | false => rw [hb] at h; cases h
          | true =>
            rw [hb] at h
            simp only [cond_true] at h
            injection h with h; subst h
            simp only [Bool.and_eq_true, Bool.or_eq_true, blt_dec, beq_dec, decide_eq_true_eq, Bool.not_eq_true'] at hb
            obtain ⟨hm, hk⟩ := hb
            obtain ⟨e1, e2⟩ := atomsT_ok hl
            obtain ⟨hrk, _, _⟩ := e2 hm
            have hpe : τ.er.tv p = .ptr κ 0 r := by rw [TS.tv_er, hp]; rfl
            have hRe := TS.rt_some hR
            simp only [resV, hpe, ht, hRe]
            refine ⟨⟨Nat.zero_lt_one, hrk, liveL_true _ _ _ _, ?_⟩, ?_⟩
            · rcases hk with ⟨a1, a2⟩ | ⟨a1, a2⟩
              · rw [if_pos a1]; exact a2
              · rw [if_neg (by rw [a1]; exact Bool.false_ne_true)]; exact a2
            · cases hs : scK kd with
              | true =>
                rw [if_pos rfl]
                show V.a _ = V.a _
                rw [e1]
                cases m with
                | zero => omega
                | succ m => rfl
              | false =>
                rw [if_neg Bool.false_ne_true]
                show V.agg _ = V.agg _
                rw [e1]
        · cases h
      · cases h
    · cases h
theorem resEs_ok : ∀ {l : List ResultVar} {vs : List V}, resEs G τ l = some vs → (resVs G.T τ.er l).1 ∧ (resVs G.T τ.er l).2 = vs
  | [], vs, h => by injection h with h; subst h; exact ⟨trivial, rfl⟩
  | x :: l, vs, h => by
    simp only [resEs] at h
    split at h
    · rename_i v vs' hv hvs
      injection h with h; subst h
      obtain ⟨h1, h2⟩ := resE_ok hv
      obtain ⟨k1, k2⟩ := resEs_ok hvs
      exact ⟨⟨h1, k1⟩, by simp only [resVs, h2, k2]⟩
    · cases h
theorem stC_ok : ∀ {cs : List TCl} {ts : List TC} {k : Prop}, extC.stC cs ts k → k ∧ cs.length = ts.length ∧ ∀ (r : Nat) (t : TC), ts[r]? = some t → cs[r]? = some (.cl t)
  | [], [], k, h => ⟨h, rfl, fun r t hr => by simp at hr⟩
  | .cl t :: cs, t' :: ts, k, h => by
    obtain ⟨h1, h2⟩ := h
    obtain ⟨k1, k2, k3⟩ := stC_ok h2
    refine ⟨k1, by simp [k2], fun r t2 hr => ?_⟩
    cases r with
    | zero => injection hr with hr; subst hr; rw [tcN_ok h1]; rfl
    | succ r => exact k3 r t2 hr
  | .ref _ _ _ :: _, _ :: _, k, h => h.elim
  | [], _ :: _, k, h => h.elim
  | .cl _ :: _, [], k, h => h.elim
  | .ref _ _ _ :: _, [], k, h => h.elim
theorem extC_ok : ∀ {l : List TX} {ρ : Nat} {k : Prop}, extC τ l ρ k → k ∧ extsOk τ.er ρ (l.map fun x => (x.er.k, x.er.n)) ∧ XrsSim (shutEs τ.er ρ (l.map fun x => (x.er.k, x.er.n))) (l.map TX.er)
  | [], ρ, k, h => ⟨h, trivial, rfl, fun j x x' hj => by simp [shutEs] at hj⟩
  | .st ts :: l, ρ, k, h => by
    simp only [extC] at h
    split at h
    · rename_i e cs hR
      obtain ⟨h1, h2, h3⟩ := stC_ok h
      obtain ⟨k1, k2, k3, k4⟩ := extC_ok h1
      have hRe := TS.rt_some hR
      refine ⟨k1, ⟨⟨_, hRe, rfl, Nat.le_refl 1, h2⟩, k2⟩, by simp [shutEs, k3], fun j x x' hj hj' => ?_⟩
      cases j with
      | succ j => exact k4 j x x' hj hj'
      | zero =>
        injection hj with hj; injection hj' with hj'; subst hj hj'
        refine ⟨rfl, rfl, fun i r hi hr => ?_⟩
        have hi0 : i = 0 := by
          have : i < 1 := hi
          omega
        subst hi0
        change r < ts.length at hr
        simp only [shutE, hRe]
        rw [box_get, h3 r ts[r] (List.getElem?_eq_getElem hr)]
        simp only [TX.er, List.getElem?_eq_getElem hr]
        exact CSame.rfl _
    · exact h.elim
  | .sl e n X enc dec d xs :: l, ρ, k, h => by
    simp only [extC] at h
    split at h
    · rename_i f e0 n' X' enc' dec' d' xs' hR
      obtain ⟨⟨h1⟩, h2⟩ := h
      obtain ⟨k1, k2, k3, k4⟩ := extC_ok h2
      have hRe := TS.rt_some hR
      injection h1 with i1 i2 i3 i4 i5 i6 i7
      subst i2 i3
      cases i4; cases i5; cases i6; cases i7
      refine ⟨k1, ⟨⟨_, hRe, rfl, Nat.le_refl _, rfl⟩, k2⟩, by simp [shutEs, k3], fun j x x' hj hj' => ?_⟩
      cases j with
      | succ j => exact k4 j x x' hj hj'
      | zero =>
        injection hj with hj; injection hj' with hj'; subst hj hj'
        refine ⟨rfl, rfl, fun i r hi hr => ?_⟩
        simp only [shutE, hRe]
        rw [ty_get]
        exact CSame.rfl _
    · exact h.elim

theorem finT_ok {fn : Func} {outs : List TAr} {ext' : List TX} {e : Exit} (h : finT G fn outs ext' e τ) : ∃ τ' : TS, τ.er.le τ'.er ∧ Fin G.T fn (ext'.map fun x => (x.er.k, x.er.n)) (fun o e => ArsSim o (outs.map TAr.er) ∧ XrsSim e (ext'.map TX.er)) e τ'.er := by
  have main : (e = .normal ∨ e = .ret) → closeX ext' 0 τ (fun τ => match resEs G τ fn.results.toList with
    | some vs => bif apartL (atsVs vs) && (atsVs vs).all (notExt ext'.length) then outVs τ vs outs (extC τ ext' 0 True) else False
    | none => False) False → ∃ τ' : TS, τ.er.le τ'.er ∧ Fin G.T fn (ext'.map fun x => (x.er.k, x.er.n)) (fun o e => ArsSim o (outs.map TAr.er) ∧ XrsSim e (ext'.map TX.er)) e τ'.er := by
    intro he h
    rcases closeX_ok h with h | ⟨τ', hle, h⟩
    · exact h.elim
    · refine ⟨τ', hle, ?_⟩
      cases hr : resEs G τ' fn.results.toList with
      | none => rw [hr] at h; exact h.elim
      | some vs =>
        rw [hr] at h
        dsimp only at h
        cases hb : apartL (atsVs vs) && (atsVs vs).all (notExt ext'.length) with
        | false => rw [hb] at h; exact h.elim
        | true =>
        rw [hb] at h
        simp only [Bool.and_eq_true] at hb
        obtain ⟨h1, h2⟩ := hb
        have h3 : outVs τ' vs outs (extC τ' ext' 0 True) := h
        obtain ⟨r1, r2⟩ := resEs_ok hr
        obtain ⟨o1, o2, o3⟩ := outVs_ok h3
        obtain ⟨_, x2, x3⟩ := extC_ok o1
        refine ⟨he, r1, ?_⟩
        rw [r2, List.length_map]
        rw [← tagVs_snd 0] at h1 h2
        exact ⟨h1, h2, o2, x2, o3, x3⟩
  unfold finT at h
  split at h
  · exact main (.inr rfl) h
  · exact main (.inl rfl) h
  · exact h.elim
end

theorem AC.unle {P : Program} {F : Fm} {N : Nat} {c : Code} {Q : Exit → St → Prop} {s : St} (h : AC P F N c (fun e s => ∃ s', s.le s' ∧ Q e s') s) : AC P F N c Q s := fun a w hr =>
  wp_mono (h a w hr) fun e a w ⟨s1, ⟨s2, h1, h2⟩, h3⟩ => ⟨s2, h2, h1 _ _ _ _ h3⟩

/-- A contract out of what is left to show of the body. -/
theorem RunT.of_vc {P : Program} {G : Gt} (hG : GOk P G) {f : FuncId} {fn : Func} {c : Code} (hf : P.funcs[f]? = some fn) (hb : fn.body = some c) (hname : (fn.name == "runtime.NumGoroutine") = false) {args : List TAg} {ext : List TX} {outs : List TAr} {ext' : List TX}
    (hn : args.length ≤ fn.ntmps) (hp : argsOk (ext.map TX.er) (args.map TAg.er)) (hx : ext.length ≤ 1000000) (hms : ext'.length = ext.length) (h : ∀ F : Fm, F.nE ≤ 1000000 → fS (enterE args ext) fun σ => vcC P F fn.ntmps G c σ (finT G fn outs ext')) : RunT P f args ext outs ext' := by
  refine ⟨⟨fn, hf, hname, by rw [hb]; rfl⟩, Run.sim ?_⟩
  refine Run.of_body hG.T hf hb (by simpa using hn) hp (ext'.map fun x => (x.er.k, x.er.n)) (by simp [hms]) (fun F hF => ?_)
  have hE : F.nE ≤ 1000000 := by rw [hF]; simpa using hx
  have h1 := h F hE
  rw [fS_eq] at h1
  refine AC.le (enterE_ok args ext) (AC.unle (AC.mono (vcC_ok hG hE h1) (fun e s hq => ?_)))
  obtain ⟨τ, hle, hfin⟩ := hq
  obtain ⟨τ', hle', hfin'⟩ := finT_ok hfin
  exact ⟨τ'.er, hle.trans hle', hfin'⟩
end Go.Tr
