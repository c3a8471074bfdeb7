/- Trees that say the same; typed trees; typed states. -/
import Derived.Test.YtjlphbhmjicdhaaTre
set_option linter.unusedVariables false
set_option linter.unusedSimpArgs false
namespace Go.Tr
open Go Go.RowKit

/-- The second tree says what the first says, within its bounds. -/
def CSame : C → C → Prop
  | .hole, _ => True
  | .lit v, .lit v' => v = v'
  | .lit _, .any => True
  | .any, .any => True
  | .sl o e k n row, .sl o' e' k' n' row' => o' = o ∧ (o = .own → e' = e) ∧ k' = k ∧ n' = n ∧ ∀ i r, i < n → r < k → CSame (row i r) (row' i r)
  | .sl _ _ _ _ _, .any => True
  | _, _ => False
theorem CSame.rfl : ∀ c : C, CSame c c := by
  intro c
  induction c with
  | lit v => exact Eq.refl v
  | any => exact True.intro
  | hole => exact True.intro
  | sl o e k n row ih => exact ⟨Eq.refl o, fun _ => Eq.refl e, Eq.refl k, Eq.refl n, fun i r _ _ => ih i r⟩
theorem CRel.oneC {w : World} {z f : Nat → Nat → Prop} {c : C} {u : Value} (h : CRel w z c f u) : u.oneCell' = true := CRel.one h
theorem CSame.rel {w : World} {z : Nat → Nat → Prop} : ∀ (c c' : C) (f : Nat → Nat → Prop) (u : Value), CSame c c' → CRel w z c f u → CRel w z c' f u := by
  intro c
  induction c with
  | hole => intro c' f u _ h; exact h.elim
  | lit v => intro c' f u hs h; cases c' <;> simp only [CSame] at hs; (subst hs; exact h); exact CRel.oneC h
  | any => intro c' f u hs h; cases c' <;> simp only [CSame] at hs; exact h
  | sl o e k n row ih =>
    intro c' f u hs h
    cases c' with
    | any => exact CRel.oneC h
    | lit v => simp only [CSame] at hs
    | hole => simp only [CSame] at hs
    | sl o' e' k' n' row' =>
      simp only [CSame] at hs
      obtain ⟨rfl, he, rfl, rfl, hr⟩ := hs
      cases o' with
      | fro =>
        obtain ⟨A, c, hu, hn, hc, h0, hp⟩ := h
        refine ⟨A, c, hu, hn, hc, h0, fun hpos => ?_⟩
        obtain ⟨g, o, hA, hcells⟩ := hp hpos
        refine ⟨g, o, hA, fun i r hi hk => ?_⟩
        obtain ⟨x, h1, h2, h3⟩ := hcells i r hi hk
        exact ⟨x, h1, h2, ih i r _ _ _ (hr i r hi hk) h3⟩
      | own =>
        obtain rfl := he (Eq.refl _)
        obtain ⟨A, c, hu, hn, hc, hp⟩ := h
        refine ⟨A, c, hu, hn, hc, ?_⟩
        rcases hp with h0 | ⟨g, cur, hA, hb, hs, hown, q, hq, hcells⟩
        · exact .inl h0
        · refine .inr ⟨g, cur, hA, hb, hs, hown, q, hq, fun i r hi hk => ?_⟩
          obtain ⟨x, h1, h3⟩ := hcells i r hi hk
          exact ⟨x, h1, ih i r _ _ _ (hr i r hi hk) h3⟩
theorem CSame.trans : ∀ a b c : C, CSame a b → CSame b c → CSame a c := by
  intro a
  induction a with
  | hole => intro b c _ _; simp only [CSame]
  | lit v => intro b c h k; cases b <;> cases c <;> simp_all only [CSame]
  | any => intro b c h k; cases b <;> cases c <;> simp_all only [CSame]
  | sl o e k n row ih =>
    intro b c h k
    cases b <;> cases c <;> simp only [CSame] at h k ⊢
    obtain ⟨rfl, h2, rfl, rfl, h5⟩ := h
    obtain ⟨rfl, k2, rfl, rfl, k5⟩ := k
    exact ⟨Eq.refl _, fun e => (k2 e).trans (h2 e), Eq.refl _, Eq.refl _, fun i r hi hr => ih i r _ _ (h5 i r hi hr) (k5 i r hi hr)⟩

def ClSim : Cl → Cl → Prop
  | .ref a b c, y => y = .ref a b c
  | .cl c, .cl c' => CSame c c'
  | _, _ => False
theorem ClSim.rfl (x : Cl) : ClSim x x := by cases x; exact CSame.rfl _; exact Eq.refl _
theorem ClSim.trans {x y z : Cl} (h : ClSim x y) (k : ClSim y z) : ClSim x z := by
  cases x with
  | ref => cases (show y = _ from h); exact k
  | cl c =>
    cases y with
    | ref => exact h.elim
    | cl c2 =>
      cases z with
      | ref => exact k.elim
      | cl c3 => exact CSame.trans _ _ _ h k
/-- A root told in another way. -/
structure RSim (R R' : Root) : Prop where
  o : R'.o = R.o
  full : R'.full = true → R.full = true ∧ R'.e = R.e
  k : R'.k = R.k
  n : R'.n = R.n
  at_ : ∀ i r, i < R.n → r < R.k → ClSim (R.get i r) (R'.get i r)
theorem RSim.rfl (R : Root) : RSim R R := ⟨Eq.refl _, fun h => ⟨h, Eq.refl _⟩, Eq.refl _, Eq.refl _, fun _ _ _ _ => ClSim.rfl _⟩
theorem RSim.trans {a b c : Root} (h : RSim a b) (k : RSim b c) : RSim a c :=
  ⟨k.o.trans h.o, fun f => ⟨(h.full (k.full f).1).1, ((k.full f).2).trans (h.full (k.full f).1).2⟩, k.k.trans h.k, k.n.trans h.n,
    fun i r hi hr => (h.at_ i r hi hr).trans (k.at_ i r (by rw [h.n]; exact hi) (by rw [h.k]; exact hr))⟩

section
variable {F : Fm} {N : Nat} {σ σ' : St} {a : Act} {w : World} {ω : Om} {β : Nat → Bs}
theorem Rel1.sim (h : Rel1 F N σ a w ω β) (ht : ∀ t, σ'.tv t = .any ∨ σ'.tv t = σ.tv t) (hr : ∀ κ R, σ.rt κ = some R → ∃ R', σ'.rt κ = some R' ∧ RSim R R') (hr' : ∀ κ R', σ'.rt κ = some R' → ∃ R, σ.rt κ = some R) :
    Rel1 F N σ' a w ω β := by
  have href : ∀ {κ' lo n : Nat} {v : Value}, RefRel σ β κ' lo n v → RefRel σ' β κ' lo n v := by
    rintro κ' lo n v ⟨R2, hR2, k1⟩
    obtain ⟨R', hR', s⟩ := hr _ _ hR2
    exact ⟨R', hR', k1.le s.k (by rw [s.n]; exact Nat.le_refl _)⟩
  have hat : ∀ {κ R R'} (i r g j), RSim R R' → AtA R (β κ) i r g j → AtA R' (β κ) i r g j := fun i r g j s ⟨o, e1, e2⟩ => ⟨o, e1, by rw [s.k]; exact e2⟩
  refine ⟨h.tsz, h.dfr, fun t => ?_, fun κ R' hR' => ?_, h.wr, h.fr, h.fz, fun ρ R' hρ hR' => ?_⟩
  · rcases ht t with e | e
    · rw [e]; trivial
    · rw [e]
      refine VRel.same (fun x u hx => ?_) (fun κ' R2 hR2 => ⟨rfl, ?_⟩) (h.tmps t)
      · cases x with
        | any => exact hx
        | lit v => exact hx
        | nil e k => exact hx
        | ref κ' lo n => exact href hx
        | spot κ' i r =>
          obtain ⟨R2, g, j, hR2, hi, hr2, hl, ha, hc⟩ := hx
          obtain ⟨R', hR', s⟩ := hr _ _ hR2
          exact ⟨R', g, j, hR', by rw [s.n]; exact hi, by rw [s.k]; exact hr2, rfl, hat _ _ _ _ s ha, hc⟩
      · obtain ⟨R', hR', s⟩ := hr _ _ hR2
        exact ⟨R', hR', s.k⟩
  · obtain ⟨R, hR⟩ := hr' κ R' hR'
    obtain ⟨R1, hR1, s⟩ := hr κ R hR
    rw [hR'] at hR1; injection hR1 with hR1; subst hR1
    have h0 := h.roots κ R hR
    refine ⟨fun i r hi hr2 hl => ?_, fun hf => ?_⟩
    · rw [s.n] at hi; rw [s.k] at hr2
      obtain ⟨g, j, u, k1, k2, k3, k4, k5⟩ := h0.cells i r hi hr2 rfl
      refine ⟨g, j, u, hat _ _ _ _ s k1, k2, by rw [s.o]; exact k3, by rw [s.o]; exact k4, ?_⟩
      have hs := s.at_ i r hi hr2
      unfold CellRel at k5 ⊢
      rw [s.o]
      cases hg : R.get i r with
      | ref κ2 lo n => rw [hg] at k5 hs; rw [show R'.get i r = _ from hs]; exact href k5
      | cl c =>
        rw [hg] at k5 hs
        cases hg' : R'.get i r with
        | ref => rw [hg'] at hs; exact hs.elim
        | cl c' => rw [hg'] at hs; exact CSame.rel _ _ _ _ hs k5
    · obtain ⟨f1, f2⟩ := s.full hf
      obtain ⟨m0, m1, m2, m3, m4⟩ := h0.full f1
      rw [s.o, s.k, s.n, f2]
      exact ⟨fun i r hi hr => rfl, m1, m2, m3, m4⟩
  · obtain ⟨R, hR⟩ := hr' _ R' hR'
    exact h.ex ρ R hρ hR
end
theorem St.le.sim {σ σ' : St} (ht : ∀ t, σ'.tv t = .any ∨ σ'.tv t = σ.tv t) (hr : ∀ κ R, σ.rt κ = some R → ∃ R', σ'.rt κ = some R' ∧ RSim R R') (hr' : ∀ κ R', σ'.rt κ = some R' → ∃ R, σ.rt κ = some R) : σ.le σ' :=
  fun F N a w ⟨ω, β, h⟩ => ⟨ω, β, h.sim ht hr hr'⟩

/-- A tree whose rows are lists of typed elements; who owns it is told apart. -/
inductive TC : Type 1 where
  | lit (v : Value)
  | any
  | nil (e k : Nat)
  | sl (e k : Nat) (X : Type) (enc : X → Nat → TC) (dec : List Value → Option X) (d : X) (xs : List X)
def TC.er (o : Ow) : TC → C
  | .lit v => .lit v
  | .any => .any
  | .nil e k => .sl o e k 0 (fun _ _ => .any)
  | .sl e k X enc dec d xs => .sl o e k xs.length (fun i r => (enc (xs.getD i d) r).er o)
theorem TC.lend (o : Ow) : ∀ t : TC, Tr.lend (t.er o) = t.er .fro := by
  intro t
  induction t with
  | lit v => rfl
  | any => rfl
  | nil e k => rfl
  | sl e k X enc dec d xs ih =>
    simp only [TC.er, Tr.lend]
    congr 1
    funext i r
    exact ih _ _
theorem TC.mine : ∀ t : TC, (t.er .own).mine := by
  intro t
  induction t with
  | lit v => trivial
  | any => trivial
  | nil e k => intro i r hi; omega
  | sl e k X enc dec d xs ih => intro i r _ _; exact ih _ _

inductive TCl : Type 1 where
  | cl (t : TC)
  | ref (κ lo n : Nat)
def TCl.er : TCl → Cl
  | .cl t => .cl (t.er .own)
  | .ref a b c => .ref a b c

/-- What a root holds, typed. -/
inductive TRoot : Type 1 where
  | ty (o : RO) (full : Bool) (e k : Nat) (X : Type) (enc : X → Nat → TC) (dec : List Value → Option X) (d : X) (xs : List X)
  | box (e : Nat) (cs : List TCl)
  | litr (e k : Nat) (cs : List (List TCl))
  | raw (R : Root)
  | tyo (full : Bool) (e k : Nat) (X : Type) (enc : X → Nat → TC) (dec : List Value → Option X) (d : X) (xs : List X) (i r key n : Nat)
def owOf : RO → Ow
  | .own => .own
  | _ => .fro
def TRoot.er : TRoot → Root
  | .ty o full e k X enc dec d xs => ⟨o, full, e, k, xs.length, fun i r => (enc (xs.getD i d) r).er (owOf o), []⟩
  | .box e cs => ⟨.own, false, e, cs.length, 1, fun _ _ => .any, mkop 0 0 (cs.map TCl.er)⟩
  | .litr e k cs => ⟨.own, true, e, k, cs.length, fun _ _ => .any, litR.mkops k cs.length ((cs.map fun l => l.map TCl.er).flatten)⟩
  | .raw R => R
  | .tyo full e k X enc dec d xs i r key n => ⟨.own, full, e, k, xs.length, fun i r => (enc (xs.getD i d) r).er .own, [((i, r), .ref key 0 n)]⟩

structure TS : Type 1 where
  t : List (Nat × V)
  r : List (Nat × TRoot)
/-- A slot's value without looks at cells. -/
def stA : At → At
  | .spot _ _ _ => .any
  | x => x
def stV0 : V → V
  | .a x => .a (stA x)
  | .agg l => .agg (l.map stA)
  | .tup _ => .any
  | x => x
def stV : V → V
  | .tup l => .tup (l.map stV0)
  | .a x => .a (stA x)
  | .agg l => .agg (l.map stA)
  | x => x
def TS.er (σ : TS) : St := ⟨σ.t.map fun p => (p.1, stV p.2), σ.r.map fun p => (p.1, p.2.er)⟩

def lkT : List (Nat × V) → Nat → V
  | [], _ => .any
  | p :: l, n => bif Nat.beq n p.1 then p.2 else lkT l n
def lkR : List (Nat × TRoot) → Nat → Option TRoot
  | [], _ => none
  | p :: l, n => bif Nat.beq n p.1 then some p.2 else lkR l n
theorem beq_dec (n m : Nat) : Nat.beq n m = decide (n = m) := by
  rw [Bool.eq_iff_iff]; simp
theorem lkT_eq (l : List (Nat × V)) (n : Nat) : lkT l n = (look l n).getD .any := by
  induction l with
  | nil => rfl
  | cons p l ih => simp only [lkT, look, beq_dec]; by_cases h : n = p.1 <;> simp [h]; exact ih
theorem lkR_eq (l : List (Nat × TRoot)) (n : Nat) : look (l.map fun p => (p.1, p.2.er)) n = (lkR l n).map TRoot.er := by
  induction l with
  | nil => rfl
  | cons p l ih => simp only [lkR, look, beq_dec, List.map_cons]; by_cases h : n = p.1 <;> simp [h, ih]
theorem TS.tv_er (σ : TS) (t : Nat) : σ.er.tv t = stV (lkT σ.t t) := by
  rw [lkT_eq]
  show (look (σ.t.map fun p => (p.1, stV p.2)) t).getD .any = _
  rw [look_map]
  cases look σ.t t <;> rfl
theorem TS.rt_er (σ : TS) (κ : Nat) : σ.er.rt κ = (lkR σ.r κ).map TRoot.er := lkR_eq σ.r κ
theorem TS.rt_some {σ : TS} {κ : Nat} {R : TRoot} (h : lkR σ.r κ = some R) : σ.er.rt κ = some R.er := by rw [TS.rt_er, h]; rfl
end Go.Tr
