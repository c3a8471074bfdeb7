/- Contracts over typed trees: entry and exit. -/
import Derived.Test.YtjlphbhmjicdhaaVI
set_option linter.unusedVariables false
set_option linter.unusedSimpArgs false
universe u
namespace Go.Tr
open Go Go.RowKit

/-- What is handed in: a tree that is lent, one that is given away, a slice that may be written. -/
inductive TA : Type 1 where
  | c (t : TC)
  | m (t : TC)
  | h (ρ n : Nat)
inductive TAg : Type 1 where
  | one (a : TA)
  | agg (l : List TA)
  | ptr (ρ : Nat)
inductive TAr : Type 1 where
  | one (t : TC)
  | agg (l : List TC)
/-- What may be written: a struct behind a pointer, the elements of a slice. -/
inductive TX : Type 1 where
  | st (cs : List TC)
  | sl (e k : Nat) (X : Type) (enc : X → Nat → TC) (dec : List Value → Option X) (d : X) (xs : List X)
def TA.er : TA → Aa
  | .c t => .c (t.er .fro)
  | .m t => .c (t.er .own)
  | .h ρ n => .h ρ n
def TAg.er : TAg → Ag
  | .one a => .one a.er
  | .agg l => .agg (l.map TA.er)
  | .ptr ρ => .ptr ρ
def TAr.er : TAr → Ar
  | .one t => .one (t.er .own)
  | .agg l => .agg (l.map (TC.er .own))
def TX.er : TX → Xr
  | .st cs => ⟨cs.length, 1, fun _ r => ((cs[r]?).map (TC.er .own)).getD .any⟩
  | .sl e k X enc dec d xs => ⟨k, xs.length, fun i r => (enc (xs.getD i d) r).er .own⟩

def CallF (P : Program) (f : FuncId) : Prop := ∃ fn, P.funcs[f]? = some fn ∧ (fn.name == "runtime.NumGoroutine") = false ∧ fn.body.isNone = false
/-- A function's contract. -/
structure RunT (P : Program) (f : FuncId) (args : List TAg) (ext : List TX) (outs : List TAr) (ext' : List TX) : Prop where
  fn : CallF P f
  run : Run P f (args.map TAg.er) (ext.map TX.er) fun o e => o = outs.map TAr.er ∧ e = ext'.map TX.er

/-- The state at the entry. -/
def TX.root : TX → TRoot
  | .st cs => .box 0 (cs.map .cl)
  | .sl e k X enc dec d xs => .ty .own false 0 k X enc dec d xs
def TC.root (o : RO) (f : Bool) : TC → Option (TRoot × Nat)
  | .sl e k X enc dec d xs => some (.ty o f e k X enc dec d xs, xs.length)
  | .nil e k => some (.raw ⟨o, f, e, k, 0, fun _ _ => .any, []⟩, 0)
  | _ => none
def TC.at0 : TC → At
  | .lit v => .lit v
  | _ => .any
def cellsE : List TA → TS → Nat → TS × List At × Nat
  | [], σ, c => (σ, [], c)
  | .h ρ n :: l, σ, c => match cellsE l σ c with | (σ', xs, c') => (σ', .ref (1000000 + ρ) 0 n :: xs, c')
  | .c t :: l, σ, c => match t.root .fro false with
    | some (R, n) => (match cellsE l ⟨σ.t, (c, R) :: σ.r⟩ (c + 1) with | (σ', xs, c') => (σ', .ref c 0 n :: xs, c'))
    | none => (match cellsE l σ c with | (σ', xs, c') => (σ', t.at0 :: xs, c'))
  | .m t :: l, σ, c => match t.root .own true with
    | some (R, n) => (match cellsE l ⟨σ.t, (c, R) :: σ.r⟩ (c + 1) with | (σ', xs, c') => (σ', .ref c 0 n :: xs, c'))
    | none => (match cellsE l σ c with | (σ', xs, c') => (σ', t.at0 :: xs, c'))
def argsE : List TAg → Nat → TS → Nat → TS
  | [], _, σ, _ => σ
  | .one x :: l, i, σ, c => match cellsE [x] σ c with | (σ', xs, c') => argsE l (i + 1) ⟨(i, .a (xs.headD .any)) :: σ'.t, σ'.r⟩ c'
  | .agg xs :: l, i, σ, c => match cellsE xs σ c with | (σ', xs, c') => argsE l (i + 1) ⟨(i, .agg xs) :: σ'.t, σ'.r⟩ c'
  | .ptr ρ :: l, i, σ, c => argsE l (i + 1) ⟨(i, .ptr (1000000 + ρ) 0 0) :: σ.t, σ.r⟩ c
def extE : List TX → Nat → TS → TS
  | [], _, σ => σ
  | x :: l, ρ, σ => extE l (ρ + 1) ⟨σ.t, (1000000 + ρ, x.root) :: σ.r⟩
def enterE (args : List TAg) (ext : List TX) : TS := argsE args 0 (extE ext 0 ⟨[], []⟩) (1000000 + ext.length)

def Sm (s : St) (τ : TS) : Prop := (∀ t, s.tv t = stV (lkT τ.t t)) ∧ ∀ κ, OSim (s.rt κ) ((lkR τ.r κ).map TRoot.er)
theorem Sm.le {s : St} {τ : TS} (h : Sm s τ) : s.le τ.er := le_lk (fun t => .inr (h.1 t).symm) h.2
theorem Sm.setR {s : St} {τ : TS} (h : Sm s τ) (κ : Nat) {R : Root} {T : TRoot} (hs : RSim R T.er) : Sm (s.setR κ R) ⟨τ.t, (κ, T) :: τ.r⟩ := by
  refine ⟨h.1, fun κ' => ?_⟩
  rw [lkR_cons]
  show OSim (if κ' = κ then some R else s.rt κ') _
  by_cases e : κ' = κ
  · simp only [e, if_pos]; exact hs
  · simp only [e, if_neg, not_false_eq_true, if_false]; exact h.2 κ'
theorem Sm.put {s : St} {τ : TS} (h : Sm s τ) (d : Nat) (v : V) : Sm (s.put d (stV v)) ⟨(d, v) :: τ.t, τ.r⟩ := by
  refine ⟨fun t => ?_, h.2⟩
  rw [St.tv_put, lkT_cons]
  by_cases e : t = d
  · simp [e]
  · simp only [e, if_neg, not_false_eq_true, if_false]; exact h.1 t
def noSp : At → Bool
  | .spot _ _ _ => false
  | _ => true
theorem st_noSp {x : At} (h : noSp x = true) : stA x = x := by cases x <;> first | rfl | cases h

theorem root_some {o : Ow} {t : TC} {R : TRoot} {n : Nat} {ro : RO} {f : Bool} (h : t.root ro f = some (R, n)) (hro : ro = (match o with | .own => RO.own | .fro => RO.fro)) (hf : f = decide (o = .own)) :
    ∃ e k row, t.er o = .sl o e k n row ∧ RSim (openR o e k n row) R.er := by
  cases t with
  | lit v => cases h
  | any => cases h
  | nil e k =>
    injection h with h; injection h with h1 h2; subst h1 h2 hro hf
    exact ⟨e, k, _, rfl, by cases o <;> exact RSim.rfl _⟩
  | sl e k X enc dec d xs =>
    injection h with h; injection h with h1 h2; subst h1 h2 hro hf
    refine ⟨e, k, _, rfl, ?_⟩
    cases o <;> exact RSim.rfl _
theorem root_none {t : TC} {ro : RO} {f : Bool} (h : t.root ro f = none) (o : Ow) : (∃ v, t.er o = .lit v ∧ t.at0 = .lit v) ∨ (t.er o = .any ∧ t.at0 = .any) := by
  cases t with
  | lit v => exact .inl ⟨v, rfl, rfl⟩
  | any => exact .inr ⟨rfl, rfl⟩
  | nil => cases h
  | sl => cases h
theorem cellsE_ok : ∀ (l : List TA) (s : St) (τ : TS) (c : Nat), Sm s τ → Sm (addCells (l.map TA.er) s c).1 (cellsE l τ c).1 ∧ (addCells (l.map TA.er) s c).2 = (cellsE l τ c).2 ∧ (cellsE l τ c).2.1.all noSp = true
  | [], s, τ, c, h => ⟨h, rfl, rfl⟩
  | .h ρ n :: l, s, τ, c, h => by
    obtain ⟨h1, h2, h3⟩ := cellsE_ok l s τ c h
    simp only [cellsE, List.map_cons, TA.er, addCells]
    refine ⟨h1, ?_, ?_⟩
    · rw [h2]
    · simp [noSp, h3]
  | .c t :: l, s, τ, c, h => by
    simp only [cellsE, List.map_cons, TA.er]
    cases hr : t.root .fro false with
    | some p =>
      obtain ⟨R, n⟩ := p
      obtain ⟨e, k, row, e1, e2⟩ := root_some (o := .fro) hr rfl rfl
      obtain ⟨h1, h2, h3⟩ := cellsE_ok l (s.setR c (openR .fro e k n row)) ⟨τ.t, (c, R) :: τ.r⟩ (c + 1) (h.setR c e2)
      simp only [addCells, e1]
      refine ⟨h1, ?_, by simp [noSp, h3]⟩
      rw [h2]
    | none =>
      obtain ⟨h1, h2, h3⟩ := cellsE_ok l s τ c h
      rcases root_none hr .fro with ⟨v, e1, e2⟩ | ⟨e1, e2⟩
      · simp only [addCells, e1, e2]
        exact ⟨h1, by rw [h2], by simp [noSp, h3]⟩
      · simp only [addCells, e1, e2]
        exact ⟨h1, by rw [h2], by simp [noSp, h3]⟩
  | .m t :: l, s, τ, c, h => by
    simp only [cellsE, List.map_cons, TA.er]
    cases hr : t.root .own true with
    | some p =>
      obtain ⟨R, n⟩ := p
      obtain ⟨e, k, row, e1, e2⟩ := root_some (o := .own) hr rfl rfl
      obtain ⟨h1, h2, h3⟩ := cellsE_ok l (s.setR c (openR .own e k n row)) ⟨τ.t, (c, R) :: τ.r⟩ (c + 1) (h.setR c e2)
      simp only [addCells, e1]
      refine ⟨h1, ?_, by simp [noSp, h3]⟩
      rw [h2]
    | none =>
      obtain ⟨h1, h2, h3⟩ := cellsE_ok l s τ c h
      rcases root_none hr .own with ⟨v, e1, e2⟩ | ⟨e1, e2⟩
      · simp only [addCells, e1, e2]
        exact ⟨h1, by rw [h2], by simp [noSp, h3]⟩
      · simp only [addCells, e1, e2]
        exact ⟨h1, by rw [h2], by simp [noSp, h3]⟩
theorem all_st {l : List At} (h : l.all noSp = true) : l.map stA = l := by
  induction l with
  | nil => rfl
  | cons x l ih =>
    simp only [List.all_cons, Bool.and_eq_true] at h
    simp only [List.map_cons, st_noSp h.1, ih h.2]
theorem argsE_ok : ∀ (l : List TAg) (i : Nat) (s : St) (τ : TS) (c : Nat), Sm s τ → Sm (addArgs (l.map TAg.er) i s c) (argsE l i τ c)
  | [], i, s, τ, c, h => h
  | .one x :: l, i, s, τ, c, h => by
    obtain ⟨h1, h2, h3⟩ := cellsE_ok [x] s τ c h
    simp only [List.map_cons, TAg.er, addArgs, argsE]
    rw [show (addCells [x.er] s c).2.2 = (cellsE [x] τ c).2.2 from congrArg Prod.snd h2, show (addCells [x.er] s c).2.1 = (cellsE [x] τ c).2.1 from congrArg Prod.fst h2]
    have := h1.put i (.a ((cellsE [x] τ c).2.1.headD .any))
    have hst : stV (V.a ((cellsE [x] τ c).2.1.headD .any)) = .a ((cellsE [x] τ c).2.1.headD .any) := by
      show V.a (stA _) = _
      have hh := all_st h3
      cases hq : (cellsE [x] τ c).2.1 with
      | nil => rfl
      | cons y ys => rw [hq] at hh; simp only [List.map_cons, List.cons.injEq] at hh; simp [hh.1]
    rw [hst] at this
    exact argsE_ok l (i + 1) _ _ _ this
  | .agg xs :: l, i, s, τ, c, h => by
    obtain ⟨h1, h2, h3⟩ := cellsE_ok xs s τ c h
    simp only [List.map_cons, TAg.er, addArgs, argsE]
    rw [show (addCells (xs.map TA.er) s c).2.2 = (cellsE xs τ c).2.2 from congrArg Prod.snd h2, show (addCells (xs.map TA.er) s c).2.1 = (cellsE xs τ c).2.1 from congrArg Prod.fst h2]
    have := h1.put i (.agg (cellsE xs τ c).2.1)
    have hst : stV (V.agg (cellsE xs τ c).2.1) = .agg (cellsE xs τ c).2.1 := by simp only [stV, all_st h3]
    rw [hst] at this
    exact argsE_ok l (i + 1) _ _ _ this
  | .ptr ρ :: l, i, s, τ, c, h => argsE_ok l (i + 1) _ _ _ (h.put i (.ptr (1000000 + ρ) 0 0))
theorem TX.root_ok (x : TX) : RSim (extR x.er) x.root.er := by
  cases x with
  | sl e k X enc dec d xs => exact RSim.rfl _
  | st cs =>
    refine ⟨rfl, (fun h => by cases h), by show (cs.map TCl.cl).length = cs.length; simp, rfl, fun i r hi hr => ?_⟩
    have hi0 : i = 0 := by
      have : i < 1 := hi
      omega
    subst hi0
    change r < cs.length at hr
    show ClSim (.cl (((cs[r]?).map (TC.er .own)).getD .any)) ((TRoot.box 0 (cs.map TCl.cl)).er.get 0 r)
    rw [box_get, List.getElem?_map, List.getElem?_eq_getElem hr]
    exact CSame.rfl _
theorem extE_ok : ∀ (l : List TX) (ρ : Nat) (s : St) (τ : TS), Sm s τ → Sm (addExt (l.map TX.er) ρ s) (extE l ρ τ)
  | [], ρ, s, τ, h => h
  | x :: l, ρ, s, τ, h => extE_ok l (ρ + 1) _ _ (h.setR _ x.root_ok)
theorem enterE_ok (args : List TAg) (ext : List TX) : (enterSt (args.map TAg.er) (ext.map TX.er)).le (enterE args ext).er := by
  refine Sm.le ?_
  unfold enterSt enterE
  rw [List.length_map]
  exact argsE_ok _ _ _ _ _ (extE_ok _ _ _ _ ⟨fun t => rfl, fun κ => trivial⟩)
end Go.Tr
