/- From the law's trees to typed ones. -/
import Derived.Test.YtjlphbhmjicdhaaVO
set_option linter.unusedVariables false
set_option linter.unusedSimpArgs false
universe u
namespace Go.Tr
open Go Go.RowKit

def AaSim : Aa → Aa → Prop
  | .c x, .c y => CSame x y
  | .h a b, .h a' b' => a = a' ∧ b = b'
  | _, _ => False
def AasSim : List Aa → List Aa → Prop
  | [], [] => True
  | x :: l, y :: l' => AaSim x y ∧ AasSim l l'
  | _, _ => False
def AgSim : Ag → Ag → Prop
  | .one x, .one y => AaSim x y
  | .agg l, .agg l' => AasSim l l'
  | .ptr ρ, .ptr ρ' => ρ = ρ'
  | _, _ => False
def AgsSim : List Ag → List Ag → Prop
  | [], [] => True
  | x :: l, y :: l' => AgSim x y ∧ AgsSim l l'
  | _, _ => False
theorem AaSim.rel {w : World} {q : Qm} {A : Nat → Bs} {i j : Nat} {x y : Aa} (h : AaSim x y) {u : Value} (hx : AaRel w q A i j x u) : AaRel w q A i j y u := by
  cases x <;> cases y <;> simp only [AaSim] at h
  · exact CSame.rel _ _ _ _ h hx
  · obtain ⟨rfl, rfl⟩ := h; exact hx
theorem AasSim.get : ∀ {l l' : List Aa}, AasSim l l' → l.length = l'.length ∧ ∀ (j : Nat) (y : Aa), l'[j]? = some y → ∃ x, l[j]? = some x ∧ AaSim x y
  | [], [], _ => ⟨rfl, fun j y h => by simp at h⟩
  | x :: l, y :: l', h => by
    obtain ⟨e1, e2⟩ := AasSim.get h.2
    refine ⟨by simp [e1], fun j z hj => ?_⟩
    cases j with
    | zero => injection hj with hj; subst hj; exact ⟨x, rfl, h.1⟩
    | succ j => exact e2 j z hj
  | [], _ :: _, h => h.elim
  | _ :: _, [], h => h.elim
theorem AgsSim.get : ∀ {l l' : List Ag}, AgsSim l l' → l.length = l'.length ∧ ∀ (j : Nat) (y : Ag), l'[j]? = some y → ∃ x, l[j]? = some x ∧ AgSim x y
  | [], [], _ => ⟨rfl, fun j y h => by simp at h⟩
  | x :: l, y :: l', h => by
    obtain ⟨e1, e2⟩ := AgsSim.get h.2
    refine ⟨by simp [e1], fun j z hj => ?_⟩
    cases j with
    | zero => injection hj with hj; subst hj; exact ⟨x, rfl, h.1⟩
    | succ j => exact e2 j z hj
  | [], _ :: _, h => h.elim
  | _ :: _, [], h => h.elim
theorem AgSim.rel {w : World} {q : Qm} {A : Nat → Bs} {i : Nat} {x y : Ag} (h : AgSim x y) {u : Value} (hx : AgRel w q A i x u) : AgRel w q A i y u := by
  cases x <;> cases y <;> simp only [AgSim] at h
  · exact h.rel hx
  · obtain ⟨us, e1, e2, e3⟩ := hx
    obtain ⟨f1, f2⟩ := h.get
    refine ⟨us, e1, by omega, fun j c hj => ?_⟩
    obtain ⟨x, g1, g2⟩ := f2 j c hj
    obtain ⟨y, k1, k2⟩ := e3 j x g1
    exact ⟨y, k1, g2.rel k2⟩
  · subst h; exact hx
theorem Run.args {P : Program} {f : FuncId} {args args' : List Ag} {ext : List Xr} {Post : List Ar → List Xr → Prop} (hs : AgsSim args args') (h : Run P f args' ext Post) : Run P f args ext Post := by
  intro w q A cargs he
  obtain ⟨f1, f2⟩ := hs.get
  refine h w q A cargs ⟨by rw [he.size, f1], fun i y hi => ?_, he.ext, he.lt⟩
  obtain ⟨x, g1, g2⟩ := f2 i y hi
  obtain ⟨u, k1, k2⟩ := he.args i x g1
  exact ⟨u, k1, g2.rel k2⟩
theorem list_of {X : Type} {enc : X → Nat → TC} {dts : List Dt} {Pr : X → Prop} (dec : List Value → Option X) (d : X) (k : Nat) (hX : ∀ f : Nat → C, (∀ r t, dts[r]? = some t → DtOk t (f r)) → ∃ x : X, Pr x ∧ ∀ r, r < k → CSame (f r) ((enc x r).er .fro))
    {e e' n : Nat} {row : Nat → Nat → C} (h : ∀ i r t, i < n → dts[r]? = some t → DtOk t (row i r)) : ∃ xs : List X, xs.length = n ∧ (∀ x ∈ xs, Pr x) ∧ CSame (.sl .fro e k n row) ((TC.sl e' k X enc dec d xs).er .fro) := by
  have h1 : ∀ i : _root_.Fin n, ∃ x : X, Pr x ∧ ∀ r, r < k → CSame (row i r) ((enc x r).er .fro) := fun i => hX (row i) (fun r t ht => h i r t i.2 ht)
  have g : ∃ g : _root_.Fin n → X, ∀ i, Pr (g i) ∧ ∀ r, r < k → CSame (row i r) ((enc (g i) r).er .fro) := ⟨fun i => (h1 i).choose, fun i => (h1 i).choose_spec⟩
  obtain ⟨g, hg⟩ := g
  refine ⟨List.ofFn g, by simp, fun x hx => ?_, ?_⟩
  · obtain ⟨i, rfl⟩ := List.mem_ofFn.1 hx
    exact (hg i).1
  · refine ⟨rfl, ⟨fun h => (by cases h), rfl, by simp, fun i r hi hr => ?_⟩⟩
    have : (List.ofFn g).getD i d = g ⟨i, hi⟩ := by simp [List.getD, hi]
    show CSame (row i r) ((enc ((List.ofFn g).getD i d) r).er .fro)
    rw [this]
    exact (hg ⟨i, hi⟩).2 r hr
end Go.Tr
