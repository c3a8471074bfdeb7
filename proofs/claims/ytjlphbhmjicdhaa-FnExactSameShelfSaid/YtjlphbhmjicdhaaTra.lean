/- A calculus for contracts over the memory of the model, its first half: what a state is known to hold, and the operations. -/
import Derived.WalkKit
import Derived.Handy
import Derived.Lib.Hide
import Derived.Laws.OwnMore
import Derived.Below
import Derived.Deep.Draws
import Derived.Tactics
import Derived.IntWalk
import Derived.Laws.IdiomCopy
import Derived.Laws.MakeOwn
import Derived.Laws.AppendOwn
import Derived.Laws.Tables
import Derived.Great.BuildSlice
set_option linter.unusedVariables false
set_option linter.unusedSimpArgs false
namespace Go.Tr
open Go Go.RowKit

inductive Ow where | own | fro
  deriving DecidableEq

/-- One cell at rest. -/
inductive C where
  | lit (v : Value)
  | any
  | hole
  | sl (o : Ow) (e k n : Nat) (row : Nat → Nat → C)

/-- One cell's value in a slot. -/
inductive At where
  | any
  | lit (v : Value)
  | nil (e k : Nat)
  | ref (κ lo n : Nat)
  | spot (κ i r : Nat)

inductive V where
  | any
  | a (x : At)
  | agg (l : List At)
  | ptr (κ i r : Nat)
  | tup (l : List V)

/-- Whose a root is: the call's own; frozen; a look into the closed tree in cell (i, r) of the root κ. -/
inductive RO where
  | own
  | fro
  | vw (κ i r : Nat)

/-- What lies in a cell: a closed tree, or the header of another root. -/
inductive Cl where
  | cl (c : C)
  | ref (κ lo n : Nat)

/-- A row of n elements of k cells each; 'op': the cells that have been written since. -/
structure Root where
  o : RO
  full : Bool
  e : Nat
  k : Nat
  n : Nat
  row : Nat → Nat → C
  op : List ((Nat × Nat) × Cl)

def look2 : List ((Nat × Nat) × Cl) → Nat → Nat → Cl → Cl
  | [], _, _, c => c
  | ((i', r'), x) :: l, i, r, c => if r = r' then (if i = i' then x else look2 l i r c) else look2 l i r c
def Root.get (R : Root) (i r : Nat) : Cl := look2 R.op i r (.cl (R.row i r))
def Cl.live : Cl → Bool
  | _ => true

inductive Wh where
  | row (κ : Nat)
  | sub (κ i r : Nat)
  | fro
  deriving DecidableEq

abbrev Om := Nat → Nat → Option Wh

/-- Where a root lies: its header's address and capacity. -/
structure Bs where
  A : Option Addr
  cap : Nat

structure St where
  t : List (Nat × V)
  r : List (Nat × Root)

def look {α : Type} : List (Nat × α) → Nat → Option α
  | [], _ => none
  | (k, x) :: l, n => if n = k then some x else look l n

def St.tv (σ : St) (t : Nat) : V := (look σ.t t).getD .any
def St.rt (σ : St) (κ : Nat) : Option Root := look σ.r κ

def scal0 : Value → Bool
  | .bool _ | .int _ _ | .string _ => true
  | _ => false
def scal : Value → Bool
  | .bool _ | .int _ _ | .string _ => true
  | .pointer (some a) => a.spot.isNone
  | .slice _ _ _ => true
  | .func (.func _) a _ => a.isEmpty
  | _ => false
theorem scal0_scal {v : Value} (h : scal0 v = true) : scal v = true := by cases v <;> simp_all [scal, scal0]
theorem scal_one {v : Value} (h : scal v = true) : v.oneCell' = true := by cases v <;> simp_all [scal, Value.oneCell']

/-- The cell is there, and is one. -/
def One (w : World) (b j : Nat) : Prop := ∃ u, w.cell? ⟨b, j, none⟩ = some u ∧ u.oneCell' = true
theorem One.eq {w w' : World} {b j : Nat} (e : w'.cell? ⟨b, j, none⟩ = w.cell? ⟨b, j, none⟩) (h : One w b j) : One w' b j := by unfold One; rw [e]; exact h

/-- A closed tree that lies in one cell: its own cells are those of f, the frozen ones are those of z. -/
def CRel (w : World) (z : Nat → Nat → Prop) : C → (Nat → Nat → Prop) → Value → Prop
  | .lit v, _, u => u = v ∧ scal v = true
  | .any, _, u => u.oneCell' = true
  | .hole, _, _ => False
  | .sl .fro _ k n row, _, u => ∃ A c, u = .slice A n c ∧ n ≤ c ∧ c ≤ maxLen ∧ (A = none → c = 0) ∧ (0 < n → ∃ g o, A = some ⟨g, o, none⟩ ∧
      ∀ i r, i < n → r < k → ∃ x, w.cell? ⟨g, o + (i * k + r), none⟩ = some x ∧ z g (o + (i * k + r)) ∧ CRel w z (row i r) (fun _ _ => False) x)
  | .sl .own e k n row, f, u => ∃ A c, u = .slice A n c ∧ n ≤ c ∧ c ≤ maxLen ∧ ((A = none ∧ c = 0) ∨ ∃ g cur, A = some ⟨g, 0, none⟩ ∧
      w.heap[g]? = some (.cells cur e (0, 0)) ∧ cur.size = c * k ∧ (∀ j, j < c * k → f g j ∧ One w g j) ∧
      ∃ q : Nat → Nat → Option (Nat × Nat), (∀ j, j < c * k → q g j = none) ∧
        ∀ i r, i < n → r < k → ∃ x, w.cell? ⟨g, i * k + r, none⟩ = some x ∧ CRel w z (row i r) (fun b j => f b j ∧ q b j = some (i, r)) x)

/-- No block has gone, none has turned its kind. -/
structure Meta (w w' : World) : Prop where
  size : w.heap.size ≤ w'.heap.size
  blk : ∀ (b : Nat) (cur : Array Value) (e : Nat) (fz : Nat × Nat), w.heap[b]? = some (Obj.cells cur e fz) → ∃ cur' : Array Value, w'.heap[b]? = some (Obj.cells cur' e fz) ∧ cur'.size = cur.size

theorem Meta.refl (w : World) : Meta w w := ⟨Nat.le_refl _, fun _ cur _ _ h => ⟨cur, h, rfl⟩⟩
theorem Meta.trans {a b c : World} (h : Meta a b) (k : Meta b c) : Meta a c :=
  ⟨Nat.le_trans h.size k.size, fun b cur e fz hb => by
    obtain ⟨c1, h1, h2⟩ := h.blk b cur e fz hb
    obtain ⟨c2, h3, h4⟩ := k.blk b c1 e fz h1
    exact ⟨c2, h3, h4.trans h2⟩⟩
theorem Meta.drew (w : World) : Meta w w.drew := ⟨Nat.le_refl _, fun _ cur _ _ h => ⟨cur, h, rfl⟩⟩
theorem Meta.alloc (w : World) (o : Obj) : Meta w (w.alloc o) :=
  ⟨by simp, fun b cur e fz h => ⟨cur, by
    have : b < w.heap.size := (Array.getElem?_eq_some_iff.1 h).1
    rw [Below.heap_alloc _ _ _ this]; exact h, rfl⟩⟩
theorem Meta.setCell (w : World) (a : Addr) (v : Value) : Meta w (w.setCell a v) := by
  refine ⟨by simp, fun b cur e fz h => ?_⟩
  by_cases hb : b = a.block
  · subst hb
    refine ⟨(if a.spot.isSome then cur else cur.setIfInBounds a.off v), ?_, by split <;> simp⟩
    simp only [World.setCell, Array.getElem?_modify, if_true, h, Option.map_some]
  · exact ⟨cur, by rw [Below.heap_setCell _ _ _ _ hb]; exact h, rfl⟩

/-- A tree stands while the cells that it reads stand. -/
theorem CRel.frame {w w' : World} {z : Nat → Nat → Prop} (hm : Meta w w') (hz : ∀ b j, z b j → w'.cell? ⟨b, j, none⟩ = w.cell? ⟨b, j, none⟩) :
    ∀ (c : C) (f : Nat → Nat → Prop) (u : Value), CRel w z c f u → (∀ b j, f b j → w'.cell? ⟨b, j, none⟩ = w.cell? ⟨b, j, none⟩) → CRel w' z c f u := by
  intro c
  induction c with
  | lit v => intro f u h _; exact h
  | any => intro f u h _; exact h
  | hole => intro f u h _; exact h
  | sl o e k n row ih =>
    intro f u h hf
    cases o with
    | fro =>
      obtain ⟨A, c, hu, hn, hc, h0, hr⟩ := h
      refine ⟨A, c, hu, hn, hc, h0, fun hp => ?_⟩
      obtain ⟨g, o, hA, hcells⟩ := hr hp
      refine ⟨g, o, hA, fun i r hi hk => ?_⟩
      obtain ⟨x, h1, h2, h3⟩ := hcells i r hi hk
      exact ⟨x, (hz _ _ h2).trans h1, h2, ih i r _ _ h3 (fun _ _ h => h.elim)⟩
    | own =>
      obtain ⟨A, c, hu, hn, hc, hr⟩ := h
      refine ⟨A, c, hu, hn, hc, ?_⟩
      rcases hr with h0 | ⟨g, cur, hA, hb, hs, hown, q, hq, hcells⟩
      · exact .inl h0
      · obtain ⟨cur', hb', hs'⟩ := hm.blk g cur e _ hb
        refine .inr ⟨g, cur', hA, hb', hs'.trans hs, fun j hj => ⟨(hown j hj).1, (hown j hj).2.eq (hf _ _ (hown j hj).1)⟩, q, hq, fun i r hi hk => ?_⟩
        obtain ⟨x, h1, h3⟩ := hcells i r hi hk
        have hlt : i * k + r < c * k := by
          calc i * k + r < i * k + k := by omega
            _ = (i + 1) * k := by rw [Nat.add_mul]; omega
            _ ≤ c * k := Nat.mul_le_mul_right _ (by omega)
        exact ⟨x, (hf _ _ (hown _ hlt).1).trans h1, ih i r _ _ h3 (fun b j hh => hf b j hh.1)⟩

theorem CRel.mono {w : World} {z z' : Nat → Nat → Prop} (hz : ∀ b j, z b j → z' b j) :
    ∀ (c : C) (f f' : Nat → Nat → Prop) (u : Value), CRel w z c f u → (∀ b j, f b j → f' b j) → CRel w z' c f' u := by
  intro c
  induction c with
  | lit v => intro f f' u h _; exact h
  | any => intro f f' u h _; exact h
  | hole => intro f f' u h _; exact h
  | sl o e k n row ih =>
    intro f f' u h hf
    cases o with
    | fro =>
      obtain ⟨A, c, hu, hn, hc, h0, hr⟩ := h
      refine ⟨A, c, hu, hn, hc, h0, fun hp => ?_⟩
      obtain ⟨g, o, hA, hcells⟩ := hr hp
      refine ⟨g, o, hA, fun i r hi hk => ?_⟩
      obtain ⟨x, h1, h2, h3⟩ := hcells i r hi hk
      exact ⟨x, h1, hz _ _ h2, ih i r _ _ _ h3 (fun _ _ h => h)⟩
    | own =>
      obtain ⟨A, c, hu, hn, hc, hr⟩ := h
      refine ⟨A, c, hu, hn, hc, ?_⟩
      rcases hr with h0 | ⟨g, cur, hA, hb, hs, hown, q, hq, hcells⟩
      · exact .inl h0
      · refine .inr ⟨g, cur, hA, hb, hs, fun j hj => ⟨hf _ _ (hown j hj).1, (hown j hj).2⟩, q, hq, fun i r hi hk => ?_⟩
        obtain ⟨x, h1, h3⟩ := hcells i r hi hk
        exact ⟨x, h1, ih i r _ _ _ h3 (fun b j hh => ⟨hf b j hh.1, hh.2⟩)⟩

/-- An own tree lent out: the same tree, all of it frozen. -/
def lend : C → C
  | .lit v => .lit v
  | .any => .any
  | .hole => .hole
  | .sl _ e k n row => .sl .fro e k n (fun i r => lend (row i r))

theorem CRel.lend {w : World} {z : Nat → Nat → Prop} : ∀ (c : C) (f f' : Nat → Nat → Prop) (u : Value), CRel w z c f u → CRel w (fun b j => z b j ∨ f b j) (Tr.lend c) f' u := by
  intro c
  induction c with
  | lit v => intro f f' u h; exact h
  | any => intro f f' u h; exact h
  | hole => intro f f' u h; exact h
  | sl o e k n row ih =>
    intro f f' u h
    cases o with
    | fro =>
      obtain ⟨A, c, hu, hn, hc, h0, hr⟩ := h
      refine ⟨A, c, hu, hn, hc, h0, fun hp => ?_⟩
      obtain ⟨g, o, hA, hcells⟩ := hr hp
      refine ⟨g, o, hA, fun i r hi hk => ?_⟩
      obtain ⟨x, h1, h2, h3⟩ := hcells i r hi hk
      refine ⟨x, h1, .inl h2, ?_⟩
      exact CRel.mono (fun b j hh => by rcases hh with hh | hh; exact .inl hh; exact hh.elim) _ _ _ _ (ih i r _ (fun _ _ => False) _ h3) (fun _ _ h => h)
    | own =>
      obtain ⟨A, c, hu, hn, hc, hr⟩ := h
      refine ⟨A, c, hu, hn, hc, ?_, fun hp => ?_⟩
      · rcases hr with h0 | ⟨g, cur, hA, _⟩
        · exact fun _ => h0.2
        · intro e; rw [hA] at e; cases e
      · rcases hr with h0 | ⟨g, cur, hA, hb, hs, hown, q, hq, hcells⟩
        · omega
        · refine ⟨g, 0, hA, fun i r hi hk => ?_⟩
          obtain ⟨x, h1, h3⟩ := hcells i r hi hk
          have hlt : i * k + r < c * k := by
            calc i * k + r < i * k + k := by omega
              _ = (i + 1) * k := by rw [Nat.add_mul]; omega
              _ ≤ c * k := Nat.mul_le_mul_right _ (by omega)
          refine ⟨x, by rw [Nat.zero_add]; exact h1, .inr (by rw [Nat.zero_add]; exact (hown _ hlt).1), ?_⟩
          exact CRel.mono (fun b j hh => by rcases hh with hh | hh; exact .inl hh; exact .inr hh.1) _ _ _ _ (ih i r _ (fun _ _ => False) _ h3) (fun _ _ h => h)
end Go.Tr
namespace Go.Tr
open Go Go.RowKit

/-- What the whole call may write of what was there before it, and the world in which it began. -/
structure Fm where
  w0 : World
  W : Nat → Nat → Prop
  Z : Nat → Nat → Prop
  nE : Nat
  E : Nat → Bs

structure Fr (W : Nat → Nat → Prop) (w0 w : World) : Prop where
  os : w.os = w0.os
  tape : w.tape = w0.tape
  output : w.output = w0.output
  mt : Meta w0 w
  cell : ∀ b j, b < w0.heap.size → ¬ W b j → w.cell? ⟨b, j, none⟩ = w0.cell? ⟨b, j, none⟩
  other : ∀ b, b < w0.heap.size → (∀ cur e fz, w0.heap[b]? ≠ some (Obj.cells cur e fz)) → w.heap[b]? = w0.heap[b]?

/-- The tag of a root's own cells. -/
def Tg (ω : Om) (o : RO) (κ b j : Nat) : Prop :=
  match o with
  | .own => ω b j = some (.row κ)
  | .fro => ω b j = some .fro
  | .vw κ' i' r' => ω b j = some .fro ∨ ω b j = some (.sub κ' i' r')
/-- The frozen cells behind a root. -/
def Zr (ω : Om) (o : RO) (b j : Nat) : Prop :=
  match o with
  | .vw κ' i' r' => ω b j = some .fro ∨ ω b j = some (.sub κ' i' r')
  | _ => ω b j = some .fro

def HR (R : Root) (b : Bs) (lo n : Nat) (u : Value) : Prop :=
  lo + n ≤ R.n ∧ ∃ A c, u = .slice A n c ∧ n ≤ c ∧ c ≤ maxLen ∧ (A = none → c = 0) ∧ (lo = 0 → A = b.A ∧ c = b.cap) ∧ (0 < n → ∃ g o, b.A = some ⟨g, o, none⟩ ∧ A = some ⟨g, o + lo * R.k, none⟩)

/-- The address of cell r of element i. -/
def AtA (R : Root) (b : Bs) (i r g j : Nat) : Prop := ∃ o, b.A = some ⟨g, o, none⟩ ∧ j = o + (i * R.k + r)

def RefRel (σ : St) (β : Nat → Bs) (κ lo n : Nat) (u : Value) : Prop := ∃ R, σ.rt κ = some R ∧ HR R (β κ) lo n u

def ARel (σ : St) (β : Nat → Bs) (w : World) : At → Value → Prop
  | .any, u => u.oneCell' = true
  | .lit v, u => u = v ∧ scal v = true
  | .nil _ _, u => u = .slice none 0 0
  | .ref κ lo n, u => RefRel σ β κ lo n u
  | .spot κ i r, u => ∃ R g j, σ.rt κ = some R ∧ i < R.n ∧ r < R.k ∧ (R.get i r).live = true ∧ AtA R (β κ) i r g j ∧ w.cell? ⟨g, j, none⟩ = some u

def VRel0 (σ : St) (β : Nat → Bs) (w : World) : V → Value → Prop
  | .any, _ => True
  | .a x, u => ARel σ β w x u
  | .agg l, u => ∃ us : Array Value, u = .agg us ∧ us.size = l.length ∧ ∀ (j : Nat) (x : At), l[j]? = some x → ∃ y, us[j]? = some y ∧ ARel σ β w x y
  | .ptr κ i r, u => ∃ R g j, σ.rt κ = some R ∧ AtA R (β κ) i r g j ∧ u = .pointer (some ⟨g, j, none⟩)
  | .tup _, _ => False

def VRel (σ : St) (β : Nat → Bs) (w : World) : V → Value → Prop
  | .tup l, u => ∃ us : Array Value, u = .tuple us ∧ us.size = l.length ∧ ∀ (j : Nat) (x : V), l[j]? = some x → ∃ y, us[j]? = some y ∧ VRel0 σ β w x y
  | x, u => VRel0 σ β w x u

def zf (ω : Om) (b j : Nat) : Prop := ω b j = some .fro
def sf (ω : Om) (κ i r b j : Nat) : Prop := ω b j = some (.sub κ i r)

/-- What a tree in a cell may own. -/
def Sr (ω : Om) (o : RO) (κ i r b j : Nat) : Prop :=
  match o with
  | .own => ω b j = some (.sub κ i r)
  | _ => False

def CellRel (σ : St) (ω : Om) (β : Nat → Bs) (w : World) (κ : Nat) (R : Root) (i r : Nat) (u : Value) : Prop :=
  match R.get i r with
  | .ref κ' lo n => RefRel σ β κ' lo n u
  | .cl c => CRel w (Zr ω R.o) c (Sr ω R.o κ i r) u

structure RootRel (σ : St) (ω : Om) (β : Nat → Bs) (w : World) (κ : Nat) (R : Root) : Prop where
  cells : ∀ i r, i < R.n → r < R.k → (R.get i r).live = true → ∃ g j u, AtA R (β κ) i r g j ∧ w.cell? ⟨g, j, none⟩ = some u ∧ Tg ω R.o κ g j ∧
    (R.o = .own → w.frozen? ⟨g, j, none⟩ = false) ∧ CellRel σ ω β w κ R i r u
  full : R.full = true → (∀ i r, i < R.n → r < R.k → (R.get i r).live = true) ∧ R.o = .own ∧ R.n ≤ (β κ).cap ∧ (β κ).cap ≤ maxLen ∧ (((β κ).A = none ∧ (β κ).cap = 0) ∨ ∃ g cur, (β κ).A = some ⟨g, 0, none⟩ ∧
    w.heap[g]? = some (.cells cur R.e (0, 0)) ∧ cur.size = (β κ).cap * R.k ∧ ∀ j, j < (β κ).cap * R.k → ω g j = some (.row κ) ∧ One w g j)

structure Rel1 (F : Fm) (N : Nat) (σ : St) (a : Act) (w : World) (ω : Om) (β : Nat → Bs) : Prop where
  tsz : a.tmps.size = N
  dfr : a.defers = []
  tmps : ∀ t, VRel σ β w (σ.tv t) (a.tmps.getD t undef)
  roots : ∀ κ R, σ.rt κ = some R → RootRel σ ω β w κ R
  wr : ∀ b j x, ω b j = some x → b < w.heap.size ∧ (x ≠ .fro → F.W b j ∨ F.w0.heap.size ≤ b)
  fr : Fr F.W F.w0 w
  fz : ∀ b j, ω b j = some .fro → F.Z b j
  ex : ∀ ρ R, ρ < F.nE → σ.rt (1000000 + ρ) = some R → β (1000000 + ρ) = F.E ρ

/-- The key is none of a variable that was handed in. -/
def okK (F : Fm) (d : Nat) : Prop := ∀ ρ, ρ < F.nE → d ≠ 1000000 + ρ
theorem okK_lt {F : Fm} {d : Nat} (h : d < 1000000) : okK F d := fun ρ _ e => by omega

def Rel (F : Fm) (N : Nat) (σ : St) (a : Act) (w : World) : Prop := ∃ ω β, Rel1 F N σ a w ω β

/-- x is a tag of the root κ, or of what it looks into, or frozen. -/
def Mine (o : RO) (κ : Nat) : Wh → Prop
  | .row κ' => κ' = κ ∧ o = .own
  | .sub κ' i r => κ' = κ ∨ o = .vw κ' i r
  | .fro => True
theorem Tg.mine {ω : Om} {o : RO} {κ b j : Nat} (h : Tg ω o κ b j) : ∃ x, ω b j = some x ∧ Mine o κ x := by
  cases o with
  | own => exact ⟨_, h, rfl, rfl⟩
  | fro => exact ⟨_, h, trivial⟩
  | vw κ' i' r' => rcases h with h | h; exact ⟨_, h, trivial⟩; exact ⟨_, h, .inr rfl⟩
theorem Zr.mine {ω : Om} {o : RO} {κ b j : Nat} (h : Zr ω o b j) : ∃ x, ω b j = some x ∧ Mine o κ x := by
  cases o with
  | own => exact ⟨_, h, trivial⟩
  | fro => exact ⟨_, h, trivial⟩
  | vw κ' i' r' => rcases h with h | h; exact ⟨_, h, trivial⟩; exact ⟨_, h, .inr rfl⟩
theorem Sr.sub {ω : Om} {o : RO} {κ i r b j : Nat} (h : Sr ω o κ i r b j) : ω b j = some (.sub κ i r) := by
  cases o with
  | own => exact h
  | fro => exact h.elim
  | vw _ _ _ => exact h.elim
theorem Sr.keep {ω ω' : Om} {o : RO} {κ i r b j : Nat} (h : Sr ω o κ i r b j) (hω : ω b j = some (.sub κ i r) → ω' b j = some (.sub κ i r)) : Sr ω' o κ i r b j := by
  cases o with
  | own => exact hω h
  | fro => exact h.elim
  | vw _ _ _ => exact h.elim
theorem Tg.keep {ω ω' : Om} {o : RO} {κ b j : Nat} (h : Tg ω o κ b j) (hω : ∀ x, ω b j = some x → Mine o κ x → ω' b j = some x) : Tg ω' o κ b j := by
  cases o with
  | own => exact hω _ h ⟨rfl, rfl⟩
  | fro => exact hω _ h trivial
  | vw κ' i' r' => rcases h with h | h; exact .inl (hω _ h trivial); exact .inr (hω _ h (.inr rfl))
theorem Zr.keep {ω ω' : Om} {o : RO} {κ b j : Nat} (h : Zr ω o b j) (hω : ∀ x, ω b j = some x → Mine o κ x → ω' b j = some x) : Zr ω' o b j := by
  cases o with
  | own => exact hω _ h trivial
  | fro => exact hω _ h trivial
  | vw κ' i' r' => rcases h with h | h; exact .inl (hω _ h trivial); exact .inr (hω _ h (.inr rfl))

theorem Meta.frozen {w w' : World} (hm : Meta w w') {b j : Nat} {u : Value} (h : w.cell? ⟨b, j, none⟩ = some u) : w'.frozen? ⟨b, j, none⟩ = w.frozen? ⟨b, j, none⟩ := by
  unfold World.cell? at h
  split at h
  · rename_i c e f hb
    obtain ⟨c', hb', _⟩ := hm.blk _ _ _ _ hb
    simp only [World.frozen?, hb, hb']
  · cases h

theorem Fr.refl (W : Nat → Nat → Prop) (w : World) : Fr W w w := ⟨rfl, rfl, rfl, Meta.refl w, fun _ _ _ _ => rfl, fun _ _ _ => rfl⟩
theorem Fr.step {W D : Nat → Nat → Prop} {w0 w w' : World} (h : Fr W w0 w) (k : Fr D w w') (hD : ∀ b j, D b j → W b j ∨ w0.heap.size ≤ b) : Fr W w0 w' :=
  ⟨k.os.trans h.os, k.tape.trans h.tape, k.output.trans h.output, h.mt.trans k.mt,
    fun b j hb hW => (k.cell b j (Nat.lt_of_lt_of_le hb h.mt.size) (fun hd => by rcases hD b j hd with h1 | h1; exact hW h1; omega)).trans (h.cell b j hb hW),
    fun b hb ho => by
      have h1 := h.other b hb ho
      rw [← h1]
      exact k.other b (Nat.lt_of_lt_of_le hb h.mt.size) (by rw [h1]; exact ho)⟩

/-- Every root of σ is one of σ', as wide, no shorter, and lies where it lay. -/
def StLe (σ σ' : St) (β β' : Nat → Bs) : Prop := ∀ κ R, σ.rt κ = some R → β' κ = β κ ∧ ∃ R', σ'.rt κ = some R' ∧ R'.k = R.k ∧ R.n ≤ R'.n

theorem HR.le {R R' : Root} {b : Bs} {lo n : Nat} {u : Value} (h : HR R b lo n u) (hk : R'.k = R.k) (hn : R.n ≤ R'.n) : HR R' b lo n u := by
  obtain ⟨h1, A, c, h2, h3, h4, h5, h6, h7⟩ := h
  exact ⟨by omega, A, c, h2, h3, h4, h5, h6, by rw [hk]; exact h7⟩
theorem RefRel.le {σ σ' : St} {β β' : Nat → Bs} (hs : StLe σ σ' β β') {κ lo n : Nat} {u : Value} (h : RefRel σ β κ lo n u) : RefRel σ' β' κ lo n u := by
  obtain ⟨R, hR, h1⟩ := h
  obtain ⟨hb, R', hR', hk, hn⟩ := hs _ _ hR
  exact ⟨R', hR', by rw [hb]; exact h1.le hk hn⟩

theorem RootRel.upd {σ σ' : St} {ω ω' : Om} {β β' : Nat → Bs} {w w' : World} {κ : Nat} {R : Root} (h : RootRel σ ω β w κ R)
    (hs : ∀ i r κ' lo n, R.get i r = .ref κ' lo n → ∀ u, RefRel σ β κ' lo n u → RefRel σ' β' κ' lo n u) (hb : β' κ = β κ) (hm : Meta w w')
    (hω : ∀ b j x, ω b j = some x → Mine R.o κ x → ω' b j = some x ∧ w'.cell? ⟨b, j, none⟩ = w.cell? ⟨b, j, none⟩) : RootRel σ' ω' β' w' κ R := by
  refine ⟨fun i r hi hr hl => ?_, fun hf => ?_⟩
  · obtain ⟨g, j, u, h1, h2, h3, h4, h5⟩ := h.cells i r hi hr hl
    obtain ⟨x3, e3, m3⟩ := h3.mine
    refine ⟨g, j, u, by rw [hb]; exact h1, ((hω _ _ _ e3 m3).2).trans h2, h3.keep (fun x e m => (hω _ _ _ e m).1), fun ho => (hm.frozen h2).trans (h4 ho), ?_⟩
    unfold CellRel at h5 ⊢
    cases hx : R.get i r with
    | ref κ' lo n => rw [hx] at h5; exact hs i r κ' lo n hx _ h5
    | cl c =>
      rw [hx] at h5
      exact CRel.mono (fun b j hz => Zr.keep (κ := κ) hz (fun x e m => (hω b j x e m).1)) _ _ _ _ (CRel.frame hm (fun b j hz => by obtain ⟨x, e, m⟩ := Zr.mine (κ := κ) hz; exact (hω b j x e m).2) _ _ _ h5 (fun b j hf => (hω b j _ hf.sub (.inl rfl)).2)) (fun b j hf => hf.keep (fun e => (hω b j _ e (.inl rfl)).1))
  · obtain ⟨h0, h1, h2, h3, h4⟩ := h.full hf
    rw [hb]
    refine ⟨h0, h1, h2, h3, ?_⟩
    rcases h4 with h0 | ⟨g, cur, e1, e2, e3, e4⟩
    · exact .inl h0
    · obtain ⟨cur', c1, c2⟩ := hm.blk _ _ _ _ e2
      exact .inr ⟨g, cur', e1, c1, c2.trans e3, fun j hj => ⟨(hω _ _ _ (e4 j hj).1 ⟨rfl, h1⟩).1, (e4 j hj).2.eq (hω _ _ _ (e4 j hj).1 ⟨rfl, h1⟩).2⟩⟩
end Go.Tr
namespace Go.Tr
open Go Go.RowKit

def killA (κ : Nat) : At → At
  | .ref κ' lo n => if κ' = κ then .any else .ref κ' lo n
  | .spot κ' i r => if κ' = κ then .any else .spot κ' i r
  | x => x
def dimA (κ : Nat) : At → At
  | .spot κ' i r => if κ' = κ then .any else .spot κ' i r
  | x => x
def V.map0 (f : At → At) (κ : Option Nat) : V → V
  | .a x => .a (f x)
  | .agg l => .agg (l.map f)
  | .ptr κ' i r => if κ = some κ' then .any else .ptr κ' i r
  | .any => .any
  | .tup _ => .any
def V.map (f : At → At) (κ : Option Nat) : V → V
  | .tup l => .tup (l.map (V.map0 f κ))
  | x => x.map0 f κ
def Cl.kill (κ : Nat) : Cl → Cl
  | .ref κ' lo n => if κ' = κ then .cl .any else .ref κ' lo n
  | x => x
def Root.kill (κ : Nat) (R : Root) : Root := { R with op := R.op.map fun p => (p.1, p.2.kill κ) }
def dropR (κ : Nat) : List (Nat × Root) → List (Nat × Root)
  | [] => []
  | (k, R) :: l => if k = κ then dropR κ l else (k, R.kill κ) :: dropR κ l
def St.mapT (σ : St) (f : V → V) : St := { σ with t := σ.t.map fun p => (p.1, f p.2) }
/-- The root κ is forgotten. -/
def St.drop (σ : St) (κ : Nat) : St := { t := σ.t.map fun p => (p.1, p.2.map (killA κ) (some κ)), r := dropR κ σ.r }
def St.put (σ : St) (d : Nat) (v : V) : St := { σ with t := (d, v) :: σ.t }
def St.setR (σ : St) (κ : Nat) (R : Root) : St := { σ with r := (κ, R) :: σ.r }
/-- A cell is written. -/
def St.wr (σ : St) (κ : Nat) (R : Root) (i r : Nat) (x : Cl) : St := { t := σ.t.map fun p => (p.1, p.2.map (dimA κ) none), r := (κ, { R with op := ((i, r), x) :: R.op }) :: σ.r }
def Root.atom (R : Root) (κ i r : Nat) : At :=
  match R.get i r with
  | .ref κ' lo n => .ref κ' lo n
  | .cl (.lit v) => .lit v
  | .cl (.sl _ _ _ _ _) => .spot κ i r
  | .cl _ => .any

theorem look_map {α β : Type} (f : α → β) (l : List (Nat × α)) (n : Nat) : look (l.map fun p => (p.1, f p.2)) n = (look l n).map f := by
  induction l with
  | nil => rfl
  | cons p l ih => simp only [List.map_cons, look]; split <;> simp [ih]
theorem look2_kill (κ : Nat) (l : List ((Nat × Nat) × Cl)) (i r : Nat) (c : C) : look2 (l.map fun p => (p.1, p.2.kill κ)) i r (.cl c) = (look2 l i r (.cl c)).kill κ := by
  induction l with
  | nil => rfl
  | cons p l ih =>
    obtain ⟨⟨i', r'⟩, x⟩ := p
    simp only [List.map_cons, look2, ih]
    split <;> (try split) <;> rfl
theorem Root.get_kill (κ : Nat) (R : Root) (i r : Nat) : (R.kill κ).get i r = (R.get i r).kill κ := look2_kill κ R.op i r _
theorem look_dropR (κ : Nat) (l : List (Nat × Root)) (n : Nat) : look (dropR κ l) n = if n = κ then none else (look l n).map (Root.kill κ) := by
  induction l with
  | nil => simp [dropR, look]
  | cons p l ih =>
    obtain ⟨k, R⟩ := p
    by_cases hk : k = κ
    · subst hk
      rw [dropR, if_pos rfl, ih]
      by_cases hn : n = k
      · simp [hn]
      · simp [hn, look]
    · rw [dropR, if_neg hk, look, ih, look]
      by_cases hn : n = k
      · subst hn; simp [hk]
      · simp [hn]
theorem St.rt_drop (σ : St) (κ n : Nat) : (σ.drop κ).rt n = if n = κ then none else (σ.rt n).map (Root.kill κ) := look_dropR κ σ.r n
theorem St.tv_map (σ : St) (f : V → V) (hf : f .any = .any) (t : Nat) : (look (σ.t.map fun p => (p.1, f p.2)) t).getD .any = f (σ.tv t) := by
  rw [look_map, St.tv]
  cases look σ.t t with
  | none => exact hf.symm
  | some x => rfl

theorem CRel.one {w : World} {z f : Nat → Nat → Prop} {c : C} {u : Value} (h : CRel w z c f u) : u.oneCell' = true := by
  cases c with
  | lit v => obtain ⟨rfl, h⟩ := h; exact scal_one h
  | any => exact h
  | hole => exact h.elim
  | sl o e k n row =>
    cases o with
    | fro => obtain ⟨A, c, rfl, _⟩ := h; rfl
    | own => obtain ⟨A, c, rfl, _⟩ := h; rfl
theorem RefRel.one {σ : St} {β : Nat → Bs} {κ lo n : Nat} {u : Value} (h : RefRel σ β κ lo n u) : u.oneCell' = true := by
  obtain ⟨R, _, _, A, c, rfl, _⟩ := h; rfl
theorem CellRel.one {σ : St} {ω : Om} {β : Nat → Bs} {w : World} {κ : Nat} {R : Root} {i r : Nat} {u : Value} (h : CellRel σ ω β w κ R i r u) : u.oneCell' = true := by
  unfold CellRel at h
  split at h
  · exact h.one
  · exact h.one
theorem ARel.one {F : Fm} {N : Nat} {σ : St} {a : Act} {w : World} {ω : Om} {β : Nat → Bs} (h : Rel1 F N σ a w ω β) {x : At} {u : Value} (hx : ARel σ β w x u) : u.oneCell' = true := by
  cases x with
  | any => exact hx
  | lit v => obtain ⟨rfl, h⟩ := hx; exact scal_one h
  | nil e k => cases hx; rfl
  | ref κ lo n => exact RefRel.one hx
  | spot κ i r =>
    obtain ⟨R, g, j, hR, hi, hr, hl, ha, hc⟩ := hx
    obtain ⟨g', j', u', ha', hc', _, _, h5⟩ := (h.roots κ R hR).cells i r hi hr hl
    obtain ⟨o, e1, e2⟩ := ha
    obtain ⟨o', e1', e2'⟩ := ha'
    rw [e1] at e1'; injection e1' with e1'; injection e1' with e3 e4 _
    subst e3 e4
    rw [e2, ← e2', hc'] at hc
    injection hc with hc
    rw [← hc]; exact h5.one

/-- A value in a slot stands while its parts stand. -/
theorem VRel.map {σ σ' : St} {β β' : Nat → Bs} {w w' : World} {f : At → At} {κ : Option Nat} (hA : ∀ x u, ARel σ β w x u → ARel σ' β' w' (f x) u)
    (hP : ∀ κ' R, κ ≠ some κ' → σ.rt κ' = some R → β' κ' = β κ' ∧ ∃ R', σ'.rt κ' = some R' ∧ R'.k = R.k) {x : V} {u : Value} (h : VRel σ β w x u) : VRel σ' β' w' (x.map f κ) u := by
  have h0 : ∀ (x : V) (u : Value), VRel0 σ β w x u → VRel0 σ' β' w' (x.map0 f κ) u := by
    intro x u h
    cases x with
    | any => trivial
    | a x => exact hA _ _ h
    | agg l =>
      obtain ⟨us, e, hs, hx⟩ := h
      refine ⟨us, e, by simpa using hs, fun j x hj => ?_⟩
      rw [List.getElem?_map] at hj
      cases hl : l[j]? with
      | none => rw [hl] at hj; cases hj
      | some y =>
        rw [hl] at hj
        injection hj with hj
        obtain ⟨v, h1, h2⟩ := hx j y hl
        exact ⟨v, h1, by rw [← hj]; exact hA _ _ h2⟩
    | ptr κ' i r =>
      show VRel0 σ' β' w' (if κ = some κ' then .any else .ptr κ' i r) u
      split
      · trivial
      · rename_i hne
        obtain ⟨R, g, j, hR, ⟨o, e1, e2⟩, e3⟩ := h
        obtain ⟨hb, R', hR', hk⟩ := hP κ' R hne hR
        exact ⟨R', g, j, hR', ⟨o, by rw [hb]; exact e1, by rw [hk]; exact e2⟩, e3⟩
    | tup l => trivial
  cases x with
  | any => trivial
  | a x => exact h0 (.a x) u h
  | agg l => exact h0 (.agg l) u h
  | ptr κ' i r =>
    have := h0 (.ptr κ' i r) u h
    show VRel σ' β' w' (if κ = some κ' then .any else .ptr κ' i r) u
    change VRel0 σ' β' w' (if κ = some κ' then .any else .ptr κ' i r) u at this
    split
    · trivial
    · rename_i hne; rw [if_neg hne] at this; exact this
  | tup l =>
    obtain ⟨us, e, hs, hx⟩ := h
    refine ⟨us, e, by simpa using hs, fun j x hj => ?_⟩
    rw [List.getElem?_map] at hj
    cases hl : l[j]? with
    | none => rw [hl] at hj; cases hj
    | some y =>
      rw [hl] at hj
      injection hj with hj
      obtain ⟨v, h1, h2⟩ := hx j y hl
      exact ⟨v, h1, by rw [← hj]; exact h0 _ _ h2⟩

theorem VRel.same {σ σ' : St} {β β' : Nat → Bs} {w w' : World} (hA : ∀ x u, ARel σ β w x u → ARel σ' β' w' x u)
    (hP : ∀ κ' R, σ.rt κ' = some R → β' κ' = β κ' ∧ ∃ R', σ'.rt κ' = some R' ∧ R'.k = R.k) {x : V} {u : Value} (h : VRel σ β w x u) : VRel σ' β' w' x u := by
  have := VRel.map (f := id) (κ := none) hA (fun κ' R _ hR => hP κ' R hR) h
  have h0 : ∀ x : V, (∀ l, x ≠ .tup l) → x.map0 id none = x := by intro x hx; cases x <;> simp [V.map0] ; exact absurd rfl (hx _)
  cases x with
  | tup l =>
    obtain ⟨us, e, hs, hx⟩ := h
    refine ⟨us, e, hs, fun j x hj => ?_⟩
    obtain ⟨v, h1, h2⟩ := hx j x hj
    refine ⟨v, h1, ?_⟩
    have h3 : VRel0 σ' β' w' (x.map0 id none) v := by
      obtain ⟨us', e', _, hx'⟩ := this
      rw [e] at e'; injection e' with e'; subst e'
      obtain ⟨v', h4, h5⟩ := hx' j (x.map0 id none) (by rw [List.getElem?_map, hj]; rfl)
      rw [h1] at h4; injection h4 with h4; rw [h4]; exact h5
    rwa [h0 x (by rintro l rfl; exact h2)] at h3
  | any => trivial
  | a x => exact this
  | agg l => rw [show (V.agg l).map id none = .agg l by simp [V.map, V.map0]] at this; exact this
  | ptr κ i r => exact this
end Go.Tr
namespace Go.Tr
open Go Go.RowKit

section
variable {F : Fm} {N : Nat} {σ : St} {a : Act} {w : World} {ω : Om} {β : Nat → Bs}

theorem St.tv_put (σ : St) (d t : Nat) (v : V) : (σ.put d v).tv t = if t = d then v else σ.tv t := by
  simp only [St.tv, St.put, look]; split <;> rfl
theorem getD_put {a : Act} {d t : Nat} {u x : Value} (h : d < a.tmps.size) : (a.put (some d) u).tmps.getD t x = if t = d then u else a.tmps.getD t x := by
  simp only [Act.put, Array.getD_eq_getD_getElem?, Array.getElem?_setIfInBounds]
  by_cases e : d = t
  · subst e; simp [h]
  · simp [e, Ne.symm e]

theorem Rel1.put (h : Rel1 F N σ a w ω β) {d : Nat} (hd : d < N) {v : V} {u : Value} (hv : VRel σ β w v u) : Rel1 F N (σ.put d v) (a.put (some d) u) w ω β where
  tsz := by simp [Act.put]; exact h.tsz
  dfr := h.dfr
  tmps := fun t => by
    rw [St.tv_put, getD_put (by rw [h.tsz]; exact hd)]
    split
    · exact VRel.same (fun _ _ h => h) (fun κ' R hR => ⟨rfl, R, hR, rfl⟩) hv
    · exact VRel.same (fun _ _ h => h) (fun κ' R hR => ⟨rfl, R, hR, rfl⟩) (h.tmps t)
  roots := fun κ R hR => (h.roots κ R hR).upd (fun _ _ _ _ _ _ _ h => h) rfl (Meta.refl w) (fun _ _ _ hx _ => ⟨hx, rfl⟩)
  wr := h.wr
  fr := h.fr
  fz := h.fz
  ex := h.ex

theorem ARel.drop (h : Rel1 F N σ a w ω β) (κ : Nat) {x : At} {u : Value} (hx : ARel σ β w x u) : ARel (σ.drop κ) β w (killA κ x) u := by
  cases x with
  | any => exact hx
  | lit v => exact hx
  | nil e k => exact hx
  | ref κ' lo n =>
    show ARel _ _ _ (if κ' = κ then .any else .ref κ' lo n) u
    split
    · exact ARel.one h hx
    · rename_i hne
      obtain ⟨R, hR, h1⟩ := hx
      exact ⟨R.kill κ, by rw [St.rt_drop, if_neg hne, hR]; rfl, h1.le rfl (Nat.le_refl _)⟩
  | spot κ' i r =>
    show ARel _ _ _ (if κ' = κ then .any else .spot κ' i r) u
    split
    · exact ARel.one h hx
    · rename_i hne
      obtain ⟨R, g, j, hR, hi, hr, hl, ha, hc⟩ := hx
      refine ⟨R.kill κ, g, j, by rw [St.rt_drop, if_neg hne, hR]; rfl, hi, hr, ?_, ha, hc⟩
      rw [Root.get_kill]
      cases hg : R.get i r with
      | ref κ2 lo n => simp only [Cl.kill]; split <;> rfl
      | cl c => rw [hg] at hl; exact hl

theorem Rel1.drop (h : Rel1 F N σ a w ω β) (κ : Nat) : Rel1 F N (σ.drop κ) a w ω β where
  tsz := h.tsz
  dfr := h.dfr
  tmps := fun t => by
    show VRel _ _ _ ((look (σ.t.map fun p => (p.1, p.2.map (killA κ) (some κ))) t).getD .any) _
    rw [St.tv_map σ _ rfl]
    exact VRel.map (fun x u hx => ARel.drop h κ hx) (fun κ' R hne hR => ⟨rfl, R.kill κ, by rw [St.rt_drop, if_neg (by intro e; exact hne (by rw [e])), hR]; rfl, rfl⟩) (h.tmps t)
  roots := fun κ' R hR => by
    rw [St.rt_drop] at hR
    split at hR
    · cases hR
    · rename_i hne
      cases hq : σ.rt κ' with
      | none => rw [hq] at hR; cases hR
      | some R0 =>
        rw [hq] at hR
        injection hR with hR
        subst hR
        have h0 := h.roots κ' R0 hq
        refine ⟨fun i r hi hr hl => ?_, fun hf => ⟨fun i r hi hr => ?_, (h0.full hf).2⟩⟩
        rotate_left
        · have := (h0.full hf).1 i r hi hr
          rw [Root.get_kill]
          cases hg : R0.get i r with
          | ref κ2 lo n => simp only [Cl.kill]; split <;> rfl
          | cl c => rw [hg] at this; exact this
        have hl0 : (R0.get i r).live = true := by
          rw [Root.get_kill] at hl
          cases hg : R0.get i r with
          | ref => rfl
          | cl c => rw [hg] at hl; exact hl
        obtain ⟨g, j, u, h1, h2, h3, h4, h5⟩ := h0.cells i r hi hr hl0
        refine ⟨g, j, u, h1, h2, h3, h4, ?_⟩
        have hone := h5.one
        unfold CellRel at h5 ⊢
        rw [Root.get_kill]
        cases hg : R0.get i r with
        | ref κ2 lo n =>
          rw [hg] at h5
          simp only [Cl.kill]
          by_cases he : κ2 = κ
          · rw [if_pos he]; exact hone
          · rw [if_neg he]
            obtain ⟨R, hR, h1⟩ := h5
            exact ⟨R.kill κ, by rw [St.rt_drop, if_neg he, hR]; rfl, h1.le rfl (Nat.le_refl _)⟩
        | cl c => rw [hg] at h5; exact h5
  wr := h.wr
  fr := h.fr
  fz := h.fz
  ex := fun ρ R hρ hR => by
    rw [St.rt_drop] at hR
    split at hR
    · cases hR
    · cases hq : σ.rt (1000000 + ρ) with
      | none => rw [hq] at hR; cases hR
      | some R0 => exact h.ex ρ R0 hρ hq

/-- What may be laid into cell (i, r) of the root d: what is owned there is tagged so already. -/
def LayAt (σ : St) (ω : Om) (β : Nat → Bs) (w : World) (d i r : Nat) : Cl → Value → Prop
  | .ref κ lo n, u => RefRel σ β κ lo n u
  | .cl c, u => CRel w (zf ω) c (sf ω d i r) u
/-- What may be laid into a cell: a tree that owns nothing, or a header of a root. -/
def Lay (σ : St) (ω : Om) (β : Nat → Bs) (w : World) : Cl → Value → Prop
  | .ref κ lo n, u => RefRel σ β κ lo n u
  | .cl c, u => CRel w (zf ω) c (fun _ _ => False) u

theorem Lay.at_ {x : Cl} {u : Value} (h : Lay σ ω β w x u) (d i r : Nat) : LayAt σ ω β w d i r x u := by
  cases x with
  | ref => exact h
  | cl c => exact CRel.mono (fun _ _ h => h) _ _ _ _ h (fun _ _ h => h.elim)

theorem ARel.grow {σ' : St} {β' : Nat → Bs} {w' : World} (hs : ∀ κ R, σ.rt κ = some R → β' κ = β κ ∧ σ'.rt κ = some R) (hc : ∀ b j u, w.cell? ⟨b, j, none⟩ = some u → w'.cell? ⟨b, j, none⟩ = some u)
    {x : At} {u : Value} (hx : ARel σ β w x u) : ARel σ' β' w' x u := by
  cases x with
  | any => exact hx
  | lit v => exact hx
  | nil e k => exact hx
  | ref κ lo n =>
    obtain ⟨R, hR, h1⟩ := hx
    exact ⟨R, (hs _ _ hR).2, by rw [(hs _ _ hR).1]; exact h1⟩
  | spot κ i r =>
    obtain ⟨R, g, j, hR, hi, hr, hl, ha, hc'⟩ := hx
    exact ⟨R, g, j, (hs _ _ hR).2, hi, hr, hl, by rw [(hs _ _ hR).1]; exact ha, hc _ _ _ hc'⟩

theorem Fr.alloc (W : Nat → Nat → Prop) (w : World) (o : Obj) : Fr W w (w.alloc o) :=
  ⟨rfl, rfl, rfl, Meta.alloc w o, fun b j hb _ => World.cell?_alloc_lt _ _ _ hb, fun b hb _ => Below.heap_alloc _ _ _ hb⟩
theorem Fr.drew (W : Nat → Nat → Prop) (w : World) : Fr W w w.drew := ⟨rfl, rfl, rfl, Meta.drew w, fun _ _ _ _ => rfl, fun _ _ _ => rfl⟩

/-- A new block becomes the root d. -/
theorem Rel1.alloc (h : Rel1 F N σ a w ω β) {d : Nat} (hkk : okK F d) (hd : σ.rt d = none) {cs : Array Value} {e cap : Nat} {R : Root} (ho : R.o = .own) (hop : ∀ i r, i < R.n → r < R.k → (R.get i r).live = true → ∃ u, cs[i * R.k + r]? = some u ∧ LayAt σ ω β w d i r (R.get i r) u)
    (hfull : R.full = true → (∀ i r, i < R.n → r < R.k → (R.get i r).live = true) ∧ R.e = e ∧ R.n ≤ cap ∧ cap ≤ maxLen ∧ cs.size = cap * R.k ∧ ∀ (j : Nat) (u : Value), cs[j]? = some u → u.oneCell' = true) :
    Rel1 F N (σ.setR d R) a (w.alloc (.cells cs e)) (fun b j => if b = w.heap.size then some (.row d) else ω b j) (fun κ => if κ = d then ⟨some ⟨w.heap.size, 0, none⟩, cap⟩ else β κ) := by
  have hrt : ∀ κ, (σ.setR d R).rt κ = if κ = d then some R else σ.rt κ := fun κ => rfl
  have hs : ∀ κ R', σ.rt κ = some R' → (if κ = d then (⟨some ⟨w.heap.size, 0, none⟩, cap⟩ : Bs) else β κ) = β κ ∧ (σ.setR d R).rt κ = some R' := by
    intro κ R' hR
    have hne : κ ≠ d := by rintro rfl; rw [hd] at hR; cases hR
    rw [hrt, if_neg hne, if_neg hne]; exact ⟨rfl, hR⟩
  have hc : ∀ b j u, w.cell? ⟨b, j, none⟩ = some u → (w.alloc (.cells cs e)).cell? ⟨b, j, none⟩ = some u := fun b j u hu => by
    rw [World.cell?_alloc_lt _ _ _ (World.block_lt_of_cell? w _ hu)]; exact hu
  have hωlt : ∀ b j x, ω b j = some x → b ≠ w.heap.size := fun b j x hx => Nat.ne_of_lt (h.wr b j x hx).1
  refine ⟨h.tsz, h.dfr, fun t => ?_, fun κ R' hR => ?_, fun b j x hx => ?_, ?_, fun b j hx => ?_, fun ρ R' hρ hR => ?_⟩
  · exact VRel.same (fun x u hx => ARel.grow hs hc hx) (fun κ' R hR => ⟨(hs κ' R hR).1, R, (hs κ' R hR).2, rfl⟩) (h.tmps t)
  · by_cases he : κ = d
    · subst he
      rw [hrt, if_pos rfl] at hR
      injection hR with hR
      subst hR
      refine ⟨fun i r hi hr hl => ?_, fun hf => ?_⟩
      · obtain ⟨u, hu, hlay⟩ := hop i r hi hr hl
        refine ⟨w.heap.size, 0 + (i * R.k + r), u, ⟨0, by rw [if_pos rfl], rfl⟩, by rw [Nat.zero_add, World.cell?_alloc_new]; exact hu, by rw [ho]; simp [Tg], fun _ => by simp, ?_⟩
        unfold CellRel
        unfold LayAt at hlay
        cases hg : R.get i r with
        | ref κ' lo n =>
          rw [hg] at hlay
          obtain ⟨R2, hR2, h1⟩ := hlay
          exact ⟨R2, (hs _ _ hR2).2, by dsimp only; rw [(hs _ _ hR2).1]; exact h1⟩
        | cl c =>
          rw [hg] at hlay
          refine CRel.mono (fun b j hz => ?_) _ _ _ _ (CRel.frame (Meta.alloc w _) (fun b j hz => World.cell?_alloc_lt _ _ _ (h.wr b j _ hz).1) _ _ _ hlay (fun b j hz => World.cell?_alloc_lt _ _ _ (h.wr b j _ hz).1)) (fun b j hz => ?_)
          · rw [ho]
            show (if b = w.heap.size then _ else ω b j) = _
            rw [if_neg (hωlt b j _ hz)]; exact hz
          · rw [ho]
            show (if b = w.heap.size then _ else ω b j) = _
            rw [if_neg (hωlt b j _ hz)]; exact hz
      · obtain ⟨h0, h1, h2, h3, h4, h5⟩ := hfull hf
        refine ⟨h0, ho, by rw [if_pos rfl]; exact h2, by rw [if_pos rfl]; exact h3, .inr ⟨w.heap.size, cs, by rw [if_pos rfl], ?_, by rw [if_pos rfl]; exact h4, fun j hj => ⟨by simp, by
          rw [if_pos rfl] at hj
          refine ⟨cs[j]'(by rw [h4]; exact hj), ?_, h5 j _ (Array.getElem?_eq_getElem _)⟩
          rw [World.cell?_alloc_new]; exact Array.getElem?_eq_getElem _⟩⟩⟩
        rw [h1]; exact heap_alloc_new w _
    · rw [hrt, if_neg he] at hR
      refine (h.roots κ R' hR).upd (fun i r κ' lo n _ u hu => ?_) (by rw [if_neg he]) (Meta.alloc w _) (fun b j x hx _ => ⟨?_, World.cell?_alloc_lt _ _ _ (h.wr b j x hx).1⟩)
      · obtain ⟨R2, hR2, h1⟩ := hu
        exact ⟨R2, (hs _ _ hR2).2, by dsimp only; rw [(hs _ _ hR2).1]; exact h1⟩
      · show (if b = w.heap.size then _ else ω b j) = _
        rw [if_neg (hωlt b j x hx)]; exact hx
  · change (if b = w.heap.size then some (Wh.row d) else ω b j) = some x at hx
    split at hx
    · rename_i hb
      injection hx with hx
      subst hb
      exact ⟨by simp, fun _ => .inr h.fr.mt.size⟩
    · obtain ⟨h1, h2⟩ := h.wr b j x hx
      exact ⟨by simp; omega, h2⟩
  · exact h.fr.step (Fr.alloc (fun _ _ => False) w _) (fun _ _ h => h.elim)
  · change (if b = w.heap.size then some (Wh.row d) else ω b j) = some .fro at hx
    split at hx
    · cases hx
    · exact h.fz b j hx
  · have hne := hkk ρ hρ
    change (if 1000000 + ρ = d then some R else σ.rt (1000000 + ρ)) = some R' at hR
    rw [if_neg (Ne.symm hne)] at hR
    show (if 1000000 + ρ = d then _ else β (1000000 + ρ)) = _
    rw [if_neg (Ne.symm hne)]; exact h.ex ρ R' hρ hR

/-- A cell is there, and what it holds. -/
theorem Rel1.load (h : Rel1 F N σ a w ω β) {κ : Nat} {R : Root} (hR : σ.rt κ = some R) {i r : Nat} (hi : i < R.n) (hr : r < R.k) (hl : (R.get i r).live = true) :
    ∃ g j u, AtA R (β κ) i r g j ∧ w.cell? ⟨g, j, none⟩ = some u ∧ ARel σ β w (R.atom κ i r) u := by
  obtain ⟨g, j, u, h1, h2, h3, h4, h5⟩ := (h.roots κ R hR).cells i r hi hr hl
  refine ⟨g, j, u, h1, h2, ?_⟩
  unfold Root.atom
  have hone := h5.one
  unfold CellRel at h5
  cases hg : R.get i r with
  | ref κ' lo n => rw [hg] at h5; exact h5
  | cl c =>
    rw [hg] at h5
    cases c with
    | lit v => exact h5
    | any => exact h5
    | hole => exact hone
    | sl o e k n row => exact ⟨R, g, j, hR, hi, hr, hl, h1, h2⟩
end
end Go.Tr
namespace Go.Tr
open Go Go.RowKit

section
variable {F : Fm} {N : Nat} {σ : St} {a : Act} {w : World} {ω : Om} {β : Nat → Bs}

theorem Fr.setCell (w : World) (g j : Nat) (u : Value) : Fr (fun b i => b = g ∧ i = j) w (w.setCell ⟨g, j, none⟩ u) := by
  refine ⟨rfl, rfl, rfl, Meta.setCell w _ _, fun b i _ hne => World.cell?_setCell_other _ _ _ _ (fun e => ?_), fun b hb ho => ?_⟩
  · injection e with e1 e2; exact hne ⟨e1.symm, e2.symm⟩
  · by_cases e : b = g
    · subst e
      simp only [World.setCell, Array.getElem?_modify, if_true]
      cases hh : w.heap[b]? with
      | none => rfl
      | some x => cases x <;> first | rfl | exact absurd hh (ho _ _ _)
    · exact Below.heap_setCell _ _ _ _ e

theorem ARel.dim {σ' : St} {w' : World} {κ : Nat} {R R' : Root} (h : Rel1 F N σ a w ω β) (hR : σ.rt κ = some R) (hs : ∀ κ', κ' ≠ κ → σ'.rt κ' = σ.rt κ') (hs' : σ'.rt κ = some R') (hk : R'.k = R.k) (hn : R.n ≤ R'.n)
    (hc : ∀ b j x, ω b j = some x → x ≠ .row κ → w'.cell? ⟨b, j, none⟩ = w.cell? ⟨b, j, none⟩) {x : At} {u : Value} (hx : ARel σ β w x u) : ARel σ' β w' (dimA κ x) u := by
  cases x with
  | any => exact hx
  | lit v => exact hx
  | nil e k => exact hx
  | ref κ' lo n =>
    obtain ⟨R2, hR2, h1⟩ := hx
    by_cases e : κ' = κ
    · subst e
      rw [hR] at hR2; injection hR2 with hR2; subst hR2
      exact ⟨R', hs', h1.le hk hn⟩
    · exact ⟨R2, by rw [hs _ e]; exact hR2, h1⟩
  | spot κ' i r =>
    show ARel _ _ _ (if κ' = κ then .any else .spot κ' i r) u
    split
    · exact ARel.one h hx
    · rename_i hne
      obtain ⟨R2, g, j, hR2, hi, hr, hl, ha, hc'⟩ := hx
      obtain ⟨g', j', u', ha', _, h3, _⟩ := (h.roots κ' R2 hR2).cells i r hi hr hl
      obtain ⟨x3, q3, m3⟩ := h3.mine
      obtain ⟨o, e1, e2⟩ := ha
      obtain ⟨o', e1', e2'⟩ := ha'
      rw [e1] at e1'; injection e1' with e1'; injection e1' with e3 e4 _
      subst e3 e4
      have e5 : j' = j := by rw [e2, e2']
      subst e5
      refine ⟨R2, g, j', by rw [hs _ hne]; exact hR2, hi, hr, hl, ⟨o, e1, e2⟩, (hc _ _ _ q3 ?_).trans hc'⟩
      rintro rfl; exact hne m3.1.symm

theorem cell_ne {k i r i' r' : Nat} (hr : r < k) (hr' : r' < k) (h : ¬ (r' = r ∧ i' = i)) : i' * k + r' ≠ i * k + r := by
  intro e
  rcases Nat.lt_trichotomy i i' with hl | he | hl
  · have := Nat.mul_le_mul_right k (show i + 1 ≤ i' from hl)
    rw [Nat.add_mul] at this; omega
  · subst he; exact h ⟨by omega, rfl⟩
  · have := Nat.mul_le_mul_right k (show i' + 1 ≤ i from hl)
    rw [Nat.add_mul] at this; omega

theorem Root.get_wr (R : Root) (i r i' r' : Nat) (x : Cl) : ({ R with op := ((i, r), x) :: R.op } : Root).get i' r' = if r' = r then (if i' = i then x else R.get i' r') else R.get i' r' := rfl

/-- One cell of an own root is stored. -/
theorem Rel1.store (h : Rel1 F N σ a w ω β) {κ : Nat} {R : Root} (hR : σ.rt κ = some R) (ho : R.o = .own) {i r : Nat} (hi : i < R.n) (hr : r < R.k) (hl : (R.get i r).live = true)
    {x : Cl} {u : Value} (hx : Lay σ ω β w x u) :
    ∃ g j u0, AtA R (β κ) i r g j ∧ w.cell? ⟨g, j, none⟩ = some u0 ∧ w.frozen? ⟨g, j, none⟩ = false ∧ u.oneCell' = true ∧ Rel1 F N (σ.wr κ R i r x) a (w.setCell ⟨g, j, none⟩ u) ω β := by
  obtain ⟨g, j, u0, h1, h2, h3, h4, h5⟩ := (h.roots κ R hR).cells i r hi hr hl
  rw [ho] at h3
  have hc : ∀ b q y, ω b q = some y → y ≠ .row κ → (w.setCell ⟨g, j, none⟩ u).cell? ⟨b, q, none⟩ = w.cell? ⟨b, q, none⟩ := by
    intro b q y hy hne
    refine World.cell?_setCell_other _ _ _ _ (fun e => ?_)
    injection e with e1 e2
    subst e1 e2
    rw [show ω g j = some (.row κ) from h3] at hy; injection hy with hy; exact hne hy.symm
  have hone : u.oneCell' = true := by
    cases x with
    | ref => exact RefRel.one hx
    | cl c => exact CRel.one hx
  have hrt : ∀ κ', (σ.wr κ R i r x).rt κ' = if κ' = κ then some { R with op := ((i, r), x) :: R.op } else σ.rt κ' := fun _ => rfl
  have hs : ∀ κ', κ' ≠ κ → (σ.wr κ R i r x).rt κ' = σ.rt κ' := fun κ' hne => by rw [hrt, if_neg hne]
  have hs' : (σ.wr κ R i r x).rt κ = some { R with op := ((i, r), x) :: R.op } := by rw [hrt, if_pos rfl]
  have href : ∀ {κ' lo n : Nat} {v : Value}, RefRel σ β κ' lo n v → RefRel (σ.wr κ R i r x) β κ' lo n v := by
    rintro κ' lo n v ⟨R2, hR2, k1⟩
    by_cases e : κ' = κ
    · subst e; rw [hR] at hR2; injection hR2 with hR2; subst hR2; exact ⟨_, hs', k1⟩
    · exact ⟨R2, by rw [hs _ e]; exact hR2, k1⟩
  refine ⟨g, j, u0, h1, h2, h4 ho, hone, h.tsz, h.dfr, fun t => ?_, fun κ' R' hR' => ?_, fun b q y hy => ?_, ?_, h.fz, fun ρ R' hρ hR' => ?_⟩
  · show VRel _ _ _ ((look (σ.t.map fun p => (p.1, p.2.map (dimA κ) none)) t).getD .any) _
    rw [St.tv_map σ _ rfl]
    refine VRel.map (fun x u hx => ARel.dim h hR hs hs' rfl (Nat.le_refl _) hc hx) (fun κ' R2 _ hR2 => ⟨rfl, ?_⟩) (h.tmps t)
    by_cases e : κ' = κ
    · subst e; rw [hR] at hR2; injection hR2 with hR2; subst hR2; exact ⟨_, hs', rfl⟩
    · exact ⟨R2, by rw [hs _ e]; exact hR2, rfl⟩
  · by_cases e : κ' = κ
    · subst e
      rw [hs'] at hR'; injection hR' with hR'; subst hR'
      have h0 := h.roots κ' R hR
      refine ⟨fun i' r' hi' hr' hl' => ?_, fun hf => ?_⟩
      · by_cases he : r' = r ∧ i' = i
        · obtain ⟨rfl, rfl⟩ := he
          refine ⟨g, j, u, h1, World.cell?_setCell_same _ _ _ h2, by show Tg ω R.o κ' g j; rw [ho]; exact h3, fun _ => by rw [World.frozen?_setCell]; exact h4 ho, ?_⟩
          unfold CellRel
          rw [Root.get_wr, if_pos rfl, if_pos rfl]
          cases x with
          | ref κ2 lo n => exact href hx
          | cl c =>
            show CRel _ (Zr ω R.o) c _ u
            rw [ho]
            exact CRel.mono (fun _ _ h => h) _ _ _ _ (CRel.frame (Meta.setCell w _ _) (fun b q hz => hc b q _ hz (by intro e; cases e)) _ _ _ hx (fun _ _ h => h.elim)) (fun _ _ h => h.elim)
        · have hg : ({ R with op := ((i, r), x) :: R.op } : Root).get i' r' = R.get i' r' := by
            rw [Root.get_wr]; split
            · rename_i e1; rw [if_neg (fun e2 => he ⟨e1, e2⟩)]
            · rfl
          rw [hg] at hl'
          obtain ⟨g', j', u', k1, k2, k3, k4, k5⟩ := h0.cells i' r' hi' hr' hl'
          obtain ⟨o, e1, e2⟩ := h1
          obtain ⟨o', e1', e2'⟩ := k1
          rw [e1] at e1'; injection e1' with e1'; injection e1' with e3 e4 _
          subst e3 e4
          have hjne : j ≠ j' := by
            have := cell_ne (i := i) (i' := i') hr hr' he
            have hr2 : r' < R.k := hr'
            change j' = o + (i' * R.k + r') at e2'
            omega
          refine ⟨g, j', u', ⟨o, e1, e2'⟩, ?_, k3, fun _ => by rw [World.frozen?_setCell]; exact k4 ho, ?_⟩
          · rw [World.cell?_setCell_other _ _ _ _ (fun e => by injection e with _ e; exact hjne e)]; exact k2
          · unfold CellRel at k5 ⊢
            rw [hg]
            cases hq : R.get i' r' with
            | ref κ2 lo n => rw [hq] at k5; exact href k5
            | cl c =>
              rw [hq] at k5
              rw [ho] at k5
              show CRel _ (Zr ω R.o) c _ u'
              rw [ho]
              exact CRel.frame (Meta.setCell w _ _) (fun b q hz => hc b q _ hz (by intro e; cases e)) _ _ _ k5 (fun b q hf => hc b q _ hf (by intro e; cases e))
      · obtain ⟨m0, m1, m2, m3, m4⟩ := h0.full hf
        refine ⟨fun i' r' hi' hr' => ?_, m1, m2, m3, ?_⟩
        · rw [Root.get_wr]
          split
          · split
            · cases x with
              | ref => rfl
              | cl c => cases c <;> first | rfl | exact hx.elim
            · exact m0 i' r' hi' hr'
          · exact m0 i' r' hi' hr'
        rcases m4 with m4 | ⟨g2, cur, n1, n2, n3, n4⟩
        · exact .inl m4
        · obtain ⟨cur', p1, p2⟩ := (Meta.setCell w ⟨g, j, none⟩ u).blk _ _ _ _ n2
          refine .inr ⟨g2, cur', n1, p1, p2.trans n3, fun q hq => ⟨(n4 q hq).1, ?_⟩⟩
          by_cases eqq : g2 = g ∧ q = j
          · obtain ⟨rfl, rfl⟩ := eqq
            exact ⟨u, World.cell?_setCell_same _ _ _ h2, hone⟩
          · exact (n4 q hq).2.eq (World.cell?_setCell_other _ _ _ _ (fun e => by injection e with e1 e2; exact eqq ⟨e1.symm, e2.symm⟩))
    · rw [hs _ e] at hR'
      refine (h.roots κ' R' hR').upd (fun i r κ2 lo n _ u hu => href hu) rfl (Meta.setCell w _ _) (fun b q y hy hm => ⟨hy, hc b q y hy ?_⟩)
      rintro rfl; exact e hm.1.symm
  · exact ⟨by rw [World.size_setCell]; exact (h.wr b q y hy).1, (h.wr b q y hy).2⟩
  · refine h.fr.step (Fr.setCell w g j u) (fun b q hq => ?_)
    obtain ⟨rfl, rfl⟩ := hq
    exact (h.wr b q _ h3).2 (by intro e; cases e)
  · by_cases e : 1000000 + ρ = κ
    · exact h.ex ρ R hρ (by rw [e]; exact hR)
    · rw [hs _ e] at hR'; exact h.ex ρ R' hρ hR'
end
end Go.Tr
namespace Go.Tr
open Go Go.RowKit

def Cl.shut : Cl → C
  | .cl c => c
  | .ref _ _ _ => .any
def Root.shut (R : Root) : C := .sl .own R.e R.k R.n (fun i r => (R.get i r).shut)
/-- The tree in cell (i, r) of the root κ is opened as the root d. -/
def St.opn (σ : St) (κ : Nat) (R : Root) (i r d : Nat) (e k n : Nat) (row : Nat → Nat → C) : St :=
  { σ with r := (κ, { R with op := ((i, r), .ref d 0 n) :: R.op }) :: (d, ⟨.own, true, e, k, n, row, []⟩) :: σ.r }
/-- The first n elements of a root, closed. -/
def Root.shutN (R : Root) (n : Nat) : C := .sl .own R.e R.k n (fun i r => (R.get i r).shut)
/-- The root d is closed into cell (i, r) of the root κ. -/
def St.cls (σ : St) (κ : Nat) (R : Root) (i r d : Nat) (D : Root) (n : Nat) : St :=
  ({ σ with r := (κ, { R with op := ((i, r), .cl (D.shutN n)) :: R.op }) :: σ.r } : St).drop d

section
variable {F : Fm} {N : Nat} {σ : St} {a : Act} {w : World} {ω : Om} {β : Nat → Bs}

theorem lt_cap {i r k n c : Nat} (hi : i < n) (hr : r < k) (hn : n ≤ c) : i * k + r < c * k := by
  calc i * k + r < i * k + k := by omega
    _ = (i + 1) * k := by rw [Nat.add_mul]; omega
    _ ≤ c * k := Nat.mul_le_mul_right _ (by omega)

/-- The tree in an own cell is opened, to be written. -/
theorem Rel1.open_ (h : Rel1 F N σ a w ω β) {κ : Nat} {R : Root} (hR : σ.rt κ = some R) (ho : R.o = .own) {i r : Nat} (hi : i < R.n) (hr : r < R.k) {e k n : Nat} {row : Nat → Nat → C} (hg : R.get i r = .cl (.sl .own e k n row)) {d : Nat} (hkk : okK F d) (hd : σ.rt d = none)
    (hv : ∀ κ' R', σ.rt κ' = some R' → R'.o ≠ .vw κ i r) : ∃ ω' β', Rel1 F N (σ.opn κ R i r d e k n row) a w ω' β' ∧ ∀ κ', κ' ≠ d → β' κ' = β κ' := by
  have hne : κ ≠ d := by rintro rfl; rw [hd] at hR; cases hR
  obtain ⟨g0, j0, u, h1, h2, h3, h4, h5⟩ := (h.roots κ R hR).cells i r hi hr (by rw [hg]; rfl)
  unfold CellRel at h5
  rw [hg] at h5
  have hrt : ∀ κ', (σ.opn κ R i r d e k n row).rt κ' = if κ' = κ then some { R with op := ((i, r), .ref d 0 n) :: R.op } else if κ' = d then some ⟨.own, true, e, k, n, row, []⟩ else σ.rt κ' := fun _ => rfl
  have hrk : (σ.opn κ R i r d e k n row).rt κ = some { R with op := ((i, r), .ref d 0 n) :: R.op } := by rw [hrt, if_pos rfl]
  have hrd : (σ.opn κ R i r d e k n row).rt d = some ⟨.own, true, e, k, n, row, []⟩ := by rw [hrt, if_neg (Ne.symm hne), if_pos rfl]
  have hro : ∀ κ', κ' ≠ κ → κ' ≠ d → (σ.opn κ R i r d e k n row).rt κ' = σ.rt κ' := fun κ' a b => by rw [hrt, if_neg a, if_neg b]
  have main : ∀ (A : Option Addr) (c : Nat) (ω' : Om), u = .slice A n c → n ≤ c → c ≤ maxLen → (A = none → c = 0) →
      (0 < n → ∃ g o', A = some ⟨g, o', none⟩) → (∀ b j x, ω b j = some x → x ≠ .sub κ i r → ω' b j = some x) → (∀ b j x, ω' b j = some x → ∃ y, ω b j = some y ∧ (x ≠ .fro → y ≠ .fro) ∧ (x = .fro → y = .fro)) →
      RootRel (σ.opn κ R i r d e k n row) ω' (fun κ' => if κ' = d then ⟨A, c⟩ else β κ') w d ⟨.own, true, e, k, n, row, []⟩ → ∃ ω' β', Rel1 F N (σ.opn κ R i r d e k n row) a w ω' β' ∧ ∀ κ', κ' ≠ d → β' κ' = β κ' := by
    intro A c ω' hu hn hc hA hA2 hω hω2 hrd'
    refine ⟨ω', fun κ' => if κ' = d then ⟨A, c⟩ else β κ', ?_, fun κ' hk => if_neg hk⟩
    have hβ : ∀ κ' R', σ.rt κ' = some R' → (if κ' = d then (⟨A, c⟩ : Bs) else β κ') = β κ' := fun κ' R' hh => if_neg (by rintro rfl; rw [hd] at hh; cases hh)
    have href : ∀ {κ' lo m : Nat} {v : Value}, RefRel σ β κ' lo m v → RefRel (σ.opn κ R i r d e k n row) (fun κ' => if κ' = d then ⟨A, c⟩ else β κ') κ' lo m v := by
      rintro κ' lo m v ⟨R2, hR2, k1⟩
      have hb := hβ _ _ hR2
      by_cases e1 : κ' = κ
      · subst e1; rw [hR] at hR2; injection hR2 with hR2; subst hR2; exact ⟨_, hrk, by (try dsimp only); rw [hb]; exact k1.le rfl (Nat.le_refl _)⟩
      · have e2 : κ' ≠ d := by rintro rfl; rw [hd] at hR2; cases hR2
        exact ⟨R2, by rw [hro _ e1 e2]; exact hR2, by (try dsimp only); rw [hb]; exact k1⟩
    have hget : ∀ i' r', ¬ (r' = r ∧ i' = i) → ({ R with op := ((i, r), Cl.ref d 0 n) :: R.op } : Root).get i' r' = R.get i' r' := fun i' r' hh => by
      rw [Root.get_wr]; split
      · rename_i e1; rw [if_neg (fun e2 => hh ⟨e1, e2⟩)]
      · rfl
    have hget0 : ({ R with op := ((i, r), Cl.ref d 0 n) :: R.op } : Root).get i r = .ref d 0 n := by rw [Root.get_wr, if_pos rfl, if_pos rfl]
    refine ⟨h.tsz, h.dfr, fun t => ?_, fun κ' R' hR' => ?_, fun b j x hx => ?_, h.fr, fun b j hx => ?_, fun ρ R' hρ hR' => ?_⟩
    · refine VRel.same (fun x v hx => ?_) (fun κ' R2 hR2 => ⟨hβ _ _ hR2, ?_⟩) (h.tmps t)
      · cases x with
        | any => exact hx
        | lit v => exact hx
        | nil e k => exact hx
        | ref κ' lo m => exact href hx
        | spot κ' i2 r2 =>
          obtain ⟨R2, g, j, hR2, hi2, hr2, hl2, ha, hc2⟩ := hx
          have hb := hβ _ _ hR2
          by_cases e1 : κ' = κ
          · subst e1; rw [hR] at hR2; injection hR2 with hR2; subst hR2
            refine ⟨_, g, j, hrk, hi2, hr2, ?_, by (try dsimp only); rw [hb]; exact ha, hc2⟩
            by_cases he : r2 = r ∧ i2 = i
            · obtain ⟨rfl, rfl⟩ := he; rw [hget0]; rfl
            · rw [hget _ _ he]; exact hl2
          · have e2 : κ' ≠ d := by rintro rfl; rw [hd] at hR2; cases hR2
            exact ⟨R2, g, j, by rw [hro _ e1 e2]; exact hR2, hi2, hr2, hl2, by (try dsimp only); rw [hb]; exact ha, hc2⟩
      · by_cases e1 : κ' = κ
        · subst e1; rw [hR] at hR2; injection hR2 with hR2; subst hR2; exact ⟨_, hrk, rfl⟩
        · have e2 : κ' ≠ d := by rintro rfl; rw [hd] at hR2; cases hR2
          exact ⟨R2, by rw [hro _ e1 e2]; exact hR2, rfl⟩
    · by_cases e1 : κ' = κ
      · subst e1
        rw [hrk] at hR'; injection hR' with hR'; subst hR'
        have h0 := h.roots κ' R hR
        have hb := hβ _ _ hR
        refine ⟨fun i' r' hi' hr' hl' => ?_, fun hf => ?_⟩
        · by_cases he : r' = r ∧ i' = i
          · obtain ⟨rfl, rfl⟩ := he
            refine ⟨g0, j0, u, by (try dsimp only); rw [hb]; exact h1, h2, ?_, h4, ?_⟩
            · show Tg ω' R.o κ' g0 j0
              rw [ho] at h3 ⊢
              exact hω _ _ _ h3 (by intro e; cases e)
            unfold CellRel
            rw [hget0]
            refine ⟨_, hrd, by simp, A, c, hu, hn, hc, hA, fun _ => by simp, fun hp => ?_⟩
            obtain ⟨g, o', e2⟩ := hA2 hp
            exact ⟨g, o', by simpa using e2, by rw [e2]; simp⟩
          · rw [hget _ _ he] at hl'
            obtain ⟨g', j', u', k1, k2, k3, k4, k5⟩ := h0.cells i' r' hi' hr' hl'
            refine ⟨g', j', u', by (try dsimp only); rw [hb]; exact k1, k2, ?_, k4, ?_⟩
            · show Tg ω' R.o κ' g' j'
              rw [ho] at k3 ⊢
              exact hω _ _ _ k3 (by intro e; cases e)
            unfold CellRel at k5 ⊢
            rw [hget _ _ he]
            cases hq : R.get i' r' with
            | ref κ2 lo m => rw [hq] at k5; exact href k5
            | cl c2 =>
              rw [hq] at k5
              show CRel w (Zr ω' R.o) c2 _ u'
              rw [ho] at k5 ⊢
              exact CRel.mono (fun b j hz => hω _ _ _ hz (by intro e; cases e)) _ _ _ _ k5 (fun b j hf => hω _ _ _ hf (by intro e; injection e with _ e2 e3; exact he ⟨e3, e2⟩))
        · obtain ⟨m0, m1, m2, m3, m4⟩ := h0.full hf
          (try dsimp only)
          rw [hb]
          refine ⟨fun i' r' hi' hr' => ?_, m1, m2, m3, ?_⟩
          · rw [Root.get_wr]
            split
            · split
              · rfl
              · exact m0 i' r' hi' hr'
            · exact m0 i' r' hi' hr'
          rcases m4 with m4 | ⟨g2, cur, n1, n2, n3, n4⟩
          · exact .inl m4
          · exact .inr ⟨g2, cur, n1, n2, n3, fun j hj => ⟨hω _ _ _ (n4 j hj).1 (by intro e; cases e), (n4 j hj).2⟩⟩
      · by_cases e2 : κ' = d
        · subst e2
          rw [hrd] at hR'; injection hR' with hR'; subst hR'
          exact hrd'
        · rw [hro _ e1 e2] at hR'
          refine (h.roots κ' R' hR').upd (fun i r κ2 lo m _ v hv => href hv) (by (try dsimp only); rw [hβ _ _ hR']) (Meta.refl w) (fun b j x hx hm => ⟨hω b j x hx ?_, rfl⟩)
          rintro rfl
          rcases hm with hm | hm
          · exact e1 hm.symm
          · exact hv κ' R' hR' hm
    · obtain ⟨y, hy, hxy, _⟩ := hω2 b j x hx
      exact ⟨(h.wr b j y hy).1, fun hne => (h.wr b j y hy).2 (hxy hne)⟩
    · obtain ⟨y, hy, _, hxy⟩ := hω2 b j _ hx
      exact h.fz b j (by rw [hy, hxy rfl])
    · have hne' := Ne.symm (hkk ρ hρ)
      by_cases e1 : 1000000 + ρ = κ
      · have := h.ex ρ R hρ (by rw [e1]; exact hR)
        (try dsimp only); rw [if_neg hne']; exact this
      · rw [hro _ e1 hne'] at hR'
        (try dsimp only); rw [if_neg hne']; exact h.ex ρ R' hρ hR'
  obtain ⟨A, c, hu, hn, hc, hcells⟩ := h5
  rcases hcells with ⟨hA, hc0⟩ | ⟨g, cur, hA, hb, hs, hown, q, hq, hcells⟩
  · refine main A c ω hu hn hc (fun _ => hc0) (fun hp => by omega) (fun _ _ _ hx _ => hx) (fun b j x hx => ⟨x, hx, fun h => h, fun h => h⟩) ⟨fun i' r' hi' hr' hl' => by change i' < n at hi'; omega, fun hf => ⟨fun i' r' hi' => by change i' < n at hi'; omega, rfl, by simpa using hn, by simpa using hc, .inl (by simp [hA, hc0])⟩⟩
  · refine main A c (fun b j => if ω b j = some (.sub κ i r) then (match q b j with | some (i', r') => some (.sub d i' r') | none => some (.row d)) else ω b j) hu hn hc (by rw [hA]; intro e; cases e) (fun _ => ⟨g, 0, hA⟩)
      (fun b j x hx hne => by (try dsimp only); rw [if_neg (by rw [hx]; intro e; injection e with e; exact hne e)]; exact hx)
      (fun b j x hx => by
        try dsimp only at hx
        split at hx
        · rename_i hs
          refine ⟨_, hs, (fun _ => by intro e; cases e), fun e => ?_⟩
          subst e
          split at hx <;> cases hx
        · exact ⟨x, hx, fun h => h, fun h => h⟩) ⟨fun i' r' hi' hr' hl' => ?_, fun _ => ⟨fun i' r' hi' hr' => by
          obtain ⟨x, _, k3⟩ := hcells i' r' hi' hr'
          show (Cl.cl (row i' r')).live = true
          cases hrow : row i' r' <;> first | rfl | (rw [hrow] at k3; exact k3.elim), rfl, by simpa using hn, by simpa using hc, .inr ⟨g, cur, by simpa using hA, hb, by simpa using hs, fun j hj => ?_⟩⟩⟩
    · obtain ⟨x, k1, k3⟩ := hcells i' r' hi' hr'
      have hlt := lt_cap (k := k) hi' hr' hn
      refine ⟨g, 0 + (i' * k + r'), x, ⟨0, by simpa using hA, rfl⟩, by rw [Nat.zero_add]; exact k1, ?_, fun _ => by simp [World.frozen?, hb], ?_⟩
      · show (if ω g (0 + (i' * k + r')) = some (.sub κ i r) then _ else _) = _
        rw [Nat.zero_add, if_pos (show ω g (i' * k + r') = some (.sub κ i r) from (hown _ hlt).1.sub), hq _ hlt]
      · refine CRel.mono (fun b j hz => ?_) _ _ _ _ k3 (fun b j hf => ?_)
        · have hz' : ω b j = some .fro := by rw [ho] at hz; exact hz
          show (if ω b j = some (.sub κ i r) then _ else ω b j) = _
          rw [if_neg (by rw [hz']; intro e; cases e)]; exact hz'
        · show (if ω b j = some (.sub κ i r) then _ else ω b j) = _
          rw [if_pos (show ω b j = some (.sub κ i r) from hf.1.sub), hf.2]
    · have hj' : j < c * k := by simpa using hj
      refine ⟨?_, (hown _ hj').2⟩
      (try dsimp only); rw [if_pos (show ω g j = some (.sub κ i r) from (hown _ hj').1.sub), hq _ hj']

theorem Rel1.close (h : Rel1 F N σ a w ω β) {κ : Nat} {R : Root} (hR : σ.rt κ = some R) {i r : Nat} (hi : i < R.n) (hr : r < R.k) {d n : Nat} {D : Root} (hg : R.get i r = .ref d 0 n) (hD : σ.rt d = some D) (hne : κ ≠ d) (ho : R.o = .own) (hf : D.full = true) (hv : ∀ κ' R' i' r', σ.rt κ' = some R' → R'.o ≠ .vw d i' r') :
    ∃ ω', Rel1 F N (σ.cls κ R i r d D n) a w ω' β := by
  obtain ⟨g0, j0, u, h1, h2, h3, h4, h5⟩ := (h.roots κ R hR).cells i r hi hr (by rw [hg]; rfl)
  have hd0 := h.roots d D hD
  obtain ⟨f0, f1, f2, f3, f4⟩ := hd0.full hf
  unfold CellRel at h5
  rw [hg] at h5
  obtain ⟨D', hD', hlen, A, c, hu, hnc, hcm, hA0, hA1, hA2⟩ := h5
  rw [hD] at hD'; injection hD' with hD'; subst hD'
  obtain ⟨eA, ec⟩ := hA1 rfl
  subst eA ec
  let ω' : Om := fun b j => match ω b j with
    | some (.row d') => if d' = d then some (.sub κ i r) else some (.row d')
    | some (.sub d' i' r') => if d' = d then some (.sub κ i r) else some (.sub d' i' r')
    | x => x
  have hω : ∀ b j x, ω b j = some x → x ≠ .row d → (∀ i' r', x ≠ .sub d i' r') → ω' b j = some x := by
    intro b j x hx h1 h2
    show (match ω b j with | some (.row d') => if d' = d then some (.sub κ i r) else some (.row d') | some (.sub d' i' r') => if d' = d then some (.sub κ i r) else some (.sub d' i' r') | x => x) = some x
    rw [hx]
    cases x with
    | row d' => exact if_neg (by rintro rfl; exact h1 rfl)
    | sub d' i' r' => exact if_neg (by rintro rfl; exact h2 _ _ rfl)
    | fro => rfl
  have hωr : ∀ b j, ω b j = some (.row d) → ω' b j = some (.sub κ i r) := by
    intro b j hx
    show (match ω b j with | some (.row d') => if d' = d then some (Wh.sub κ i r) else some (Wh.row d') | some (.sub d' i' r') => if d' = d then some (Wh.sub κ i r) else some (.sub d' i' r') | x => x) = some (Wh.sub κ i r)
    rw [hx]; exact if_pos rfl
  have hωs : ∀ b j i' r', ω b j = some (.sub d i' r') → ω' b j = some (.sub κ i r) := by
    intro b j i' r' hx
    show (match ω b j with | some (.row d') => if d' = d then some (Wh.sub κ i r) else some (Wh.row d') | some (.sub d' i' r') => if d' = d then some (Wh.sub κ i r) else some (.sub d' i' r') | x => x) = some (Wh.sub κ i r)
    rw [hx]; exact if_pos rfl
  have hω2 : ∀ b j x, ω' b j = some x → ∃ y, ω b j = some y ∧ (x ≠ .fro → y ≠ .fro) ∧ (x = .fro → y = .fro) := by
    intro b j x hx
    change (match ω b j with | some (.row d') => if d' = d then some (.sub κ i r) else some (.row d') | some (.sub d' i' r') => if d' = d then some (.sub κ i r) else some (.sub d' i' r') | x => x) = some x at hx
    cases hy : ω b j with
    | none => rw [hy] at hx; cases hx
    | some y =>
      refine ⟨y, rfl, fun hne => ?_, fun e => ?_⟩
      · rintro rfl
        rw [hy] at hx
        injection hx with hx
        exact hne hx.symm
      · subst e
        rw [hy] at hx
        cases y with
        | fro => rfl
        | row d' => dsimp only at hx; split at hx <;> cases hx
        | sub d' i' r' => dsimp only at hx; split at hx <;> cases hx
  let R' : Root := { R with op := ((i, r), .cl (D.shutN n)) :: R.op }
  have hrt1 : ∀ κ', ({ σ with r := (κ, R') :: σ.r } : St).rt κ' = if κ' = κ then some R' else σ.rt κ' := fun _ => rfl
  have hrt : ∀ κ', (σ.cls κ R i r d D n).rt κ' = if κ' = d then none else ((if κ' = κ then some R' else σ.rt κ') : Option Root).map (Root.kill d) := fun κ' => by
    rw [← hrt1]; exact St.rt_drop _ d κ'
  have hrk : (σ.cls κ R i r d D n).rt κ = some (R'.kill d) := by rw [hrt, if_neg hne, if_pos rfl]; rfl
  have hro : ∀ κ' R2, κ' ≠ κ → κ' ≠ d → σ.rt κ' = some R2 → (σ.cls κ R i r d D n).rt κ' = some (R2.kill d) := fun κ' R2 e1 e2 h2 => by rw [hrt, if_neg e2, if_neg e1, h2]; rfl
  have hget : ∀ i' r', ¬ (r' = r ∧ i' = i) → R'.get i' r' = R.get i' r' := fun i' r' hh => by
    rw [Root.get_wr]; split
    · rename_i e1; rw [if_neg (fun e2 => hh ⟨e1, e2⟩)]
    · rfl
  have hget0 : R'.get i r = .cl (D.shutN n) := by rw [Root.get_wr, if_pos rfl, if_pos rfl]
  have hlk : ∀ x : Cl, (x.kill d).live = x.live := by
    intro x
    cases x with
    | cl c => rfl
    | ref κ2 lo m => simp only [Cl.kill]; split <;> rfl
  have href : ∀ {κ' lo m : Nat} {v : Value}, κ' ≠ d → RefRel σ β κ' lo m v → RefRel (σ.cls κ R i r d D n) β κ' lo m v := by
    rintro κ' lo m v hd' ⟨R2, hR2, k1⟩
    by_cases e1 : κ' = κ
    · subst e1; rw [hR] at hR2; injection hR2 with hR2; subst hR2; exact ⟨_, hrk, k1.le rfl (Nat.le_refl _)⟩
    · exact ⟨_, hro _ _ e1 hd' hR2, k1.le rfl (Nat.le_refl _)⟩
  refine ⟨ω', h.tsz, h.dfr, fun t => ?_, fun κ' R2 hR2 => ?_, fun b j x hx => ?_, h.fr, fun b j hx => ?_, fun ρ R' hρ hR' => ?_⟩
  · show VRel _ _ _ ((look (σ.t.map fun p => (p.1, p.2.map (killA d) (some d))) t).getD .any) _
    rw [St.tv_map σ _ rfl]
    refine VRel.map (fun x v hx => ?_) (fun κ' R2 hne' hR2 => ⟨rfl, ?_⟩) (h.tmps t)
    · cases x with
      | any => exact hx
      | lit v => exact hx
      | nil e k => exact hx
      | ref κ' lo m =>
        show ARel _ _ _ (if κ' = d then .any else .ref κ' lo m) v
        split
        · exact ARel.one h hx
        · rename_i e; exact href e hx
      | spot κ' i2 r2 =>
        show ARel _ _ _ (if κ' = d then .any else .spot κ' i2 r2) v
        split
        · exact ARel.one h hx
        · rename_i e2
          obtain ⟨R2, g, j, hR2, hi2, hr2, hl2, ha, hc2⟩ := hx
          by_cases e1 : κ' = κ
          · subst e1; rw [hR] at hR2; injection hR2 with hR2; subst hR2
            refine ⟨_, g, j, hrk, hi2, hr2, ?_, ha, hc2⟩
            rw [Root.get_kill, hlk]
            by_cases he : r2 = r ∧ i2 = i
            · obtain ⟨rfl, rfl⟩ := he; rw [hget0]; rfl
            · rw [hget _ _ he]; exact hl2
          · exact ⟨_, g, j, hro _ _ e1 e2 hR2, hi2, hr2, by rw [Root.get_kill, hlk]; exact hl2, ha, hc2⟩
    · have e2 : κ' ≠ d := fun e => hne' (by rw [e])
      by_cases e1 : κ' = κ
      · subst e1; rw [hR] at hR2; injection hR2 with hR2; subst hR2; exact ⟨_, hrk, rfl⟩
      · exact ⟨_, hro _ _ e1 e2 hR2, rfl⟩
  · have e2 : κ' ≠ d := by rintro rfl; rw [hrt, if_pos rfl] at hR2; cases hR2
    by_cases e1 : κ' = κ
    · subst e1
      rw [hrk] at hR2; injection hR2 with hR2; subst hR2
      have h0 := h.roots κ' R hR
      have htg : ∀ b j, Tg ω R.o κ' b j → Tg ω' R.o κ' b j := fun b j ht => by
        rw [ho] at ht ⊢
        exact hω _ _ _ ht (by intro e; injection e with e; exact hne e) (fun _ _ e => by cases e)
      refine ⟨fun i' r' hi' hr' hl' => ?_, fun hf' => ?_⟩
      · by_cases he : r' = r ∧ i' = i
        · obtain ⟨rfl, rfl⟩ := he
          refine ⟨g0, j0, u, h1, h2, htg _ _ h3, h4, ?_⟩
          unfold CellRel
          rw [Root.get_kill, hget0]
          show CRel w (Zr ω' R.o) (D.shutN n) (Sr ω' R.o κ' i' r') u
          rw [ho]
          unfold Root.shutN
          refine ⟨(β d).A, (β d).cap, hu, hnc, hcm, ?_⟩
          rcases f4 with f4 | ⟨g, cur, n1, n2, n3, n4⟩
          · exact .inl f4
          · refine .inr ⟨g, cur, n1, n2, n3, fun j hj => ⟨hωr _ _ (n4 j hj).1, (n4 j hj).2⟩, fun b j => match ω b j with | some (.sub d' i2 r2) => if d' = d then some (i2, r2) else none | _ => none, fun j hj => by dsimp only; rw [(n4 j hj).1], fun i2 r2 hi2 hr2 => ?_⟩
            obtain ⟨g', j', x, k1, k2, k3, k4, k5⟩ := hd0.cells i2 r2 (by omega) hr2 rfl
            obtain ⟨o, e1, e3⟩ := k1
            rw [n1] at e1; injection e1 with e1; injection e1 with e1 e4 _
            subst e1 e4
            rw [Nat.zero_add] at e3
            subst e3
            refine ⟨x, k2, ?_⟩
            have hone := k5.one
            unfold CellRel at k5
            show CRel w (Zr ω' .own) (D.get i2 r2).shut _ x
            cases hq : D.get i2 r2 with
            | ref κ2 lo m => exact hone
            | cl c2 =>
              rw [hq, f1] at k5
              show CRel w (Zr ω' .own) c2 _ x
              refine CRel.mono (fun b j hz => hω _ _ _ hz (by intro e; cases e) (fun _ _ e => by cases e)) _ _ _ _ k5 (fun b j hs => ⟨hωs _ _ _ _ hs, ?_⟩)
              dsimp only
              rw [show ω b j = some (.sub d i2 r2) from hs]
              exact if_pos rfl
        · rw [Root.get_kill, hlk, hget _ _ he] at hl'
          obtain ⟨g', j', u', k1, k2, k3, k4, k5⟩ := h0.cells i' r' hi' hr' hl'
          refine ⟨g', j', u', k1, k2, htg _ _ k3, k4, ?_⟩
          have hone := k5.one
          unfold CellRel at k5 ⊢
          rw [Root.get_kill, hget _ _ he]
          cases hq : R.get i' r' with
          | ref κ2 lo m =>
            rw [hq] at k5
            simp only [Cl.kill]
            by_cases e : κ2 = d
            · rw [if_pos e]; exact hone
            · rw [if_neg e]; exact href e k5
          | cl c2 =>
            rw [hq] at k5
            show CRel w (Zr ω' R.o) c2 (Sr ω' R.o κ' i' r') u'
            rw [ho] at k5 ⊢
            exact CRel.mono (fun b j hz => hω _ _ _ hz (by intro e; cases e) (fun _ _ e => by cases e)) _ _ _ _ k5 (fun b j hf => hω _ _ _ hf (by intro e; cases e) (fun _ _ e => by injection e with e _ _; exact hne e))
      · obtain ⟨m0, m1, m2, m3, m4⟩ := h0.full hf'
        refine ⟨fun i' r' hi' hr' => ?_, m1, m2, m3, ?_⟩
        · rw [Root.get_kill, hlk]
          by_cases he : r' = r ∧ i' = i
          · obtain ⟨rfl, rfl⟩ := he; rw [hget0]; rfl
          · rw [hget _ _ he]; exact m0 i' r' hi' hr'
        · rcases m4 with m4 | ⟨g2, cur, n1, n2, n3, n4⟩
          · exact .inl m4
          · exact .inr ⟨g2, cur, n1, n2, n3, fun j hj => ⟨hω _ _ _ (n4 j hj).1 (by intro e; injection e with e; exact hne e) (fun _ _ e => by cases e), (n4 j hj).2⟩⟩
    · cases hq : σ.rt κ' with
      | none => rw [hrt, if_neg e2, if_neg e1, hq] at hR2; cases hR2
      | some R3 =>
        rw [hro _ _ e1 e2 hq] at hR2; injection hR2 with hR2; subst hR2
        have h0 := h.roots κ' R3 hq
        have hkeep : ∀ b j x, ω b j = some x → Mine R3.o κ' x → ω' b j = some x := by
          intro b j x hx hm
          refine hω b j x hx ?_ (fun i' r' e => ?_)
          · rintro rfl; exact e2 hm.1.symm
          · subst e
            rcases hm with hm | hm
            · exact e2 hm.symm
            · exact hv κ' R3 i' r' hq hm
        refine ⟨fun i' r' hi' hr' hl' => ?_, fun hf' => ?_⟩
        · rw [Root.get_kill, hlk] at hl'
          obtain ⟨g', j', u', k1, k2, k3, k4, k5⟩ := h0.cells i' r' hi' hr' hl'
          refine ⟨g', j', u', k1, k2, k3.keep (fun x e m => (hkeep _ _ x e m)), k4, ?_⟩
          have hone := k5.one
          unfold CellRel at k5 ⊢
          rw [Root.get_kill]
          cases hq2 : R3.get i' r' with
          | ref κ2 lo m =>
            rw [hq2] at k5
            simp only [Cl.kill]
            by_cases e : κ2 = d
            · rw [if_pos e]; exact hone
            · rw [if_neg e]; exact href e k5
          | cl c2 =>
            rw [hq2] at k5
            exact CRel.mono (fun b j hz => Zr.keep (κ := κ') hz (fun x e m => hkeep _ _ x e m)) _ _ _ _ k5 (fun b j hf => hf.keep (fun e => hkeep _ _ _ e (.inl rfl)))
        · obtain ⟨m0, m1, m2, m3, m4⟩ := h0.full hf'
          refine ⟨fun i' r' hi' hr' => by rw [Root.get_kill, hlk]; exact m0 i' r' hi' hr', m1, m2, m3, ?_⟩
          rcases m4 with m4 | ⟨g2, cur, n1, n2, n3, n4⟩
          · exact .inl m4
          · exact .inr ⟨g2, cur, n1, n2, n3, fun j hj => ⟨hω _ _ _ (n4 j hj).1 (by intro e; injection e with e; exact e2 e) (fun _ _ e => by cases e), (n4 j hj).2⟩⟩
  · obtain ⟨y, hy, hxy, _⟩ := hω2 b j x hx
    exact ⟨(h.wr b j y hy).1, fun hne => (h.wr b j y hy).2 (hxy hne)⟩
  · obtain ⟨y, hy, _, hxy⟩ := hω2 b j _ hx
    exact h.fz b j (by rw [hy, hxy rfl])
  · by_cases e2 : 1000000 + ρ = d
    · exact h.ex ρ D hρ (by rw [e2]; exact hD)
    · by_cases e1 : 1000000 + ρ = κ
      · exact h.ex ρ R hρ (by rw [e1]; exact hR)
      · cases hq : σ.rt (1000000 + ρ) with
        | none => rw [hrt, if_neg e2, if_neg e1, hq] at hR'; cases hR'
        | some R3 => exact h.ex ρ R3 hρ hq
end
end Go.Tr
namespace Go.Tr
open Go Go.RowKit

def CQ (F : Fm) (N : Nat) (Q : Exit → St → Prop) : Exit → Act → World → Prop := fun e a w => ∃ σ, Q e σ ∧ Rel F N σ a w
def AL (P : Program) (F : Fm) (N : Nat) (ops : Array Oper) (Q : Exit → St → Prop) (l : List Oper) (σ : St) : Prop := ∀ a w, Rel F N σ a w → wpList P ops (CQ F N Q) l a w
def AC (P : Program) (F : Fm) (N : Nat) (c : Code) (Q : Exit → St → Prop) (σ : St) : Prop := ∀ a w, Rel F N σ a w → c.wp P (CQ F N Q) a w

def AThen (K : St → Prop) (Q : Exit → St → Prop) : Exit → St → Prop
  | .normal, σ => K σ
  | e, σ => Q e σ
def AIn (id : Nat) (Q : Exit → St → Prop) : Exit → St → Prop
  | .exit id', σ => if id' = id then Q .normal σ else Q (.exit id') σ
  | e, σ => Q e σ

section
variable {P : Program} {F : Fm} {N : Nat} {Q : Exit → St → Prop} {σ : St} {ops : Array Oper}

theorem AC.skip (h : Q .normal σ) : AC P F N .skip Q σ := fun _ _ hr => wp_skip ⟨σ, h, hr⟩
theorem AC.ret (h : Q .ret σ) : AC P F N .ret Q σ := fun _ _ hr => wp_ret ⟨σ, h, hr⟩
theorem AC.exit {id : Nat} (h : Q (.exit id) σ) : AC P F N (.exit id) Q σ := fun _ _ hr => wp_exit ⟨σ, h, hr⟩
theorem AC.seq {x y : Code} (h : AC P F N x (AThen (AC P F N y Q) Q) σ) : AC P F N (.seq x y) Q σ := fun a w hr =>
  wp_seq (wp_mono (h a w hr) fun e a w hq => by
    obtain ⟨σ', h1, h2⟩ := hq
    cases e with
    | normal => exact h1 a w h2
    | exit id => exact ⟨σ', h1, h2⟩
    | goto l => exact ⟨σ', h1, h2⟩
    | ret => exact ⟨σ', h1, h2⟩
    | panic c => exact ⟨σ', h1, h2⟩
    | outgrown => exact ⟨σ', h1, h2⟩)
theorem AC.block {id : Nat} {c : Code} (h : AC P F N c (AIn id Q) σ) : AC P F N (.block id c) Q σ := fun a w hr =>
  wp_block (wp_mono (h a w hr) fun e a w hq => by
    obtain ⟨σ', h1, h2⟩ := hq
    cases e with
    | normal => exact ⟨σ', h1, h2⟩
    | exit id' =>
      simp only [AIn] at h1
      simp only [Exit.inBlock]
      split
      · rename_i e; rw [if_pos e] at h1; exact ⟨σ', h1, h2⟩
      · rename_i e; rw [if_neg e] at h1; exact ⟨σ', h1, h2⟩
    | goto l => exact ⟨σ', h1, h2⟩
    | ret => exact ⟨σ', h1, h2⟩
    | panic c => exact ⟨σ', h1, h2⟩
    | outgrown => exact ⟨σ', h1, h2⟩)
theorem AC.mono {c : Code} {Q' : Exit → St → Prop} (h : AC P F N c Q' σ) (hq : ∀ e σ, Q' e σ → Q e σ) : AC P F N c Q σ := fun a w hr =>
  wp_mono (h a w hr) fun e a w ⟨σ', h1, h2⟩ => ⟨σ', hq _ _ h1, h2⟩
/-- A loop: the relation at its head, with a number that falls. -/
theorem AC.loop {c : Code} (I : Nat → St → Prop) {n : Nat} (h0 : I n σ) (round : ∀ n σ, I n σ → AC P F N c (AThen (fun σ' => ∃ m, m < n ∧ I m σ') Q) σ) : AC P F N (.loop c) Q σ := by
  intro a w hr b k cs
  have key : ∀ n σ a w, I n σ → Rel F N σ a w → ∃ e a' w', CQ F N Q e a' w' ∧ Arrives P (lone (b.at a (.code c :: .inLoop c :: k)) cs w) b k cs e a' w' := by
    intro n
    induction n using Nat.strongRecOn with
    | _ n ih =>
      intro σ a w hI hr
      obtain ⟨e, a₁, w₁, ⟨σ₁, hq, hr₁⟩, harr⟩ := round n σ hI a w hr b (.inLoop c :: k) cs
      cases e with
      | normal =>
        obtain ⟨m, hm, hI₁⟩ := hq
        obtain ⟨e₂, a₂, w₂, hq₂, harr₂⟩ := ih m hm σ₁ a₁ w₁ hI₁ hr₁
        exact ⟨e₂, a₂, w₂, hq₂, .of_steps (Steps.trans harr (.one step_inLoop)) harr₂⟩
      | exit id => exact ⟨_, a₁, w₁, ⟨σ₁, hq, hr₁⟩, .pass (x := .inLoop c) rfl (fun _ _ => .inl (by simp)) harr⟩
      | goto l => exact ⟨_, a₁, w₁, ⟨σ₁, hq, hr₁⟩, .pass (x := .inLoop c) rfl (fun _ _ => .inl (by simp)) harr⟩
      | ret => exact ⟨_, a₁, w₁, ⟨σ₁, hq, hr₁⟩, .pass (x := .inLoop c) rfl (fun _ _ => .inl (by simp)) harr⟩
      | panic ch => exact ⟨_, a₁, w₁, ⟨σ₁, hq, hr₁⟩, .pass (x := .inLoop c) rfl (fun _ _ => .inl (by simp)) harr⟩
      | outgrown => exact ⟨_, a₁, w₁, ⟨σ₁, hq, hr₁⟩, .pass (x := .inLoop c) rfl (fun _ _ => .inl (by simp)) harr⟩
  obtain ⟨e, a', w', hq, harr⟩ := key n σ a w h0 hr
  exact ⟨e, a', w', hq, .of_steps (.one step_loop) harr⟩
theorem AC.region {id : Nat} {l : List Oper} (h : AL P F N l.toArray Q l σ) : AC P F N (.region id l.toArray false) Q σ := fun a w hr => wp_region_lit (h a w hr)

theorem AL.nil (h : Q .normal σ) : AL P F N ops Q [] σ := fun _ _ hr => ⟨σ, h, hr⟩

/-- What an operand is. -/
def St.ev (σ : St) : Operand → V
  | .tmp t => σ.tv t
  | .const v => if scal0 v then .a (.lit v) else match v with | .slice none 0 0 => .a (.nil 0 0) | _ => .any
  | .func f => .a (.lit (.func (.func f) #[] #[]))
  | .global g => .a (.lit (.pointer (some ⟨g, 0, none⟩)))
theorem Rel1.ev {a : Act} {w : World} {ω : Om} {β : Nat → Bs} (h : Rel1 F N σ a w ω β) (x : Operand) : VRel σ β w (σ.ev x) (a.eval x) := by
  cases x with
  | tmp t => exact h.tmps t
  | const v =>
    simp only [St.ev]
    split
    · rename_i hs; exact ⟨rfl, scal0_scal hs⟩
    · split
      · rfl
      · trivial
  | global g => exact ⟨rfl, rfl⟩
  | func f => exact ⟨rfl, rfl⟩
theorem ev_lit {a : Act} {w : World} {ω : Om} {β : Nat → Bs} (h : Rel1 F N σ a w ω β) {x : Operand} {v : Value} (hx : σ.ev x = .a (.lit v)) : a.eval x = v := by
  have := h.ev x
  rw [hx] at this
  exact this.1

theorem AC.cond {c : Operand} {x y : Code} {b : Bool} (hc : σ.ev c = .a (.lit (.bool b))) (ht : b = true → AC P F N x Q σ) (hf : b = false → AC P F N y Q σ) : AC P F N (.cond c x y) Q σ := by
  intro a w hr
  obtain ⟨ω, β, h⟩ := hr
  refine wp_cond_split (ev_lit h hc) (fun e => ht e a w ⟨ω, β, h⟩) (fun e => hf e a w ⟨ω, β, h⟩)

def St.putO (σ : St) : Option Nat → V → St
  | some d, v => σ.put d v
  | none, _ => σ
def okD (N : Nat) : Option Nat → Bool
  | some d => decide (d < N)
  | none => true
theorem Rel1.putO {a : Act} {w : World} {ω : Om} {β : Nat → Bs} (h : Rel1 F N σ a w ω β) {d : Option Nat} (hd : okD N d = true) {v : V} {u : Value} (hv : VRel σ β w v u) : Rel1 F N (σ.putO d v) (a.put d u) w ω β := by
  cases d with
  | none => exact h
  | some d => exact h.put (by simpa [okD] using hd) hv

/-- A step that leaves the memory as it is. -/
theorem AL.val {o : Oper} {rest : List Oper} {v : V} (hg : o.guard = none) (hd : okD N o.dst = true)
    (hrun : ∀ a w ω β, Rel1 F N σ a w ω β → ∃ u, (execOp a.eval o).run P w = .ok (.value u) w ∧ VRel σ β w v u) (k : AL P F N ops Q rest (σ.putO o.dst v)) : AL P F N ops Q (o :: rest) σ := by
  intro a w hr
  obtain ⟨ω, β, h⟩ := hr
  obtain ⟨u, h1, h2⟩ := hrun a w ω β h
  refine wpList_plain hg fun K hK => ?_
  unfold Oper.wp
  rw [h1, Oper.upon_value]
  exact hK _ _ (k _ _ ⟨ω, β, h.putO hd h2⟩)
end
end Go.Tr
namespace Go.Tr
open Go Go.RowKit

section
variable {F : Fm} {N : Nat} {σ : St} {a : Act} {w : World} {ω : Om} {β : Nat → Bs}

theorem StAdd {d : Nat} {D : Root} (hd : σ.rt d = none) (b : Bs) : ∀ κ R, σ.rt κ = some R → (fun κ => if κ = d then b else β κ) κ = β κ ∧ (σ.setR d D).rt κ = some R := by
  intro κ R hR
  have hne : κ ≠ d := by rintro rfl; rw [hd] at hR; cases hR
  exact ⟨if_neg hne, by show (if κ = d then some D else σ.rt κ) = some R; rw [if_neg hne]; exact hR⟩

theorem Rel1.addR (h : Rel1 F N σ a w ω β) {d : Nat} {D : Root} (hkk : okK F d) (hd : σ.rt d = none) (b : Bs) (hD : RootRel (σ.setR d D) ω (fun κ => if κ = d then b else β κ) w d D) :
    Rel1 F N (σ.setR d D) a w ω (fun κ => if κ = d then b else β κ) := by
  have hs := StAdd (β := β) (D := D) hd b
  refine ⟨h.tsz, h.dfr, fun t => ?_, fun κ R hR => ?_, h.wr, h.fr, h.fz, fun ρ R hρ hR => ?_⟩
  rotate_left 2
  · have hne := Ne.symm (hkk ρ hρ)
    change (if 1000000 + ρ = d then some D else σ.rt (1000000 + ρ)) = some R at hR
    rw [if_neg hne] at hR
    show (if 1000000 + ρ = d then _ else β (1000000 + ρ)) = _
    rw [if_neg hne]; exact h.ex ρ R hρ hR
  · exact VRel.same (fun x u hx => ARel.grow hs (fun _ _ _ h => h) hx) (fun κ' R hR => ⟨(hs κ' R hR).1, R, (hs κ' R hR).2, rfl⟩) (h.tmps t)
  · by_cases he : κ = d
    · subst he
      change (if κ = κ then some D else σ.rt κ) = some R at hR
      rw [if_pos rfl] at hR; injection hR with hR; subst hR
      exact hD
    · change (if κ = d then some D else σ.rt κ) = some R at hR
      rw [if_neg he] at hR
      refine (h.roots κ R hR).upd (fun i r κ' lo n _ u hu => ?_) (hs κ R hR).1 (Meta.refl w) (fun b j x hx _ => ⟨hx, rfl⟩)
      obtain ⟨R2, hR2, h1⟩ := hu
      exact ⟨R2, (hs _ _ hR2).2, by rw [(hs _ _ hR2).1]; exact h1⟩

/-- The root of a look. -/
def lookR (R : Root) (κ i r : Nat) (o : Ow) (e k n : Nat) (row : Nat → Nat → C) : Root :=
  match o with
  | .fro => ⟨(match R.o with | .own => .fro | x => x), false, e, k, n, row, []⟩
  | .own => ⟨.vw κ i r, false, e, k, n, fun i r => lend (row i r), []⟩

theorem lend_live (c : C) : (Cl.cl (lend c)).live = (Cl.cl c).live := by cases c <;> rfl

theorem Rel1.peek (h : Rel1 F N σ a w ω β) {κ : Nat} {R : Root} (hR : σ.rt κ = some R) {i r : Nat} (hi : i < R.n) (hr : r < R.k) {o : Ow} {e k n : Nat} {row : Nat → Nat → C} (hg : R.get i r = .cl (.sl o e k n row)) (ho : o = .own → R.o = .own) {d : Nat} (hkk : okK F d) (hd : σ.rt d = none) :
    ∃ b g j u, Rel1 F N (σ.setR d (lookR R κ i r o e k n row)) a w ω (fun κ => if κ = d then b else β κ) ∧ AtA R (β κ) i r g j ∧ w.cell? ⟨g, j, none⟩ = some u ∧
      ARel (σ.setR d (lookR R κ i r o e k n row)) (fun κ => if κ = d then b else β κ) w (.ref d 0 n) u := by
  obtain ⟨g0, j0, u, h1, h2, h3, h4, h5⟩ := (h.roots κ R hR).cells i r hi hr (by rw [hg]; rfl)
  unfold CellRel at h5
  rw [hg] at h5
  have hrd : (σ.setR d (lookR R κ i r o e k n row)).rt d = some (lookR R κ i r o e k n row) := by show (if d = d then _ else _) = _; rw [if_pos rfl]
  cases o with
  | fro =>
    obtain ⟨A, c, hu, hn, hc, hA, hcells⟩ := h5
    refine ⟨⟨A, c⟩, g0, j0, u, ?_, h1, h2, _, hrd, by simp [lookR], A, c, hu, hn, hc, hA, fun _ => by simp, fun hp => ?_⟩
    · refine h.addR hkk hd _ ⟨fun i' r' hi' hr' hl' => ?_, fun hf => by cases hf⟩
      obtain ⟨g, o', e1, e2⟩ := hcells (by change i' < n at hi'; omega)
      obtain ⟨x, k1, k2, k3⟩ := e2 i' r' hi' hr'
      refine ⟨g, o' + (i' * k + r'), x, ⟨o', by simpa using e1, rfl⟩, k1, ?_, (fun hf => by cases hR' : R.o <;> simp [lookR, hR'] at hf), ?_⟩
      · show Tg ω (match R.o with | .own => .fro | x => x) d g _
        cases hR' : R.o <;> rw [hR'] at k2 <;> exact k2
      · show CRel w (Zr ω (match R.o with | .own => .fro | x => x)) (row i' r') _ x
        refine CRel.mono (fun b j hz => ?_) _ _ _ _ k3 (fun _ _ h => h.elim)
        cases hR' : R.o <;> rw [hR'] at hz <;> exact hz
    · obtain ⟨g, o', e1, _⟩ := hcells hp
      exact ⟨g, o', by simpa using e1, by rw [e1]; simp⟩
  | own =>
    have hRo := ho rfl
    obtain ⟨A, c, hu, hn, hc, hcells⟩ := h5
    rcases hcells with ⟨hA, hc0⟩ | ⟨g, cur, hA, hb, hs, hown, q, hq, hcells⟩
    · refine ⟨⟨A, c⟩, g0, j0, u, ?_, h1, h2, _, hrd, by simp [lookR], A, c, hu, hn, hc, fun _ => hc0, fun _ => by simp, fun hp => by omega⟩
      exact h.addR hkk hd _ ⟨fun i' r' hi' hr' hl' => by change i' < n at hi'; omega, fun hf => by cases hf⟩
    · refine ⟨⟨A, c⟩, g0, j0, u, ?_, h1, h2, _, hrd, by simp [lookR], A, c, hu, hn, hc, (by rw [hA]; intro e; cases e), fun _ => by simp, fun hp => ⟨g, 0, by simpa using hA, by rw [hA]; simp⟩⟩
      refine h.addR hkk hd _ ⟨fun i' r' hi' hr' hl' => ?_, fun hf => by cases hf⟩
      obtain ⟨x, k1, k3⟩ := hcells i' r' hi' hr'
      have hlt := lt_cap (k := k) hi' hr' hn
      refine ⟨g, 0 + (i' * k + r'), x, ⟨0, by simpa using hA, rfl⟩, by rw [Nat.zero_add]; exact k1, .inr (by rw [Nat.zero_add]; exact (hown _ hlt).1.sub), (fun hf => by cases hf), ?_⟩
      show CRel w (Zr ω (.vw κ i r)) (lend (row i' r')) _ x
      refine CRel.mono (fun b j hz => ?_) _ _ _ _ (CRel.lend _ _ (fun _ _ => False) _ k3) (fun _ _ h => h.elim)
      rcases hz with hz | hz
      · rw [hRo] at hz; exact .inl hz
      · exact .inr hz.1.sub

/-- A root that tells the same of every cell serves as well. -/
theorem Rel1.conv (h : Rel1 F N σ a w ω β) {κ : Nat} {R R' : Root} (hR : σ.rt κ = some R) (h1 : R'.o = R.o) (h2 : R'.full = true → R.full = true ∧ R'.e = R.e) (h3 : R'.k = R.k) (h4 : R'.n = R.n) (h5 : ∀ i r, i < R.n → r < R.k → R'.get i r = R.get i r) :
    Rel1 F N (σ.setR κ R') a w ω β := by
  have hrt : ∀ κ', (σ.setR κ R').rt κ' = if κ' = κ then some R' else σ.rt κ' := fun _ => rfl
  have href : ∀ {κ' lo n : Nat} {v : Value}, RefRel σ β κ' lo n v → RefRel (σ.setR κ R') β κ' lo n v := by
    rintro κ' lo n v ⟨R2, hR2, k1⟩
    by_cases e : κ' = κ
    · subst e; rw [hR] at hR2; injection hR2 with hR2; subst hR2; exact ⟨R', by rw [hrt, if_pos rfl], k1.le h3 (by omega)⟩
    · exact ⟨R2, by rw [hrt, if_neg e]; exact hR2, k1⟩
  have hat : ∀ i r g j, AtA R (β κ) i r g j → AtA R' (β κ) i r g j := fun i r g j ⟨o, e1, e2⟩ => ⟨o, e1, by rw [h3]; exact e2⟩
  refine ⟨h.tsz, h.dfr, fun t => VRel.same (fun x u hx => ?_) (fun κ' R2 hR2 => ⟨rfl, ?_⟩) (h.tmps t), fun κ' R2 hR2 => ?_, h.wr, h.fr, h.fz, fun ρ R2 hρ hR2 => ?_⟩
  rotate_left 3
  · by_cases e : 1000000 + ρ = κ
    · exact h.ex ρ R hρ (by rw [e]; exact hR)
    · rw [hrt, if_neg e] at hR2; exact h.ex ρ R2 hρ hR2
  · cases x with
    | any => exact hx
    | lit v => exact hx
    | nil e k => exact hx
    | ref κ' lo n => exact href hx
    | spot κ' i r =>
      obtain ⟨R2, g, j, hR2, hi, hr, hl, ha, hc⟩ := hx
      by_cases e : κ' = κ
      · subst e; rw [hR] at hR2; injection hR2 with hR2; subst hR2
        exact ⟨R', g, j, by rw [hrt, if_pos rfl], by rw [h4]; exact hi, by rw [h3]; exact hr, by rw [h5 i r hi hr]; exact hl, hat _ _ _ _ ha, hc⟩
      · exact ⟨R2, g, j, by rw [hrt, if_neg e]; exact hR2, hi, hr, hl, ha, hc⟩
  · by_cases e : κ' = κ
    · subst e; rw [hR] at hR2; injection hR2 with hR2; subst hR2; exact ⟨R', by rw [hrt, if_pos rfl], h3⟩
    · exact ⟨R2, by rw [hrt, if_neg e]; exact hR2, rfl⟩
  · by_cases e : κ' = κ
    · subst e
      rw [hrt, if_pos rfl] at hR2; injection hR2 with hR2; subst hR2
      have h0 := h.roots κ' R hR
      refine ⟨fun i r hi hr hl => ?_, fun hf => ?_⟩
      · rw [h4] at hi; rw [h3] at hr; rw [h5 i r hi hr] at hl
        obtain ⟨g, j, u, k1, k2, k3, k4, k5⟩ := h0.cells i r hi hr hl
        refine ⟨g, j, u, hat _ _ _ _ k1, k2, by rw [h1]; exact k3, by rw [h1]; exact k4, ?_⟩
        unfold CellRel at k5 ⊢
        rw [h5 i r hi hr, h1]
        cases hg : R.get i r with
        | ref κ2 lo n => rw [hg] at k5; exact href k5
        | cl c => rw [hg] at k5; exact k5
      · obtain ⟨f1, f2⟩ := h2 hf
        obtain ⟨m0, m1, m2, m3, m4⟩ := h0.full f1
        rw [h1, h3, h4, f2]
        exact ⟨fun i r hi hr => by rw [h5 i r hi hr]; exact m0 i r hi hr, m1, m2, m3, m4⟩
    · rw [hrt, if_neg e] at hR2
      exact (h.roots κ' R2 hR2).upd (fun i r κ2 lo n _ u hu => href hu) rfl (Meta.refl w) (fun b j x hx _ => ⟨hx, rfl⟩)

/-- Slots may be told less. -/
theorem Rel1.forget (h : Rel1 F N σ a w ω β) {t' : List (Nat × V)} (ht : ∀ t, (look t' t).getD .any = .any ∨ (look t' t).getD .any = σ.tv t) : Rel1 F N { σ with t := t' } a w ω β := by
  refine ⟨h.tsz, h.dfr, fun t => ?_, fun κ R hR => ?_, h.wr, h.fr, h.fz, h.ex⟩
  · show VRel _ _ _ ((look t' t).getD .any) _
    rcases ht t with e | e
    · rw [e]; trivial
    · rw [e]; exact VRel.same (fun _ _ h => h) (fun κ' R hR => ⟨rfl, R, hR, rfl⟩) (h.tmps t)
  · exact (h.roots κ R hR).upd (fun _ _ _ _ _ _ _ h => h) rfl (Meta.refl w) (fun _ _ _ hx _ => ⟨hx, rfl⟩)
end
end Go.Tr
namespace Go.Tr
open Go Go.RowKit

inductive ZC where
  | lit (v : Value)
  | sl (e k : Nat)
inductive TK where
  | sc
  | st (pl : List (Nat × Nat))
  | arr (n e ke : Nat)
  | sl (e ke bytes : Nat)
  | ot
theorem zo_get {cs : Array Value} (h : cs.all (·.oneCell') = true) {j : Nat} {u : Value} (hu : cs[j]? = some u) : u.oneCell' = true := by
  obtain ⟨hj, rfl⟩ := Array.getElem?_eq_some_iff.1 hu
  exact (Array.all_eq_true.1 h) j hj
theorem zo_mod {cs : Array Value} (h : cs.all (·.oneCell') = true) {m j : Nat} {u : Value} (hm : m = 0 ∨ 0 < cs.size) (hu : ((Array.range m).map fun i => cs[i % cs.size]!)[j]? = some u) : u.oneCell' = true := by
  obtain ⟨hj, rfl⟩ := Array.getElem?_eq_some_iff.1 hu
  have hj' : j < m := by simpa using hj
  have hlt : j % cs.size < cs.size := Nat.mod_lt _ (by omega)
  simp only [Array.getElem_map, Array.getElem_range]
  exact zo_get h (j := j % cs.size) (by rw [getElem!_pos cs _ hlt]; exact Array.getElem?_eq_getElem hlt)
structure TyI where
  k : Nat
  kind : TK
  z : List ZC
def ZC.val : ZC → Value
  | .lit v => v
  | .sl _ _ => .slice none 0 0
def TyK (P : Program) (t : Nat) : TK → Prop
  | .sc => ∃ d, P.underlying t = some d ∧ (match d with | .struct _ | .array _ _ => false | _ => true) = true
  | .st pl => ∃ fs, P.underlying t = some (.struct fs) ∧ fs.toList.mapM (fun f => (P.info? f.type).map fun i => (f.offset, i.size)) = some pl ∧ pl.all (fun p => p.2 != 0) = true
  | .arr n e ke => P.underlying t = some (.array n e) ∧ ∃ inf, P.info? e = some inf ∧ inf.size = ke
  | .sl e ke by_ => P.underlying t = some (.slice e) ∧ ∃ inf zv, P.info? e = some inf ∧ inf.size = ke ∧ inf.bytes = by_ ∧ inf.zero = some zv ∧ zv.cells.size = ke ∧ 0 < ke ∧ zv.cells.all (·.oneCell') = true
  | .ot => True
structure TyF (P : Program) (t : Nat) (i : TyI) : Prop where
  info : ∃ inf zv, P.info? t = some inf ∧ inf.size = i.k ∧ inf.zero = some zv ∧ zv.cells.toList = i.z.map ZC.val
  zl : i.z.length = i.k
  kind : TyK P t i.kind
def TOk (P : Program) (T : Nat → Option TyI) : Prop := ∀ t i, T t = some i → TyF P t i

@[irreducible] def wr (k : IntKind) (x : Int) : Int := k.wrap x
theorem wr_eq (k : IntKind) (x : Int) : wr k x = k.wrap x := by unfold wr; rfl
theorem wr_in {x : Int} (h : -9223372036854775808 ≤ x ∧ x ≤ 9223372036854775807) : wr .i64 x = x := by rw [wr_eq]; exact IntWalk.i64_in _ h

/-- What an operation on two integers gives, and what it asks. -/
def intOp : BinOp → IntKind → Int → Int → Option (Prop × Value)
  | .add, k, x, y => some (True, .int k (wr k (x + y)))
  | .sub, k, x, y => some (True, .int k (wr k (x - y)))
  | .mul, k, x, y => some (True, .int k (wr k (x * y)))
  | .quo, k, x, y => some (y ≠ 0, .int k (wr k (x.tdiv y)))
  | .rem, k, x, y => some (y ≠ 0, .int k (x.tmod y))
  | .and, k, x, y => some (True, .int k (wr k ((BitVec.ofInt k.bits x &&& BitVec.ofInt k.bits y).toNat)))
  | .or, k, x, y => some (True, .int k (wr k ((BitVec.ofInt k.bits x ||| BitVec.ofInt k.bits y).toNat)))
  | .xor, k, x, y => some (True, .int k (wr k ((BitVec.ofInt k.bits x ^^^ BitVec.ofInt k.bits y).toNat)))
  | .eql, _, x, y => some (True, .bool (x == y))
  | .neq, _, x, y => some (True, .bool (x != y))
  | .lss, _, x, y => some (True, .bool (decide (x < y)))
  | .leq, _, x, y => some (True, .bool (decide (x ≤ y)))
  | .gtr, _, x, y => some (True, .bool (decide (x > y)))
  | .geq, _, x, y => some (True, .bool (decide (x ≥ y)))
  | .shl, k, x, y => some (0 ≤ y, .int k (wr k (x * 2 ^ (min y.toNat k.bits))))
  | .shr, k, x, y => some (0 ≤ y, .int k (x.fdiv (2 ^ (min y.toNat k.bits))))
  | _, _, _, _ => none

theorem mapM_at {α β : Type} (f : α → Option β) : ∀ (l : List α) (r : List β), l.mapM f = some r → ∀ (j : Nat) (y : β), r[j]? = some y → ∃ x, l[j]? = some x ∧ f x = some y
  | [], r, h, j, y, hj => by simp at h; subst h; simp at hj
  | x :: l, r, h, j, y, hj => by
    simp only [List.mapM_cons, Option.bind_eq_bind, Option.pure_def] at h
    cases hx : f x with
    | none => simp [hx] at h
    | some y0 =>
      cases hr : l.mapM f with
      | none => simp [hx, hr] at h
      | some r0 =>
        simp [hx, hr] at h
        subst h
        cases j with
        | zero => simp at hj; subst hj; exact ⟨x, rfl, hx⟩
        | succ j => exact mapM_at f l r0 hr j y (by simpa using hj)

section
variable {P : Program} {o : Oper}
theorem run_bin (ρ : Operand → Value) (w : World) {op : BinOp} {t u : Nat} {x y : Operand} (hop : o.op = .binOp op t x y u) {v : Value} (h1 : (eqGuard op t x y (ρ x) (ρ y)).run P w = .ok () w) (h2 : (Go.binOp op t (ρ x) (ρ y)).run P w = .ok v w) : (execOp ρ o).run P w = .ok (.value v) w := by
  unfold execOp
  rw [hop]
  simp [go_sem, h1, h2]
theorem run_guard_int (w : World) (op : BinOp) (t : Nat) (x y : Operand) (k k' : IntKind) (i j : Int) : (eqGuard op t x y (.int k i) (.int k' j)).run P w = .ok () w := by
  cases op <;> rfl
theorem binOp_kk {op : BinOp} (h1 : op ≠ .shl) (h2 : op ≠ .shr) (t : Nat) (k : IntKind) (i j : Int) : Go.binOp op t (.int k i) (.int k j) =
    (match op with | .add | .sub | .mul => Op.intArith op k i j | .quo | .rem => Op.intDiv op k i j | .and | .or | .xor | .andNot => Op.intBits op k i j | _ => Op.intCmp op i j) := by
  cases op <;> first | exact absurd rfl h1 | exact absurd rfl h2 | simp [Go.binOp]
theorem run_int2 (w : World) {op : BinOp} (t : Nat) {k : IntKind} {i j : Int} {p : Prop} {v : Value} (hr : intOp op k i j = some (p, v)) (hp : p) : (Go.binOp op t (.int k i) (.int k j)).run P w = .ok v w := by
  cases op <;> simp only [intOp, Option.some.injEq, Prod.mk.injEq, reduceCtorEq] at hr <;> obtain ⟨rfl, rfl⟩ := hr
  case quo => rw [binOp_kk (by simp) (by simp), wr_eq]; show (Op.intDiv .quo k i j).run P w = _; unfold Op.intDiv; rw [if_neg hp]; rfl
  case rem => rw [binOp_kk (by simp) (by simp)]; show (Op.intDiv .rem k i j).run P w = _; unfold Op.intDiv; rw [if_neg hp]; rfl
  case shl => rw [wr_eq]; show (Op.shift .shl k i k j).run P w = _; unfold Op.shift; rw [if_neg (by omega)]; rfl
  case shr => show (Op.shift .shr k i k j).run P w = _; unfold Op.shift; rw [if_neg (by omega)]; rfl
  all_goals (first | (rw [binOp_kk (by simp) (by simp), wr_eq]; rfl) | (rw [binOp_kk (by simp) (by simp)]; rfl))
end

section
variable {P : Program} {F : Fm} {N : Nat} {Q : Exit → St → Prop} {σ : St} {ops : Array Oper} {o : Oper} {rest : List Oper}

theorem AL.move {x : Operand} (hop : o.op = .move x ∨ o.op = .assign x) (hg : o.guard = none) (hd : okD N o.dst = true) (k : AL P F N ops Q rest (σ.putO o.dst (σ.ev x))) : AL P F N ops Q (o :: rest) σ := by
  refine AL.val hg hd (fun a w ω β h => ⟨a.eval x, ?_, h.ev x⟩) k
  rcases hop with e | e <;> simp [execOp, e, go_sem]

theorem VRel.lit {β : Nat → Bs} {w : World} {v : Value} (hs : scal v = true) : VRel σ β w (.a (.lit v)) v := ⟨rfl, hs⟩

theorem AL.pick {c x y : Operand} {b : Bool} (hop : o.op = .pick c x y) (hg : o.guard = none) (hd : okD N o.dst = true) (hc : σ.ev c = .a (.lit (.bool b))) (k : AL P F N ops Q rest (σ.putO o.dst (bif b then σ.ev x else σ.ev y))) : AL P F N ops Q (o :: rest) σ := by
  refine AL.val hg hd (fun a w ω β h => ⟨if b then a.eval x else a.eval y, ?_, ?_⟩) k
  · have e := ev_lit h hc
    generalize a.eval = ρ at e ⊢
    simp [execOp, hop, go_sem, e, asBool]
  · cases b
    · exact h.ev y
    · exact h.ev x

theorem AL.int2 {op : BinOp} {t u : Nat} {x y : Operand} {kx : IntKind} {i j : Int} {p : Prop} {v : Value} (hop : o.op = .binOp op t x y u) (hg : o.guard = none) (hd : okD N o.dst = true) (hx : σ.ev x = .a (.lit (.int kx i)))
    (hy : σ.ev y = .a (.lit (.int kx j))) (hr : intOp op kx i j = some (p, v)) (hp : p) (k : AL P F N ops Q rest (σ.putO o.dst (.a (.lit v)))) : AL P F N ops Q (o :: rest) σ := by
  refine AL.val hg hd (fun a w ω β h => ⟨v, ?_, VRel.lit ?_⟩) k
  · exact run_bin _ w hop (by rw [ev_lit h hx, ev_lit h hy]; exact run_guard_int _ _ _ _ _ _ _ _ _) (by rw [ev_lit h hx, ev_lit h hy]; exact run_int2 w t hr hp)
  · cases op <;> simp only [intOp, Option.some.injEq, Prod.mk.injEq, reduceCtorEq] at hr <;> obtain ⟨rfl, rfl⟩ := hr <;> rfl

theorem AL.not {t : Nat} {x : Operand} {b : Bool} (hop : o.op = .unOp .not t x) (hg : o.guard = none) (hd : okD N o.dst = true) (hx : σ.ev x = .a (.lit (.bool b))) (k : AL P F N ops Q rest (σ.putO o.dst (.a (.lit (.bool !b))))) : AL P F N ops Q (o :: rest) σ := by
  refine AL.val hg hd (fun a w ω β h => ⟨.bool !b, ?_, VRel.lit rfl⟩) k
  have e := ev_lit h hx
  generalize a.eval = ρ at e ⊢
  simp [execOp, hop, go_sem, e, Op.unary]
theorem AL.neg {t : Nat} {x : Operand} {kx : IntKind} {i : Int} (hop : o.op = .unOp .neg t x) (hg : o.guard = none) (hd : okD N o.dst = true) (hx : σ.ev x = .a (.lit (.int kx i))) (k : AL P F N ops Q rest (σ.putO o.dst (.a (.lit (.int kx (wr kx (0 - i))))))) : AL P F N ops Q (o :: rest) σ := by
  refine AL.val hg hd (fun a w ω β h => ⟨.int kx (wr kx (0 - i)), ?_, VRel.lit rfl⟩) k
  have e := ev_lit h hx
  generalize a.eval = ρ at e ⊢
  simp [execOp, hop, go_sem, e, Op.unary, Op.intArith, wr_eq]

theorem AL.nilCheck {x : Operand} {κ i r : Nat} (hop : o.op = .nilCheck x) (hg : o.guard = none) (hd : okD N o.dst = true) (hx : σ.ev x = .ptr κ i r) (k : AL P F N ops Q rest (σ.putO o.dst (.ptr κ i r))) : AL P F N ops Q (o :: rest) σ := by
  refine AL.val hg hd (fun a w ω β h => ⟨a.eval x, ?_, by have := h.ev x; rw [hx] at this; exact this⟩) k
  have := h.ev x
  rw [hx] at this
  obtain ⟨R, g, j, _, _, e⟩ := this
  generalize a.eval = ρ at e ⊢
  simp [execOp, hop, go_sem, e]

theorem AL.fieldAddr {T : Nat → Option TyI} (hT : TOk P T) {s f off sz : Nat} {x : Operand} {κ i r ks : Nat} {pl : List (Nat × Nat)} {z : List ZC} (hop : o.op = .fieldAddr s x f) (hg : o.guard = none) (hd : okD N o.dst = true) (hx : σ.ev x = .ptr κ i r)
    (ht : T s = some ⟨ks, .st pl, z⟩) (hf : pl[f]? = some (off, sz)) (k : AL P F N ops Q rest (σ.putO o.dst (.ptr κ i (r + off)))) : AL P F N ops Q (o :: rest) σ := by
  obtain ⟨fs, h1, h2, h3⟩ := (hT s _ ht).kind
  obtain ⟨fd, h4', hfd⟩ := mapM_at _ _ _ h2 f _ hf
  have h4 : fs[f]? = some fd := by rw [← Array.getElem?_toList]; exact h4'
  cases h6 : P.info? fd.type with
  | none => rw [h6] at hfd; cases hfd
  | some inf =>
  rw [h6] at hfd
  injection hfd with hfd
  injection hfd with h5 h8
  have h7 : inf.size ≠ 0 := by
    have := List.all_eq_true.1 h3 _ (List.mem_of_getElem? hf)
    simp at this; omega
  refine AL.val hg hd (fun a w ω β h => ?_) k
  have := h.ev x
  rw [hx] at this
  obtain ⟨R, g, j, e1, ⟨o', e2, e3⟩, e⟩ := this
  refine ⟨.pointer (some ⟨g, j + off, none⟩), ?_, R, g, j + off, e1, ⟨o', e2, by omega⟩, rfl⟩
  subst h5
  generalize a.eval = ρ at e ⊢
  by_cases h0 : fd.offset = 0 <;> simp [execOp, hop, go_sem, e, Instr.fieldAt, underlying, h1, h4, Instr.sureAddr, fieldPlace, sizeOf, typeInfo, h6, h7, Addr.add, h0]

theorem AL.indexSl {T : Nat → Option TyI} (hT : TOk P T) {t e ke bs kt : Nat} {z : List ZC} {x ix : Operand} {κ lo n : Nat} {ki : IntKind} {i : Int} {R : Root} (hop : o.op = .indexAddr t x ix) (hg : o.guard = none) (hd : okD N o.dst = true) (hx : σ.ev x = .a (.ref κ lo n)) (hi : σ.ev ix = .a (.lit (.int ki i)))
    (ht : T t = some ⟨kt, .sl e ke bs, z⟩) (hR : σ.rt κ = some R) (hk : R.k = ke) (hb : 0 ≤ i ∧ i < n) (k : AL P F N ops Q rest (σ.putO o.dst (.ptr κ (lo + i.toNat) 0))) : AL P F N ops Q (o :: rest) σ := by
  obtain ⟨h1, inf, zv, h2, h3, _⟩ := (hT t _ ht).kind
  refine AL.val hg hd (fun a w ω β h => ?_) k
  have := h.ev x
  rw [hx] at this
  obtain ⟨R', e1, _, A, c, e2, e3, _, _, _, e5⟩ := this
  rw [hR] at e1; injection e1 with e1; subst e1
  obtain ⟨g, o', e6, e7⟩ := e5 (by omega)
  refine ⟨.pointer (some ⟨g, o' + (lo + i.toNat) * R.k, none⟩), ?_, R, g, _, hR, ⟨o', e6, rfl⟩, rfl⟩
  have hadd : (⟨g, o' + lo * R.k, none⟩ : Addr).add (i.toNat * inf.size) = ⟨g, o' + (lo + i.toNat) * R.k, none⟩ := by
    rw [h3, ← hk, Nat.add_mul]
    unfold Addr.add
    split
    · rename_i e0; rw [e0]; simp
    · simp [Nat.add_assoc]
  have ei := ev_lit h hi
  generalize a.eval = ρ at e2 ei ⊢
  simp [execOp, hop, go_sem, e2, e7, ei, Instr.indexAt, asIntOf, underlying, h1, sizeOf, typeInfo, h2, hb.1, hb.2, hadd]
  rw [h3, ← hk, Nat.add_mul]; omega

theorem AL.indexArr {T : Nat → Option TyI} (hT : TOk P T) {t n e ke kt : Nat} {z : List ZC} {x ix : Operand} {κ q r : Nat} {ki : IntKind} {i : Int} (hop : o.op = .indexAddr t x ix) (hg : o.guard = none) (hd : okD N o.dst = true) (hx : σ.ev x = .ptr κ q r) (hi : σ.ev ix = .a (.lit (.int ki i)))
    (ht : T t = some ⟨kt, .arr n e ke, z⟩) (hb : 0 ≤ i ∧ i < n) (k : AL P F N ops Q rest (σ.putO o.dst (.ptr κ q (r + i.toNat * ke)))) : AL P F N ops Q (o :: rest) σ := by
  obtain ⟨h1, inf, h2, h3⟩ := (hT t _ ht).kind
  refine AL.val hg hd (fun a w ω β h => ?_) k
  have := h.ev x
  rw [hx] at this
  obtain ⟨R, g, j, e1, ⟨o', e2, e3⟩, e⟩ := this
  refine ⟨.pointer (some ⟨g, j + i.toNat * ke, none⟩), ?_, R, g, _, e1, ⟨o', e2, by omega⟩, rfl⟩
  have hadd : (⟨g, j, none⟩ : Addr).add (i.toNat * inf.size) = ⟨g, j + i.toNat * ke, none⟩ := by
    rw [h3]; unfold Addr.add
    split
    · rename_i e0; rw [e0]; simp
    · rfl
  have ei := ev_lit h hi
  generalize a.eval = ρ at e ei ⊢
  simp [execOp, hop, go_sem, e, ei, Instr.indexAt, asIntOf, underlying, h1, sizeOf, typeInfo, h2, hb.1, hb.2, hadd, Instr.sureAddr]
  rw [h3]

theorem AL.len {t ty : Nat} {T : Nat → Option TyI} (hT : TOk P T) {x : Operand} {κ lo n e ke bs kt : Nat} {z : List ZC} (hop : o.op = .call { callee := .builtin .len, args := #[x], argTypes := #[t] }) (hg : o.guard = none) (hd : okD N o.dst = true) (hx : σ.ev x = .a (.ref κ lo n))
    (ht : T t = some ⟨kt, .sl e ke bs, z⟩) (k : AL P F N ops Q rest (σ.putO o.dst (.a (.lit (.int .i64 n))))) : AL P F N ops Q (o :: rest) σ := by
  obtain ⟨h1, _⟩ := (hT t _ ht).kind
  refine AL.val hg hd (fun a w ω β h => ?_) k
  have := h.ev x
  rw [hx] at this
  obtain ⟨R', e1, _, A, c, e2, _⟩ := this
  refine ⟨.int .i64 n, ?_, VRel.lit rfl⟩
  generalize a.eval = ρ at e2 ⊢
  simp [execOp, hop, go_sem, e2, resolve, invoke, builtin, Builtin.len_, underlying, h1, goInt]

theorem AL.extract {x : Operand} {l : List V} {i : Nat} {v : V} (hop : o.op = .extract x i) (hg : o.guard = none) (hd : okD N o.dst = true) (hx : σ.ev x = .tup l) (hl : l[i]? = some v) (k : AL P F N ops Q rest (σ.putO o.dst v)) : AL P F N ops Q (o :: rest) σ := by
  refine AL.val hg hd (fun a w ω β h => ?_) k
  have := h.ev x
  rw [hx] at this
  obtain ⟨us, e1, e2, e3⟩ := this
  obtain ⟨u, h1, h2⟩ := e3 i v hl
  refine ⟨u, ?_, ?_⟩
  · generalize a.eval = ρ at e1 ⊢
    simp [execOp, hop, go_sem, e1, Instr.extract, h1]
  · cases v with
    | tup l => exact h2.elim
    | _ => exact h2
end
end Go.Tr
namespace Go.Tr
open Go Go.RowKit

def At.cl : At → Cl
  | .lit v => .cl (.lit v)
  | .nil e k => .cl (.sl .own e k 0 (fun _ _ => .any))
  | .ref κ lo n => .ref κ lo n
  | _ => .cl .any
def Root.wrL (R : Root) (i : Nat) : Nat → List Cl → Root
  | _, [] => R
  | r, x :: l => Root.wrL { R with op := ((i, r), x) :: R.op } i (r + 1) l

section
variable {P : Program} {F : Fm} {N : Nat} {σ : St} {a : Act} {w : World} {ω : Om} {β : Nat → Bs}

theorem Rel1.ext {σ' : St} (h : Rel1 F N σ a w ω β) (ht : ∀ t, σ'.tv t = σ.tv t) (hr : ∀ κ, σ'.rt κ = σ.rt κ) : Rel1 F N σ' a w ω β := by
  refine ⟨h.tsz, h.dfr, fun t => ?_, fun κ R hR => ?_, h.wr, h.fr, h.fz, fun ρ R hρ hR => h.ex ρ R hρ (by rw [← hr]; exact hR)⟩
  · rw [ht]; exact VRel.same (fun x u hx => ARel.grow (fun κ R hR => ⟨rfl, by rw [hr]; exact hR⟩) (fun _ _ _ h => h) hx) (fun κ' R hR => ⟨rfl, R, by rw [hr]; exact hR, rfl⟩) (h.tmps t)
  · rw [hr] at hR
    refine (h.roots κ R hR).upd (fun i r κ' lo n _ u hu => ?_) rfl (Meta.refl w) (fun b j x hx _ => ⟨hx, rfl⟩)
    obtain ⟨R2, hR2, h1⟩ := hu
    exact ⟨R2, by rw [hr]; exact hR2, h1⟩

theorem ARel.lay {x : At} {u : Value} (h : ARel σ β w x u) (hone : u.oneCell' = true) : Lay σ ω β w x.cl u := by
  cases x with
  | any => exact h
  | lit v => exact h
  | nil e k => cases h; exact ⟨none, 0, rfl, Nat.le_refl _, Nat.zero_le _, .inl ⟨rfl, rfl⟩⟩
  | ref κ lo n => exact h
  | spot κ i r => exact hone

theorem Rel1.drew (h : Rel1 F N σ a w ω β) : Rel1 F N σ a w.drew ω β := by
  refine ⟨h.tsz, h.dfr, fun t => ?_, fun κ R hR => ?_, h.wr, h.fr.step (Fr.drew (fun _ _ => False) w) (fun _ _ h => h.elim), h.fz, h.ex⟩
  · exact VRel.same (fun x u hx => ARel.grow (fun κ R hR => ⟨rfl, hR⟩) (fun _ _ _ h => h) hx) (fun κ' R hR => ⟨rfl, R, hR, rfl⟩) (h.tmps t)
  · exact (h.roots κ R hR).upd (fun _ _ _ _ _ _ _ h => h) rfl (Meta.drew w) (fun b j x hx _ => ⟨hx, rfl⟩)

/-- Cells that belong to no root turn. -/
theorem Rel1.rewrite (h : Rel1 F N σ a w ω β) {κ : Nat} (hκ : σ.rt κ = none) {w' : World} (hf : Fr (fun b j => ω b j = some (.row κ)) w w') : Rel1 F N σ a w' ω β := by
  have hne : ∀ κ' R, σ.rt κ' = some R → κ' ≠ κ := by rintro κ' R hR rfl; rw [hκ] at hR; cases hR
  have hc : ∀ b j x, ω b j = some x → x ≠ .row κ → w'.cell? ⟨b, j, none⟩ = w.cell? ⟨b, j, none⟩ := fun b j x hx hn =>
    hf.cell b j (h.wr b j x hx).1 (by rw [hx]; intro e; injection e with e; exact hn e)
  refine ⟨h.tsz, h.dfr, fun t => ?_, fun κ' R hR => ?_, fun b j x hx => ⟨Nat.lt_of_lt_of_le (h.wr b j x hx).1 hf.mt.size, (h.wr b j x hx).2⟩, h.fr.step hf (fun b j hb => (h.wr b j _ hb).2 (by intro e; cases e)), h.fz, h.ex⟩
  · refine VRel.same (fun x u hx => ?_) (fun κ' R hR => ⟨rfl, R, hR, rfl⟩) (h.tmps t)
    cases x with
    | any => exact hx
    | lit v => exact hx
    | nil e k => exact hx
    | ref κ' lo n => exact hx
    | spot κ' i r =>
      obtain ⟨R2, g, j, hR2, hi, hr, hl, ha, hc'⟩ := hx
      obtain ⟨g', j', u', ha', _, h3, _⟩ := (h.roots κ' R2 hR2).cells i r hi hr hl
      obtain ⟨x3, q3, m3⟩ := h3.mine
      obtain ⟨o, e1, e2⟩ := ha
      obtain ⟨o', e1', e2'⟩ := ha'
      rw [e1] at e1'; injection e1' with e1'; injection e1' with e3 e4 _
      subst e3 e4
      have e5 : j' = j := by rw [e2, e2']
      subst e5
      exact ⟨R2, g, j', hR2, hi, hr, hl, ⟨o, e1, e2⟩, (hc _ _ _ q3 (by rintro rfl; exact hne _ _ hR2 m3.1.symm)).trans hc'⟩
  · exact (h.roots κ' R hR).upd (fun _ _ _ _ _ _ _ h => h) rfl hf.mt (fun b j x hx hm => ⟨hx, hc b j x hx (by rintro rfl; exact hne _ _ hR hm.1.symm)⟩)

/-- Several cells of an own root, one behind the other, are stored. -/
theorem Rel1.storeL : ∀ (l : List At) (us : List Value) {σ : St} {w : World} (_ : Rel1 F N σ a w ω β) {κ : Nat} {R : Root} (_ : σ.rt κ = some R) (_ : R.o = .own) {i r : Nat} (_ : i < R.n) (_ : r + l.length ≤ R.k) (_ : ∀ q, q < l.length → (R.get i (r + q)).live = true)
    (_ : us.length = l.length) (_ : ∀ (q : Nat) (x : At) (u : Value), l[q]? = some x → us[q]? = some u → ARel σ β w x u ∧ u.oneCell' = true) {g j : Nat} (_ : AtA R (β κ) i r g j),
    (∀ q, q < l.length → (w.cell? ⟨g, j + q, none⟩).isSome = true ∧ w.frozen? ⟨g, j + q, none⟩ = false) ∧ Rel1 F N { t := σ.t.map fun p => (p.1, p.2.map (dimA κ) none), r := (κ, R.wrL i r (l.map At.cl)) :: σ.r } a (w.setCells g j us) ω β
  | [], us, σ, w, h, κ, R, hR, ho, i, r, hi, hr, hl, hlen, hrel, g, j, ha => by
    have : us = [] := List.eq_nil_of_length_eq_zero (by simpa using hlen)
    subst this
    refine ⟨fun q hq => by simp at hq, ?_⟩
    show Rel1 F N { t := σ.t.map fun p => (p.1, p.2.map (dimA κ) none), r := (κ, R) :: σ.r } a w ω β
    have h1 : Rel1 F N { t := σ.t.map fun p => (p.1, p.2.map (dimA κ) none), r := σ.r } a w ω β := by
      refine ⟨h.tsz, h.dfr, fun t => ?_, fun κ' R' hR' => (h.roots κ' R' hR').upd (fun _ _ _ _ _ _ _ h => h) rfl (Meta.refl w) (fun _ _ _ hx _ => ⟨hx, rfl⟩), h.wr, h.fr, h.fz, h.ex⟩
      show VRel _ _ _ ((look (σ.t.map fun p => (p.1, p.2.map (dimA κ) none)) t).getD .any) _
      rw [St.tv_map σ _ rfl]
      refine VRel.map (fun x u hx => ?_) (fun κ' R _ hR => ⟨rfl, R, hR, rfl⟩) (h.tmps t)
      cases x with
      | spot κ' i r =>
        show ARel _ _ _ (if κ' = κ then .any else .spot κ' i r) u
        split
        · exact ARel.one h (show ARel σ β w (.spot κ' i r) u from hx)
        · exact hx
      | _ => exact hx
    exact h1.ext (fun _ => rfl) (fun κ' => by show (if κ' = κ then some R else σ.rt κ') = σ.rt κ'; split; (rename_i e; rw [e, hR]); rfl)
  | x :: l, us, σ, w, h, κ, R, hR, ho, i, r, hi, hr, hl, hlen, hrel, g, j, ha => by
    cases us with
    | nil => simp at hlen
    | cons u us =>
      simp only [List.length_cons] at hr hlen
      obtain ⟨hx, hone⟩ := hrel 0 x u rfl rfl
      obtain ⟨g', j', u0, k1, k2, k3, _, k5⟩ := h.store hR ho hi (show r < R.k by omega) (by simpa using hl 0 (by simp)) (ARel.lay (ω := ω) hx hone)
      obtain ⟨o, e1, e2⟩ := ha
      obtain ⟨o', e1', e2'⟩ := k1
      rw [e1] at e1'; injection e1' with e1'; injection e1' with e3 e4 _
      subst e3 e4
      have e5 : j' = j := by rw [e2, e2']
      subst e5
      have hrt : (σ.wr κ R i r x.cl).rt κ = some { R with op := ((i, r), x.cl) :: R.op } := by show (if κ = κ then _ else _) = _; rw [if_pos rfl]
      have hA : ∀ (y : At) (v : Value), ARel σ β w y v → v.oneCell' = true → ARel (σ.wr κ R i r x.cl) β (w.setCell ⟨g, j', none⟩ u) (match y with | .spot _ _ _ => .any | y => y) v := by
        intro y v hy hv
        cases y with
        | any => exact hy
        | lit _ => exact hy
        | nil _ _ => exact hy
        | spot _ _ _ => exact hv
        | ref κ' lo n =>
          obtain ⟨R2, hR2, k1⟩ := hy
          by_cases e : κ' = κ
          · subst e; rw [hR] at hR2; injection hR2 with hR2; subst hR2; exact ⟨_, hrt, k1⟩
          · exact ⟨R2, by show (if κ' = κ then _ else _) = _; rw [if_neg e]; exact hR2, k1⟩
      have ih := Rel1.storeL (l.map fun y => match y with | .spot _ _ _ => .any | y => y) us k5 hrt ho hi (r := r + 1) (by simp; show r + 1 + l.length ≤ R.k; omega) (fun q hq => by
          rw [Root.get_wr, if_neg (by omega)]
          have := hl (q + 1) (by simp at hq ⊢; omega)
          rwa [show r + (q + 1) = r + 1 + q by omega] at this) (by simp; omega) (fun q y v hy hv => by
          rw [List.getElem?_map] at hy
          cases hq : l[q]? with
          | none => rw [hq] at hy; cases hy
          | some y0 =>
            rw [hq] at hy
            injection hy with hy
            subst hy
            obtain ⟨k6, k7⟩ := hrel (q + 1) y0 v hq hv
            exact ⟨hA y0 v k6 k7, k7⟩) (g := g) (j := j' + 1) ⟨o, e1, by rw [e2']; show o + (i * R.k + r) + 1 = o + (i * R.k + (r + 1)); omega⟩
      have hcl : ((l.map fun y => match y with | .spot _ _ _ => .any | y => y).map At.cl) = l.map At.cl := by
        rw [List.map_map]; refine List.map_congr_left (fun y _ => ?_); cases y <;> rfl
      rw [hcl] at ih
      refine ⟨fun q hq => ?_, ?_⟩
      · cases q with
        | zero => exact ⟨by simp [k2], by simpa using k3⟩
        | succ q =>
          obtain ⟨m1, m2⟩ := ih.1 q (by simp at hq ⊢; omega)
          rw [World.cell?_setCell_other _ _ _ _ (by intro e; injection e with _ e; omega)] at m1
          rw [World.frozen?_setCell] at m2
          rw [show j' + (q + 1) = j' + 1 + q by omega]
          exact ⟨m1, m2⟩
      · refine ih.2.ext (fun t => ?_) (fun κ' => ?_)
        · show (look (σ.t.map fun p => (p.1, p.2.map (dimA κ) none)) t).getD .any = (look ((σ.t.map fun p => (p.1, p.2.map (dimA κ) none)).map fun p => (p.1, p.2.map (dimA κ) none)) t).getD .any
          rw [look_map (f := fun v : V => v.map (dimA κ) none) (l := σ.t.map fun p => (p.1, p.2.map (dimA κ) none)), look_map]
          cases look σ.t t with
          | none => rfl
          | some v =>
            have hd : ∀ y : At, dimA κ (dimA κ y) = dimA κ y := by
              intro y
              cases y with
              | spot κ2 i2 r2 => by_cases e : κ2 = κ <;> simp [dimA, e]
              | _ => rfl
            have h0 : ∀ v : V, (v.map0 (dimA κ) none).map0 (dimA κ) none = v.map0 (dimA κ) none := by
              intro v; cases v <;> simp [V.map0, hd]
            show v.map (dimA κ) none = (v.map (dimA κ) none).map (dimA κ) none
            cases v with
            | tup l => simp [V.map, h0]
            | any => rfl
            | a x => exact (h0 (.a x)).symm
            | agg l => exact (h0 (.agg l)).symm
            | ptr κ' i r => rfl
        · show (if κ' = κ then _ else _) = (if κ' = κ then _ else (if κ' = κ then _ else _))
          split <;> rfl
end
end Go.Tr
namespace Go.Tr
open Go Go.RowKit

def scD : TypeDesc → Bool
  | .struct _ | .array _ _ => false
  | _ => true
def scK : TK → Bool
  | .sc | .sl _ _ _ => true
  | _ => false
def agK : TK → Bool
  | .st _ | .arr _ _ _ => true
  | _ => false
def V.atoms : V → Option (List At)
  | .a x => some [x]
  | .agg l => some l
  | _ => none
def liveL (R : Root) (i : Nat) : Nat → Nat → Bool
  | _, 0 => true
  | r, m + 1 => (R.get i r).live && liveL R i (r + 1) m
theorem liveL_at {R : Root} {i : Nat} : ∀ {m r : Nat}, liveL R i r m = true → ∀ q, q < m → (R.get i (r + q)).live = true
  | 0, _, _, q, hq => by omega
  | m + 1, r, h, q, hq => by
    simp only [liveL, Bool.and_eq_true] at h
    cases q with
    | zero => exact h.1
    | succ q => rw [show r + (q + 1) = r + 1 + q by omega]; exact liveL_at h.2 q (by omega)
theorem liveL_true (R : Root) (i : Nat) : ∀ m r : Nat, liveL R i r m = true
  | 0, _ => rfl
  | m + 1, r => by simp [liveL, Cl.live, liveL_true R i m (r + 1)]
def atomsL (R : Root) (κ i : Nat) : Nat → Nat → List At
  | _, 0 => []
  | r, m + 1 => R.atom κ i r :: atomsL R κ i (r + 1) m
theorem atomsL_len (R : Root) (κ i : Nat) : ∀ (m r : Nat), (atomsL R κ i r m).length = m
  | 0, _ => rfl
  | m + 1, r => by simp [atomsL, atomsL_len R κ i m (r + 1)]
theorem atomsL_at (R : Root) (κ i : Nat) : ∀ (m r q : Nat), q < m → (atomsL R κ i r m)[q]? = some (R.atom κ i (r + q))
  | 0, _, q, h => by omega
  | m + 1, r, 0, _ => rfl
  | m + 1, r, q + 1, h => by
    rw [show r + (q + 1) = r + 1 + q by omega]
    exact atomsL_at R κ i m (r + 1) q (by omega)
def St.wrs (σ : St) (κ : Nat) (R : Root) (i r : Nat) (l : List At) : St := { t := σ.t.map fun p => (p.1, p.2.map (dimA κ) none), r := (κ, R.wrL i r (l.map At.cl)) :: σ.r }

section
variable {P : Program} {F : Fm} {N : Nat} {Q : Exit → St → Prop} {σ σ' : St} {ops : Array Oper} {o : Oper} {rest : List Oper}

/-- A step that turns the memory and gives a value. -/
theorem AL.step {v : V} (hg : o.guard = none) (hd : okD N o.dst = true)
    (hrun : ∀ a w ω β, Rel1 F N σ a w ω β → ∃ u w' ω' β', (execOp a.eval o).run P w = .ok (.value u) w' ∧ Rel1 F N σ' a w' ω' β' ∧ VRel σ' β' w' v u) (k : AL P F N ops Q rest (σ'.putO o.dst v)) : AL P F N ops Q (o :: rest) σ := by
  intro a w hr
  obtain ⟨ω, β, h⟩ := hr
  obtain ⟨u, w', ω', β', h1, h2, h3⟩ := hrun a w ω β h
  refine wpList_plain hg fun K hK => ?_
  unfold Oper.wp
  rw [h1, Oper.upon_value]
  exact hK _ _ (k _ _ ⟨ω', β', h2.putO hd h3⟩)
/-- A step that turns the memory and gives none. -/
theorem AL.stepS (hg : o.guard = none) (hd : o.dst = none)
    (hrun : ∀ a w ω β, Rel1 F N σ a w ω β → ∃ w' ω' β', (execOp a.eval o).run P w = .ok .skip w' ∧ Rel1 F N σ' a w' ω' β') (k : AL P F N ops Q rest σ') : AL P F N ops Q (o :: rest) σ := by
  intro a w hr
  obtain ⟨ω, β, h⟩ := hr
  obtain ⟨w', ω', β', h1, h2⟩ := hrun a w ω β h
  refine wpList_plain hg fun K hK => ?_
  unfold Oper.wp
  rw [h1, Oper.upon_skip, hd]
  exact hK _ _ (k _ _ ⟨ω', β', h2⟩)
/-- A state may be told in another way first. -/
theorem AL.pre {l : List Oper} (hrun : ∀ a w ω β, Rel1 F N σ a w ω β → ∃ ω' β', Rel1 F N σ' a w ω' β') (k : AL P F N ops Q l σ') : AL P F N ops Q l σ := by
  intro a w hr
  obtain ⟨ω, β, h⟩ := hr
  obtain ⟨ω', β', h2⟩ := hrun a w ω β h
  exact k _ _ ⟨ω', β', h2⟩
theorem AC.pre {c : Code} (hrun : ∀ a w ω β, Rel1 F N σ a w ω β → ∃ ω' β', Rel1 F N σ' a w ω' β') (k : AC P F N c Q σ') : AC P F N c Q σ := by
  intro a w hr
  obtain ⟨ω, β, h⟩ := hr
  obtain ⟨ω', β', h2⟩ := hrun a w ω β h
  exact k _ _ ⟨ω', β', h2⟩

theorem run_loadVar_sc {t : Nat} {d : TypeDesc} {w : World} {g j : Nat} {u : Value} (h1 : P.underlying t = some d) (h2 : scD d = true) (hc : w.cell? ⟨g, j, none⟩ = some u) :
    (loadVar t ⟨g, j, none⟩).run P w = .ok u w := by
  cases d <;> simp [scD] at h2 <;> simp [loadVar, isAgg, run_underlying h1, hc]

theorem sc_of {T : Nat → Option TyI} (hT : TOk P T) {t k : Nat} {kd : TK} {z : List ZC} (ht : T t = some ⟨k, kd, z⟩) (hk : scK kd = true) :
    ∃ d, P.underlying t = some d ∧ scD d = true := by
  have h := (hT t _ ht).kind
  cases kd with
  | sc => obtain ⟨d, h1, h2⟩ := h; exact ⟨d, h1, by cases d <;> first | rfl | exact h2⟩
  | sl e ke bs => exact ⟨_, h.1, rfl⟩
  | st _ => cases hk
  | arr _ _ _ => cases hk
  | ot => cases hk

theorem run_load (ρ : Operand → Value) (w : World) {t : Nat} {x : Operand} (hop : o.op = .load t x) {g j : Nat} (hx : ρ x = .pointer (some ⟨g, j, none⟩)) {u : Value} (h : (loadVar t ⟨g, j, none⟩).run P w = .ok u w) : (execOp ρ o).run P w = .ok (.value u) w := by
  have h2 : (Instr.loadAt t (ρ x)).run P w = .ok u w := by
    rw [hx]; unfold Instr.loadAt; rw [Sem.run_bind]; exact h
  unfold execOp
  rw [hop]
  show ((Instr.loadAt t (ρ x)).bind fun v => pure (.value v) : Sem Next).run P w = _
  rw [show ((Instr.loadAt t (ρ x)).bind fun v => pure (Next.value v)) = ((Instr.loadAt t (ρ x)) >>= fun v => pure (Next.value v)) from rfl, Sem.run_bind, h2]
  rfl

theorem AL.load1 {T : Nat → Option TyI} (hT : TOk P T) {t k : Nat} {kd : TK} {z : List ZC} {x : Operand} {κ i r : Nat} {R : Root} (hop : o.op = .load t x) (hg : o.guard = none) (hd : okD N o.dst = true) (hx : σ.ev x = .ptr κ i r)
    (ht : T t = some ⟨k, kd, z⟩) (hk : scK kd = true) (hR : σ.rt κ = some R) (hi : i < R.n) (hr : r < R.k) (hl : (R.get i r).live = true) (k : AL P F N ops Q rest (σ.putO o.dst (.a (R.atom κ i r)))) : AL P F N ops Q (o :: rest) σ := by
  obtain ⟨d, h1, h2⟩ := sc_of hT ht hk
  refine AL.val hg hd (fun a w ω β h => ?_) k
  obtain ⟨g, j, u, k1, k2, k3⟩ := h.load hR hi hr hl
  have := h.ev x
  rw [hx] at this
  obtain ⟨R', g', j', e1, ⟨o', e2, e3⟩, e⟩ := this
  rw [hR] at e1; injection e1 with e1; subst e1
  obtain ⟨o2, f1, f2⟩ := k1
  rw [f1] at e2; injection e2 with e2; injection e2 with e2 e4 _
  subst e2 e4
  have : j = j' := by omega
  subst this
  refine ⟨u, ?_, k3⟩
  exact run_load _ w hop e (run_loadVar_sc (w := w) h1 h2 k2)

theorem run_loadVar_agg {t k : Nat} {d : TypeDesc} {inf : TypeInfo} {w : World} {g j : Nat} (h1 : P.underlying t = some d) (h2 : scD d = false) (h3 : P.info? t = some inf) (h4 : inf.size = k) (f : Nat → Value) (hc : ∀ q, q < k → w.cell? ⟨g, j + q, none⟩ = some (f q)) :
    (loadVar t ⟨g, j, none⟩).run P w = .ok (.agg ((List.range k).map f).toArray) w := by
  have hl := run_loadCells (P := P) w ⟨g, j, none⟩ k f (fun q hq => by
    have hadd : (⟨g, j, none⟩ : Addr).add q = ⟨g, j + q, none⟩ := by unfold Addr.add; split <;> simp_all
    rw [hadd]; exact hc q hq)
  cases d <;> simp [scD] at h2 <;> simp [loadVar, isAgg, run_underlying h1, sizeOf, typeInfo, h3, h4, hl]

theorem AL.loadAgg {T : Nat → Option TyI} (hT : TOk P T) {t m : Nat} {kd : TK} {z : List ZC} {x : Operand} {κ i r : Nat} {R : Root} (hop : o.op = .load t x) (hg : o.guard = none) (hd : okD N o.dst = true) (hx : σ.ev x = .ptr κ i r)
    (ht : T t = some ⟨m, kd, z⟩) (hk : agK kd = true) (hR : σ.rt κ = some R) (hi : i < R.n) (hr : r + m ≤ R.k) (hl : liveL R i r m = true) (k : AL P F N ops Q rest (σ.putO o.dst (.agg (atomsL R κ i r m)))) : AL P F N ops Q (o :: rest) σ := by
  have hF := hT t _ ht
  obtain ⟨d, h1, h2⟩ : ∃ d, P.underlying t = some d ∧ scD d = false := by
    have h := hF.kind
    cases kd with
    | st pl => obtain ⟨fs, h1, _⟩ := h; exact ⟨_, h1, rfl⟩
    | arr n e ke => exact ⟨_, h.1, rfl⟩
    | sc => cases hk
    | sl _ _ _ => cases hk
    | ot => cases hk
  obtain ⟨inf, zv, h3, h4, _⟩ := hF.info
  refine AL.val hg hd (fun a w ω β h => ?_) k
  have := h.ev x
  rw [hx] at this
  obtain ⟨R', g, j, e1, ⟨o', e2, e3⟩, e⟩ := this
  rw [hR] at e1; injection e1 with e1; subst e1
  have hcell : ∀ q, q < m → ∃ u, w.cell? ⟨g, j + q, none⟩ = some u ∧ ARel σ β w (R.atom κ i (r + q)) u := by
    intro q hq
    obtain ⟨g', j', u, ⟨o2, f1, f2⟩, k2, k3⟩ := h.load hR hi (show r + q < R.k by omega) (liveL_at hl q hq)
    rw [e2] at f1; injection f1 with f1; injection f1 with f3 f4 _
    subst f3 f4
    have : j' = j + q := by omega
    subst this
    exact ⟨u, k2, k3⟩
  refine ⟨.agg ((List.range m).map (fun q => (w.cell? ⟨g, j + q, none⟩).getD undef)).toArray, ?_, ?_⟩
  · have hrun := run_loadVar_agg (P := P) (w := w) (g := g) (j := j) h1 h2 h3 h4 (fun q => (w.cell? ⟨g, j + q, none⟩).getD undef) (fun q hq => by
      obtain ⟨u, hu, _⟩ := hcell q hq; rw [hu]; rfl)
    exact run_load _ w hop e hrun
  · refine ⟨_, rfl, by simp [atomsL_len], fun q x hq => ?_⟩
    have hqm : q < m := by
      rcases Nat.lt_or_ge q m with h | h
      · exact h
      · rw [List.getElem?_eq_none (by rw [atomsL_len]; exact h)] at hq; cases hq
    rw [atomsL_at _ _ _ _ _ _ hqm] at hq
    injection hq with hq
    subst hq
    obtain ⟨u, hu, hrel⟩ := hcell q hqm
    exact ⟨u, by simp [hqm, hu], hrel⟩

/-- A closed header is loaded and looked into. -/
theorem AL.loadPeek {T : Nat → Option TyI} (hT : TOk P T) {t k d : Nat} {kd : TK} {z : List ZC} {x : Operand} {κ i r : Nat} {R : Root} {ow : Ow} {e ke n : Nat} {row : Nat → Nat → C} (hop : o.op = .load t x) (hg : o.guard = none) (hd : okD N o.dst = true) (hx : σ.ev x = .ptr κ i r)
    (ht : T t = some ⟨k, kd, z⟩) (hk : scK kd = true) (hR : σ.rt κ = some R) (hi : i < R.n) (hr : r < R.k) (hl : R.get i r = .cl (.sl ow e ke n row)) (how : ow = .own → R.o = .own) (hkk : d < 1000000) (hdd : σ.rt d = none)
    (k : AL P F N ops Q rest ((σ.setR d (lookR R κ i r ow e ke n row)).putO o.dst (.a (.ref d 0 n)))) : AL P F N ops Q (o :: rest) σ := by
  obtain ⟨ds, h1, h2⟩ := sc_of hT ht hk
  refine AL.step hg hd (fun a w ω β h => ?_) k
  obtain ⟨b, g, j, u, hr1, k1, k2, k3⟩ := h.peek hR hi hr hl how (okK_lt hkk) hdd
  have := h.ev x
  rw [hx] at this
  obtain ⟨R', g', j', e1, ⟨o', e2, e3⟩, ee⟩ := this
  rw [hR] at e1; injection e1 with e1; subst e1
  obtain ⟨o2, f1, f2⟩ := k1
  rw [f1] at e2; injection e2 with e2; injection e2 with e2 e4 _
  subst e2 e4
  have : j = j' := by omega
  subst this
  refine ⟨u, w, ω, _, ?_, hr1, k3⟩
  exact run_load _ w hop ee (run_loadVar_sc (w := w) h1 h2 k2)

theorem cells_one {u : Value} (h : u.oneCell' = true) : u.cells = #[u] := by cases u <;> simp_all [Value.cells, Value.oneCell']
theorem VRel.cells {a : Act} {w : World} {ω : Om} {β : Nat → Bs} (h : Rel1 F N σ a w ω β) {v : V} {u : Value} (hv : VRel σ β w v u) {l : List At} (hl : v.atoms = some l) :
    u.cells.size = l.length ∧ ∀ (q : Nat) (x : At) (y : Value), l[q]? = some x → u.cells.toList[q]? = some y → ARel σ β w x y ∧ y.oneCell' = true := by
  cases v with
  | a x =>
    injection hl with hl
    subst hl
    have hx : ARel σ β w x u := hv
    have h1 := ARel.one h hx
    rw [cells_one h1]
    refine ⟨rfl, fun q y z hq hz => ?_⟩
    cases q with
    | zero => injection hq with hq; injection hz with hz; subst hq hz; exact ⟨hx, h1⟩
    | succ q => simp at hq
  | agg l' =>
    injection hl with hl
    subst hl
    obtain ⟨us, rfl, h2, h3⟩ := hv
    refine ⟨h2, fun q y z hq hz => ?_⟩
    obtain ⟨y', h4, h5⟩ := h3 q y hq
    have h6 : us[q]? = some z := by rw [← Array.getElem?_toList]; exact hz
    rw [h6] at h4; injection h4 with h4; subst h4
    exact ⟨h5, ARel.one h h5⟩
  | any => cases hl
  | ptr _ _ _ => cases hl
  | tup _ => cases hl

theorem AL.store {T : Nat → Option TyI} (hT : TOk P T) {t m : Nat} {kd : TK} {z : List ZC} {x y : Operand} {κ i r : Nat} {R : Root} {l : List At} (hop : o.op = .store t x y) (hg : o.guard = none) (hd : o.dst = none) (hx : σ.ev x = .ptr κ i r)
    (ht : T t = some ⟨m, kd, z⟩) (hy : (σ.ev y).atoms = some l) (hlen : l.length = m) (hR : σ.rt κ = some R) (ho : R.o = .own) (hi : i < R.n) (hr : r + m ≤ R.k) (hl : liveL R i r m = true) (k : AL P F N ops Q rest (σ.wrs κ R i r l)) : AL P F N ops Q (o :: rest) σ := by
  obtain ⟨inf, zv, h3, h4, _⟩ := (hT t _ ht).info
  change inf.size = m at h4
  refine AL.stepS hg hd (fun a w ω β h => ?_) k
  have := h.ev x
  rw [hx] at this
  obtain ⟨R', g, j, e1, ha, e⟩ := this
  rw [hR] at e1; injection e1 with e1; subst e1
  obtain ⟨hc1, hc2⟩ := VRel.cells h (h.ev y) hy
  have hst := Rel1.storeL l (a.eval y).cells.toList h hR ho hi (by omega) (fun q hq => liveL_at hl q (by omega)) (by simpa using hc1) hc2 ha
  refine ⟨w.setCells g j (a.eval y).cells.toList, ω, β, ?_, hst.2⟩
  have hrun := run_storeCells_cells (P := P) g j (a.eval y).cells.toList 0 w (fun q hq => by simpa using (hst.1 q (by simp at hq; omega)).1) (fun q hq => by simpa using (hst.1 q (by simp at hq; omega)).2) (fun v hv => by
    obtain ⟨q, hq⟩ := List.mem_iff_getElem?.1 hv
    have hql : q < l.length := by
      have := (List.getElem?_eq_some_iff.1 hq).1
      simp at this; omega
    exact (hc2 q l[q] v (List.getElem?_eq_getElem hql) hq).2)
  have hsz : (a.eval y).cells.size = inf.size := by omega
  simp only [Nat.add_zero] at hrun
  have hs2 : (storeVar t ⟨g, j, none⟩ (a.eval y)).run P w = .ok () (w.setCells g j (a.eval y).cells.toList) := by
    unfold storeVar
    simp only [Sem.run_bind, sizeOf, typeInfo]
    simp [h3, hsz]
    exact hrun
  have hs3 : (Instr.storeAt t (a.eval x) (a.eval y)).run P w = .ok () (w.setCells g j (a.eval y).cells.toList) := by
    rw [e]; unfold Instr.storeAt; rw [Sem.run_bind]; exact hs2
  unfold execOp
  rw [hop]
  show (((Instr.storeAt t (a.eval x) (a.eval y)) >>= fun _ => pure Next.skip) : Sem Next).run P w = _
  rw [Sem.run_bind, hs3]
  rfl
end
end Go.Tr
namespace Go.Tr
open Go Go.RowKit

def ZC.c : ZC → C
  | .lit v => .lit v
  | .sl e k => .sl .own e k 0 (fun _ _ => .any)
def ZC.ok : ZC → Bool
  | .lit v => scal v
  | .sl _ _ => true
def zrow (z : List ZC) (_ r : Nat) : C := ((z[r]?).map ZC.c).getD .any
def mkop (i : Nat) : Nat → List Cl → List ((Nat × Nat) × Cl)
  | _, [] => []
  | r, x :: l => ((i, r), x) :: mkop i (r + 1) l
def boxR (t m : Nat) (l : List At) : Root := ⟨.own, false, t, m, 1, fun _ _ => .any, mkop 0 0 (l.map At.cl)⟩

theorem look2_mkop {i i' : Nat} {c : Cl} (L : List ((Nat × Nat) × Cl)) : ∀ (l : List Cl) (r r' : Nat), look2 (mkop i r l ++ L) i' r' c = if i' = i ∧ r ≤ r' ∧ r' < r + l.length then (l[r' - r]?).getD c else look2 L i' r' c
  | [], r, r' => by
    rw [if_neg (fun h => by have := h.2.2; simp at this; omega)]; rfl
  | x :: l, r, r' => by
    have ih := look2_mkop (i := i) (i' := i') (c := c) L l (r + 1) r'
    show (if r' = r then (if i' = i then x else look2 (mkop i (r + 1) l ++ L) i' r' c) else look2 (mkop i (r + 1) l ++ L) i' r' c) = _
    rw [ih]
    by_cases h1 : r' = r
    · subst h1
      rw [if_pos rfl]
      by_cases h2 : i' = i
      · rw [if_pos h2, if_pos ⟨h2, Nat.le_refl _, by simp⟩]; simp
      · rw [if_neg h2, if_neg (fun h => h2 h.1), if_neg (fun h => h2 h.1)]
    · rw [if_neg h1]
      by_cases h2 : i' = i ∧ r + 1 ≤ r' ∧ r' < r + 1 + l.length
      · rw [if_pos h2, if_pos ⟨h2.1, by omega, by simp; omega⟩, show r' - r = (r' - (r + 1)) + 1 by omega, List.getElem?_cons_succ]
      · rw [if_neg h2, if_neg (fun h => h2 ⟨h.1, by omega, by have := h.2.2; simp at this; omega⟩)]
theorem boxR_get {t m : Nat} {l : List At} {r : Nat} {x : At} (h : l[r]? = some x) : (boxR t m l).get 0 r = x.cl := by
  have := look2_mkop (i := 0) (i' := 0) (c := .cl .any) [] (l.map At.cl) 0 r
  rw [List.append_nil] at this
  show look2 (mkop 0 0 (l.map At.cl)) 0 r (.cl .any) = _
  rw [this, if_pos ⟨rfl, Nat.zero_le _, by rw [Nat.zero_add, List.length_map]; exact (List.getElem?_eq_some_iff.1 h).1⟩, Nat.sub_zero, List.getElem?_map, h]
  rfl
theorem At.cl_live (x : At) : x.cl.live = true := by cases x <;> rfl

section
variable {P : Program} {F : Fm} {N : Nat} {Q : Exit → St → Prop} {σ : St} {ops : Array Oper} {o : Oper} {rest : List Oper} {a : Act} {w : World} {ω : Om} {β : Nat → Bs}

theorem ZC.lay {z : ZC} (h : z.ok = true) : Lay σ ω β w (.cl z.c) z.val := by
  cases z with
  | lit v => exact ⟨rfl, h⟩
  | sl e k => exact ⟨none, 0, rfl, Nat.le_refl _, Nat.zero_le _, .inl ⟨rfl, rfl⟩⟩
theorem zrow_at {z : List ZC} {i r : Nat} {zc : ZC} (h : z[r]? = some zc) : zrow z i r = zc.c := by unfold zrow; rw [h]; rfl

theorem AL.alloc {T : Nat → Option TyI} (hT : TOk P T) {t m d : Nat} {kd : TK} {z : List ZC} (hop : o.op = .alloc t) (hg : o.guard = none) (hd : okD N o.dst = true) (ht : T t = some ⟨m, kd, z⟩) (hz : z.all ZC.ok = true) (hkk : d < 1000000) (hdd : σ.rt d = none)
    (k : AL P F N ops Q rest ((σ.setR d ⟨.own, false, t, m, 1, zrow z, []⟩).putO o.dst (.ptr d 0 0))) : AL P F N ops Q (o :: rest) σ := by
  have hF := hT t _ ht
  obtain ⟨inf, zv, h3, h4, h5, h6⟩ := hF.info
  have hlen : z.length = m := hF.zl
  refine AL.step hg hd (fun a w ω β h => ?_) k
  refine ⟨.pointer (some ⟨w.heap.size, 0, none⟩), _, _, _, ?_, h.alloc (okK_lt hkk) hdd (cs := zv.cells) (e := t) (cap := 0) (R := ⟨.own, false, t, m, 1, zrow z, []⟩) rfl (fun i r hi hr _ => ?_) (fun hf => by cases hf), ?_⟩
  · generalize a.eval = ρ
    simp [execOp, hop, go_sem, Instr.alloc, zeroValue, typeInfo, h3, h5, newVar, newRow]
  · change i < 1 at hi; change r < m at hr
    obtain rfl : i = 0 := by omega
    have hzr : z[r]? = some (z[r]'(by omega)) := List.getElem?_eq_getElem (by omega)
    refine ⟨(z[r]'(by omega)).val, ?_, ?_⟩
    · show zv.cells[0 * m + r]? = _
      rw [Nat.zero_mul, Nat.zero_add, ← Array.getElem?_toList, h6]
      show (z.map ZC.val)[r]? = _
      rw [List.getElem?_map, hzr]; rfl
    · show LayAt σ ω β w d 0 r (.cl (zrow z 0 r)) _
      rw [zrow_at hzr]
      exact (ZC.lay (List.all_eq_true.1 hz _ (List.getElem_mem _))).at_ d 0 r
  · refine ⟨⟨.own, false, t, m, 1, zrow z, []⟩, w.heap.size, 0, ?_, ⟨0, by simp, by simp⟩, rfl⟩
    show (if d = d then _ else _) = _; rw [if_pos rfl]

theorem AL.box {T : Nat → Option TyI} (hT : TOk P T) {t m d : Nat} {kd : TK} {z : List ZC} {x : Operand} {l : List At} (hop : o.op = .box t x) (hg : o.guard = none) (hd : okD N o.dst = true) (ht : T t = some ⟨m, kd, z⟩) (hx : (σ.ev x).atoms = some l) (hlen : l.length = m) (hkk : d < 1000000) (hdd : σ.rt d = none)
    (k : AL P F N ops Q rest ((σ.setR d (boxR t m l)).putO o.dst (.ptr d 0 0))) : AL P F N ops Q (o :: rest) σ := by
  refine AL.step hg hd (fun a w ω β h => ?_) k
  obtain ⟨hc1, hc2⟩ := VRel.cells h (h.ev x) hx
  refine ⟨.pointer (some ⟨w.heap.size, 0, none⟩), _, _, _, ?_, h.alloc (okK_lt hkk) hdd (cs := (a.eval x).cells) (e := t) (cap := 0) (R := boxR t m l) rfl (fun i r hi hr _ => ?_) (fun hf => by cases hf), ?_⟩
  · generalize a.eval = ρ
    simp [execOp, hop, go_sem, Instr.box, newVar, newRow]
  · change i < 1 at hi; change r < m at hr
    obtain rfl : i = 0 := by omega
    have hl : l[r]? = some (l[r]'(by omega)) := List.getElem?_eq_getElem (by omega)
    have hu : (a.eval x).cells[r]? = some ((a.eval x).cells[r]'(by omega)) := Array.getElem?_eq_getElem (by omega)
    obtain ⟨k1, k2⟩ := hc2 r _ _ hl (by rw [Array.getElem?_toList]; exact hu)
    refine ⟨_, by show (a.eval x).cells[0 * m + r]? = _; rw [Nat.zero_mul, Nat.zero_add]; exact hu, ?_⟩
    rw [boxR_get hl]
    exact (ARel.lay k1 k2).at_ d 0 r
  · refine ⟨boxR t m l, w.heap.size, 0, ?_, ⟨0, by simp, by simp⟩, rfl⟩
    show (if d = d then _ else _) = _; rw [if_pos rfl]

theorem AL.make {T : Nat → Option TyI} (hT : TOk P T) {t e ke bs kt d n : Nat} {kd : TK} {z zt : List ZC} {x y : Operand} {kx ky : IntKind} {i j : Int} (hop : o.op = .makeSlice t x y) (hg : o.guard = none) (hd : okD N o.dst = true) (ht : T t = some ⟨kt, .sl e ke bs, zt⟩) (he : T e = some ⟨ke, kd, z⟩) (hz : z.all ZC.ok = true)
    (hx : σ.ev x = .a (.lit (.int kx i))) (hy : σ.ev y = .a (.lit (.int ky j))) (hi : i = (n : Int)) (hj : j = (n : Int)) (hb : bs * n ≤ 281474976710656) (hn : n ≤ maxLen) (hkk : d < 1000000) (hdd : σ.rt d = none)
    (k : AL P F N ops Q rest ((σ.setR d ⟨.own, true, e, ke, n, zrow z, []⟩).putO o.dst (.a (.ref d 0 n)))) : AL P F N ops Q (o :: rest) σ := by
  obtain ⟨h1, inf, zv, h2, h3, h4, h5, h6, h7, hzo⟩ := (hT t _ ht).kind
  have hF := hT e _ he
  obtain ⟨inf', zv', g3, g4, g5, g6⟩ := hF.info
  rw [h2] at g3; injection g3 with g3; subst g3
  rw [h5] at g5; injection g5 with g5; subst g5
  have hlen : z.length = ke := hF.zl
  subst hi hj
  refine AL.step hg hd (fun a w ω β h => ?_) k
  have hn' : (n : Int) ≤ 9223372036854775807 := by simp only [maxLen] at hn; omega
  have hb' : (inf.bytes : Int) * (n : Int) ≤ 281474976710656 := by
    have : ((bs * n : Nat) : Int) ≤ 281474976710656 := by omega
    rw [h4]; rwa [Int.natCast_mul] at this
  have hrun := run_make (P := P) w t e inf zv h1 h2 h5 kx ky n n (by omega) (Int.le_refl _) hb' hn'
  simp only [Int.toNat_natCast] at hrun
  refine ⟨.slice (some ⟨w.heap.size, 0, none⟩) n n, _, _, _, ?_, h.alloc (okK_lt hkk) hdd (cs := madeCells zv.cells (n * inf.size)) (e := e) (cap := n) (R := ⟨.own, true, e, ke, n, zrow z, []⟩) rfl (fun i r hi hr _ => ?_) (fun _ => ⟨fun i r hi hr => ?_, rfl, Nat.le_refl _, hn, by rw [size_madeCells, h3], fun j u hu => zo_mod hzo (.inr (by omega)) hu⟩), ?_⟩
  · have e1 := ev_lit h hx
    have e2 := ev_lit h hy
    unfold execOp
    rw [hop]
    show ((Instr.makeSlice t (a.eval x) (a.eval y) >>= fun v => pure (Next.value v)) : Sem Next).run P w = _
    rw [Sem.run_bind, e1, e2, hrun]
    rfl
  · change i < n at hi; change r < ke at hr
    have hzr : z[r]? = some (z[r]'(by omega)) := List.getElem?_eq_getElem (by omega)
    have hlt : i * ke + r < n * inf.size := by rw [h3]; exact lt_cap hi hr (Nat.le_refl _)
    refine ⟨(z[r]'(by omega)).val, ?_, ?_⟩
    · show (madeCells zv.cells (n * inf.size))[i * ke + r]? = _
      have hmod : (i * ke + r) % zv.cells.size = r := by rw [h6, Nat.add_comm, Nat.add_mul_mod_self_right]; exact Nat.mod_eq_of_lt hr
      have hc : zv.cells[r]? = some (z[r]'(by omega)).val := by
        rw [← Array.getElem?_toList, g6]; show (z.map ZC.val)[r]? = _; rw [List.getElem?_map, hzr]; rfl
      unfold madeCells
      rw [Array.getElem?_map, Array.getElem?_range, if_pos hlt]
      simp only [Option.map_some, hmod]
      rw [getElem!_def, hc]
    · show LayAt σ ω β w d i r (.cl (zrow z i r)) _
      rw [zrow_at hzr]
      exact (ZC.lay (List.all_eq_true.1 hz _ (List.getElem_mem _))).at_ d i r
  · change r < ke at hr
    have hzr : z[r]? = some (z[r]'(by omega)) := List.getElem?_eq_getElem (by omega)
    show (Cl.cl (zrow z i r)).live = true
    rw [zrow_at hzr]
    cases (z[r]'(by omega)) <;> rfl
  · refine ⟨⟨.own, true, e, ke, n, zrow z, []⟩, by show (if d = d then _ else _) = _; rw [if_pos rfl], by simp, some ⟨w.heap.size, 0, none⟩, n, rfl, Nat.le_refl _, hn, (by intro e; cases e), fun _ => by simp, fun _ => ⟨w.heap.size, 0, by simp, by simp⟩⟩
end
end Go.Tr
namespace Go.Tr
open Go Go.RowKit

section
variable {P : Program} {F : Fm} {N : Nat} {Q : Exit → St → Prop} {σ : St} {ops : Array Oper} {o : Oper} {rest : List Oper} {a : Act} {w : World} {ω : Om} {β : Nat → Bs}

theorem Fr.setRow {w : World} {g : Nat} {cur new : Array Value} {e : Nat} {fz : Nat × Nat} (hg : w.heap[g]? = some (.cells cur e fz)) (hs : new.size = cur.size) {D : Nat → Nat → Prop} (hD : ∀ j, cur[j]? ≠ new[j]? → D g j) : Fr D w (w.setRow g new) := by
  have hset := setRow_heap w g cur new e fz hg
  refine ⟨rfl, rfl, rfl, ⟨by simp, fun b c e' fz' hb => ?_⟩, fun b j hb hn => ?_, fun b hb ho => ?_⟩
  · by_cases h : b = g
    · subst h
      rw [hg] at hb; injection hb with hb; injection hb with h1 h2 h3
      subst h1 h2 h3
      exact ⟨new, hset, hs⟩
    · exact ⟨c, by rw [setRow_other _ _ _ _ h]; exact hb, rfl⟩
  · by_cases h : b = g
    · subst h
      rw [cell_of_row _ _ _ _ _ _ hset, cell_of_row _ _ _ _ _ _ hg]
      exact (Classical.not_not.1 (fun h => hn (hD j (fun e => h e.symm)))).symm ▸ rfl
    · exact World.cell?_of_block (setRow_other _ _ _ _ h)
  · by_cases h : b = g
    · subst h; exact absurd hg (ho _ _ _)
    · exact setRow_other _ _ _ _ h

theorem mkey {i k r n : Nat} (hr : r < k) (h : i * k + r < n * k) : i < n := by
  rcases Nat.lt_or_ge i n with h' | h'
  · exact h'
  · have := Nat.mul_le_mul_right k h'; omega

theorem LayAt.drew {d i r : Nat} {x : Cl} {u : Value} (h : LayAt σ ω β w d i r x u) : LayAt σ ω β w.drew d i r x u := by
  cases x with
  | ref => exact h
  | cl c => exact CRel.frame (Meta.drew w) (fun _ _ _ => rfl) _ _ _ h (fun _ _ _ => rfl)
theorem add_addr (g o' q : Nat) : (⟨g, o', none⟩ : Addr).add q = ⟨g, o' + q, none⟩ := by unfold Addr.add; split <;> simp_all

/-- The root κ grows by m elements. -/
theorem Rel1.append (h : Rel1 F N σ a w ω β) {κ : Nat} {R R' : Root} (hkk : okK F κ) (hR : σ.rt κ = some R) (hf : R.full = true) {t ty e : Nat} {inf : TypeInfo} {zv : Value} (ht : P.underlying t = some (.slice e)) (hinf : P.info? e = some inf) (hzv : inf.zero = some zv) (hsz : inf.size = R.k)
    (hzs : zv.cells.size = R.k) (hzo : zv.cells.all (·.oneCell') = true) (hk : 0 < R.k) (hRe : R.e = e) {m : Nat} {us : List Value} (hus : us.length = m * R.k) (ho' : R'.o = .own) (hf' : R'.full = true) (he' : R'.e = e) (hk' : R'.k = R.k) (hn' : R'.n = R.n + m)
    (hold : ∀ i r, i < R.n → r < R.k → R'.get i r = (R.get i r).kill κ)
    (hnew : ∀ q r, q < m → r < R.k → (R'.get (R.n + q) r).live = true ∧ ∃ u, us[q * R.k + r]? = some u ∧ Lay (σ.drop κ) ω β w (R'.get (R.n + q) r) u)
    (hone : ∀ u ∈ us, u.oneCell' = true) {x : Value} (hx : (m = 0 ∧ ∃ b c, x = .slice b 0 c) ∨ ∃ b c, x = .slice (some b) m c ∧ ∀ j u, us[j]? = some u → w.cell? (b.add j) = some u)
    (h63 : R.n + m ≤ maxLen) (hby : (R.n + m) * inf.bytes ≤ 140737488355328) :
    ∃ u' w' ω' β', (Builtin.append_ #[t, t] ty #[.slice (β κ).A R.n (β κ).cap, x]).run P w = .ok u' w' ∧ Rel1 F N ((σ.drop κ).setR κ R') a w' ω' β' ∧ RefRel ((σ.drop κ).setR κ R') β' κ 0 (R.n + m) u' := by
  have h0 := h.roots κ R hR
  obtain ⟨f0, f1, f2, f3, f4⟩ := h0.full hf
  have hd := h.drop κ
  have hdκ : (σ.drop κ).rt κ = none := by rw [St.rt_drop, if_pos rfl]
  have hrt : ((σ.drop κ).setR κ R').rt κ = some R' := by show (if κ = κ then _ else _) = _; rw [if_pos rfl]
  have hlive : ∀ i r, i < R.n + m → r < R.k → (R'.get i r).live = true := by
    intro i r hi hr
    by_cases h1 : i < R.n
    · rw [hold i r h1 hr]
      have := f0 i r h1 hr
      cases hq : R.get i r with
      | cl c => rw [hq] at this; exact this
      | ref κ2 lo n => simp only [Cl.kill]; split <;> rfl
    · obtain ⟨q, rfl⟩ : ∃ q, i = R.n + q := ⟨i - R.n, by omega⟩
      exact (hnew q r (by omega) hr).1
  -- the old cells, at the new root
  have holdc : ∀ i r, i < R.n → r < R.k → ∃ g u, (β κ).A = some ⟨g, 0, none⟩ ∧ w.cell? ⟨g, i * R.k + r, none⟩ = some u ∧ u.oneCell' = true ∧ LayAt (σ.drop κ) ω β w κ i r (R'.get i r) u := by
    intro i r hi hr
    obtain ⟨g, j, u, ⟨o', e1, e2⟩, k2, k3, k4, k5⟩ := h0.cells i r hi hr (f0 i r hi hr)
    rcases f4 with ⟨f5, f6⟩ | ⟨g2, cur, n1, n2, n3, n4⟩
    · rw [f5] at e1; cases e1
    · rw [n1] at e1; injection e1 with e1; injection e1 with e1 e3 _
      subst e1 e3
      rw [Nat.zero_add] at e2
      subst e2
      have hone' := k5.one
      refine ⟨g2, u, n1, k2, hone', ?_⟩
      rw [hold i r hi hr]
      unfold CellRel at k5
      cases hq : R.get i r with
      | cl c => rw [hq, f1] at k5; exact k5
      | ref κ2 lo n =>
        rw [hq] at k5
        simp only [Cl.kill]
        by_cases e : κ2 = κ
        · rw [if_pos e]; exact hone'
        · rw [if_neg e]
          obtain ⟨R2, hR2, h1⟩ := k5
          exact ⟨R2.kill κ, by rw [St.rt_drop, if_neg e, hR2]; rfl, h1.le rfl (Nat.le_refl _)⟩
  have hsmall : R.n + m ≤ 9223372036854775807 := by simp only [maxLen] at h63; omega
  -- a new block
  have grow : ∀ (olds : List Value) (old : Nat), old < R.n + m → olds.length = R.n * R.k → (∀ i r, i < R.n → r < R.k → ∃ u, olds[i * R.k + r]? = some u ∧ LayAt (σ.drop κ) ω β w κ i r (R'.get i r) u) → (∀ (j : Nat) (u : Value), olds[j]? = some u → u.oneCell' = true) →
      ∀ cs : Array Value, cs = olds.toArray ++ us.toArray ++ Builtin.zeroCells zv.cells (grownCap w (R.n + m) old e - (R.n + m)) →
      ∃ ω' β', Rel1 F N ((σ.drop κ).setR κ R') a (w.drew.alloc (.cells cs e)) ω' β' ∧ RefRel ((σ.drop κ).setR κ R') β' κ 0 (R.n + m) (.slice (some ⟨w.heap.size, 0, none⟩) (R.n + m) (grownCap w (R.n + m) old e)) := by
    intro olds old hlt hol hoc hoo cs hcs
    have hge := grownCap_ge w (R.n + m) old e
    have hcm : grownCap w (R.n + m) old e ≤ maxLen := grownCap_le_maxLen w (R.n + m) old e h63
    have hr1 := (hd.drew).alloc hkk hdκ (cs := cs) (e := e) (cap := grownCap w (R.n + m) old e) (R := R') ho' (fun i r hi hr _ => ?_) (fun _ => ⟨fun i r hi hr => hlive i r (by omega) (by omega), he', by omega, hcm, ?_, ?_⟩)
    · refine ⟨_, _, hr1, R', hrt, by omega, _, _, rfl, hge, hcm, (by intro e; cases e), fun _ => by simp, fun _ => ⟨w.heap.size, 0, by simp, by simp⟩⟩
    · rw [hn'] at hi; rw [hk'] at hr
      by_cases h1 : i < R.n
      · obtain ⟨u, k1, k2⟩ := hoc i r h1 hr
        refine ⟨u, ?_, k2.drew⟩
        have hlt : i * R.k + r < olds.length := by rw [hol]; exact lt_cap h1 hr (Nat.le_refl _)
        rw [hcs, hk', ← Array.getElem?_toList]
        simp only [Array.toList_append, List.append_assoc]
        rw [List.getElem?_append_left hlt]; exact k1
      · obtain ⟨q, rfl⟩ : ∃ q, i = R.n + q := ⟨i - R.n, by omega⟩
        obtain ⟨_, u, k1, k2⟩ := hnew q r (by omega) hr
        refine ⟨u, ?_, (Lay.at_ k2 _ _ _).drew⟩
        have hlt : q * R.k + r < us.length := by rw [hus]; exact lt_cap (by omega) hr (Nat.le_refl _)
        rw [hcs, hk', ← Array.getElem?_toList]
        simp only [Array.toList_append, List.append_assoc]
        rw [List.getElem?_append_right (by rw [hol, Nat.add_mul]; omega), show (R.n + q) * R.k + r - olds.length = q * R.k + r by rw [hol, Nat.add_mul]; omega, List.getElem?_append_left hlt]
        exact k1
    · rw [hcs, hk']
      simp only [Array.size_append, List.size_toArray, size_zeroCells, hzs, hol, hus, ← Nat.add_mul]
      congr 1; omega
    · intro j u hu
      rw [hcs, Array.getElem?_append] at hu
      split at hu
      · rw [Array.getElem?_append] at hu
        split at hu
        · exact hoo j u (by simpa using hu)
        · exact hone u (List.mem_of_getElem? (by simpa using hu))
      · exact zo_mod hzo (.inr (by omega)) hu
  by_cases hroom : R.n + m ≤ (β κ).cap
  · rcases f4 with ⟨f5, f6⟩ | ⟨g, cur, n1, n2, n3, n4⟩
    · -- nothing at all
      have hm0 : m = 0 := by omega
      have hn0 : R.n = 0 := by omega
      subst hm0
      have hrun : (Builtin.append_ #[t, t] ty #[.slice (β κ).A R.n (β κ).cap, x]).run P w = .ok (.slice none 0 0) w := by
        rw [f5, f6, hn0]
        rcases hx with ⟨_, b, c, rfl⟩ | ⟨b, c, rfl, _⟩
        · cases b <;> simp [Builtin.append_, run_underlying ht, sizeOf, typeInfo, hinf, Builtin.lenOf, Builtin.firstCells, loadCells, loadCellsFrom]
        · simp [Builtin.append_, run_underlying ht, sizeOf, typeInfo, hinf, Builtin.lenOf, Builtin.firstCells, loadCells, loadCellsFrom]
      refine ⟨_, w, ω, _, hrun, hd.addR hkk hdκ ⟨none, 0⟩ ⟨fun i r hi => by omega, fun _ => ⟨fun i r hi => by omega, ho', by simp; omega, by simp, .inl ⟨by simp, by simp⟩⟩⟩, R', hrt, by omega, none, 0, by rw [hn0], by omega, Nat.zero_le _, fun _ => rfl, fun _ => by simp, fun h => by omega⟩
    · -- within the capacity
      have hfit : R.n * inf.size + us.length ≤ cur.size := by rw [hus, n3, hsz, ← Nat.add_mul]; exact Nat.mul_le_mul_right _ hroom
      have hrun : ∃ w', (Builtin.append_ #[t, t] ty #[.slice (β κ).A R.n (β κ).cap, x]).run P w = .ok (.slice (some ⟨g, 0, none⟩) (R.n + m) (β κ).cap) w' ∧ w' = w.setRow g (cur.toList.take (R.n * inf.size) ++ us ++ cur.toList.drop (R.n * inf.size + us.length)).toArray := by
        rw [n1]
        rcases hx with ⟨hm0, b, c, rfl⟩ | ⟨b, c, rfl, hbc⟩
        · subst hm0
          have hus0 : us = [] := List.eq_nil_of_length_eq_zero (by simpa using hus)
          subst hus0
          refine ⟨w, ?_, ?_⟩
          · have hr0 : R.n ≤ (β κ).cap := by omega
            cases b <;> simp [Builtin.append_, run_underlying ht, sizeOf, typeInfo, hinf, Builtin.lenOf, Builtin.firstCells, loadCells, loadCellsFrom, hr0, storeCells]
          · simp only [List.append_nil, List.length_nil, Nat.add_zero, List.take_append_drop]
            rw [Array.toArray_toList]
            exact (setRow_self w g cur e (0, 0) (by rw [n2, hRe])).symm
        · exact ⟨_, run_append_room (P := P) w t ty e inf ht hinf g R.n (β κ).cap cur (by rw [n2, hRe]) b m c us (by rw [hus, hsz]) hbc hone hroom hfit, rfl⟩
      obtain ⟨w', hrun, hw'⟩ := hrun
      rw [hsz, hus] at hw'
      have hlen1 : (cur.toList.take (R.n * R.k)).length = R.n * R.k := by
        rw [List.length_take, Array.length_toList, n3]
        have := Nat.mul_le_mul_right R.k (show R.n ≤ (β κ).cap by omega)
        omega
      have hnewcell : ∀ j, (cur.toList.take (R.n * R.k) ++ us ++ cur.toList.drop (R.n * R.k + m * R.k)).toArray[j]? = if j < R.n * R.k then cur[j]? else if j < R.n * R.k + m * R.k then us[j - R.n * R.k]? else cur[j]? := by
        intro j
        rw [← Array.getElem?_toList, List.append_assoc]
        split
        · rename_i hj
          rw [List.getElem?_append_left (by omega), List.getElem?_take, if_pos hj, Array.getElem?_toList]
        · rename_i hj
          rw [List.getElem?_append_right (by omega), hlen1]
          split
          · rename_i hj2
            rw [List.getElem?_append_left (by omega)]
          · rename_i hj2
            rw [List.getElem?_append_right (by omega), List.getElem?_drop, Array.getElem?_toList]
            congr 1; omega
      have hfr : Fr (fun b j => ω b j = some (.row κ)) w w' := by
        rw [hw']
        refine Fr.setRow (by rw [n2]) ?_ (fun j hj => ?_)
        · simp only [List.size_toArray, List.length_append, List.length_take, List.length_drop, Array.length_toList, hus]
          rw [hus, hsz] at hfit
          omega
        · rw [hnewcell] at hj
          refine (n4 j ?_).1
          have hle : R.n * R.k + m * R.k ≤ (β κ).cap * R.k := by rw [← Nat.add_mul]; exact Nat.mul_le_mul_right _ hroom
          split at hj
          · exact absurd rfl hj
          · split at hj
            · omega
            · exact absurd rfl hj
      have hheap : w'.heap[g]? = some (.cells (cur.toList.take (R.n * R.k) ++ us ++ cur.toList.drop (R.n * R.k + m * R.k)).toArray e (0, 0)) := by
        rw [hw']; exact setRow_heap w g cur _ e _ (by rw [n2, hRe])
      have hone2 : ∀ j, j < (β κ).cap * R.k → One w' g j := by
        intro j hj
        have hjn := hnewcell j
        unfold One
        rw [cell_of_row _ _ _ _ _ _ hheap, hjn]
        have hold1 : One w g j := (n4 j hj).2
        unfold One at hold1
        rw [cell_of_row _ _ _ _ _ _ n2] at hold1
        split
        · exact hold1
        · split
          · have hlt : j - R.n * R.k < us.length := by omega
            exact ⟨_, List.getElem?_eq_getElem hlt, hone _ (List.getElem_mem hlt)⟩
          · exact hold1
      have hd2 := hd.rewrite hdκ hfr
      have hkeep : ∀ b j x, ω b j = some x → x ≠ .row κ → w'.cell? ⟨b, j, none⟩ = w.cell? ⟨b, j, none⟩ := fun b j x hx hne =>
        hfr.cell b j (h.wr b j x hx).1 (by rw [hx]; intro e; injection e with e; exact hne e)
      have hlay : ∀ i r x u, LayAt (σ.drop κ) ω β w κ i r x u → LayAt (σ.drop κ) ω β w' κ i r x u := by
        intro i r x u hl
        cases x with
        | ref => exact hl
        | cl c => exact CRel.frame hfr.mt (fun b j hz => hkeep b j _ hz (by intro e; cases e)) _ _ _ hl (fun b j hz => hkeep b j _ hz (by intro e; cases e))
      refine ⟨_, w', ω, _, hrun, hd2.addR hkk hdκ ⟨some ⟨g, 0, none⟩, (β κ).cap⟩ ⟨fun i r hi hr hl => ?_, fun _ => ⟨fun i r hi hr => hlive i r (by omega) (by omega), ho', by simp; omega, by simpa using f3, .inr ⟨g, _, by simp, by rw [he']; exact hheap, ?_, fun j hj => ⟨(n4 j (by simpa [hk'] using hj)).1, hone2 j (by simpa [hk'] using hj)⟩⟩⟩⟩,
        R', hrt, by omega, _, _, rfl, hroom, f3, (by intro e; cases e), fun _ => by simp, fun _ => ⟨g, 0, by simp, by simp⟩⟩
      · rw [hn'] at hi; rw [hk'] at hr
        have hlt : i * R.k + r < (β κ).cap * R.k := lt_cap hi hr hroom
        have hcellrel : ∀ u, LayAt (σ.drop κ) ω β w' κ i r (R'.get i r) u → CellRel ((σ.drop κ).setR κ R') ω (fun κ_1 => if κ_1 = κ then ⟨some ⟨g, 0, none⟩, (β κ).cap⟩ else β κ_1) w' κ R' i r u := by
          intro u hu
          unfold CellRel
          unfold LayAt at hu
          cases hq : R'.get i r with
          | ref κ2 lo n =>
            rw [hq] at hu
            obtain ⟨R2, hR2, h1⟩ := hu
            have hs := StAdd (β := β) (D := R') hdκ ⟨some ⟨g, 0, none⟩, (β κ).cap⟩ _ _ hR2
            exact ⟨R2, hs.2, by rw [hs.1]; exact h1⟩
          | cl c => rw [hq] at hu; show CRel w' (Zr ω R'.o) c _ u; rw [ho']; exact hu
        have hat : AtA R' ⟨some ⟨g, 0, none⟩, (β κ).cap⟩ i r g (i * R.k + r) := ⟨0, rfl, by rw [hk']; omega⟩
        by_cases h1 : i < R.n
        · obtain ⟨g', u, e1, k1, _, k2⟩ := holdc i r h1 hr
          rw [n1] at e1; injection e1 with e1; injection e1 with e1 _ _; subst e1
          refine ⟨g, i * R.k + r, u, by simpa using hat, ?_, by rw [ho']; exact (n4 _ hlt).1, fun _ => by simp [World.frozen?, hheap], hcellrel u (hlay _ _ _ _ k2)⟩
          rw [cell_of_row _ _ _ _ _ _ hheap, hnewcell, if_pos (lt_cap h1 hr (Nat.le_refl _))]
          rw [cell_of_row _ _ _ _ _ _ n2] at k1; exact k1
        · obtain ⟨q, rfl⟩ : ∃ q, i = R.n + q := ⟨i - R.n, by omega⟩
          obtain ⟨_, u, k1, k2⟩ := hnew q r (by omega) hr
          refine ⟨g, (R.n + q) * R.k + r, u, by simpa using hat, ?_, by rw [ho']; exact (n4 _ hlt).1, fun _ => by simp [World.frozen?, hheap], hcellrel u (hlay _ _ _ _ (Lay.at_ k2 _ _ _))⟩
          have h2 : q * R.k + r < m * R.k := lt_cap (by omega) hr (Nat.le_refl _)
          rw [cell_of_row _ _ _ _ _ _ hheap, hnewcell, Nat.add_mul, if_neg (by omega), if_pos (by omega), show R.n * R.k + q * R.k + r - R.n * R.k = q * R.k + r by omega]
          exact k1
      · rw [hk']
        simp only [List.size_toArray, List.length_append, List.length_take, List.length_drop, Array.length_toList, hus]
        rw [hus, hsz] at hfit
        simp; omega
  · -- a new block
    have hm : 0 < m := by omega
    rcases hx with ⟨hm0, _⟩ | ⟨b, c, rfl, hbc⟩
    · omega
    rcases f4 with ⟨f5, f6⟩ | ⟨g, cur, n1, n2, n3, n4⟩
    · have hn0 : R.n = 0 := by omega
      have hr := run_append_nil (P := P) w t ty e inf zv ht hinf hzv b m c us (by rw [hus, hsz]) hbc hm (by omega) (by rw [hn0, Nat.zero_add] at hby; omega)
      obtain ⟨ω', β', k1, k2⟩ := grow [] 0 (by omega) (by simp [hn0]) (fun i r hi => by omega) (fun j u hu => by simp at hu) _ rfl
      rw [hn0, Nat.zero_add] at k1 k2 ⊢
      rw [f5, f6]
      exact ⟨_, _, ω', β', hr, by simpa using k1, k2⟩
    · let olds : List Value := (List.range (R.n * R.k)).map fun j => (w.cell? ⟨g, j, none⟩).getD undef
      have holds : ∀ i r, i < R.n → r < R.k → ∃ u, olds[i * R.k + r]? = some u ∧ w.cell? ⟨g, i * R.k + r, none⟩ = some u ∧ LayAt (σ.drop κ) ω β w κ i r (R'.get i r) u := by
        intro i r hi hr
        obtain ⟨g', u, e1, k1, _, k2⟩ := holdc i r hi hr
        rw [n1] at e1; injection e1 with e1; injection e1 with e1 _ _; subst e1
        refine ⟨u, ?_, k1, k2⟩
        have hlt : i * R.k + r < R.n * R.k := lt_cap hi hr (Nat.le_refl _)
        simp only [olds]
        rw [List.getElem?_map, List.getElem?_range hlt]
        simp [k1]
      have holdo : ∀ (j : Nat) (u : Value), olds[j]? = some u → u.oneCell' = true := by
        intro j u hj
        have hlt : j < R.n * R.k := by
          have := (List.getElem?_eq_some_iff.1 hj).1
          simpa [olds] using this
        have hdiv : j = j / R.k * R.k + j % R.k := by rw [Nat.mul_comm]; exact (Nat.div_add_mod j R.k).symm
        obtain ⟨u', k1, k2, _⟩ := holds (j / R.k) (j % R.k) (Nat.div_lt_of_lt_mul (by rw [Nat.mul_comm]; exact hlt)) (Nat.mod_lt _ hk)
        rw [← hdiv] at k1 k2
        rw [hj] at k1; injection k1 with k1; subst k1
        obtain ⟨g', u2, e1, k3, k4, _⟩ := holdc (j / R.k) (j % R.k) (Nat.div_lt_of_lt_mul (by rw [Nat.mul_comm]; exact hlt)) (Nat.mod_lt _ hk)
        rw [n1] at e1; injection e1 with e1; injection e1 with e1 _ _; subst e1
        rw [← hdiv, k2] at k3; injection k3 with k3; subst k3; exact k4
      have hcells : ∀ j u, olds[j]? = some u → w.cell? ((⟨g, 0, none⟩ : Addr).add j) = some u := by
        intro j u hj
        have hlt : j < R.n * R.k := by
          have := (List.getElem?_eq_some_iff.1 hj).1
          simpa [olds] using this
        have hdiv : j = j / R.k * R.k + j % R.k := by rw [Nat.mul_comm]; exact (Nat.div_add_mod j R.k).symm
        obtain ⟨u', k1, k2, _⟩ := holds (j / R.k) (j % R.k) (Nat.div_lt_of_lt_mul (by rw [Nat.mul_comm]; exact hlt)) (Nat.mod_lt _ hk)
        rw [← hdiv] at k1 k2
        rw [hj] at k1; injection k1 with k1; subst k1
        rw [add_addr, Nat.zero_add]; exact k2
      have hr := run_append_grow (P := P) w t ty e inf zv ht hinf hzv ⟨g, 0, none⟩ R.n (β κ).cap olds (by simp [olds, hsz]) hcells b m c us (by rw [hus, hsz]) hbc (by omega) (by omega) (growslice_fits (by omega) hby)
      obtain ⟨ω', β', k1, k2⟩ := grow olds (β κ).cap (by omega) (by simp [olds]) (fun i r hi hr => by obtain ⟨u, k1, _, k3⟩ := holds i r hi hr; exact ⟨u, k1, k3⟩) holdo _ rfl
      rw [n1]
      exact ⟨_, _, ω', β', hr, k1, k2⟩
end
end Go.Tr
namespace Go.Tr
open Go Go.RowKit

def spl (l : List At) (off : Nat) (xs : List At) : List At := l.take off ++ xs ++ l.drop (off + xs.length)
def fillA : List At → List (Nat × List At) → List At
  | l, [] => l
  | l, (off, xs) :: ps => fillA (spl l off xs) ps
def fillOk (m : Nat) : List (Nat × List At) → Bool
  | [] => true
  | (off, xs) :: ps => decide (off + xs.length ≤ m) && fillOk m ps
def ZC.at_ : ZC → At
  | .lit v => .lit v
  | .sl e k => .nil e k

theorem spl_len {l xs : List At} {off : Nat} (h : off + xs.length ≤ l.length) : (spl l off xs).length = l.length := by simp [spl]; omega
theorem spl_get {l xs : List At} {off : Nat} (h : off + xs.length ≤ l.length) (q : Nat) : (spl l off xs)[q]? = if off ≤ q ∧ q < off + xs.length then xs[q - off]? else l[q]? := by
  have hl : (l.take off).length = off := by simp; omega
  unfold spl
  rw [List.append_assoc]
  by_cases h1 : q < off
  · rw [List.getElem?_append_left (by omega), List.getElem?_take, if_pos h1, if_neg (by omega)]
  · rw [List.getElem?_append_right (by omega), hl]
    by_cases h2 : q < off + xs.length
    · rw [List.getElem?_append_left (by omega), if_pos ⟨by omega, h2⟩]
    · rw [List.getElem?_append_right (by omega), List.getElem?_drop, if_neg (by omega)]
      congr 1; omega

theorem foldl_set (cs : List Value) : ∀ (k off : Nat) (c : Array Value), off + k + cs.length ≤ c.size →
    ((cs.zipIdx k).foldl (fun c (p : Value × Nat) => c.setIfInBounds (off + p.2) p.1) c).size = c.size ∧
    ∀ q, ((cs.zipIdx k).foldl (fun c (p : Value × Nat) => c.setIfInBounds (off + p.2) p.1) c)[q]? = if off + k ≤ q ∧ q < off + k + cs.length then cs[q - (off + k)]? else c[q]? := by
  induction cs with
  | nil => intro k off c h; exact ⟨rfl, fun q => by rw [if_neg (fun h => by have := h.2; simp at this; omega)]; rfl⟩
  | cons x cs ih =>
    intro k off c h
    simp only [List.length_cons] at h
    obtain ⟨h1, h2⟩ := ih (k + 1) off (c.setIfInBounds (off + k) x) (by simp; omega)
    simp only [List.zipIdx_cons, List.foldl_cons]
    refine ⟨by rw [h1]; simp, fun q => ?_⟩
    rw [h2]
    by_cases hq : q = off + k
    · subst hq
      rw [if_neg (by omega), if_pos ⟨Nat.le_refl _, by simp⟩, Nat.sub_self, Array.getElem?_setIfInBounds, if_pos rfl, if_pos (by omega)]
      rfl
    · by_cases h3 : off + (k + 1) ≤ q ∧ q < off + (k + 1) + cs.length
      · rw [if_pos h3, if_pos ⟨by omega, by simp; omega⟩, show q - (off + k) = (q - (off + (k + 1))) + 1 by omega, List.getElem?_cons_succ]
      · rw [if_neg h3, if_neg (by simp; omega), Array.getElem?_setIfInBounds, if_neg (by omega)]

theorem fill_step {off size : Nat} {cells : Array Value} {v : Value} {i : Nat} {place : Nat → Option (Nat × Nat)} (hp : place i = some (off, size)) (hs : v.cells.size = size) (ho : off + size ≤ cells.size) :
    ∃ c', (∀ rest, Instr.fill place cells ((i, v) :: rest) = Instr.fill place c' rest) ∧ c'.size = cells.size ∧ ∀ q, c'[q]? = if off ≤ q ∧ q < off + size then v.cells[q - off]? else cells[q]? := by
  obtain ⟨h1, h2⟩ := foldl_set v.cells.toList 0 off cells (by simp; omega)
  refine ⟨_, fun rest => ?_, h1, fun q => ?_⟩
  · show (match place i with | none => none | some (off, size) => if v.cells.size ≠ size || off + v.cells.size > cells.size then none else Instr.fill place (v.cells.zipIdx.foldl (fun cs (c, j) => cs.setIfInBounds (off + j) c) cells) rest) = _
    rw [hp]
    simp only
    rw [if_neg (by simp; omega), ← Array.foldl_toList, Array.toList_zipIdx]
  · rw [h2]
    simp only [Nat.add_zero, Array.length_toList, Array.getElem?_toList]
    rw [hs]

section
variable {P : Program} {F : Fm} {N : Nat} {Q : Exit → St → Prop} {σ : St} {ops : Array Oper} {o : Oper} {rest : List Oper} {a : Act} {w : World} {ω : Om} {β : Nat → Bs}

def FillR (σ : St) (β : Nat → Bs) (w : World) (cells : Array Value) (l : List At) : Prop := cells.size = l.length ∧ ∀ (j : Nat) (x : At), l[j]? = some x → ∃ y, cells[j]? = some y ∧ ARel σ β w x y

/-- The parts of a literal: the place, the size, the operand, what it is. -/
def PartsOk (σ : St) (place : Nat → Option (Nat × Nat)) : List (Nat × Operand) → List (Nat × List At) → Prop
  | [], [] => True
  | (i, x) :: ps, (off, xs) :: qs => place i = some (off, xs.length) ∧ (σ.ev x).atoms = some xs ∧ PartsOk σ place ps qs
  | _, _ => False

theorem fill_rel (h : Rel1 F N σ a w ω β) {place : Nat → Option (Nat × Nat)} : ∀ (ps : List (Nat × Operand)) (qs : List (Nat × List At)) (cells : Array Value) (l : List At), PartsOk σ place ps qs → fillOk l.length qs = true → FillR σ β w cells l →
    ∃ c', Instr.fill place cells (ps.map fun p => (p.1, a.eval p.2)) = some c' ∧ FillR σ β w c' (fillA l qs) ∧ (fillA l qs).length = l.length
  | [], [], cells, l, _, _, hr => ⟨cells, rfl, hr, rfl⟩
  | (i, x) :: ps, (off, xs) :: qs, cells, l, hp, hok, hr => by
    obtain ⟨h1, h2, h3⟩ := hp
    simp only [fillOk, Bool.and_eq_true, decide_eq_true_eq] at hok
    obtain ⟨k1, k2⟩ := VRel.cells h (h.ev x) h2
    obtain ⟨c', m1, m2, m3⟩ := fill_step (v := a.eval x) (cells := cells) h1 k1 (by rw [hr.1]; exact hok.1)
    have hlen := spl_len hok.1
    obtain ⟨c2, n1, n2, n3⟩ := fill_rel h ps qs c' (spl l off xs) h3 (by rw [hlen]; exact hok.2) ⟨by rw [m2, hr.1, hlen], fun j y hj => by
      rw [spl_get hok.1] at hj
      rw [m3]
      by_cases hq : off ≤ j ∧ j < off + xs.length
      · rw [if_pos hq] at hj ⊢
        have : j - off < (a.eval x).cells.size := by omega
        refine ⟨_, Array.getElem?_eq_getElem this, (k2 (j - off) y _ hj ?_).1⟩
        rw [Array.getElem?_toList]; exact Array.getElem?_eq_getElem this
      · rw [if_neg hq] at hj ⊢
        exact hr.2 j y hj⟩
    exact ⟨c2, by simp only [List.map_cons]; rw [m1]; exact n1, n2, n3.trans hlen⟩
  | [], _ :: _, _, _, hp, _, _ => hp.elim
  | _ :: _, [], _, _, hp, _, _ => hp.elim

theorem ZC.arel {z : ZC} (h : z.ok = true) : ARel σ β w z.at_ z.val := by
  cases z with
  | lit v => exact ⟨rfl, h⟩
  | sl e k => rfl

theorem AL.build {T : Nat → Option TyI} (hT : TOk P T) {t m : Nat} {pl : List (Nat × Nat)} {z : List ZC} {parts : Array (Nat × Operand)} {qs : List (Nat × List At)} (hop : o.op = .build t parts) (hg : o.guard = none) (hd : okD N o.dst = true)
    (ht : T t = some ⟨m, .st pl, z⟩) (hz : z.all ZC.ok = true) (hp : PartsOk σ (fun i => pl[i]?) parts.toList qs) (hok : fillOk m qs = true) (k : AL P F N ops Q rest (σ.putO o.dst (.agg (fillA (z.map ZC.at_) qs)))) : AL P F N ops Q (o :: rest) σ := by
  have hF := hT t _ ht
  obtain ⟨inf, zv, h3, h4, h5, h6⟩ := hF.info
  have hlen : z.length = m := hF.zl
  obtain ⟨fs, h1, h2, _⟩ := hF.kind
  refine AL.val hg hd (fun a w ω β h => ?_) k
  have hr0 : FillR σ β w zv.cells (z.map ZC.at_) := by
    refine ⟨by rw [← Array.length_toList, h6]; simp, fun j x hj => ?_⟩
    rw [List.getElem?_map] at hj
    cases hq : z[j]? with
    | none => rw [hq] at hj; cases hj
    | some zc =>
      rw [hq] at hj; injection hj with hj
      subst hj
      refine ⟨zc.val, ?_, ZC.arel (List.all_eq_true.1 hz _ (List.mem_of_getElem? hq))⟩
      rw [← Array.getElem?_toList, h6]
      show (z.map ZC.val)[j]? = _
      rw [List.getElem?_map, hq]; rfl
  obtain ⟨c', k1, k2, k3⟩ := fill_rel h parts.toList qs zv.cells (z.map ZC.at_) hp (by simpa [hlen] using hok) hr0
  refine ⟨.agg c', ?_, c', rfl, k2.1, k2.2⟩
  have hbuilt : P.built t ((parts.map fun (i, x) => (i, a.eval x)).toList) = some c' := by
    unfold Program.built
    rw [h3, h1]
    simp only [h5, h2]
    rw [Array.toList_map, ← k1]
    congr 1
    funext i
    simp
  have hrun := run_build w t (parts.map fun (i, x) => (i, a.eval x)) c' hbuilt
  unfold execOp
  rw [hop]
  show ((Instr.build t (parts.map fun (i, x) => (i, a.eval x)) >>= fun v => pure (Next.value v)) : Sem Next).run P w = _
  rw [Sem.run_bind, hrun]
  rfl

def zerosA (z : List ZC) : Nat → List At
  | 0 => []
  | n + 1 => z.map ZC.at_ ++ zerosA z n
theorem zerosA_len (z : List ZC) : ∀ n, (zerosA z n).length = n * z.length
  | 0 => by simp [zerosA]
  | n + 1 => by simp [zerosA, zerosA_len z n, Nat.add_mul]; omega
theorem zerosA_get (z : List ZC) : ∀ (n i r : Nat), i < n → r < z.length → (zerosA z n)[i * z.length + r]? = (z[r]?).map ZC.at_
  | 0, i, r, h, _ => by omega
  | n + 1, 0, r, _, hr => by
    rw [Nat.zero_mul, Nat.zero_add, zerosA, List.getElem?_append_left (by simpa using hr), List.getElem?_map]
  | n + 1, i + 1, r, h, hr => by
    rw [zerosA, List.getElem?_append_right (by rw [List.length_map, Nat.add_mul]; omega), List.length_map, show (i + 1) * z.length + r - z.length = i * z.length + r by rw [Nat.add_mul]; omega]
    exact zerosA_get z n i r (by omega) hr

/-- The root of a slice literal. -/
def litR (e ke n : Nat) (l : List At) : Root := ⟨.own, true, e, ke, n, fun _ _ => .any, mkops ke n (l.map At.cl)⟩
  where mkops (ke : Nat) : Nat → List Cl → List ((Nat × Nat) × Cl)
  | 0, _ => []
  | n + 1, l => mkops ke n (l.take (n * ke)) ++ mkop n 0 (l.drop (n * ke))

theorem litR_get (ke : Nat) {c : Cl} : ∀ (n : Nat) (l : List Cl) (L : List ((Nat × Nat) × Cl)) (i r : Nat), l.length = n * ke → i < n → r < ke → look2 (litR.mkops ke n l ++ L) i r c = (l[i * ke + r]?).getD c
  | 0, _, _, i, _, _, hi, _ => by omega
  | n + 1, l, L, i, r, hl, hi, hr => by
    have hsplit : (l.drop (n * ke)).length = ke := by simp [hl, Nat.add_mul]
    rw [litR.mkops, List.append_assoc]
    by_cases h : i < n
    · have := litR_get ke n (l.take (n * ke)) (mkop n 0 (l.drop (n * ke)) ++ L) i r (by simp [hl, Nat.add_mul]) h hr (c := c)
      rw [this, List.getElem?_take, if_pos (lt_cap h hr (Nat.le_refl _))]
    · have hin : i = n := by omega
      subst hin
      have hskip : ∀ (m : Nat) (l : List Cl) (L : List ((Nat × Nat) × Cl)), m ≤ i → look2 (litR.mkops ke m l ++ L) i r c = look2 L i r c := by
        intro m
        induction m with
        | zero => intro l L _; rfl
        | succ m ih =>
          intro l L hm
          rw [litR.mkops, List.append_assoc, ih _ _ (by omega), look2_mkop, if_neg (by omega)]
      rw [hskip _ _ _ (Nat.le_refl _), look2_mkop, if_pos ⟨rfl, Nat.zero_le _, by omega⟩, Nat.sub_zero, List.getElem?_drop]

theorem AL.buildSl {T : Nat → Option TyI} (hT : TOk P T) {t e ke bs kt d n : Nat} {kd : TK} {z zt : List ZC} {parts : Array (Nat × Operand)} {qs : List (Nat × List At)} (hop : o.op = .buildSlice t n parts) (hg : o.guard = none) (hd : okD N o.dst = true)
    (ht : T t = some ⟨kt, .sl e ke bs, zt⟩) (he : T e = some ⟨ke, kd, z⟩) (hz : z.all ZC.ok = true) (hp : PartsOk σ (fun i => some (i * ke, ke)) parts.toList qs) (hok : fillOk (n * ke) qs = true) (hn0 : 0 < n) (hn : n * ke ≤ 2 ^ 24) (hkk : d < 1000000) (hdd : σ.rt d = none)
    (k : AL P F N ops Q rest ((σ.setR d (litR e ke n (fillA (zerosA z n) qs))).putO o.dst (.a (.ref d 0 n)))) : AL P F N ops Q (o :: rest) σ := by
  obtain ⟨h1, inf, zv, h2, h3, h4, h5, h6, h7, hzo⟩ := (hT t _ ht).kind
  have hF := hT e _ he
  obtain ⟨inf', zv', g3, g4, g5, g6⟩ := hF.info
  rw [h2] at g3; injection g3 with g3; subst g3
  rw [h5] at g5; injection g5 with g5; subst g5
  have hlen : z.length = ke := hF.zl
  refine AL.step hg hd (fun a w ω β h => ?_) k
  have hr0 : FillR σ β w ((Array.range (n * inf.size)).map (zv.cells[· % zv.cells.size]!)) (zerosA z n) := by
    refine ⟨by simp [zerosA_len, hlen, h3], fun j x hj => ?_⟩
    have hjl : j < n * ke := by
      have := (List.getElem?_eq_some_iff.1 hj).1
      rwa [zerosA_len, hlen] at this
    have hdiv : j = j / ke * z.length + j % ke := by rw [hlen, Nat.mul_comm]; exact (Nat.div_add_mod j ke).symm
    have hmod : j % ke < z.length := by rw [hlen]; exact Nat.mod_lt _ h7
    have hzr : z[j % ke]? = some (z[j % ke]'hmod) := List.getElem?_eq_getElem hmod
    rw [hdiv, zerosA_get z n (j / ke) (j % ke) (Nat.div_lt_of_lt_mul (by rw [Nat.mul_comm]; exact hjl)) hmod, hzr] at hj
    injection hj with hj
    subst hj
    refine ⟨(z[j % ke]'hmod).val, ?_, ZC.arel (List.all_eq_true.1 hz _ (List.getElem_mem _))⟩
    have hc : zv.cells[j % ke]? = some (z[j % ke]'hmod).val := by
      rw [← Array.getElem?_toList, g6]; show (z.map ZC.val)[j % ke]? = _; rw [List.getElem?_map, hzr]; rfl
    rw [Array.getElem?_map, Array.getElem?_range, if_pos (by rw [h3]; exact hjl)]
    simp only [Option.map_some, h6]
    rw [getElem!_def, hc]
  obtain ⟨c', k1, k2, k3⟩ := fill_rel h parts.toList qs _ (zerosA z n) hp (by rw [zerosA_len, hlen]; exact hok) hr0
  have hcl : c'.size = n * ke := by rw [k2.1, k3, zerosA_len, hlen]
  have hrun := run_buildSlice w t e n (parts.map fun (i, x) => (i, a.eval x)) c' inf zv h1 h2 h5 (by rw [h3]; omega) (by rw [h3]; have := Nat.mul_pos hn0 h7; omega) (by rw [Array.toList_map, ← k1, h3])
  have hmx : n ≤ maxLen := by
    have := Nat.le_mul_of_pos_right n h7
    simp only [maxLen]; omega
  have hget : ∀ i r, i < n → r < ke → ∃ x, (fillA (zerosA z n) qs)[i * ke + r]? = some x ∧ (litR e ke n (fillA (zerosA z n) qs)).get i r = x.cl := by
    intro i r hi hr
    have hlt : i * ke + r < (fillA (zerosA z n) qs).length := by rw [k3, zerosA_len, hlen]; exact lt_cap hi hr (Nat.le_refl _)
    refine ⟨_, List.getElem?_eq_getElem hlt, ?_⟩
    have := litR_get ke n ((fillA (zerosA z n) qs).map At.cl) [] i r (by rw [List.length_map, k3, zerosA_len, hlen]) hi hr (c := .cl .any)
    rw [List.append_nil] at this
    show look2 (litR.mkops ke n ((fillA (zerosA z n) qs).map At.cl)) i r (.cl .any) = _
    rw [this, List.getElem?_map, List.getElem?_eq_getElem hlt]
    rfl
  refine ⟨.slice (some ⟨w.heap.size, 0, none⟩) n n, _, _, _, ?_, h.alloc (okK_lt hkk) hdd (cs := c') (e := e) (cap := n) (R := litR e ke n (fillA (zerosA z n) qs)) rfl (fun i r hi hr _ => ?_) (fun _ => ⟨fun i r hi hr => ?_, rfl, Nat.le_refl _, hmx, hcl, fun j u hu => ?_⟩), ?_⟩
  · unfold execOp
    rw [hop]
    show ((Instr.buildSlice t n (parts.map fun (i, x) => (i, a.eval x)) >>= fun v => pure (Next.value v)) : Sem Next).run P w = _
    rw [Sem.run_bind, hrun]
    rfl
  · obtain ⟨x, hx, hgx⟩ := hget i r hi hr
    obtain ⟨y, hy, hrel⟩ := k2.2 _ x hx
    refine ⟨y, hy, ?_⟩
    rw [hgx]
    exact (ARel.lay hrel (ARel.one h hrel)).at_ d i r
  · obtain ⟨x, hx, hgx⟩ := hget i r hi hr
    rw [hgx]; exact At.cl_live x
  · have hjl : j < c'.size := (Array.getElem?_eq_some_iff.1 hu).1
    rw [k2.1] at hjl
    obtain ⟨y, hy, hrel⟩ := k2.2 j _ (List.getElem?_eq_getElem hjl)
    rw [hu] at hy; injection hy with hy; subst hy
    exact ARel.one h hrel
  · refine ⟨litR e ke n (fillA (zerosA z n) qs), by show (if d = d then _ else _) = _; rw [if_pos rfl], by simp [litR], some ⟨w.heap.size, 0, none⟩, n, rfl, Nat.le_refl _, hmx, (by intro e; cases e), fun _ => by simp, fun _ => ⟨w.heap.size, 0, by simp, by simp⟩⟩

theorem AL.buildSl0 {T : Nat → Option TyI} (hT : TOk P T) {t e ke bs kt d : Nat} {zt : List ZC} {parts : Array (Nat × Operand)} (hop : o.op = .buildSlice t 0 parts) (hpa : parts = #[]) (hg : o.guard = none) (hd : okD N o.dst = true)
    (ht : T t = some ⟨kt, .sl e ke bs, zt⟩) (hkk : d < 1000000) (hdd : σ.rt d = none)
    (k : AL P F N ops Q rest ((σ.setR d ⟨.own, true, e, ke, 0, fun _ _ => .any, []⟩).putO o.dst (.a (.ref d 0 0)))) : AL P F N ops Q (o :: rest) σ := by
  obtain ⟨h1, inf, zv, h2, h3, h4, h5, h6, h7, hzo⟩ := (hT t _ ht).kind
  subst hpa
  refine AL.step hg hd (fun a w ω β h => ?_) k
  refine ⟨.slice (some ⟨w.heap.size, 0, none⟩) 0 0, _, _, _, ?_, h.alloc (okK_lt hkk) hdd (cs := #[]) (e := e) (cap := 0) (R := ⟨.own, true, e, ke, 0, fun _ _ => .any, []⟩) rfl (fun i r hi hr _ => by change i < 0 at hi; omega) (fun _ => ⟨fun i r hi hr => by change i < 0 at hi; omega, rfl, Nat.le_refl _, Nat.zero_le _, by simp, fun j u hu => by simp at hu⟩), ?_⟩
  · generalize a.eval = ρ
    simp [execOp, hop, go_sem, Instr.buildSlice, run_underlying h1, sizeOf, typeInfo, h2, Instr.fill, newRow, Array.range_zero']
  · refine ⟨⟨.own, true, e, ke, 0, fun _ _ => .any, []⟩, by show (if d = d then _ else _) = _; rw [if_pos rfl], by simp, some ⟨w.heap.size, 0, none⟩, 0, rfl, Nat.le_refl _, Nat.zero_le _, (by intro e; cases e), fun _ => by simp, fun hp => by omega⟩
end
end Go.Tr
