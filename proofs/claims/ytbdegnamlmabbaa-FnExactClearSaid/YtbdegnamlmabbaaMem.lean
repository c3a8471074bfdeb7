/- Slices of integers: one that reads as a list, one that the call owns. -/
import Derived.Test.YtbdegnamlmabbaaChecked
import Derived.Test.YtbdegnamlmabbaaRet
import Derived.WalkKit
import Derived.Handy
import Derived.Lib.Hide
import Derived.Laws.OwnMore
import Derived.Below
import Derived.Deep.Draws
namespace Go.Proofs.Ytbdegnamlmabbaa
open Go Go.RowKit

theorem info_int : (Try.prog.info? 3).map (fun i => (i.zero, i.size, i.bytes)) = some (some (.int .i64 0), 1, 8) := by kernel_rfl

/-- The slice value of address A and length n reads as the integers xs. -/
def RI (w : World) (A : Option Addr) (n : Nat) (xs : List Int) : Prop :=
  xs.length = n ∧ (∀ x ∈ xs, (Lit.int .i64 x).wf = true) ∧ (0 < n → ∃ b o, A = some ⟨b, o, none⟩ ∧ ∀ i, i < n → w.cell? ⟨b, o + i, none⟩ = some (.int .i64 (xs.getD i 0)))

/-- The slice value owns the row (a block from B on) in which the integers xs lie. -/
def OI (w : World) (B : Nat) (A : Option Addr) (n c : Nat) (xs : List Int) : Prop :=
  (∀ x ∈ xs, (Lit.int .i64 x).wf = true) ∧ w.ownsRow B 3 1 (.slice A n c) n (xs.map (Value.int .i64))

theorem wf_64 {n : Int} (h : (Lit.int .i64 n).wf = true) : -9223372036854775808 ≤ n ∧ n ≤ 9223372036854775807 := by
  simpa [Lit.wf, IntKind.min, IntKind.max, IntKind.bits, IntKind.signed] using h
theorem wf_mk {n : Int} (h : -9223372036854775808 ≤ n ∧ n ≤ 9223372036854775807) : (Lit.int .i64 n).wf = true := by
  simpa [Lit.wf, IntKind.min, IntKind.max, IntKind.bits, IntKind.signed] using h

section
variable {w w' : World} {A : Option Addr} {n c B : Nat} {xs : List Int}

theorem RI.at_ (h : RI w A n xs) {k : Nat} (hk : k < n) : ∃ b o x, A = some ⟨b, o, none⟩ ∧ xs[k]? = some x ∧ (-9223372036854775808 ≤ x ∧ x ≤ 9223372036854775807) ∧ w.cell? ⟨b, o + k, none⟩ = some (.int .i64 x) := by
  obtain ⟨b, o, e, hc⟩ := h.2.2 (by omega)
  have hl : k < xs.length := by rw [h.1]; exact hk
  refine ⟨b, o, xs[k], e, List.getElem?_eq_getElem hl, wf_64 (h.2.1 _ (List.getElem_mem hl)), ?_⟩
  rw [hc k hk]; simp [hl]

theorem RI.keep (h : RI w A n xs) (hk : ∀ b o, A = some ⟨b, o, none⟩ → 0 < n → w'.heap[b]? = w.heap[b]?) : RI w' A n xs :=
  ⟨h.1, h.2.1, fun hn => by
    obtain ⟨b, o, e, hc⟩ := h.2.2 hn
    exact ⟨b, o, e, fun i hi => (World.cell?_of_block (hk b o e hn)).trans (hc i hi)⟩⟩

theorem RI.lt (h : RI w A n xs) : ∀ b o, A = some ⟨b, o, none⟩ → 0 < n → b < w.heap.size := by
  intro b o e hn
  obtain ⟨b', o', e', hc⟩ := h.2.2 hn
  rw [e] at e'; injection e' with e'; injection e' with e1 e2
  subst e1
  exact World.block_lt_of_cell? w ⟨b, o' + 0, none⟩ (hc 0 hn)

theorem RI.below (h : RI w A n xs) (hb : Below w.heap.size w w') : RI w' A n xs := h.keep fun b o e hn => hb.block b (h.lt b o e hn)
theorem RI.drew (h : RI w A n xs) : RI w.drew A n xs := h
theorem RI.drewN (h : RI w A n xs) (k : Nat) : RI (w.drewN k) A n xs := h
theorem RI.alloc (h : RI w A n xs) (o : Obj) : RI (w.alloc o) A n xs := h.below ((Below.refl _ _).alloc (Nat.le_refl _) _)

theorem OI.form (h : OI w B A n c xs) (hn : 0 < n) : ∃ g, A = some ⟨g, 0, none⟩ ∧ B ≤ g ∧ g < w.heap.size := by
  rcases h.2.2 with ⟨_, h0⟩ | ⟨g, cap, cur, e, hB, hg, _⟩
  · omega
  · injection e with e1 _ _
    exact ⟨g, e1, hB, (Array.getElem?_eq_some_iff.1 hg).1⟩
theorem OI.len (h : OI w B A n c xs) : xs.length = n := by have := h.2.1; simpa using this
theorem OI.reads (h : OI w B A n c xs) : RI w A n xs :=
  ⟨h.len, h.1, fun hn => by
    obtain ⟨g, rfl, _, _⟩ := h.form hn
    have hl := h.len
    refine ⟨g, 0, rfl, fun i hi => ?_⟩
    have hc := h.2
    rcases hc.2 with ⟨e, _⟩ | ⟨g', cap, cur, e, _, hg, _, _, _, ht⟩
    · cases e
    · injection e with e1 e2 e3
      injection e1 with e1
      injection e1 with e1 _ _
      subst e1
      rw [cell_of_row w g (0 + i) cur 3 (0, 0) hg]
      have : (cur.toList.take (n * 1))[i]? = (xs.map (Value.int .i64))[i]? := by rw [ht]
      rw [List.getElem?_take, if_pos (by omega)] at this
      simpa [show i < xs.length by omega] using this⟩
/-- The block of an owned row. -/
theorem OI.keep (h : OI w B A n c xs) (hk : ∀ g, A = some ⟨g, 0, none⟩ → w'.heap[g]? = w.heap[g]?) : OI w' B A n c xs := by
  refine ⟨h.1, h.2.1, ?_⟩
  rcases h.2.2 with h0 | ⟨g, cap, cur, e, hB, hg, r⟩
  · exact .inl h0
  · injection e with e1 e2 e3
    exact .inr ⟨g, cap, cur, by rw [e1, ← e3], hB, by rw [hk g e1]; exact hg, r⟩
theorem OI.lt (h : OI w B A n c xs) : ∀ g, A = some ⟨g, 0, none⟩ → B ≤ g ∧ g < w.heap.size := by
  intro g e
  exact h.2.lt g (by simp [Value.ownBlock, e])
theorem OI.below (h : OI w B A n c xs) (hb : Below w.heap.size w w') : OI w' B A n c xs := h.keep fun g e => hb.block g (h.lt g e).2
theorem OI.capLe (h : OI w B A n c xs) : n ≤ c := by
  rcases h.2.2 with ⟨e, h0⟩ | ⟨g, cap, cur, e, hB, hg, hn, _⟩
  · omega
  · injection e with _ _ e3; omega
theorem OI.capMax (h : OI w B A n c xs) : c ≤ 9223372036854775807 := by
  rcases h.2.2 with ⟨e, h0⟩ | ⟨g, cap, cur, e, hB, hg, hn, hm, _⟩
  · injection e with _ _ e3; omega
  · injection e with _ _ e3; unfold maxLen at hm; omega
theorem OI.base (h : OI w B A n c xs) {B' : Nat} (hB : B' ≤ B) : OI w B' A n c xs := by
  refine ⟨h.1, h.2.1, ?_⟩
  rcases h.2.2 with h0 | ⟨g, cap, cur, e, hb, r⟩
  · exact .inl h0
  · exact .inr ⟨g, cap, cur, e, by omega, r⟩
theorem OI.grown (h : OI w B A n c xs) {r : Option Nat} (hg : w.grownBy w' r) (hr : ∀ g, A = some ⟨g, 0, none⟩ → r ≠ some g) : OI w' B A n c xs :=
  h.keep fun g e => hg.block g (h.lt g e).2 (fun he => hr g e he.symm)
theorem RI.grown (h : RI w A n xs) {r : Option Nat} (hg : w.grownBy w' r) (hr : ∀ g o, A = some ⟨g, o, none⟩ → r ≠ some g) : RI w' A n xs :=
  h.keep fun g o e hn => hg.block g (h.lt g o e hn) (fun he => hr g o e he.symm)
end

theorem grown_of_below {w w' : World} (h : Below w.heap.size w w') (r : Option Nat) : w.grownBy w' r := ⟨h.os, h.tape, h.output, h.size, fun k hk _ => h.block k hk⟩
theorem below_of_grown {w w' : World} {r : Option Nat} {B : Nat} (h : w.grownBy w' r) (hB : B ≤ w.heap.size) (hr : ∀ g, r = some g → B ≤ g) : Below B w w' := (Below.refl _ _).grown h hB hr
theorem grown_trans {a b d : World} {r : Option Nat} (h : a.grownBy b r) (k : b.grownBy d r) : a.grownBy d r :=
  ⟨k.os.trans h.os, k.tape.trans h.tape, k.output.trans h.output, Nat.le_trans h.size k.size, fun i hi hn => (k.block i (Nat.lt_of_lt_of_le hi h.size) hn).trans (h.block i hi hn)⟩
theorem below_drewN {B : Nat} {a w : World} (h : Below B a w) (n : Nat) : Below B a (w.drewN n) := ⟨h.os, h.tape, h.output, h.size, h.block⟩

theorem below_undrew {B : Nat} {a w : World} (h : Below B a.drew w) : Below B a w := ⟨h.os, h.tape, h.output, h.size, h.block⟩

/-- What a function gives that returns a new slice of integers. -/
def RetI (w : World) (n : Nat) (xs : List Int) (e : Ending) (w' : World) : Prop :=
  ∃ A c, e = .returned (.slice A n c) ∧ OI w' w.heap.size A n c xs ∧ Below w.heap.size w w'
/-- The same beside a bool. -/
def RetIB (w : World) (n : Nat) (xs : List Int) (b : Bool) (e : Ending) (w' : World) : Prop :=
  ∃ A c, e = .returned (.tuple #[.slice A n c, .bool b]) ∧ OI w' w.heap.size A n c xs ∧ Below w.heap.size w w'

theorem take_succ_of {α : Type} {l : List α} {k : Nat} {x : α} (h : l[k]? = some x) : l.take (k + 1) = l.take k ++ [x] := by
  rw [List.take_add_one, h]; rfl
end Go.Proofs.Ytbdegnamlmabbaa
