/- Draws: the cursor, its bytes. What is drawn is left open. -/
import Derived.Test.YthnihgnboelipaaDoorRet
import Derived.Test.YthnihgnboelipaaDoorFrame
import Derived.BigQuiet
import Derived.Deep.QuietTactic
import Derived.IntWalk
import Derived.Handy
import Derived.Lib.Hide
import Derived.Below
import Derived.Laws.OwnMore
import Derived.Laws.BitsLemmas
import Derived.Deep.Draws
namespace Go.Proofs.YthnihgnboelipaaDoor
open Go Go.RowKit

theorem and255 (y : Int) : 0 ≤ bits .and .i64 y 255 ∧ bits .and .i64 y 255 ≤ 255 := by
  have h : ((BitVec.ofInt 64 y) &&& (BitVec.ofInt 64 255)).toNat ≤ 255 := by
    rw [BitVec.toNat_and]
    exact Nat.le_trans Nat.and_le_right (by decide)
  have e : bits .and .i64 y 255 = IntKind.i64.wrap (((BitVec.ofInt 64 y) &&& (BitVec.ofInt 64 255)).toNat : Int) := rfl
  rw [e, IntKind.wrap_i64]
  omega

/-- A slice of bytes that reads as the numbers bs. -/
def RB (w : World) (A : Option Addr) (n : Nat) (bs : List Int) : Prop :=
  bs.length = n ∧ (∀ x ∈ bs, 0 ≤ x ∧ x ≤ 255) ∧ (0 < n → ∃ b o, A = some ⟨b, o, none⟩ ∧ ∀ i, i < n → w.cell? ⟨b, o + i, none⟩ = some (.int .u8 (bs.getD i 0)))
/-- The slice's row lies below block B. -/
def Under (B : Nat) (A : Option Addr) (n : Nat) : Prop := ∀ b o, A = some ⟨b, o, none⟩ → 0 < n → b < B

theorem RB_of_row {w : World} {a : Option Addr} {len cap : Nat} {zs : List Int} (h : IsRow .u8 w a len cap zs) : ∃ bs, RB w a len bs ∧ Under w.heap.size a len ∧ len ≤ maxLen := by
  rcases h with ⟨rfl, rfl, rfl, rfl⟩ | ⟨x, rfl, hl, hm, hz, hc, hw⟩
  · exact ⟨[], ⟨rfl, by simp, fun h => absurd h (by omega)⟩, (fun b o e _ => by cases e), Nat.zero_le _⟩
  · refine ⟨zs.take len, ⟨by simp; omega, fun n hn => ?_, fun hn => ?_⟩, fun b o e hn => ?_, by omega⟩
    · have := hw n (List.mem_of_mem_take hn)
      simpa [Lit.wf, IntKind.min, IntKind.max, IntKind.bits, IntKind.signed] using this
    · have h0 := hc 0 (by omega)
      rcases x with ⟨b, o, s⟩
      have hs : s = none := by
        cases s with
        | none => rfl
        | some s => simp [Addr.add, World.cell?] at h0; split at h0 <;> simp_all
      subst hs
      refine ⟨b, o, rfl, fun i hi => ?_⟩
      have := hc i (by omega)
      rw [Addr.add_lit] at this
      rw [this]; simp [List.getD, hi]
    · have h0 := hc 0 (by omega)
      injection e with e
      subst e
      rw [Addr.add_lit] at h0
      exact World.block_lt_of_cell? w ⟨b, o + 0, none⟩ h0

theorem RB.at_ {w : World} {A : Option Addr} {n : Nat} {bs : List Int} (h : RB w A n bs) {k : Nat} (hk : k < n) : ∃ b o x, A = some ⟨b, o, none⟩ ∧ (0 ≤ x ∧ x ≤ 255) ∧ w.cell? ⟨b, o + k, none⟩ = some (.int .u8 x) := by
  obtain ⟨b, o, e, hc⟩ := h.2.2 (by omega)
  have hl : k < bs.length := by rw [h.1]; exact hk
  refine ⟨b, o, bs[k], e, h.2.1 _ (List.getElem_mem hl), ?_⟩
  rw [hc k hk]; simp [hl]
theorem RB.keep {w w' : World} {A : Option Addr} {n B : Nat} {bs : List Int} (h : RB w A n bs) (u : Under B A n) (hk : ∀ b, b < B → w'.heap[b]? = w.heap[b]?) : RB w' A n bs :=
  ⟨h.1, h.2.1, fun hn => by
    obtain ⟨b, o, e, hc⟩ := h.2.2 hn
    exact ⟨b, o, e, fun i hi => (World.cell?_of_block (hk b (u b o e hn))).trans (hc i hi)⟩⟩

/-- Block g is a cursor over bytes that lie below block B. -/
def Cr (w : World) (B g : Nat) : Prop :=
  B ≤ g ∧ ∃ (A : Option Addr) (n c : Nat) (bs : List Int) (i : Nat) (h : Int), w.heap[g]? = some (.cells #[.slice A n c, .int .i64 i, .int .i64 h] 53 (0, 0)) ∧ RB w A n bs ∧ Under B A n ∧ n ≤ 1048576 ∧ i ≤ n
theorem Cr.lt {w : World} {B g : Nat} (h : Cr w B g) : B ≤ g ∧ g < w.heap.size := by
  obtain ⟨hB, A, n, c, bs, i, z, hg, _⟩ := h
  exact ⟨hB, (Array.getElem?_eq_some_iff.1 hg).1⟩
theorem Cr.kept {w w' : World} {B g : Nat} (h : Cr w B g) (hk : w'.heap[g]? = w.heap[g]?) (hb : ∀ b, b < B → w'.heap[b]? = w.heap[b]?) : Cr w' B g := by
  obtain ⟨hB, A, n, c, bs, i, z, hg, hr, hu, r⟩ := h
  exact ⟨hB, A, n, c, bs, i, z, hk.trans hg, hr.keep hu hb, hu, r⟩
theorem Cr.below {w w' : World} {B g : Nat} (h : Cr w B g) (hb : Below w.heap.size w w') : Cr w' B g := by
  have := h.lt
  exact h.kept (hb.block g this.2) (fun b hlt => hb.block b (by omega))
theorem Cr.alloc {w : World} {B g : Nat} (h : Cr w B g) (o : Obj) : Cr (w.alloc o) B g := h.below ((Below.refl _ _).alloc (Nat.le_refl _) _)

/-- A drawn number of which Q holds; of what was there only the cursor has turned. -/
def DrI (w : World) (B g : Nat) (Q : Int → Prop) (e : Ending) (w' : World) : Prop :=
  ∃ x, Q x ∧ e = .returned (.int .i64 x) ∧ Cr w' B g ∧ w.grownBy w' (some g)

theorem grown_trans {a b d : World} {r : Option Nat} (h : a.grownBy b r) (k : b.grownBy d r) : a.grownBy d r :=
  ⟨k.os.trans h.os, k.tape.trans h.tape, k.output.trans h.output, Nat.le_trans h.size k.size, fun i hi hn => (k.block i (Nat.lt_of_lt_of_le hi h.size) hn).trans (h.block i hi hn)⟩
theorem grown_drewN {a w : World} {r : Option Nat} (h : a.grownBy w r) (n : Nat) : a.grownBy (w.drewN n) r := ⟨h.os, h.tape, h.output, h.size, h.block⟩
theorem grown_of_below {w w' : World} (h : Below w.heap.size w w') (r : Option Nat) : w.grownBy w' r := ⟨h.os, h.tape, h.output, h.size, fun k hk _ => h.block k hk⟩
theorem grown_set {a w : World} {g : Nat} (h : a.grownBy w (some g)) (j : Nat) (u : Value) : a.grownBy (w.setCell ⟨g, j, none⟩ u) (some g) :=
  ⟨h.os, h.tape, h.output, by simpa [World.setCell] using h.size, fun i hi hne => (Below.heap_setCell w ⟨g, j, none⟩ u i (by rintro rfl; exact hne rfl)).trans (h.block i hi hne)⟩
theorem heap_set {w : World} {g : Nat} {cs : Array Value} {t : TypeId} (h : w.heap[g]? = some (.cells cs t (0, 0))) (j : Nat) (u : Value) :
    (w.setCell ⟨g, j, none⟩ u).heap[g]? = some (.cells (cs.setIfInBounds j u) t (0, 0)) := by
  simp [World.setCell, Array.getElem?_modify, h]

set_option maxHeartbeats 1000000 in
theorem l1Byte_any (B g : Nat) (w : World) (h : Cr w B g) :
    Calls Tryd.prog 40 #[.pointer (some ⟨g, 0, none⟩)] w (DrI w B g fun x => 0 ≤ x ∧ x ≤ 255) := by
  obtain ⟨hB, A, n, c, bs, i, z, hg, hr, hu, hn, hi⟩ := h
  have hc0 : w.cell? ⟨g, 0, none⟩ = some (.slice A n c) := by simp [World.cell?, hg]
  have hc1 : w.cell? ⟨g, 1, none⟩ = some (.int .i64 i) := by simp [World.cell?, hg]
  have hc2 : w.cell? ⟨g, 2, none⟩ = some (.int .i64 z) := by simp [World.cell?, hg]
  have hf : ∀ j, w.frozen? ⟨g, j, none⟩ = false := by intro j; simp [World.frozen?, hg]
  have hf1 := hf 1
  have hf2 := hf 2
  clear hf
  have HG := Lib.hid hg; clear hg
  by_cases hlt : i < n
  · obtain ⟨b, o, x, rfl, hx, hcx⟩ := hr.at_ hlt
    have hbB := hu b o rfl (by omega)
    have hne : b ≠ g := by omega
    go_enter Tryd.func40, Tryd.ntmps40
    go_wp2
    go_quiet (fail)
    go_wp2
    go_quiet (fail)
    go_wp2
    go_quiet (fail)
    go_wp2
    go_ret
    refine ⟨_, and255 _, rfl, ⟨hB, _, n, c, bs, i + 1, _, heap_set (heap_set HG.out 2 _) 1 _, hr.keep hu (fun k hk => ?_), hu, hn, by omega⟩, ?_⟩
    · exact (Below.heap_setCell _ _ _ k (by show k ≠ g; omega)).trans (Below.heap_setCell w _ _ k (by show k ≠ g; omega))
    · repeat (first | exact World.grownBy.refl _ _ | apply grown_set | apply grown_drewN)
  · go_enter Tryd.func40, Tryd.ntmps40
    go_wp2
    go_quiet (fail)
    go_wp2
    go_quiet (fail)
    go_wp2
    go_ret
    refine ⟨_, and255 _, rfl, ⟨hB, _, n, c, bs, i, _, heap_set HG.out 2 _, hr.keep hu (fun k hk => ?_), hu, hn, hi⟩, ?_⟩
    · exact Below.heap_setCell w _ _ k (by show k ≠ g; omega)
    · repeat (first | exact World.grownBy.refl _ _ | apply grown_set | apply grown_drewN)
end Go.Proofs.YthnihgnboelipaaDoor
