/- A change between two block numbers. -/
import Derived.Test.YthnihgnboelipadMem
namespace Go.Proofs.Ythnihgnboelipad
open Go Go.RowKit

/-- Outside the blocks from lo to hi nothing that was there has turned. -/
structure Bet (w w' : World) (lo hi : Nat) : Prop where
  os : w'.os = w.os
  tape : w'.tape = w.tape
  output : w'.output = w.output
  size : w.heap.size ≤ w'.heap.size
  block : ∀ k, k < w.heap.size → (k < lo ∨ hi ≤ k) → w'.heap[k]? = w.heap[k]?
/-- The row of an owned slice lies between lo and hi. -/
def In (A : Option Addr) (lo hi : Nat) : Prop := ∀ g, A = some ⟨g, 0, none⟩ → lo ≤ g ∧ g < hi
theorem OI.in_ {w : World} {B : Nat} {A : Option Addr} {n c : Nat} {xs : List Int} (h : OI w B A n c xs) : In A B w.heap.size := fun g e => h.lt g e
theorem Bet.below {w w' : World} {lo hi : Nat} (h : Below w.heap.size w w') : Bet w w' lo hi := ⟨h.os, h.tape, h.output, h.size, fun k hk _ => h.block k hk⟩
theorem Bet.trans {a b d : World} {lo hi : Nat} (h : Bet a b lo hi) (k : Bet b d lo hi) : Bet a d lo hi :=
  ⟨k.os.trans h.os, k.tape.trans h.tape, k.output.trans h.output, Nat.le_trans h.size k.size, fun i hi' hc => (k.block i (Nat.lt_of_lt_of_le hi' h.size) hc).trans (h.block i hi' hc)⟩
theorem Bet.grown {w w' : World} {A : Option Addr} {n c lo hi : Nat} (h : w.grownBy w' (Value.ownBlock (.slice A n c))) (hA : ∀ b o s, A = some ⟨b, o, s⟩ → lo ≤ b ∧ b < hi) : Bet w w' lo hi :=
  ⟨h.os, h.tape, h.output, h.size, fun k hk hc => h.block k hk (fun e => by
    rcases A with _ | ⟨b, o, s⟩
    · cases e
    · have := hA b o s rfl
      simp [Value.ownBlock] at e
      omega)⟩
theorem OI.addr {w : World} {B : Nat} {A : Option Addr} {n c : Nat} {xs : List Int} (h : OI w B A n c xs) {lo hi : Nat} (hi' : In A lo hi) : ∀ b o s, A = some ⟨b, o, s⟩ → lo ≤ b ∧ b < hi := by
  intro b o s e
  rcases h.2.2 with ⟨h1, _⟩ | ⟨g, cap, cur, h1, _⟩
  · injection h1 with h1; rw [h1] at e; cases e
  · injection h1 with h1
    rw [h1] at e; injection e with e; injection e with e1 e2 e3
    subst e1
    exact hi' _ h1
theorem OI.keepBet {w w' : World} {B : Nat} {A : Option Addr} {n c lo hi : Nat} {xs : List Int} (h : OI w B A n c xs) (hb : Bet w w' lo hi) (ho : ∀ g, A = some ⟨g, 0, none⟩ → g < lo ∨ hi ≤ g) : OI w' B A n c xs :=
  h.keep fun g e => hb.block g (h.lt g e).2 (ho g e)
theorem RI.keepBet {w w' : World} {A : Option Addr} {n lo hi : Nat} {xs : List Int} (h : RI w A n xs) (hb : Bet w w' lo hi) (ho : ∀ b o, A = some ⟨b, o, none⟩ → 0 < n → b < lo) : RI w' A n xs :=
  h.keep fun b o e hn => hb.block b (h.lt b o e hn) (.inl (ho b o e hn))
theorem Bet.toBelow {a w w' : World} {B lo hi : Nat} (h : Below B a w) (hb : Bet w w' lo hi) (hB : B ≤ w.heap.size) (hl : B ≤ lo) : Below B a w' :=
  h.trans ⟨hb.os, hb.tape, hb.output, hb.size, fun k hk => hb.block k (by omega) (.inl (by omega))⟩
theorem Bet.cell {w w' : World} {lo hi : Nat} (hb : Bet w w' lo hi) {p : Addr} (hp : p.block < w.heap.size) (ho : p.block < lo ∨ hi ≤ p.block) : w'.cell? p = w.cell? p := World.cell?_of_block (hb.block p.block hp ho)

end Go.Proofs.Ythnihgnboelipad
