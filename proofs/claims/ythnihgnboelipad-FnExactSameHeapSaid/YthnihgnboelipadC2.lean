/- A struct of two cells that lies in a block of its own. -/
import Derived.Test.YthnihgnboelipadBet
namespace Go.Proofs.Ythnihgnboelipad
open Go Go.RowKit

theorem below_undrewN {B q : Nat} {a w : World} (h : Below B (a.drewN q) w) : Below B a w := ⟨h.os, h.tape, h.output, h.size, h.block⟩

def C2 (w : World) (b : Nat) (u v : Value) : Prop := b < w.heap.size ∧ w.cell? ⟨b, 0, none⟩ = some u ∧ w.cell? ⟨b, 1, none⟩ = some v
theorem C2.keep {w w' : World} {b : Nat} {u v : Value} (h : C2 w b u v) (hz : w.heap.size ≤ w'.heap.size) (hb : w'.heap[b]? = w.heap[b]?) : C2 w' b u v :=
  ⟨Nat.lt_of_lt_of_le h.1 hz, (World.cell?_of_block (a := ⟨b, 0, none⟩) hb).trans h.2.1, (World.cell?_of_block (a := ⟨b, 1, none⟩) hb).trans h.2.2⟩
theorem C2.below {w w' : World} {b : Nat} {u v : Value} (h : C2 w b u v) (hb : Below w.heap.size w w') : C2 w' b u v := h.keep hb.size (hb.block b h.1)
theorem C2.drewN {w : World} {b : Nat} {u v : Value} (h : C2 w b u v) (q : Nat) : C2 (w.drewN q) b u v := h
theorem C2.bet {w w' : World} {b lo hi : Nat} {u v : Value} (h : C2 w b u v) (hb : Bet w w' lo hi) (ho : b < lo ∨ hi ≤ b) : C2 w' b u v := h.keep hb.size (hb.block b h.1 ho)
theorem C2.new (w : World) (t : TypeId) (u v : Value) : C2 (w.alloc (.cells #[u, v] t)) w.heap.size u v := ⟨by simp, by simp [go_sem], by simp [go_sem]⟩
end Go.Proofs.Ythnihgnboelipad
