/- Draws of sizes. -/
import Derived.Test.YthnihgnboelipaaDoorDrB
namespace Go.Proofs.YthnihgnboelipaaDoor
open Go Go.RowKit

def Sm (x : Int) : Prop := -1 ≤ x ∧ x ≤ 1000
set_option maxHeartbeats 400000 in
theorem l4Size_any (B g : Nat) (w : World) (h : Cr w B g) :
    Calls Tryd.prog 36 #[.pointer (some ⟨g, 0, none⟩)] w (DrI w B g Sm) := by
  go_enter Tryd.func36, Tryd.ntmps36
  go_wp2_with fail
  refine (l1Below_any B g 40 w h (by omega)).mono ?_
  rintro e w1 ⟨x, hx, rfl, hc1, hg1⟩
  have hx0 := hx.1
  have hx1 := hx.2.1 (by omega)
  clear hx
  go_wp2_with fail
  refine (l1Below_any B g 16 w1 hc1 (by omega)).mono ?_
  rintro e w2 ⟨y, hy, rfl, hc2, hg2⟩
  have hy0 := hy.1
  have hy1 := hy.2.1 (by omega)
  clear hy
  have hlt := hc2.lt
  have hp := l1PickInt_any B g w2.heap.size 11 Sm (w2.alloc (.cells #[.int .i64 1, .int .i64 8, .int .i64 9, .int .i64 16, .int .i64 17, .int .i64 40, .int .i64 41, .int .i64 0, .int .i64 (-1), .int .i64 (1 + x), .int .i64 (1 + y)] 3)) (hc2.alloc _) (by omega) (by omega) (by omega) (by simp) (by
    intro i hi
    have : i = 0 ∨ i = 1 ∨ i = 2 ∨ i = 3 ∨ i = 4 ∨ i = 5 ∨ i = 6 ∨ i = 7 ∨ i = 8 ∨ i = 9 ∨ i = 10 := by omega
    rcases this with rfl | rfl | rfl | rfl | rfl | rfl | rfl | rfl | rfl | rfl | rfl
    all_goals exact ⟨_, by simp [go_sem]; rfl, by unfold Sm; omega⟩)
  have HP := Lib.hid hp; clear hp
  go_wp2_with fail
  refine HP.out.mono ?_
  rintro e w3 ⟨z, hz, rfl, hc3, hg3⟩
  go_wp2_with fail
  go_ret
  exact ⟨z, hz, rfl, hc3, grown_trans (grown_trans hg1 hg2) (grown_trans (grown_of_below ((Below.refl _ w2).alloc (Nat.le_refl _) _) _) hg3)⟩

theorem below_of_draw {w w1 w2 : World} {g : Nat} (hb : Below w.heap.size w w1) (hc : Cr w1 w.heap.size g) (hg : w1.grownBy w2 (some g)) : Below w.heap.size w w2 :=
  hb.grown hg hb.size (by rintro k ⟨⟩; exact hc.lt.1)

theorem DrawClassOf_any (A : Option Addr) (n c : Nat) (bs : List Int) (w : World) (h : RB w A n bs) (u : Under w.heap.size A n) (hn : n ≤ 1048576) :
    Calls Tryd.prog 18 #[.slice A n c] w fun e w' => ∃ x, (-1000 ≤ x ∧ x ≤ 1000) ∧ e = .returned (.int .i64 x) ∧ Below w.heap.size w w' := by
  go_enter Tryd.func18, Tryd.ntmps18
  go_wp2_with fail
  refine (l1New_any A n c bs w h u hn).mono ?_
  rintro e w1 ⟨g, rfl, hc1, hb1⟩
  go_wp2_with fail
  refine (l4Size_any w.heap.size g w1 hc1).mono ?_
  rintro e w2 ⟨x, hx, rfl, hc2, hg2⟩
  obtain ⟨hx0, hx1⟩ := hx
  go_wp2_with fail
  go_ret
  exact ⟨x, ⟨by omega, by omega⟩, rfl, below_of_draw hb1 hc1 hg2⟩

theorem big_any (A : Option Addr) (n c : Nat) (w : World) :
    Calls Tryd.prog 6 #[.slice A n c] w fun e w' => e = .returned (.bool (decide ((1048576 : Int) < n))) ∧ w = w' := by
  go_enter Tryd.func6, Tryd.ntmps6
  go_wp2
  go_ret
  exact ⟨rfl, rfl⟩
end Go.Proofs.YthnihgnboelipaaDoor
