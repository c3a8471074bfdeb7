/- Draws: a number below a bound, a yes or no, one of a list. -/
import Derived.Test.YthnihgnboelipaaDoorDrA
namespace Go.Proofs.YthnihgnboelipaaDoor
open Go Go.RowKit

theorem DrI.imp {w : World} {B g : Nat} {Q R : Int → Prop} {e : Ending} {w' : World} (h : DrI w B g Q e w') (hqr : ∀ x, Q x → R x) : DrI w B g R e w' := by
  obtain ⟨x, hx, r⟩ := h
  exact ⟨x, hqr x hx, r⟩

/-- What a number drawn below n is. -/
def Lo (n : Int) (x : Int) : Prop := 0 ≤ x ∧ (0 < n → x < n) ∧ (n ≤ 0 → x = 0)

set_option maxHeartbeats 1000000 in
theorem l1Below_any (B g : Nat) (n : Int) (w : World) (h : Cr w B g) (hn : n ≤ 2147483648) :
    Calls Tryd.prog 38 #[.pointer (some ⟨g, 0, none⟩), .int .i64 n] w (DrI w B g (Lo n)) := by
  by_cases h0 : n ≤ 0
  · go_enter Tryd.func38, Tryd.ntmps38
    go_wp2
    go_ret
    exact ⟨0, ⟨by omega, by omega, fun _ => rfl⟩, rfl, h, World.grownBy.refl _ _⟩
  by_cases h1 : n ≤ 256
  · go_enter Tryd.func38, Tryd.ntmps38
    go_wp2_with fail
    refine (l1Byte_any B g w h).mono ?_
    rintro e w1 ⟨x, hx, rfl, hc1, hg1⟩
    have hm := Int.emod_lt_of_pos x (show 0 < n by omega)
    have hm0 := Int.emod_nonneg x (show n ≠ 0 by omega)
    go_wp2_with fail
    go_ret
    exact ⟨x % n, ⟨hm0, fun _ => hm, fun h => by omega⟩, rfl, hc1, hg1⟩
  · go_enter Tryd.func38, Tryd.ntmps38
    go_wp2_with fail
    refine (l1Byte_any B g w h).mono ?_
    rintro e w1 ⟨x1, hx1, rfl, hc1, hg1⟩
    go_wp2_with fail
    refine (l1Byte_any B g w1 hc1).mono ?_
    rintro e w2 ⟨x2, hx2, rfl, hc2, hg2⟩
    go_wp2_with fail
    refine (l1Byte_any B g w2 hc2).mono ?_
    rintro e w3 ⟨x3, hx3, rfl, hc3, hg3⟩
    go_wp2_with fail
    refine (l1Byte_any B g w3 hc3).mono ?_
    rintro e w4 ⟨x4, hx4, rfl, hc4, hg4⟩
    have hm := Int.emod_lt_of_pos (x1 * 16777216 + x2 * 65536 + x3 * 256 + x4) (show 0 < n by omega)
    have hm0 := Int.emod_nonneg (x1 * 16777216 + x2 * 65536 + x3 * 256 + x4) (show n ≠ 0 by omega)
    go_wp2_with fail
    go_ret
    exact ⟨_, ⟨hm0, fun _ => hm, fun h => by omega⟩, rfl, hc4, grown_trans (grown_trans (grown_trans hg1 hg2) hg3) hg4⟩

/-- A drawn yes or no. -/
def DrB (w : World) (B g : Nat) (e : Ending) (w' : World) : Prop :=
  ∃ b : Bool, e = .returned (.bool b) ∧ Cr w' B g ∧ w.grownBy w' (some g)

theorem l1Once_any (B g : Nat) (n : Int) (w : World) (h : Cr w B g) (hn : n ≤ 2147483648) :
    Calls Tryd.prog 34 #[.pointer (some ⟨g, 0, none⟩), .int .i64 n] w (DrB w B g) := by
  go_enter Tryd.func34, Tryd.ntmps34
  go_wp2_with fail
  refine (l1Below_any B g n w h hn).mono ?_
  rintro e w1 ⟨x, _, rfl, hc1, hg1⟩
  go_wp2_with fail
  go_ret
  exact ⟨_, rfl, hc1, hg1⟩

theorem l1PickInt_any (B g b m : Nat) (Q : Int → Prop) (w : World) (h : Cr w B g) (hm : 0 < m) (hm2 : m ≤ 65536) (hb : b ≠ g) (hbl : b < w.heap.size)
    (hl : ∀ i, i < m → ∃ x, w.cell? ⟨b, i, none⟩ = some (.int .i64 x) ∧ Q x) :
    Calls Tryd.prog 39 #[.pointer (some ⟨g, 0, none⟩), .slice (some ⟨b, 0, none⟩) m m] w (DrI w B g Q) := by
  have HL := Lib.hid hl; clear hl
  go_enter Tryd.func39, Tryd.ntmps39
  go_wp2_with fail
  refine (l1Below_any B g m w h (by omega)).mono ?_
  rintro e w1 ⟨x, hx, rfl, hc1, hg1⟩
  have hx0 := hx.1
  have hx1 := hx.2.1 (by omega)
  obtain ⟨k, rfl⟩ : ∃ k : Nat, x = k := ⟨x.toNat, by omega⟩
  obtain ⟨y, hy, hq⟩ := HL.out k (by omega)
  have hcell : w1.cell? ⟨b, k, none⟩ = some (.int .i64 y) := (World.cell?_of_block (hg1.block b hbl (by intro e; injection e with e; exact hb e))).trans hy
  clear hx hy
  go_wp2_with fail
  go_ret
  exact ⟨y, hq, rfl, hc1, hg1⟩

set_option maxRecDepth 100000 in
set_option maxHeartbeats 400000 in
/-- The cursor is made: a block of the call's own. -/
theorem l1New_any (A : Option Addr) (n c : Nat) (bs : List Int) (w : World) (h : RB w A n bs) (u : Under w.heap.size A n) (hn : n ≤ 1048576) :
    Calls Tryd.prog 25 #[.slice A n c] w fun e w' => ∃ g, e = .returned (.pointer (some ⟨g, 0, none⟩)) ∧ Cr w' w.heap.size g ∧ Below w.heap.size w w' := by
  go_enter Tryd.func25, Tryd.ntmps25
  go_wp2
  go_loop [3, 4] (fun s i => ∃ (j : Nat) (z : Int), j ≤ n ∧ i = .int .i64 j ∧ s = .int .i64 z) (fun _ i => n - (intOf i).toNat)
  case atStart => exact ⟨0, _, Nat.zero_le _, rfl, rfl⟩
  case round =>
    obtain ⟨j, z, hj, rfl, rfl⟩ := hrel
    by_cases hlt : j < n
    · by_cases h4 : j < 4000
      · obtain ⟨b, o, x, rfl, hx, hcx⟩ := h.at_ hlt
        go_wp2
        go_round
        case rel => exact ⟨j + 1, _, by omega, by go_num, rfl⟩
        case measure => simp [intOf]; omega
      · go_wp2
        go_ret
        exact ⟨_, rfl, ⟨Nat.le_refl _, A, n, c, bs, 0, _, heap_alloc_new w _, h.keep u (fun k hk => Below.heap_alloc w _ k hk), u, hn, Nat.zero_le _⟩, (Below.refl _ _).alloc (Nat.le_refl _) _⟩
    · go_wp2
      go_ret
      exact ⟨_, rfl, ⟨Nat.le_refl _, A, n, c, bs, 0, _, heap_alloc_new w _, h.keep u (fun k hk => Below.heap_alloc w _ k hk), u, hn, Nat.zero_le _⟩, (Below.refl _ _).alloc (Nat.le_refl _) _⟩
end Go.Proofs.YthnihgnboelipaaDoor
