/- Contracts of Apart in both packages, and of the copy of a span. -/
import Derived.Test.YthnihgnboelipabRet
import Derived.Test.YthnihgnboelipabNumM
import Derived.BigQuiet
import Derived.Deep.QuietTactic
import Derived.Handy
import Derived.Lib.Hide
import Derived.Below
namespace Go.Proofs.Ythnihgnboelipab
open Go Go.RowKit

theorem ap_undrew {B : Nat} {a w : World} (h : Below B a.drew w) : Below B a w := ⟨h.os, h.tape, h.output, h.size, h.block⟩
def apart (a b c d : Int) : Bool := decide (b ≤ a) || decide (d ≤ c) || decide (b ≤ c) || decide (d ≤ a)
theorem apart_yes {a b c d : Int} (h : b ≤ a ∨ d ≤ c ∨ b ≤ c ∨ d ≤ a) : apart a b c d = true := by simp [apart]; omega
theorem apart_no {a b c d : Int} (h : ¬ (b ≤ a ∨ d ≤ c ∨ b ≤ c ∨ d ≤ a)) : apart a b c d = false := by
  rw [Bool.eq_false_iff]
  intro e
  simp [apart] at e
  omega

theorem toSpan_any (a b : Int) (w : World) :
    Calls Try.prog 14 #[.agg #[.int .i64 a, .int .i64 b]] w fun e w' => e = .returned (.agg #[.int .i64 a, .int .i64 b]) ∧ Below w.heap.size w w' := by
  go_enter Try.func14, Try.ntmps14
  go_wp2
  refine bodyPost_ret (v := .agg #[.int .i64 a, .int .i64 b]) (by simp [results, Try.results14, go_sem]) rfl ⟨rfl, ?_⟩
  exact (((Below.refl _ _).alloc (Nat.le_refl _) _).alloc (by simp) _).alloc (by simp; omega) _

theorem sApart_any (a b c d : Int) (w : World) :
    Calls Try.prog 13 #[.agg #[.int .i64 a, .int .i64 b], .agg #[.int .i64 c, .int .i64 d]] w fun e w' => e = .returned (.bool (apart a b c d)) ∧ Below w.heap.size w w' := by
  by_cases h1 : b ≤ a
  case neg =>
    by_cases h2 : d ≤ c
    case neg =>
      by_cases h3 : b ≤ c
      case neg =>
        by_cases h4 : d ≤ a
        case neg =>
          have HZ := Lib.hid (apart_no (a := a) (b := b) (c := c) (d := d) (by omega))
          have hd : decide (d ≤ a) = false := by simpa using h4
          go_enter Try.func13, Try.ntmps13
          go_wp2
          go_ret
          exact ⟨ret_bool HZ.out.symm, ((Below.refl _ _).alloc (Nat.le_refl _) _).alloc (by simp) _⟩
        all_goals
          have HZ := Lib.hid (apart_yes (a := a) (b := b) (c := c) (d := d) (by omega))
          have hd : decide (d ≤ a) = true := by simpa using h4
          go_enter Try.func13, Try.ntmps13
          go_wp2
          go_ret
          exact ⟨ret_bool HZ.out.symm, ((Below.refl _ _).alloc (Nat.le_refl _) _).alloc (by simp) _⟩
      all_goals
        have HZ := Lib.hid (apart_yes (a := a) (b := b) (c := c) (d := d) (by omega))
        go_enter Try.func13, Try.ntmps13
        go_wp2
        go_ret
        exact ⟨ret_bool HZ.out.symm, ((Below.refl _ _).alloc (Nat.le_refl _) _).alloc (by simp) _⟩
    all_goals
      have HZ := Lib.hid (apart_yes (a := a) (b := b) (c := c) (d := d) (by omega))
      go_enter Try.func13, Try.ntmps13
      go_wp2
      go_ret
      exact ⟨ret_bool HZ.out.symm, ((Below.refl _ _).alloc (Nat.le_refl _) _).alloc (by simp) _⟩
  all_goals
    have HZ := Lib.hid (apart_yes (a := a) (b := b) (c := c) (d := d) (by omega))
    go_enter Try.func13, Try.ntmps13
    go_wp2
    go_ret
    exact ⟨ret_bool HZ.out.symm, ((Below.refl _ _).alloc (Nat.le_refl _) _).alloc (by simp) _⟩

theorem emptySpan_any (a b : Int) (w : World) :
    Calls Try.prog 18 #[.agg #[.int .i64 a, .int .i64 b]] w fun e w' => e = .returned (.bool (decide (b ≤ a))) ∧ Below w.heap.size w w' := by
  go_enter Try.func18, Try.ntmps18
  go_wp2
  go_ret
  exact ⟨rfl, (Below.refl _ _).alloc (Nat.le_refl _) _⟩

theorem cells2 {w w1 : World} {x y : Value} {g : Nat} {t : TypeId} (hb : Below (g + 1) w w1) (h : w.heap[g]? = some (.cells #[x, y] t (0, 0))) :
    w1.cell? ⟨g, 0, none⟩ = some x ∧ w1.cell? ⟨g, 1, none⟩ = some y := by
  have hh := (hb.block g (by omega)).trans h
  exact ⟨by simp [World.cell?, hh], by simp [World.cell?, hh]⟩

theorem iApart_any (a b c d : Int) (w : World) :
    Calls Try.prog 15 #[.agg #[.int .i64 a, .int .i64 b], .agg #[.int .i64 c, .int .i64 d]] w fun e w' => e = .returned (.bool (apart a b c d)) ∧ Below w.heap.size w w' := by
  have hb0 : Below w.heap.size w ((w.alloc (.cells #[.int .i64 a, .int .i64 b] 29)).alloc (.cells #[.int .i64 c, .int .i64 d] 29)) := ((Below.refl _ _).alloc (Nat.le_refl _) _).alloc (by simp) _
  have hs0 : w.heap.size + 2 ≤ ((w.alloc (.cells #[.int .i64 a, .int .i64 b] 29)).alloc (.cells #[.int .i64 c, .int .i64 d] 29)).heap.size := by simp
  have a0 : ∀ W, Below (w.heap.size + 2) ((w.alloc (.cells #[.int .i64 a, .int .i64 b] 29)).alloc (.cells #[.int .i64 c, .int .i64 d] 29)) W → (W.cell? ⟨w.heap.size, 0, none⟩ = some (.int .i64 a) ∧ W.cell? ⟨w.heap.size, 1, none⟩ = some (.int .i64 b)) ∧ (W.cell? ⟨w.heap.size + 1, 0, none⟩ = some (.int .i64 c) ∧ W.cell? ⟨w.heap.size + 1, 1, none⟩ = some (.int .i64 d)) := by
    intro W hW
    refine ⟨⟨?_, ?_⟩, ⟨?_, ?_⟩⟩
    · rw [hW.cell (p := ⟨w.heap.size, 0, none⟩) (by simp)]; simp [go_sem]
    · rw [hW.cell (p := ⟨w.heap.size, 1, none⟩) (by simp)]; simp [go_sem]
    · rw [hW.cell (p := ⟨w.heap.size + 1, 0, none⟩) (by simp)]; simp [go_sem]
    · rw [hW.cell (p := ⟨w.heap.size + 1, 1, none⟩) (by simp)]; simp [go_sem]
  have HA := Lib.hid a0; clear a0
  have HZ : Hid (apart a b c d = (decide (b ≤ a) || decide (d ≤ c) || decide (b ≤ c) || decide (d ≤ a))) := rfl
  cases h1 : decide (b ≤ a)
  case true =>
    have HE := Lib.hid (show apart a b c d = true by rw [HZ.out, h1]; rfl)
    go_enter Try.func15, Try.ntmps15
    go_wp2_with fail
    refine (emptySpan_any a b _).mono ?_
    rintro e w1 ⟨rfl, b1⟩
    go_wp2_with fail
    go_ret
    exact ⟨ret_bool HE.out.symm, hb0.trans (b1.mono (by simp; omega))⟩
  cases h2 : decide (d ≤ c)
  case true =>
    have HE := Lib.hid (show apart a b c d = true by rw [HZ.out, h1, h2]; rfl)
    go_enter Try.func15, Try.ntmps15
    go_wp2_with fail
    refine (emptySpan_any a b _).mono ?_
    rintro e w1 ⟨rfl, b1⟩
    obtain ⟨⟨p1, p2⟩, p3, p4⟩ := HA.out w1 (b1.mono hs0)
    go_wp2_with fail
    refine (emptySpan_any c d _).mono ?_
    rintro e w2 ⟨rfl, b2⟩
    go_wp2_with fail
    go_ret
    have t1 := hb0.trans (b1.mono (by simp; omega))
    exact ⟨ret_bool HE.out.symm, t1.trans (b2.mono t1.size)⟩
  cases h3 : decide (b ≤ c)
  case true =>
    have HE := Lib.hid (show apart a b c d = true by rw [HZ.out, h1, h2, h3]; rfl)
    go_enter Try.func15, Try.ntmps15
    go_wp2_with fail
    refine (emptySpan_any a b _).mono ?_
    rintro e w1 ⟨rfl, b1⟩
    obtain ⟨⟨p1, p2⟩, p3, p4⟩ := HA.out w1 (b1.mono hs0)
    go_wp2_with fail
    refine (emptySpan_any c d _).mono ?_
    rintro e w2 ⟨rfl, b2⟩
    obtain ⟨⟨r1, r2⟩, r3, r4⟩ := HA.out w2 ((b1.mono hs0).trans (b2.mono (Nat.le_trans hs0 b1.size)))
    go_wp2_with fail
    go_ret
    have t1 := hb0.trans (b1.mono (by simp; omega))
    exact ⟨ret_bool HE.out.symm, t1.trans (b2.mono t1.size)⟩
  case false =>
    have HE := Lib.hid (show apart a b c d = decide (d ≤ a) by rw [HZ.out, h1, h2, h3]; rfl)
    go_enter Try.func15, Try.ntmps15
    go_wp2_with fail
    refine (emptySpan_any a b _).mono ?_
    rintro e w1 ⟨rfl, b1⟩
    obtain ⟨⟨p1, p2⟩, p3, p4⟩ := HA.out w1 (b1.mono hs0)
    go_wp2_with fail
    refine (emptySpan_any c d _).mono ?_
    rintro e w2 ⟨rfl, b2⟩
    obtain ⟨⟨r1, r2⟩, r3, r4⟩ := HA.out w2 ((b1.mono hs0).trans (b2.mono (Nat.le_trans hs0 b1.size)))
    go_wp2_with fail
    go_ret
    have t1 := hb0.trans (b1.mono (by simp; omega))
    exact ⟨ret_bool HE.out.symm, t1.trans (b2.mono t1.size)⟩
end Go.Proofs.Ythnihgnboelipab
