/- Contracts of the laws' helpers over heaps: size, copy, comparison. -/
import Derived.Test.YthnihgnboelipadInts
import Derived.Deep.RegionWith
namespace Go.Proofs.Ythnihgnboelipad
open Go Go.RowKit

theorem szIntS_any (A : Option Addr) (n c : Nat) (l : Int) (w : World) (hl0 : 0 ≤ l) (hl : l ≤ 1048576) (hn : n ≤ 9223372036854775807) :
    Calls Try.prog 41 #[.slice A n c, .int .i64 l] w fun e w' => e = .returned (.int .i64 (if (n : Int) ≤ l then l - n else -1)) ∧ w = w' := by
  by_cases h : (n : Int) ≤ l
  · rw [if_pos h]
    go_enter Try.func41, Try.ntmps41
    go_wp2
    go_ret
    exact ⟨rfl, rfl⟩
  · rw [if_neg h]
    go_enter Try.func41, Try.ntmps41
    go_wp2
    go_ret
    exact ⟨rfl, rfl⟩

theorem szHeap_big (A A' : Option Addr) (n c n' c' : Nat) (w : World) (hn : n ≤ 9223372036854775807) (hn' : n' ≤ 9223372036854775807) (h : 1048576 < n + n') :
    Calls Try.prog 12 #[.agg #[.slice A n c, .slice A' n' c'], .int .i64 1048576] w fun e w' => e = .returned (.int .i64 (-1)) ∧ Below w.heap.size w w' := by
  by_cases h1 : (n : Int) ≤ 1048576
  · have H1 := Lib.hid (fun w => szIntS_any A n c 1048576 w (by omega) (by omega) hn)
    rw [if_pos h1] at H1
    have H2 := Lib.hid (fun w => szIntS_any A' n' c' (1048576 - n) w (by omega) (by omega) hn')
    rw [if_neg (by omega)] at H2
    go_enter Try.func12, Try.ntmps12
    go_wp2_with fail
    refine (H1.out _).mono ?_
    rintro e w' ⟨rfl, rfl⟩
    go_wp2_with fail
    refine (H2.out _).mono ?_
    rintro e w' ⟨rfl, rfl⟩
    go_wp2_with fail
    go_ret
    exact ⟨rfl, (Below.refl _ _).alloc (Nat.le_refl _) _⟩
  · have H1 := Lib.hid (fun w => szIntS_any A n c 1048576 w (by omega) (by omega) hn)
    rw [if_neg h1] at H1
    go_enter Try.func12, Try.ntmps12
    go_wp2_with fail
    refine (H1.out _).mono ?_
    rintro e w' ⟨rfl, rfl⟩
    go_wp2_with fail
    go_ret
    exact ⟨rfl, (Below.refl _ _).alloc (Nat.le_refl _) _⟩
theorem szHeap_small (A A' : Option Addr) (n c n' c' : Nat) (w : World) (h : n + n' ≤ 1048576) :
    Calls Try.prog 12 #[.agg #[.slice A n c, .slice A' n' c'], .int .i64 1048576] w fun e w' => ∃ l : Int, 0 ≤ l ∧ e = .returned (.int .i64 l) ∧ Below w.heap.size w w' := by
  have H1 := Lib.hid (fun w => szIntS_any A n c 1048576 w (by omega) (by omega) (by omega))
  rw [if_pos (by omega)] at H1
  have H2 := Lib.hid (fun w => szIntS_any A' n' c' (1048576 - n) w (by omega) (by omega) (by omega))
  rw [if_pos (by omega)] at H2
  have h1 : ¬ ((1048576 : Int) - n < 0) := by omega
  have h2 : ¬ ((1048576 : Int) - n - n' < 0) := by omega
  go_enter Try.func12, Try.ntmps12
  go_wp2_with fail
  refine (H1.out _).mono ?_
  rintro e w' ⟨rfl, rfl⟩
  go_wp2_with fail
  refine (H2.out _).mono ?_
  rintro e w' ⟨rfl, rfl⟩
  go_wp2_with fail
  go_ret
  exact ⟨_, by omega, rfl, (Below.refl _ _).alloc (Nat.le_refl _) _⟩

/-- Two rows of integers that the call owns, apart from each other. -/
def OH (w : World) (B : Nat) (A : Option Addr) (n c : Nat) (xs : List Int) (A' : Option Addr) (n' c' : Nat) (ys : List Int) : Prop :=
  OI w B A n c xs ∧ OI w B A' n' c' ys ∧ ∀ g, A = some ⟨g, 0, none⟩ → A' ≠ some ⟨g, 0, none⟩
theorem OH.below {w w' : World} {B : Nat} {A A' : Option Addr} {n c n' c' : Nat} {xs ys : List Int} (h : OH w B A n c xs A' n' c' ys) (hb : Below w.heap.size w w') : OH w' B A n c xs A' n' c' ys :=
  ⟨h.1.below hb, h.2.1.below hb, h.2.2⟩
/-- What a function gives that returns a new heap. -/
def RetH (w : World) (n n' : Nat) (xs ys : List Int) (e : Ending) (w' : World) : Prop :=
  ∃ A c A' c', e = .returned (.agg #[.slice A n c, .slice A' n' c']) ∧ OH w' w.heap.size A n c xs A' n' c' ys ∧ Below w.heap.size w w'

set_option maxHeartbeats 400000 in
theorem toHeap_any (A A' : Option Addr) (n c n' c' : Nat) (xs ys : List Int) (w : World) (h : RI w A n xs) (h' : RI w A' n' ys) (hn : n ≤ 1048576) (hn' : n' ≤ 1048576) :
    Calls Try.prog 14 #[.agg #[.slice A n c, .slice A' n' c']] w (RetH w n n' xs ys) := by
  have hx := h'.1
  have HX := Lib.hid hx; clear hx
  go_enter Try.func14, Try.ntmps14
  go_wp2_with fail
  have hb0 : Below w.heap.size w (((w.alloc (.cells #[.slice A n c, .slice A' n' c'] 24)).alloc (.cells #[.slice none 0 0, .slice none 0 0] 27)).alloc (.cells #[.slice none 0 0, .slice none 0 0] 27)) :=
    (((Below.refl _ _).alloc (Nat.le_refl _) _).alloc (by simp) _).alloc (by simp; omega) _
  refine (toIntS_any _ _ _ _ _ (h.below hb0) hn).mono ?_
  rintro e w1 ⟨A1, c1, rfl, o1, b1⟩
  have hs1 : w.heap.size + 3 ≤ w1.heap.size := by have := b1.size; simp at this; omega
  have hA : w1.cell? ⟨w.heap.size, 1, none⟩ = some (.slice A' n' c') := by rw [b1.cell (p := ⟨w.heap.size, 1, none⟩) (by simp; omega)]; simp [go_sem]
  have hR0 : w1.cell? ⟨w.heap.size + 1, 0, none⟩ = some (.slice none 0 0) := by rw [b1.cell (p := ⟨w.heap.size + 1, 0, none⟩) (by simp)]; simp [go_sem]
  have hR1 : w1.cell? ⟨w.heap.size + 1, 1, none⟩ = some (.slice none 0 0) := by rw [b1.cell (p := ⟨w.heap.size + 1, 1, none⟩) (by simp)]; simp [go_sem]
  have hO0 : w1.cell? ⟨w.heap.size + 1 + 1, 0, none⟩ = some (.slice none 0 0) := by rw [b1.cell (p := ⟨w.heap.size + 1 + 1, 0, none⟩) (by simp)]; simp [go_sem]
  have hO1 : w1.cell? ⟨w.heap.size + 1 + 1, 1, none⟩ = some (.slice none 0 0) := by rw [b1.cell (p := ⟨w.heap.size + 1 + 1, 1, none⟩) (by simp)]; simp [go_sem]
  have fO : ∀ j, w1.frozen? ⟨w.heap.size + 1 + 1, j, none⟩ = false := by intro j; rw [b1.frozen (p := ⟨w.heap.size + 1 + 1, j, none⟩) (by simp)]; simp [go_sem]
  have fR : ∀ j, w1.frozen? ⟨w.heap.size + 1, j, none⟩ = false := by intro j; rw [b1.frozen (p := ⟨w.heap.size + 1, j, none⟩) (by simp)]; simp [go_sem]
  have fO0 := fO 0
  have fO1 := fO 1
  have fR0 := fR 0
  have fR1 := fR 1
  clear fO fR
  go_wp2_with fail
  have t1 : Below w.heap.size w w1 := hb0.trans (b1.mono (by simp; omega))
  have tS : Below w.heap.size w (w1.setCell ⟨w.heap.size + 1 + 1, 0, none⟩ (.slice A1 n c1)) := t1.setCell (p := ⟨w.heap.size + 1 + 1, 0, none⟩) (by simp; omega) _
  have hz : (w1.setCell ⟨w.heap.size + 1 + 1, 0, none⟩ (.slice A1 n c1)).heap.size = w1.heap.size := by simp [World.setCell]
  have HZ := Lib.hid hz; clear hz
  refine (toIntS_any _ _ _ _ _ (h'.below tS) hn').mono ?_
  rintro e w2 ⟨A2, c2, rfl, o2, b2⟩
  have o1' : OI (w1.setCell ⟨w.heap.size + 1 + 1, 0, none⟩ (.slice A1 n c1)) w.heap.size A1 n c1 xs :=
    (o1.keep (fun g e => Below.heap_setCell _ _ _ g (by have := (o1.lt g e).1; simp at this; show g ≠ w.heap.size + 1 + 1; omega))).base (by simp; omega)
  have o1'' := o1'.below b2
  have hs2 : w1.heap.size ≤ w2.heap.size := by have := b2.size; rw [HZ.out] at this; exact this
  have kc : ∀ b j, b < w1.heap.size → w2.cell? ⟨b, j, none⟩ = (w1.setCell ⟨w.heap.size + 1 + 1, 0, none⟩ (.slice A1 n c1)).cell? ⟨b, j, none⟩ := fun b j hb => b2.cell (p := ⟨b, j, none⟩) (by rw [HZ.out]; exact hb)
  have kf : ∀ b j, b < w1.heap.size → w2.frozen? ⟨b, j, none⟩ = (w1.setCell ⟨w.heap.size + 1 + 1, 0, none⟩ (.slice A1 n c1)).frozen? ⟨b, j, none⟩ := fun b j hb => b2.frozen (p := ⟨b, j, none⟩) (by rw [HZ.out]; exact hb)
  have mR0 : w2.cell? ⟨w.heap.size + 1, 0, none⟩ = some (.slice none 0 0) := by rw [kc _ _ (by omega)]; simp [go_sem, hR0]
  have mR1 : w2.cell? ⟨w.heap.size + 1, 1, none⟩ = some (.slice none 0 0) := by rw [kc _ _ (by omega)]; simp [go_sem, hR1]
  have mO0 : w2.cell? ⟨w.heap.size + 1 + 1, 0, none⟩ = some (.slice A1 n c1) := by rw [kc _ _ (by omega)]; simp [go_sem, hO0]
  have mO1 : w2.cell? ⟨w.heap.size + 1 + 1, 1, none⟩ = some (.slice none 0 0) := by rw [kc _ _ (by omega)]; simp [go_sem, hO1]
  have nO1 : w2.frozen? ⟨w.heap.size + 1 + 1, 1, none⟩ = false := by rw [kf _ _ (by omega)]; simp [go_sem, fO1]
  have nR0 : w2.frozen? ⟨w.heap.size + 1, 0, none⟩ = false := by rw [kf _ _ (by omega)]; simp [go_sem, fR0]
  have nR1 : w2.frozen? ⟨w.heap.size + 1, 1, none⟩ = false := by rw [kf _ _ (by omega)]; simp [go_sem, fR1]
  clear hA hR0 hR1 hO0 hO1 fO0 fO1 fR0 fR1 kc kf
  go_wp2_with fail
  have l1 : ∀ g, A1 = some ⟨g, 0, none⟩ → w.heap.size + 3 ≤ g ∧ g < w1.heap.size := fun g e => by have := o1.lt g e; simp at this; omega
  have l2 : ∀ g, A2 = some ⟨g, 0, none⟩ → w1.heap.size ≤ g := fun g e => by have := (o2.lt g e).1; rw [HZ.out] at this; exact this
  have t2 : Below w.heap.size w w2 := tS.trans (b2.mono (by rw [HZ.out]; omega))
  refine bodyPost_ret (v := .agg #[.slice A1 n c1, .slice A2 n' c2]) (by simp [results, Try.results14, go_sem, mR0, mR1]) rfl ⟨A1, c1, A2, c2, rfl, ⟨o1''.keep (fun g e => ?_), (o2.base (by rw [HZ.out]; omega)).keep (fun g e => ?_), fun g e e2 => ?_⟩, ?_⟩
  · have := (l1 g e).1
    refine (Below.heap_setCell _ _ _ g ?_).trans ((Below.heap_setCell _ _ _ g ?_).trans (Below.heap_setCell _ _ _ g ?_))
    all_goals (dsimp only; omega)
  · have := l2 g e
    refine (Below.heap_setCell _ _ _ g ?_).trans ((Below.heap_setCell _ _ _ g ?_).trans (Below.heap_setCell _ _ _ g ?_))
    all_goals (dsimp only; omega)
  · have := l1 g e
    have := l2 g e2
    omega
  · repeat (first | exact t2 | refine Below.setCell ?_ (by simp <;> omega) _)

set_option maxHeartbeats 400000 in
theorem eqHeap_same (A A' D D' : Option Addr) (n c n' c' d d' : Nat) (xs ys : List Int) (w : World) (h : RI w A n xs) (h' : RI w A' n' ys) (k : RI w D n xs) (k' : RI w D' n' ys) (hn : n ≤ 1048576) (hn' : n' ≤ 1048576) :
    Calls Try.prog 16 #[.agg #[.slice A n c, .slice A' n' c'], .agg #[.slice D n d, .slice D' n' d']] w fun e w' => e = .returned (.bool true) ∧ Below w.heap.size w w' := by
  have hb0 : Below w.heap.size w ((w.alloc (.cells #[.slice A n c, .slice A' n' c'] 27)).alloc (.cells #[.slice D n d, .slice D' n' d'] 27)) :=
    ((Below.refl _ _).alloc (Nat.le_refl _) _).alloc (by simp) _
  go_enter Try.func16, Try.ntmps16
  go_wp2_with fail
  refine (eqIntS_any _ _ _ _ _ _ _ _ _ (h.below hb0) (k.below hb0) hn (by omega)).mono ?_
  rintro e w1 ⟨rfl, q1, rfl⟩
  go_wp2_with fail
  refine (eqIntS_any _ _ _ _ _ _ _ _ _ ((h'.below hb0).drewN q1) ((k'.below hb0).drewN q1) hn' (by omega)).mono ?_
  rintro e w1 ⟨rfl, q2, rfl⟩
  go_wp2_with fail
  go_ret
  exact ⟨rfl, below_drewN hb0 (q1 + q2)⟩
end Go.Proofs.Ythnihgnboelipad
