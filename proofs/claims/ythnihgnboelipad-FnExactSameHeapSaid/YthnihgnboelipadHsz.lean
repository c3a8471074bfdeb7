/- The size of a heap, counted down from any number. -/
import Derived.Test.YthnihgnboelipadHp
namespace Go.Proofs.Ythnihgnboelipad
open Go Go.RowKit

theorem szHeap_over (A A' : Option Addr) (n c n' c' : Nat) (w : World) (l : Int) (hl0 : 0 ≤ l) (hl : l ≤ 1048576) (hn : n ≤ 9223372036854775807) (hn' : n' ≤ 9223372036854775807) (h : l < (n : Int) + n') :
    Calls Try.prog 12 #[.agg #[.slice A n c, .slice A' n' c'], .int .i64 l] w fun e w' => e = .returned (.int .i64 (-1)) ∧ Below w.heap.size w w' := by
  by_cases h1 : (n : Int) ≤ l
  · have H1 := Lib.hid (fun w => szIntS_any A n c l w hl0 hl hn)
    rw [if_pos h1] at H1
    have H2 := Lib.hid (fun w => szIntS_any A' n' c' (l - n) w (by omega) (by omega) hn')
    rw [if_neg (by omega)] at H2
    go_enter Try.func12, Try.ntmps12
    go_wp2_with fail
    refine (H1.out _).mono ?_
    rintro e w' ⟨rfl, rfl⟩
    go_wp2_with fail
    refine (H2.out _).mono ?_
    rintro e w' ⟨rfl, rfl⟩
    go_wp2_with fail
    go_ret
    exact ⟨rfl, (Below.refl _ _).alloc (Nat.le_refl _) _⟩
  · have H1 := Lib.hid (fun w => szIntS_any A n c l w hl0 hl hn)
    rw [if_neg h1] at H1
    go_enter Try.func12, Try.ntmps12
    go_wp2_with fail
    refine (H1.out _).mono ?_
    rintro e w' ⟨rfl, rfl⟩
    go_wp2_with fail
    go_ret
    exact ⟨rfl, (Below.refl _ _).alloc (Nat.le_refl _) _⟩
theorem szHeap_fits (A A' : Option Addr) (n c n' c' : Nat) (w : World) (l : Int) (hl0 : 0 ≤ l) (hl : l ≤ 1048576) (h : (n : Int) + n' ≤ l) :
    Calls Try.prog 12 #[.agg #[.slice A n c, .slice A' n' c'], .int .i64 l] w fun e w' => e = .returned (.int .i64 (l - n - n')) ∧ Below w.heap.size w w' := by
  have H1 := Lib.hid (fun w => szIntS_any A n c l w hl0 hl (by omega))
  rw [if_pos (by omega)] at H1
  have H2 := Lib.hid (fun w => szIntS_any A' n' c' (l - n) w (by omega) (by omega) (by omega))
  rw [if_pos (by omega)] at H2
  have h1 : ¬ (l - n < 0) := by omega
  have h2 : ¬ (l - n - n' < 0) := by omega
  go_enter Try.func12, Try.ntmps12
  go_wp2_with fail
  refine (H1.out _).mono ?_
  rintro e w' ⟨rfl, rfl⟩
  go_wp2_with fail
  refine (H2.out _).mono ?_
  rintro e w' ⟨rfl, rfl⟩
  go_wp2_with fail
  go_ret
  exact ⟨rfl, (Below.refl _ _).alloc (Nat.le_refl _) _⟩

end Go.Proofs.Ythnihgnboelipad
