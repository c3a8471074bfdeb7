/- Contracts of Ungranted in both packages. -/
import Derived.Test.YthnihgnboelipacMem
import Derived.BigQuiet
import Derived.Deep.QuietTactic
namespace Go.Proofs.Ythnihgnboelipac
open Go Go.RowKit

/-- How many are -1. -/
def ung (ys : List Int) : Nat := (ys.filter fun y => y == -1).length
theorem ung_take {ys : List Int} {j : Nat} {y : Int} (h : ys[j]? = some y) : ung (ys.take (j + 1)) = ung (ys.take j) + if (y == -1) = true then 1 else 0 := by
  rw [take_succ_of h, ung, List.filter_append, List.length_append]
  unfold ung
  cases hy : (y == -1) <;> simp [List.filter_cons, hy]
theorem ung_le (ys : List Int) : ung ys ≤ ys.length := List.length_filter_le _ _

theorem sUngranted_any (A A' : Option Addr) (n c n' c' : Nat) (ys : List Int) (w : World) (h : RI w A' n' ys) (hn' : n' ≤ 1048576) :
    Calls Try.prog 30 #[.agg #[.slice A n c, .slice A' n' c']] w fun e w' => e = .returned (.int .i64 (ung ys : Nat)) ∧ Below w.heap.size w w' := by
  have HL := Lib.hid h.1
  have hb0 : Below w.heap.size w (w.alloc (.cells #[.slice A n c, .slice A' n' c'] 35)) := (Below.refl _ _).alloc (Nat.le_refl _) _
  have h0 := h.below hb0
  go_enter Try.func30, Try.ntmps30
  go_wp2
  go_loop [3, 4] (fun s i => ∃ j : Nat, j ≤ n' ∧ i = .int .i64 j ∧ s = .int .i64 (ung (ys.take j) : Nat)) (fun _ i => n' - (intOf i).toNat)
  case atStart => exact ⟨0, Nat.zero_le _, rfl, rfl⟩
  case round =>
    obtain ⟨j, hj, rfl, rfl⟩ := hrel
    by_cases hlt : j < n'
    · obtain ⟨b, o, y, rfl, hy, hw, hc⟩ := h0.at_ hlt
      have hne : b < w.heap.size := h.lt b o rfl (by omega)
      have hbd : ung (ys.take j) ≤ j := Nat.le_trans (ung_le _) (List.length_take_le _ _)
      have HY := Lib.hid (ung_take hy); clear hy
      have hc' : w.cell? ⟨b, o + j, none⟩ = some (.int .i64 y) := (hb0.cell (p := ⟨b, o + j, none⟩) hne).symm.trans hc
      cases hq : (y == -1)
      · go_wp2
        go_round
        case rel => exact ⟨j + 1, by omega, by go_num, by rw [HY.out, hq]; rfl⟩
        case measure => simp [intOf]; omega
      · go_wp2
        go_round
        case rel => exact ⟨j + 1, by omega, by go_num, by rw [HY.out, hq]; rfl⟩
        case measure => simp [intOf]; omega
    · obtain rfl : j = n' := by omega
      have HE : Hid (ys.take j = ys) := List.take_of_length_le (Nat.le_of_eq HL.out)
      go_wp2
      go_ret
      exact ⟨ret_int (by rw [HE.out]), hb0⟩

theorem iUngranted_any (A A' : Option Addr) (n c n' c' : Nat) (ys : List Int) (w : World) (h : RI w A' n' ys) (hn' : n' ≤ 1048576) :
    Calls Try.prog 32 #[.agg #[.slice A n c, .slice A' n' c']] w fun e w' => e = .returned (.int .i64 (ung ys : Nat)) ∧ Below w.heap.size w w' := by
  have HL := Lib.hid h.1
  have hb0 : Below w.heap.size w (w.alloc (.cells #[.slice A n c, .slice A' n' c'] 35)) := (Below.refl _ _).alloc (Nat.le_refl _) _
  have h0 := h.below hb0
  go_enter Try.func32, Try.ntmps32
  go_wp2
  go_loop [3, 9] (fun s i => ∃ j : Nat, j ≤ n' ∧ i = .int .i64 j ∧ s = .int .i64 (ung (ys.take j) : Nat)) (fun _ i => n' - (intOf i).toNat)
  case atStart => exact ⟨0, Nat.zero_le _, rfl, rfl⟩
  case round =>
    obtain ⟨j, hj, rfl, rfl⟩ := hrel
    by_cases hlt : j < n'
    · obtain ⟨b, o, y, rfl, hy, hw, hc⟩ := h0.at_ hlt
      have hne : b < w.heap.size := h.lt b o rfl (by omega)
      have hbd : ung (ys.take j) ≤ j := Nat.le_trans (ung_le _) (List.length_take_le _ _)
      have HY := Lib.hid (ung_take hy); clear hy
      have hc' : w.cell? ⟨b, o + j, none⟩ = some (.int .i64 y) := (hb0.cell (p := ⟨b, o + j, none⟩) hne).symm.trans hc
      cases hq : (y == -1)
      · go_wp2
        go_round
        case rel => exact ⟨j + 1, by omega, by go_num, by rw [HY.out, hq]; rfl⟩
        case measure => simp [intOf]; omega
      · go_wp2
        go_round
        case rel => exact ⟨j + 1, by omega, by go_num, by rw [HY.out, hq]; rfl⟩
        case measure => simp [intOf]; omega
    · obtain rfl : j = n' := by omega
      have HE : Hid (ys.take j = ys) := List.take_of_length_le (Nat.le_of_eq HL.out)
      go_wp2
      go_ret
      exact ⟨ret_int (by rw [HE.out]), hb0⟩
end Go.Proofs.Ythnihgnboelipac
