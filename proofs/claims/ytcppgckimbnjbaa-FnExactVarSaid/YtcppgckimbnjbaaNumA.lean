/- Contracts of chapter 1's small functions: l1In, widthOk, ReadFixed in both packages. -/
import Derived.Test.YtcppgckimbnjbaaChecked
import Derived.Test.YtcppgckimbnjbaaNumM
import Derived.WalkKit
import Derived.BigQuiet
import Derived.Deep.QuietTactic
import Derived.IntWalk
import Derived.Handy
import Derived.Lib.Hide
namespace Go.Proofs.Ytcppgckimbnjbaa
open Go Go.RowKit

theorem l1In_any (n lo hi : Int) (w : World) :
    Calls Try.prog 21 #[.int .i64 n, .int .i64 lo, .int .i64 hi] w fun e w' => e = .returned (.bool (inB n lo hi)) ∧ w = w' := by
  go_enter Try.func21, Try.ntmps21
  go_wp2
  all_goals (go_ret; exact ⟨by simp [inB] <;> omega, rfl⟩)

theorem widthOk_any (n : Int) (w : World) :
    Calls Try.prog 22 #[.int .i64 n] w fun e w' => e = .returned (.bool (inB n 1 7)) ∧ w = w' := by
  go_enter Try.func22, Try.ntmps22
  go_wp2
  all_goals (go_ret; exact ⟨by simp [inB] <;> omega, rfl⟩)

theorem wraps_i64 (n : Int) (h₀ : 0 ≤ n) (h₁ : n < 2 ^ 63) : IntKind.i64.wrap n = n := by rw [IntKind.wrap_i64]; omega

theorem i64_or8 (x y : Int) (h0 : 0 ≤ x) (h1 : x ≤ 281474976710655) (h2 : 0 ≤ y) (h3 : y ≤ 255) : bits .or .i64 (x * 256) y = x * 256 + y :=
  bits_join .i64 63 (by decide) wraps_i64 8 (x * 256) y (by omega) (by omega) (by omega) h2 (by omega) (by omega)

/-- What ReadFixed gives. -/
def rfOk (s : ByteArray) (k : Int) : Bool := decide (1 ≤ k ∧ k ≤ 7 ∧ k ≤ s.size)
def rfN (s : ByteArray) (k : Int) : Int := if rfOk s k then be (s.data.toList.take k.toNat) else 0

theorem sReadFixed_no (s : ByteArray) (k : Int) (w : World) (h : rfOk s k = false) :
    Calls Try.prog 11 #[.string s, .int .i64 k] w fun e w' => e = .returned (.tuple #[.int .i64 0, .bool false]) ∧ w = w' := by
  by_cases hb : inB k 1 7 = true
  · have h2 : (s.size : Int) < k := by simp [rfOk, inB] at h hb; omega
    go_enter Try.func11, Try.ntmps11
    go_wp2_with (go_at_call 21; refine (l1In_any _ _ _ _).mono ?_; rintro e w' ⟨rfl, rfl⟩)
    go_ret2
    exact ⟨rfl, rfl⟩
  · have hb : inB k 1 7 = false := by simpa using hb
    go_enter Try.func11, Try.ntmps11
    go_wp2_with (go_at_call 21; refine (l1In_any _ _ _ _).mono ?_; rintro e w' ⟨rfl, rfl⟩)
    go_ret2
    exact ⟨rfl, rfl⟩

theorem sReadFixed_yes (s : ByteArray) (k : Int) (w : World) (hs : s.size ≤ 9223372036854775807) (h1 : 1 ≤ k) (h2 : k ≤ 7) (h3 : k ≤ s.size) :
    Calls Try.prog 11 #[.string s, .int .i64 k] w fun e w' => e = .returned (.tuple #[.int .i64 (be (s.data.toList.take k.toNat)), .bool true]) ∧ w = w' := by
  obtain ⟨m, rfl⟩ : ∃ m : Nat, k = m := ⟨k.toNat, by omega⟩
  have hb : inB (m : Int) 1 7 = true := by simp [inB]; omega
  go_enter Try.func11, Try.ntmps11
  go_wp2_with (go_at_call 21; refine (l1In_any _ _ _ _).mono ?_; rintro e w' ⟨rfl, rfl⟩)
  go_loop [6, 7] (fun n i => ∃ j : Nat, j ≤ m ∧ i = .int .i64 j ∧ n = .int .i64 (be (s.data.toList.take j))) (fun _ i => m - (intOf i).toNat)
  case atStart => exact ⟨0, Nat.zero_le _, rfl, by simp [be]⟩
  case round =>
    obtain ⟨j, hj, rfl, rfl⟩ := hrel
    by_cases hlt : j < m
    · have hbd := be_bd6 (s.data.toList.take j) (by simp; omega)
      have hjs : j < s.size := by omega
      have hc := u8_le s[j]
      have HS := Lib.hid (be_take_succ s j hjs)
      go_wp2
      go_round
      case rel => exact ⟨j + 1, by omega, by go_num, by rw [HS.out]⟩
      case measure => simp [intOf]; omega
    · obtain rfl : j = m := by omega
      go_wp2
      go_ret2
      exact ⟨by simp, rfl⟩

theorem iReadFixed_no (s : ByteArray) (k : Int) (w : World) (h : rfOk s k = false) :
    Calls Try.prog 12 #[.string s, .int .i64 k] w fun e w' => e = .returned (.tuple #[.int .i64 0, .bool false]) ∧ w = w' := by
  by_cases hb : inB k 1 7 = true
  · have h2 : (s.size : Int) < k := by simp [rfOk, inB] at h hb; omega
    go_enter Try.func12, Try.ntmps12
    go_wp2_with (go_at_call 22; refine (widthOk_any _ _).mono ?_; rintro e w' ⟨rfl, rfl⟩)
    go_ret2
    exact ⟨rfl, rfl⟩
  · have hb : inB k 1 7 = false := by simpa using hb
    go_enter Try.func12, Try.ntmps12
    go_wp2_with (go_at_call 22; refine (widthOk_any _ _).mono ?_; rintro e w' ⟨rfl, rfl⟩)
    go_ret2
    exact ⟨rfl, rfl⟩

theorem iReadFixed_yes (s : ByteArray) (k : Int) (w : World) (hs : s.size ≤ 9223372036854775807) (h1 : 1 ≤ k) (h2 : k ≤ 7) (h3 : k ≤ s.size) :
    Calls Try.prog 12 #[.string s, .int .i64 k] w fun e w' => e = .returned (.tuple #[.int .i64 (be (s.data.toList.take k.toNat)), .bool true]) ∧ w = w' := by
  obtain ⟨m, rfl⟩ : ∃ m : Nat, k = m := ⟨k.toNat, by omega⟩
  have hb : inB (m : Int) 1 7 = true := by simp [inB]; omega
  go_enter Try.func12, Try.ntmps12
  go_wp2_with (go_at_call 22; refine (widthOk_any _ _).mono ?_; rintro e w' ⟨rfl, rfl⟩)
  go_loop [6, 18] (fun n i => ∃ j : Nat, j ≤ m ∧ i = .int .i64 j ∧ n = .int .i64 (be (s.data.toList.take j))) (fun _ i => m - (intOf i).toNat)
  case atStart => exact ⟨0, Nat.zero_le _, rfl, by simp [be]⟩
  case round =>
    obtain ⟨j, hj, rfl, rfl⟩ := hrel
    by_cases hlt : j < m
    · have hbd := be_bd6 (s.data.toList.take j) (by simp; omega)
      have hjs : j < s.size := by omega
      have hc := u8_le s[j]
      have HS := Lib.hid (be_take_succ s j hjs)
      go_wp2
      go_round
      case rel => exact ⟨j + 1, by omega, by go_num, by rw [HS.out, i64_or8 _ _ hbd.1 hbd.2 hc.1 hc.2]⟩
      case measure => simp [intOf]; omega
    · obtain rfl : j = m := by omega
      go_wp2
      go_ret2
      exact ⟨by simp, rfl⟩

/-- The two ReadFixed agree, one contract for both. -/
theorem sReadFixed_any (s : ByteArray) (k : Int) (w : World) (hs : s.size ≤ 9223372036854775807) :
    Calls Try.prog 11 #[.string s, .int .i64 k] w fun e w' => e = .returned (.tuple #[.int .i64 (rfN s k), .bool (rfOk s k)]) ∧ w = w' := by
  by_cases h : rfOk s k = true
  · have h' : 1 ≤ k ∧ k ≤ 7 ∧ k ≤ s.size := by simpa [rfOk] using h
    rw [rfN, if_pos h, h]
    exact sReadFixed_yes s k w hs h'.1 h'.2.1 h'.2.2
  · rw [rfN, if_neg h, Bool.eq_false_iff.2 h]
    exact sReadFixed_no s k w (by simpa using h)
theorem iReadFixed_any (s : ByteArray) (k : Int) (w : World) (hs : s.size ≤ 9223372036854775807) :
    Calls Try.prog 12 #[.string s, .int .i64 k] w fun e w' => e = .returned (.tuple #[.int .i64 (rfN s k), .bool (rfOk s k)]) ∧ w = w' := by
  by_cases h : rfOk s k = true
  · have h' : 1 ≤ k ∧ k ≤ 7 ∧ k ≤ s.size := by simpa [rfOk] using h
    rw [rfN, if_pos h, h]
    exact iReadFixed_yes s k w hs h'.1 h'.2.1 h'.2.2
  · rw [rfN, if_neg h, Bool.eq_false_iff.2 h]
    exact iReadFixed_no s k w (by simpa using h)
end Go.Proofs.Ytcppgckimbnjbaa
