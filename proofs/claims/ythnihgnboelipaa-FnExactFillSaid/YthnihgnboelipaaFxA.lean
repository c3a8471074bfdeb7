/- Contracts of Fixed in both packages. -/
import Derived.Test.YthnihgnboelipaaIn
import Derived.Test.YthnihgnboelipaaRet
import Derived.Laws.BytesArg
namespace Go.Proofs.Ythnihgnboelipaa
open Go Go.RowKit

/-- The k low bytes of n, most significant first. -/
def fxd : Nat → Int → List UInt8
  | 0, _ => []
  | k + 1, n => fxd k (n / 256) ++ [UInt8.ofNat (n % 256).toNat]

theorem fxd_len : ∀ (k : Nat) (n : Int), (fxd k n).length = k
  | 0, _ => rfl
  | k + 1, n => by simp [fxd, fxd_len k]

theorem conv_one (W : World) (z : Int) : (convert 22 9 (.slice (some ⟨W.heap.size, 0, none⟩) 1 1)).run Try.prog (W.alloc (.cells #[.int .u8 z] 5)) =
    .ok (.string ⟨[UInt8.ofNat z.toNat].toArray⟩) (W.alloc (.cells #[.int .u8 z] 5)) := by
  refine run_convert_bytes_arg _ _ 5 Try.underlying22 Try.underlying5 W.heap.size 0 1 1 [z] rfl (fun i hi => ?_) _ Try.underlying9
  obtain rfl : i = 0 := by omega
  simp [go_sem]

theorem cat_one (z : UInt8) (l : List UInt8) : (ByteArray.mk [z].toArray ++ ByteArray.mk l.toArray) = ByteArray.mk (z :: l).toArray := by
  simpa using ByteArray.mk_append_mk [z] l

theorem div_step (n : Int) (j : Nat) : n / 256 ^ j / 256 = n / 256 ^ (j + 1) := by
  rw [Int.ediv_ediv_of_nonneg (Int.pow_nonneg (by omega)), Int.pow_succ]
theorem div_pos_iff (n : Int) (m : Nat) (h : 0 ≤ n) : 0 < n / 256 ^ m ↔ (256 : Int) ^ m ≤ n := by
  have hp : (0 : Int) < 256 ^ m := Int.pow_pos (by omega)
  constructor
  · intro h'
    have := (Int.le_ediv_iff_mul_le hp (a := 1) (b := n)).1 (by omega)
    omega
  · intro h'
    have := (Int.le_ediv_iff_mul_le hp (a := 1) (b := n)).2 (by omega)
    omega


/-- What Fixed gives. -/
def fxOk (n k : Int) : Bool := decide (1 ≤ k ∧ k ≤ 7 ∧ 0 ≤ n ∧ n < 256 ^ k.toNat)
def fxS (n k : Int) : ByteArray := if fxOk n k then ⟨(fxd k.toNat n).toArray⟩ else ⟨#[]⟩

set_option maxHeartbeats 400000 in
theorem sFixed_in (n : Int) (k : Int) (w : World) (h1 : 1 ≤ k) (h2 : k ≤ 7) (h3 : 0 ≤ n) (h4 : n ≤ 9223372036854775807) :
    Calls Try.prog 47 #[.int .i64 n, .int .i64 k] w fun e w' => e = .returned (.string (fxS n k)) ∧ Below w.heap.size w w' := by
  obtain ⟨m, rfl⟩ : ∃ m : Nat, k = m := ⟨k.toNat, by omega⟩
  have hb : inB (m : Int) 1 7 = true := by simp [inB]; omega
  have HC := conv_one
  go_enter Try.func47, Try.ntmps47
  go_wp2_with (go_at_call 45; refine (l1In_any _ _ _ _).mono ?_; rintro e w' ⟨rfl, rfl⟩)
  go_loopw [0, 5, 6] (fun x out i wr => ∃ (j : Nat) (y : Int) (l : List UInt8), j ≤ m ∧ i = .int .i64 j ∧ x = .int .i64 y ∧ 0 ≤ y ∧ y ≤ 9223372036854775807 ∧ y = n / 256 ^ j ∧ out = .string ⟨l.toArray⟩ ∧ l.length = j ∧ fxd m n = fxd (m - j) y ++ l ∧ Below w.heap.size w wr) (fun _ _ i _ => m - (intOf i).toNat)
  case atStart => exact ⟨0, n, [], Nat.zero_le _, rfl, rfl, h3, h4, by simp, rfl, rfl, by simp, Below.refl _ _⟩
  case round =>
    obtain ⟨j, y, l, hj, rfl, rfl, hy0, hy1, hy, rfl, hl, hf, hbel⟩ := hrel
    have HY := Lib.hid hy; clear hy
    by_cases hlt : j < m
    · have hl' : l.length ≤ 7 := by omega
      have HF := Lib.hid hf; clear hf
      have HL := Lib.hid hl; clear hl
      go_wp2
      go_roundw
      case rel =>
        refine ⟨j + 1, y / 256, UInt8.ofNat (y % 256).toNat :: l, by omega, by go_num, rfl, by omega, by omega, by rw [HY.out, div_step], by rw [cat_one], by simp [HL.out], ?_, hbel.alloc hbel.size _⟩
        rw [HF.out, show m - j = (m - (j + 1)) + 1 by omega, fxd]
        simp
      case measure => simp [intOf]; omega
    · obtain rfl : j = m := by omega
      have HF := Lib.hid hf; clear hf
      clear hl
      have hfx : fxOk n j = decide (n < 256 ^ j) := by simp [fxOk, h1, h2, h3]
      have HX := Lib.hid hfx; clear hfx
      have hd := div_pos_iff n j h3
      rw [← HY.out] at hd
      by_cases hy : 0 < y
      · have HD := Lib.hid (hd.1 hy); clear hd
        go_wp2
        go_ret
        exact ⟨ret_str (by simp only [fxS, HX.out]; rw [if_neg (by have := HD.out; simp; omega)]), hbel⟩
      · have HD := Lib.hid (mt hd.2 hy); clear hd
        go_wp2
        go_ret
        exact ⟨ret_str (by simp only [fxS, HX.out]; rw [if_pos (by have := HD.out; simp; omega)]; simp [HF.out, fxd]), hbel⟩

theorem sFixed_any (n : Int) (k : Int) (w : World) (h4 : n ≤ 9223372036854775807) :
    Calls Try.prog 47 #[.int .i64 n, .int .i64 k] w fun e w' => e = .returned (.string (fxS n k)) ∧ Below w.heap.size w w' := by
  by_cases h : 1 ≤ k ∧ k ≤ 7 ∧ 0 ≤ n
  · exact sFixed_in n k w h.1 h.2.1 h.2.2 h4
  · have HX := Lib.hid (show fxOk n k = false by simp [fxOk]; omega)
    by_cases hb : inB k 1 7 = true
    · have h3 : n < 0 := by simp [inB] at hb; omega
      go_enter Try.func47, Try.ntmps47
      go_wp2_with (go_at_call 45; refine (l1In_any _ _ _ _).mono ?_; rintro e w' ⟨rfl, rfl⟩)
      go_ret
      exact ⟨by simp [fxS, HX.out], Below.refl _ _⟩
    · have hb : inB k 1 7 = false := by simpa using hb
      go_enter Try.func47, Try.ntmps47
      go_wp2_with (go_at_call 45; refine (l1In_any _ _ _ _).mono ?_; rintro e w' ⟨rfl, rfl⟩)
      go_ret
      exact ⟨by simp [fxS, HX.out], Below.refl _ _⟩
end Go.Proofs.Ythnihgnboelipaa
