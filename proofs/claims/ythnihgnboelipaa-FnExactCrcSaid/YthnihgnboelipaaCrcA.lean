/- Contracts of Crc in both packages. -/
import Derived.Test.YthnihgnboelipaaCrcM
import Derived.Test.YthnihgnboelipaaNumM
import Derived.Test.YthnihgnboelipaaRet
import Derived.Test.YthnihgnboelipaaChecked
import Derived.WalkKit
import Derived.BigQuiet
import Derived.Deep.QuietTactic
import Derived.IntWalk
import Derived.Handy
import Derived.Lib.Hide
import Derived.Laws.BitsLemmas
namespace Go.Proofs.Ythnihgnboelipaa
open Go Go.RowKit

theorem ofInt_i64 (a : Nat) (ha : a < 9223372036854775808) : (BitVec.ofInt 64 (a : Int)).toNat = a := by
  rw [BitVec.ofInt_natCast, BitVec.toNat_ofNat]; exact Nat.mod_eq_of_lt (by omega)
theorem xor64 (a b : Nat) (ha : a < 9223372036854775808) (hb : b < 9223372036854775808) : bits .xor .i64 (a : Int) (b : Int) = ((a ^^^ b : Nat) : Int) := by
  have hx : a ^^^ b < 2 ^ 63 := Nat.xor_lt_two_pow (by omega) (by omega)
  show IntKind.i64.wrap ((BitVec.ofInt 64 (a : Int) ^^^ BitVec.ofInt 64 (b : Int)).toNat : Int) = _
  rw [BitVec.toNat_xor, ofInt_i64 a ha, ofInt_i64 b hb, IntKind.wrap_i64]
  omega
theorem half_xor64 (c : Nat) (h : c < 4294967296) : bits .xor .i64 ((c : Int) / 2) 2197175160 = ((c / 2 ^^^ 2197175160 : Nat) : Int) := by
  have := xor64 (c / 2) 2197175160 (by omega) (by omega)
  rw [← this]; rfl

/-- The bytes of a string as numbers. -/
def nums (s : ByteArray) : List Nat := s.data.toList.map (fun c => c.toNat)
theorem nums_len (s : ByteArray) : (nums s).length = s.size := by simp [nums]
theorem go_snoc (c : Nat) (l : List Nat) (b : Nat) : Crc.go c (l ++ [b]) = Crc.B (Crc.go c l ^^^ b) := by simp [Crc.go, List.foldl_append]
theorem nums_take (s : ByteArray) (k : Nat) (h : k < s.size) : (nums s).take (k + 1) = (nums s).take k ++ [s[k].toNat] := by
  have hk : k < (nums s).length := by rw [nums_len]; exact h
  rw [List.take_succ_eq_append_getElem hk]
  congr 2
  simp [nums]; rfl
theorem nums_lt (s : ByteArray) : ∀ m ∈ nums s, m < 256 := by
  intro m hm
  obtain ⟨c, _, rfl⟩ := List.mem_map.1 hm
  exact c.toNat_lt
theorem go_lt : ∀ (l : List Nat) (c : Nat), c < 4294967296 → (∀ m ∈ l, m < 256) → Crc.go c l < 4294967296
  | [], _, h, _ => h
  | b :: l, c, h, hm => go_lt l _ (Crc.B_lt (Nat.xor_lt_two_pow (n := 32) h (by have := hm b (by simp); omega))) (fun m hx => hm m (by simp [hx]))
def crc (s : ByteArray) : Nat := 4294967295 - Crc.go 4294967295 (nums s)
theorem Tn_succ' : ∀ (k c : Nat), Crc.Tn (k + 1) c = Crc.T (Crc.Tn k c)
  | 0, _ => rfl
  | k + 1, c => by rw [Crc.Tn, Tn_succ' k]; rfl
theorem T_odd {c : Nat} (h : c % 2 = 1) : Crc.T c = c / 2 ^^^ 2197175160 := by rw [Crc.T, if_pos h]
theorem T_even {c : Nat} (h : c % 2 ≠ 1) : Crc.T c = c / 2 := by rw [Crc.T, if_neg h]

theorem crcByte_any (c : Nat) (w : World) (h : c < 4294967296) :
    Calls Try.prog 37 #[.int .i64 c] w fun e w' => e = .returned (.int .i64 (Crc.B c : Nat)) ∧ w = w' := by
  go_enter Try.func37, Try.ntmps37
  go_wp2
  go_loop [0, 4] (fun s i => ∃ j d : Nat, j ≤ 8 ∧ i = .int .i64 j ∧ s = .int .i64 d ∧ d = Crc.Tn j c ∧ d < 4294967296) (fun _ i => 8 - (intOf i).toNat)
  case atStart => exact ⟨0, c, by omega, rfl, rfl, rfl, h⟩
  case round =>
    obtain ⟨j, d, hj, rfl, rfl, hd, hlt⟩ := hrel
    have HD := Lib.hid hd; clear hd
    have hT := Crc.T_lt hlt
    by_cases hj8 : j < 8
    · by_cases ho : d % 2 = 1
      · have HT := Lib.hid (T_odd ho)
        have hx := half_xor64 d hlt
        have ht : ((d : Int) % 2 == 1) = true := by simp; omega
        clear ho
        go_wp2
        go_round
        case rel => exact ⟨j + 1, d / 2 ^^^ 2197175160, by omega, by go_num, rfl, by rw [Tn_succ', ← HD.out, HT.out], by rw [← HT.out]; exact hT⟩
        case measure => simp [intOf]; omega
      · have HT := Lib.hid (T_even ho)
        have ht : ((d : Int) % 2 == 1) = false := by simp; omega
        clear ho
        go_wp2
        go_round
        case rel => exact ⟨j + 1, d / 2, by omega, by go_num, rfl, by rw [Tn_succ', ← HD.out, HT.out], by rw [← HT.out]; exact hT⟩
        case measure => simp [intOf]; omega
    · obtain rfl : j = 8 := by omega
      go_wp2
      go_ret
      exact ⟨by rw [HD.out]; rfl, rfl⟩

set_option maxHeartbeats 400000 in
theorem iCrc_any (s : ByteArray) (w : World) (hs : s.size ≤ 9223372036854775807) :
    Calls Try.prog 15 #[.string s] w fun e w' => e = .returned (.int .i64 (crc s : Nat)) ∧ w = w' := by
  go_enter Try.func15, Try.ntmps15
  go_wp2
  go_loop [3, 7] (fun c i => ∃ j d : Nat, j ≤ s.size ∧ i = .int .i64 j ∧ c = .int .i64 d ∧ d = Crc.go 4294967295 ((nums s).take j) ∧ d < 4294967296) (fun _ i => s.size - (intOf i).toNat)
  case atStart => exact ⟨0, 4294967295, by omega, rfl, rfl, rfl, by omega⟩
  case round =>
    obtain ⟨j, d, hj, rfl, rfl, hd, hlt⟩ := hrel
    have HD := Lib.hid hd; clear hd
    by_cases hjs : j < s.size
    · have HN := Lib.hid (nums_take s j hjs)
      have h8 := s[j].toNat_lt
      have hx := xor64 d s[j].toNat (by omega) (by omega)
      have hxl : d ^^^ s[j].toNat < 4294967296 := Nat.xor_lt_two_pow (n := 32) hlt (by omega)
      have HC := Lib.hid (crcByte_any (d ^^^ s[j].toNat) w hxl)
      have HB := Lib.hid (Crc.B_lt hxl)
      clear hxl
      go_wp2_with (go_at_call 37; refine HC.out.mono ?_; rintro e w' ⟨rfl, rfl⟩)
      go_round
      case rel => exact ⟨j + 1, Crc.B (d ^^^ s[j].toNat), by omega, by go_num, rfl, by rw [HN.out, go_snoc, ← HD.out], HB.out⟩
      case measure => simp [intOf]; omega
    · obtain rfl : j = s.size := by omega
      have HC : Hid ((4294967295 : Int) - (d : Int) = ((crc s : Nat) : Int)) := by
        have e : (nums s).take s.size = nums s := List.take_of_length_le (Nat.le_of_eq (nums_len s))
        have := HD.out
        rw [e] at this
        show _ = _
        rw [crc, ← this]; omega
      go_wp2
      go_ret
      exact ⟨ret_int HC.out, rfl⟩

set_option maxHeartbeats 1000000 in
theorem sCrc_any (s : ByteArray) (w : World) (hs : s.size ≤ 9223372036854775807) :
    Calls Try.prog 16 #[.string s] w fun e w' => e = .returned (.int .i64 (crc s : Nat)) ∧ w = w' := by
  go_enter Try.func16, Try.ntmps16
  go_wp2
  go_loop [3, 4] (fun c i => ∃ j d : Nat, j ≤ s.size ∧ i = .int .i64 j ∧ c = .int .i64 d ∧ d = Crc.go 4294967295 ((nums s).take j) ∧ d < 4294967296) (fun _ i => s.size - (intOf i).toNat)
  case atStart => exact ⟨0, 4294967295, by omega, rfl, rfl, rfl, by omega⟩
  case round =>
    obtain ⟨j, d, hj, rfl, rfl, hd, hlt⟩ := hrel
    have HD := Lib.hid hd; clear hd
    by_cases hjs : j < s.size
    · have HN := Lib.hid (nums_take s j hjs)
      have h8 := s[j].toNat_lt
      have hx := xor64 d s[j].toNat (by omega) (by omega)
      have hxl : d ^^^ s[j].toNat < 4294967296 := Nat.xor_lt_two_pow (n := 32) hlt (by omega)
      have HB := Lib.hid (Crc.B_lt hxl)
      go_wp2
      go_loop [3, 5] (fun c i => ∃ q f : Nat, q ≤ 8 ∧ i = .int .i64 q ∧ c = .int .i64 f ∧ f = Crc.Tn q (d ^^^ s[j].toNat) ∧ f < 4294967296) (fun _ i => 8 - (intOf i).toNat)
      case atStart => exact ⟨0, _, by omega, rfl, rfl, rfl, hxl⟩
      case round =>
        obtain ⟨q, f, hq, rfl, rfl, hf, hfl⟩ := hrel
        have HF := Lib.hid hf; clear hf
        have hT := Crc.T_lt hfl
        by_cases hq8 : q < 8
        · by_cases ho : f % 2 = 1
          · have HT := Lib.hid (T_odd ho)
            have hx := half_xor64 f hfl
            have ht : ((f : Int) % 2 == 1) = true := by simp; omega
            clear ho
            go_wp2
            go_round
            case rel => exact ⟨q + 1, f / 2 ^^^ 2197175160, by omega, by go_num, rfl, by rw [Tn_succ', ← HF.out, HT.out], by rw [← HT.out]; exact hT⟩
            case measure => simp [intOf]; omega
          · have HT := Lib.hid (T_even ho)
            have ht : ((f : Int) % 2 == 1) = false := by simp; omega
            clear ho
            go_wp2
            go_round
            case rel => exact ⟨q + 1, f / 2, by omega, by go_num, rfl, by rw [Tn_succ', ← HF.out, HT.out], by rw [← HT.out]; exact hT⟩
            case measure => simp [intOf]; omega
        · obtain rfl : q = 8 := by omega
          go_wp2
          go_round
          case rel => exact ⟨j + 1, f, by omega, by go_num, rfl, by rw [HN.out, go_snoc, ← HD.out, HF.out]; rfl, hfl⟩
          case measure => simp [intOf]; omega
    · obtain rfl : j = s.size := by omega
      have HC : Hid ((4294967295 : Int) - (d : Int) = ((crc s : Nat) : Int)) := by
        have e : (nums s).take s.size = nums s := List.take_of_length_le (Nat.le_of_eq (nums_len s))
        have := HD.out
        rw [e] at this
        show _ = _
        rw [crc, ← this]; omega
      go_wp2
      go_ret
      exact ⟨ret_int HC.out, rfl⟩
end Go.Proofs.Ythnihgnboelipaa
