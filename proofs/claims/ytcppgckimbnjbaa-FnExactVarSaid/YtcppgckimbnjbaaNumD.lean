/- Contracts of Var in both packages. -/
import Derived.Test.YtcppgckimbnjbaaNumA
import Derived.Test.YtcppgckimbnjbaaBytes
namespace Go.Proofs.Ytcppgckimbnjbaa
open Go Go.RowKit

/-- The varint of n, at most k + 1 groups. -/
def varL : Nat → Int → List UInt8
  | 0, n => [UInt8.ofNat n.toNat]
  | k + 1, n => if 128 ≤ n then UInt8.ofNat (128 + n % 128).toNat :: varL k (n / 128) else [UInt8.ofNat n.toNat]

def varOk (n : Int) : Bool := decide (0 ≤ n ∧ n ≤ 562949953421311)
def varS (n : Int) : ByteArray := if varOk n then ⟨(varL 6 n).toArray⟩ else ⟨#[]⟩

theorem ret_str {a b : ByteArray} (h : a = b) : Ending.returned (.string a) = .returned (.string b) := by rw [h]

theorem sVar_no (n : Int) (w : World) (h : varOk n = false) :
    Calls Try.prog 13 #[.int .i64 n] w fun e w' => e = .returned (.string ⟨#[]⟩) ∧ w = w' := by
  have hb : inB n 0 562949953421311 = false := h
  go_enter Try.func13, Try.ntmps13
  go_wp2_with (go_at_call 21; refine (l1In_any _ _ _ _).mono ?_; rintro e w' ⟨rfl, rfl⟩)
  go_ret
  exact ⟨rfl, rfl⟩

theorem iVar_no (n : Int) (w : World) (h : varOk n = false) :
    Calls Try.prog 14 #[.int .i64 n] w fun e w' => e = .returned (.string ⟨#[]⟩) ∧ w = w' := by
  have hb : n < 0 ∨ 562949953421311 < n := by simp [varOk] at h; omega
  rcases hb with hb | hb
  · go_enter Try.func14, Try.ntmps14
    go_wp2
    go_ret
    exact ⟨rfl, rfl⟩
  · have h0 : 0 ≤ n := by omega
    go_enter Try.func14, Try.ntmps14
    go_wp2
    go_ret
    exact ⟨rfl, rfl⟩

theorem pow128 (j : Nat) (hj : j ≤ 6) : (128 : Int) ^ (7 - j) ≤ 562949953421312 := by
  have : j = 0 ∨ j = 1 ∨ j = 2 ∨ j = 3 ∨ j = 4 ∨ j = 5 ∨ j = 6 := by omega
  rcases this with h | h | h | h | h | h | h <;> subst h <;> decide

theorem step128 {j : Nat} {y : Int} (h : y < 128 ^ (7 - j)) (hy : 128 ≤ y) (hj : j ≤ 6) : j ≤ 5 ∧ y / 128 < 128 ^ (7 - (j + 1)) := by
  have h5 : j ≤ 5 := by
    rcases Nat.lt_or_ge 5 j with h' | h'
    · obtain rfl : j = 6 := by omega
      simp at h; omega
    · exact h'
  refine ⟨h5, ?_⟩
  rw [show 7 - j = (7 - (j + 1)) + 1 by omega, Int.pow_succ] at h
  omega

theorem varL_small (k : Nat) (y : Int) (h : y < 128) : varL k y = [UInt8.ofNat y.toNat] := by
  cases k with
  | zero => rfl
  | succ k => rw [varL, if_neg (by omega)]

theorem varL_big (j : Nat) (y : Int) (h : 128 ≤ y) (hj : j ≤ 5) : varL (6 - j) y = UInt8.ofNat (128 + y % 128).toNat :: varL (6 - (j + 1)) (y / 128) := by
  rw [show 6 - j = (6 - (j + 1)) + 1 by omega, varL, if_pos h]

set_option maxHeartbeats 400000 in
theorem sVar_yes (n : Int) (w : World) (h0 : 0 ≤ n) (h1 : n ≤ 562949953421311) :
    Calls Try.prog 13 #[.int .i64 n] w fun e w' => e = .returned (.string ⟨(varL 6 n).toArray⟩) ∧ Below w.heap.size w w' := by
  have hb : inB n 0 562949953421311 = true := by simp [inB]; omega
  go_enter Try.func13, Try.ntmps13
  go_wp2_with (go_at_call 21; refine (l1In_any _ _ _ _).mono ?_; rintro e w' ⟨rfl, rfl⟩)
  go_loopw [0, 3] (fun x v wr => ∃ (j : Nat) (y : Int) (l : List UInt8), j ≤ 6 ∧ x = .int .i64 y ∧ 0 ≤ y ∧ y < 128 ^ (7 - j) ∧ y ≤ 562949953421311 ∧ l.length = j ∧ varL 6 n = l ++ varL (6 - j) y ∧ Below w.heap.size w wr ∧ ownsB wr w.heap.size v l) (fun x _ _ => (intOf x).toNat)
  case atStart => exact ⟨0, n, [], by omega, rfl, h0, by omega, h1, rfl, rfl, (Below.refl _ _).alloc (Nat.le_refl _) _, ownsB_lit _ _ (Nat.le_refl _)⟩
  case round =>
    rename_i v wr
    obtain ⟨j, y, l, hj, rfl, hy0, hy1, hy2, hl, hv, hbel, hown⟩ := hrel
    have hll : l.length ≤ 6 := by omega
    have hsz := hbel.size
    have HV := Lib.hid hv; clear hv
    have HL := Lib.hid hl; clear hl
    by_cases hbig : 128 ≤ y
    · obtain ⟨h5, hq⟩ := step128 hy1 hbig hj
      have HQ := Lib.hid hq; clear hq
      have HB := Lib.hid (varL_big j y hbig h5)
      clear hy1
      go_wp2_with (at_builtin; refine wpList_append8 _ rfl _ _ rfl w.heap.size _ l rfl hown _ (by omega) (by omega) rfl (by omega) hsz ?_; intro v' w1 hown1 hb1 _)
      go_roundw
      case rel => exact ⟨j + 1, y / 128, _, by omega, rfl, by omega, HQ.out, by omega, by simp [HL.out], by rw [HV.out, HB.out, List.append_assoc]; rfl, hbel.trans hb1, hown1⟩
      case measure => simp [intOf]; omega
    · have HB := Lib.hid (varL_small (6 - j) y (by omega))
      clear hy1
      go_wp2_with (at_builtin; refine wpList_append8 _ rfl _ _ rfl w.heap.size _ l rfl hown _ (by omega) (by omega) rfl (by omega) hsz ?_; intro v' w1 hown1 hb1 _; have hcv := conv_own hown1)
      go_ret
      exact ⟨ret_str (by rw [HV.out, HB.out]), hbel.trans hb1⟩

set_option maxHeartbeats 400000 in
theorem iVar_yes (n : Int) (w : World) (h0 : 0 ≤ n) (h1 : n ≤ 562949953421311) :
    Calls Try.prog 14 #[.int .i64 n] w fun e w' => e = .returned (.string ⟨(varL 6 n).toArray⟩) ∧ Below w.heap.size w w' := by
  go_enter Try.func14, Try.ntmps14
  obtain ⟨i0, hi, hz0, hz1, hz2⟩ := info_parts info_u8
  go_wp2_with (at_make; refine wpList_make_own _ rfl _ _ 36 rfl w.heap.size 5 i0 (.int .u8 0) 1 Try.underlying36 hi hz0 hz1 .i64 .i64 _ 7 rfl rfl rfl (by rw [hz2]; omega) (by unfold maxLen; omega) (Nat.le_refl _) ?_; intro w1 hown1 hgrow1)
  go_loopw [0, 3] (fun x v wr => ∃ (j : Nat) (y : Int) (l : List UInt8), j ≤ 6 ∧ x = .int .i64 y ∧ 0 ≤ y ∧ y < 128 ^ (7 - j) ∧ y ≤ 562949953421311 ∧ l.length = j ∧ varL 6 n = l ++ varL (6 - j) y ∧ Below w.heap.size w wr ∧ ownsB wr w.heap.size v l) (fun x _ _ => (intOf x).toNat)
  case atStart => exact ⟨0, n, [], by omega, rfl, h0, by omega, h1, rfl, rfl, (Below.refl _ _).grown hgrow1 (Nat.le_refl _) (by intro k hk; cases hk), hown1⟩
  case round =>
    rename_i v wr
    obtain ⟨j, y, l, hj, rfl, hy0, hy1, hy2, hl, hv, hbel, hown⟩ := hrel
    have hll : l.length ≤ 6 := by omega
    have hsz := hbel.size
    have HV := Lib.hid hv; clear hv
    have HL := Lib.hid hl; clear hl
    by_cases hbig : 128 ≤ y
    · obtain ⟨h5, hq⟩ := step128 hy1 hbig hj
      have HQ := Lib.hid hq; clear hq
      have HB := Lib.hid (varL_big j y hbig h5)
      have HC : Hid ((y % 128 + 128) = 128 + y % 128) := by show _ = _; omega
      clear hy1
      go_wp2_with (at_builtin; refine wpList_append8 _ rfl _ _ rfl w.heap.size _ l rfl hown _ (by omega) (by omega) rfl (by omega) hsz ?_; intro v' w1 hown1 hb1 _)
      go_roundw
      case rel => exact ⟨j + 1, y / 128, _, by omega, rfl, by omega, HQ.out, by omega, by simp [HL.out], by rw [HV.out, HB.out, HC.out, List.append_assoc]; rfl, hbel.trans hb1, hown1⟩
      case measure => simp [intOf]; omega
    · have HB := Lib.hid (varL_small (6 - j) y (by omega))
      clear hy1
      go_wp2_with (at_builtin; refine wpList_append8 _ rfl _ _ rfl w.heap.size _ l rfl hown _ (by omega) (by omega) rfl (by omega) hsz ?_; intro v' w1 hown1 hb1 _; have hcv := conv_own hown1)
      go_ret
      exact ⟨ret_str (by rw [HV.out, HB.out]), hbel.trans hb1⟩

theorem sVar_any (n : Int) (w : World) :
    Calls Try.prog 13 #[.int .i64 n] w fun e w' => e = .returned (.string (varS n)) ∧ Below w.heap.size w w' := by
  by_cases h : varOk n = true
  · rw [varS, if_pos h]
    have h' : 0 ≤ n ∧ n ≤ 562949953421311 := by simpa [varOk] using h
    exact sVar_yes n w h'.1 h'.2
  · rw [varS, if_neg h]
    exact (sVar_no n w (by simpa using h)).mono fun e w' ⟨a, b⟩ => ⟨a, by subst b; exact Below.refl _ _⟩
theorem iVar_any (n : Int) (w : World) :
    Calls Try.prog 14 #[.int .i64 n] w fun e w' => e = .returned (.string (varS n)) ∧ Below w.heap.size w w' := by
  by_cases h : varOk n = true
  · rw [varS, if_pos h]
    have h' : 0 ≤ n ∧ n ≤ 562949953421311 := by simpa [varOk] using h
    exact iVar_yes n w h'.1 h'.2
  · rw [varS, if_neg h]
    exact (iVar_no n w (by simpa using h)).mono fun e w' ⟨a, b⟩ => ⟨a, by subst b; exact Below.refl _ _⟩
end Go.Proofs.Ytcppgckimbnjbaa
