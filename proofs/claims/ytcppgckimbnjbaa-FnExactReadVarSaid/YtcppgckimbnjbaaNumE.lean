/- Contracts of ReadVar in both packages. -/
import Derived.Test.YtcppgckimbnjbaaNumD
import Derived.Deep.RegionWith
namespace Go.Proofs.Ytcppgckimbnjbaa
open Go Go.RowKit

/-- The number of groups, least significant first. -/
def le : List UInt8 → Int
  | [] => 0
  | c :: l => le l * 128 + (c.toNat : Int) % 128

theorem le_bd : ∀ (k : Nat) (l : List UInt8), l.length = k → 0 ≤ le l ∧ le l < 128 ^ k
  | 0, l, h => by
    have : l = [] := List.length_eq_zero_iff.1 h
    subst this; simp [le]
  | k + 1, c :: l, h => by
    have ih := le_bd k l (by simpa using h)
    rw [le, Int.pow_succ]
    omega
  | k + 1, [], h => by simp at h

theorem pow128_up (k : Nat) : ∀ d : Nat, (128 : Int) ^ k ≤ 128 ^ (k + d) ∧ 0 < (128 : Int) ^ k
  | 0 => ⟨Int.le_refl _, Int.pow_pos (by omega)⟩
  | d + 1 => by
    have ⟨a, b⟩ := pow128_up k d
    refine ⟨?_, b⟩
    rw [← Nat.add_assoc, Int.pow_succ]; omega
theorem pow128_le {k n : Nat} (h : k ≤ n) : (128 : Int) ^ k ≤ 128 ^ n := by
  have := (pow128_up k (n - k)).1
  rwa [Nat.add_sub_cancel' h] at this

theorem le_bd7 (l : List UInt8) (h : l.length ≤ 7) : 0 ≤ le l ∧ le l ≤ 562949953421311 := by
  have := le_bd l.length l rfl
  have h2 : (128 : Int) ^ l.length ≤ 128 ^ 7 := pow128_le h
  omega
theorem le_bd6 (l : List UInt8) (h : l.length ≤ 6) : 0 ≤ le l ∧ le l ≤ 4398046511103 := by
  have := le_bd l.length l rfl
  have h2 : (128 : Int) ^ l.length ≤ 128 ^ 6 := pow128_le h
  omega

def hit (s : ByteArray) (k : Nat) : Bool := decide (k ≤ s.size) && ((varS (le (s.data.toList.take k))).toList == (s.extract 0 k).toList)

/-- ReadVar: the first beginning, of 1 to 7 bytes from k on, that is the varint of what it says. -/
def rvGo (s : ByteArray) : Nat → Nat → Int × Int
  | 0, _ => (0, 0)
  | f + 1, k => if hit s k then (le (s.data.toList.take k), (k : Int)) else rvGo s f (k + 1)
def rv (s : ByteArray) : Int × Int := rvGo s 7 1

theorem ret_ii {a b c d : Int} (h : a = c) (h' : b = d) : Ending.returned (.tuple #[.int .i64 a, .int .i64 b]) = .returned (.tuple #[.int .i64 c, .int .i64 d]) := by rw [h, h']

set_option maxHeartbeats 1000000 in
theorem sReadVar_any (s : ByteArray) (w : World) (hs : s.size ≤ 9223372036854775807) :
    Calls Try.prog 15 #[.string s] w fun e w' => e = .returned (.tuple #[.int .i64 (rv s).1, .int .i64 (rv s).2]) ∧ Below w.heap.size w w' := by
  go_enter Try.func15, Try.ntmps15
  go_wp2
  go_loopw [4] (fun k wr => ∃ j : Nat, 1 ≤ j ∧ j ≤ 8 ∧ k = .int .i64 j ∧ rv s = rvGo s (8 - j) j ∧ Below w.heap.size w wr) (fun k _ => (8 - intOf k).toNat)
  case atStart => exact ⟨1, by omega, by omega, rfl, rfl, Below.refl _ _⟩
  case round =>
    obtain ⟨j, hj1, hj8, rfl, hrv, hbel⟩ := hrel
    have HR := Lib.hid hrv; clear hrv
    by_cases h7 : j ≤ 7
    · by_cases hjs : j ≤ s.size
      · go_wp2
        go_loop [5, 6] (fun n i => ∃ (q : Nat) (z : Int), q ≤ j ∧ z + 1 = q ∧ i = .int .i64 z ∧ n = .int .i64 (le ((s.data.toList.take j).drop q))) (fun _ i => (intOf i + 1).toNat)
        case atStart => exact ⟨j, (j : Int) - 1, Nat.le_refl _, by omega, rfl, by simp [le]⟩
        case round =>
          obtain ⟨q, z, hq, hz, rfl, rfl⟩ := hrel
          by_cases hq0 : 0 < q
          · obtain ⟨p, rfl⟩ : ∃ p, q = p + 1 := ⟨q - 1, by omega⟩
            obtain rfl : z = (p : Int) := by omega
            have hbd := le_bd6 ((s.data.toList.take j).drop (p + 1)) (by simp; omega)
            have hps : p < s.size := by omega
            have hc := u8_le s[p]
            have HS : Hid (le ((s.data.toList.take j).drop p) = le ((s.data.toList.take j).drop (p + 1)) * 128 + (s[p].toNat : Int) % 128) := by
              have hp : p < (s.data.toList.take j).length := by simp; omega
              show _ = _
              rw [List.drop_eq_getElem_cons hp, le]
              simp
              rfl
            clear hz
            go_wp2
            go_round
            case rel => exact ⟨p, (p : Int) - 1, by omega, by omega, rfl, by rw [HS.out]⟩
            case measure => simp [intOf]
          · obtain rfl : q = 0 := by omega
            obtain rfl : z = -1 := by omega
            clear hz
            by_cases hh : ((varS (le (s.data.toList.take j))).toList == (s.extract 0 j).toList) = true
            · have HH : Hid (hit s j = true) := by show _ = _; rw [hit, hh]; simp [hjs]
              go_wp2
              go_region_with (go_at_call 13; refine (sVar_any _ _).mono ?_; rintro e w' ⟨rfl, hb1⟩)
              go_wp2
              go_ret2
              have HP : rv s = (le (s.data.toList.take j), (j : Int)) := by rw [HR.out, show 8 - j = (7 - j) + 1 by omega, rvGo, if_pos HH.out]
              exact ⟨ret_ii (by rw [HP]) (by rw [HP]), hbel.drew.trans (hb1.mono hbel.size)⟩
            · have hh : ((varS (le (s.data.toList.take j))).toList == (s.extract 0 j).toList) = false := by simpa using hh
              have HH : Hid (hit s j = false) := by show _ = _; rw [hit, hh]; simp [hjs]
              go_wp2
              go_region_with (go_at_call 13; refine (sVar_any _ _).mono ?_; rintro e w' ⟨rfl, hb1⟩)
              go_wp2
              go_roundw
              case rel => exact ⟨j + 1, by omega, by omega, by go_num, by rw [HR.out, show 8 - j = (8 - (j + 1)) + 1 by omega, rvGo, if_neg (by rw [HH.out]; decide)], hbel.drew.trans (hb1.mono hbel.size)⟩
              case measure => simp [intOf]; omega
      · have HH : ∀ f i, j ≤ i → rvGo s f i = (0, 0) := by
          intro f
          induction f with
          | zero => intro i _; rfl
          | succ f ih => intro i hi; rw [rvGo, if_neg (by simp [hit]; omega)]; exact ih _ (by omega)
        have HX := Lib.hid (HH (8 - j) j (Nat.le_refl _))
        clear HH
        go_wp2
        go_ret2
        exact ⟨ret_ii (by rw [HR.out, HX.out]) (by rw [HR.out, HX.out]), hbel⟩
    · obtain rfl : j = 8 := by omega
      go_wp2
      go_ret2
      exact ⟨ret_ii (by rw [HR.out]; rfl) (by rw [HR.out]; rfl), hbel⟩
end Go.Proofs.Ytcppgckimbnjbaa
