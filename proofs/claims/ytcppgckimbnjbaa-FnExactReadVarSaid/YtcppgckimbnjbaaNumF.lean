/- impl.ReadVar finds the same number. -/
import Derived.Test.YtcppgckimbnjbaaNumE
import Derived.Laws.Strings
namespace Go.Proofs.Ytcppgckimbnjbaa
open Go Go.RowKit

theorem ext0 (s : ByteArray) (k : Nat) : (s.extract 0 k).toList = s.data.toList.take k := by
  rw [ByteArray.toList_eq]
  simp [ByteArray.data_extract]

theorem varL_form : ∀ (k : Nat) (n : Int), 0 ≤ n → n < 128 ^ (k + 1) → ∃ i l, varL k n = i ++ [l] ∧ (∀ c ∈ i, 128 ≤ c.toNat) ∧ l.toNat < 128
  | 0, n, h0, h1 => ⟨[], UInt8.ofNat n.toNat, rfl, by simp, by simp at h1 ⊢; omega⟩
  | k + 1, n, h0, h1 => by
    by_cases h : 128 ≤ n
    · obtain ⟨i, l, e, a, b⟩ := varL_form k (n / 128) (by omega) (by rw [Int.pow_succ] at h1; omega)
      refine ⟨UInt8.ofNat (128 + n % 128).toNat :: i, l, by rw [varL, if_pos h, e]; rfl, ?_, b⟩
      intro c hc
      rcases List.mem_cons.1 hc with rfl | hc
      · simp; omega
      · exact a c hc
    · exact ⟨[], UInt8.ofNat n.toNat, by rw [varL, if_neg h]; rfl, by simp, by simp; omega⟩

theorem hit_form {s : ByteArray} {m : Nat} (h7 : m + 1 ≤ 7) (h : hit s (m + 1) = true) :
    ∃ hk : m < s.size, (s[m]'hk).toNat < 128 ∧ ∀ i (hi : i < m), 128 ≤ (s[i]'(by omega)).toNat := by
  have hb := le_bd7 (s.data.toList.take (m + 1)) (by simp; omega)
  simp only [hit, Bool.and_eq_true, decide_eq_true_eq, beq_iff_eq] at h
  obtain ⟨hk, he⟩ := h
  rw [ext0, varS, if_pos (by simp [varOk]; omega), ByteArray.toList_eq] at he
  have e128 : (128 : Int) ^ (6 + 1) = 562949953421312 := by decide
  obtain ⟨i, l, e, a, b⟩ := varL_form 6 (le (s.data.toList.take (m + 1))) hb.1 (by omega)
  have he' : i ++ [l] = s.data.toList.take (m + 1) := by rw [← e]; simpa using he
  have hlen : i.length = m := by
    have := congrArg List.length he'
    simp at this
    have hks : s.data.size = s.size := rfl
    omega
  have get : ∀ j (hj : j < s.size), j ≤ m → (i ++ [l])[j]? = some s[j] := by
    intro j hj hjk
    rw [he', List.getElem?_take, if_pos (by omega)]
    have : j < s.data.toList.length := by simpa using hj
    rw [List.getElem?_eq_getElem this]
    simp
    rfl
  refine ⟨by omega, ?_, fun j hj => ?_⟩
  · have g := get m (by omega) (by omega)
    rw [List.getElem?_append_right (by omega), hlen] at g
    simp at g
    rw [← g]; exact b
  · have g := get j (by omega) (by omega)
    rw [List.getElem?_append_left (by omega)] at g
    exact a _ (List.mem_of_getElem? g)

theorem rv_one (s : ByteArray) (k : Nat) (h1 : 1 ≤ k) (h7 : k ≤ 7) (h : ∀ j, 1 ≤ j → j ≤ 7 → j ≠ k → hit s j = false) :
    rv s = if hit s k then (le (s.data.toList.take k), (k : Int)) else (0, 0) := by
  have a1 := h 1 (by omega) (by omega)
  have a2 := h 2 (by omega) (by omega)
  have a3 := h 3 (by omega) (by omega)
  have a4 := h 4 (by omega) (by omega)
  have a5 := h 5 (by omega) (by omega)
  have a6 := h 6 (by omega) (by omega)
  have a7 := h 7 (by omega) (by omega)
  have : k = 1 ∨ k = 2 ∨ k = 3 ∨ k = 4 ∨ k = 5 ∨ k = 6 ∨ k = 7 := by omega
  clear h
  rcases this with e | e | e | e | e | e | e <;> subst e <;> simp at * <;> simp [rv, rvGo, *]

theorem rv_none (s : ByteArray) (h : ∀ j, 1 ≤ j → j ≤ 7 → hit s j = false) : rv s = (0, 0) := by
  rw [rv_one s 1 (by omega) (by omega) (fun j a b _ => h j a b), h 1 (by omega) (by omega)]
  rfl

theorem le_snoc (l : List UInt8) (c : UInt8) : le (l ++ [c]) = le l + ((c.toNat : Int) % 128) * 128 ^ l.length := by
  induction l with
  | nil => simp [le]
  | cons d l ih =>
    simp only [List.cons_append, le, ih, List.length_cons, Int.pow_succ]
    rw [Int.add_mul, Int.mul_assoc]; omega

theorem le_take_succ (s : ByteArray) (k : Nat) (h : k < s.size) :
    le (s.data.toList.take (k + 1)) = le (s.data.toList.take k) + ((s[k].toNat : Int) % 128) * 128 ^ k := by
  have : s.data.toList.take (k + 1) = s.data.toList.take k ++ [s[k]] := by
    rw [List.take_succ_eq_append_getElem (by simpa using h)]; rfl
  rw [this, le_snoc]
  have : s.data.size = s.size := rfl
  rw [show (s.data.toList.take k).length = k by simp; omega]

theorem pow27 (k : Nat) : (2 : Int) ^ (7 * k) = 128 ^ k := by rw [Int.pow_mul]; rfl

/-- n | (c << 7k), c below 128, n below 128^k. -/
theorem or_shl (n c : Int) (k : Nat) (hk : k ≤ 6) (h0 : 0 ≤ n) (h1 : n < 128 ^ k) (hc0 : 0 ≤ c) (hc1 : c < 128) :
    bits .or .i64 n (c * 2 ^ (7 * k)) = n + c * 128 ^ k ∧ 0 ≤ c * 2 ^ (7 * k) ∧ c * 2 ^ (7 * k) ≤ 562949953421311 := by
  have hp : (128 : Int) ^ k ≤ 4398046511104 := by
    have := pow128_le hk
    have e : (128 : Int) ^ 6 = 4398046511104 := by decide
    omega
  have hp0 : (0 : Int) < 128 ^ k := Int.pow_pos (by omega)
  have hm : c * 128 ^ k ≤ 127 * 128 ^ k := Int.mul_le_mul_of_nonneg_right (by omega) (by omega)
  have hm0 : 0 ≤ c * 128 ^ k := Int.mul_nonneg hc0 (by omega)
  have hj := bits_join .i64 63 (by decide) wraps_i64 (7 * k) (c * 2 ^ (7 * k)) n (by rw [pow27]; omega) (by rw [Int.mul_emod_left]) (by rw [pow27]; omega) h0 (by rw [pow27]; omega) (by omega)
  refine ⟨?_, by rw [pow27]; omega, by rw [pow27]; omega⟩
  have comm : bits .or .i64 n (c * 2 ^ (7 * k)) = bits .or .i64 (c * 2 ^ (7 * k)) n := by
    simp only [bits]; rw [BitVec.or_comm]
  rw [comm, hj, pow27]; omega

def rvAt (s : ByteArray) (k : Nat) : Int × Int := if hit s k then (le (s.data.toList.take k), (k : Int)) else (0, 0)

theorem exactVar_any (s : ByteArray) (k : Nat) (hk : k ≤ s.size) (w : World) :
    Calls Try.prog 23 #[.int .i64 (le (s.data.toList.take k)), .string (s.extract 0 k)] w fun e w' => e = .returned (.tuple #[.int .i64 (rvAt s k).1, .int .i64 (rvAt s k).2]) ∧ Below w.heap.size w w' := by
  by_cases hh : ((varS (le (s.data.toList.take k))).toList == (s.extract 0 k).toList) = true
  · have HP : Hid (rvAt s k = (le (s.data.toList.take k), (k : Int))) := by show _ = _; rw [rvAt, hit, hh]; simp [hk]
    go_enter Try.func23, Try.ntmps23
    go_wp2_with (go_at_call 14; refine (iVar_any _ _).mono ?_; rintro e w' ⟨rfl, hb1⟩)
    go_ret2
    exact ⟨ret_ii (by rw [HP.out]) (by rw [HP.out]), hb1⟩
  · have hh : ((varS (le (s.data.toList.take k))).toList == (s.extract 0 k).toList) = false := by simpa using hh
    have HP : Hid (rvAt s k = (0, 0)) := by show _ = _; rw [rvAt, hit, hh]; simp
    go_enter Try.func23, Try.ntmps23
    go_wp2_with (go_at_call 14; refine (iVar_any _ _).mono ?_; rintro e w' ⟨rfl, hb1⟩)
    go_ret2
    exact ⟨ret_ii (by rw [HP.out]) (by rw [HP.out]), hb1⟩

/-- What impl.ReadVar gives: the first byte below 128 among the first seven ends the number. -/
theorem rv_at (s : ByteArray) (m : Nat) (h7 : m + 1 ≤ 7) (hm : m < s.size) (hlo : (s[m]'hm).toNat < 128) (hhi : ∀ i (hi : i < m), 128 ≤ (s[i]'(by omega)).toNat) : rv s = rvAt s (m + 1) := by
  refine rv_one s (m + 1) (by omega) h7 fun j h1 h7' hne => ?_
  cases hj : hit s j with
  | false => rfl
  | true =>
    obtain ⟨q, rfl⟩ : ∃ q, j = q + 1 := ⟨j - 1, by omega⟩
    obtain ⟨hq, a, b⟩ := hit_form h7' hj
    rcases Nat.lt_trichotomy q m with h | h | h
    · have := hhi q h; omega
    · omega
    · have := b m h; omega

theorem rv_not (s : ByteArray) (hhi : ∀ i (hi : i < s.size), i < 7 → 128 ≤ (s[i]'hi).toNat) : rv s = (0, 0) := by
  refine rv_none s fun j h1 h7 => ?_
  cases hj : hit s j with
  | false => rfl
  | true =>
    obtain ⟨q, rfl⟩ : ∃ q, j = q + 1 := ⟨j - 1, by omega⟩
    obtain ⟨hq, a, b⟩ := hit_form h7 hj
    have := hhi q hq (by omega)
    omega

set_option maxRecDepth 100000 in
set_option maxHeartbeats 1000000 in
theorem iReadVar_any (s : ByteArray) (w : World) (hs : s.size ≤ 9223372036854775807) :
    Calls Try.prog 16 #[.string s] w fun e w' => e = .returned (.tuple #[.int .i64 (rv s).1, .int .i64 (rv s).2]) ∧ Below w.heap.size w w' := by
  go_enter Try.func16, Try.ntmps16
  go_wp2
  all_goals
    go_loop [4, 9] (fun n i => ∃ j : Nat, j ≤ 7 ∧ j ≤ s.size ∧ i = .int .i64 j ∧ n = .int .i64 (le (s.data.toList.take j)) ∧ ∀ q (hq : q < s.size), q < j → 128 ≤ (s[q]'hq).toNat) (fun _ i => 7 - (intOf i).toNat)
    case atStart => exact ⟨0, by omega, by omega, rfl, by simp [le], by intro q _ h; omega⟩
    case round =>
      obtain ⟨j, hj7, hjs, rfl, rfl, hhi⟩ := hrel
      have HH := Lib.hid hhi; clear hhi
      by_cases hin : j < 7 ∧ j < s.size
      · obtain ⟨h7, hlt⟩ := hin
        have hbd := le_bd j (s.data.toList.take j) (by have : s.data.size = s.size := rfl
                                                       simp; omega)
        have hc := u8_le s[j]
        obtain ⟨or1, or2, or3⟩ := or_shl (le (s.data.toList.take j)) ((s[j].toNat : Int) % 128) j (by omega) hbd.1 hbd.2 (by omega) (by omega)
        have HS : Hid (bits .or .i64 (le (s.data.toList.take j)) ((s[j].toNat : Int) % 128 * 2 ^ (7 * j)) = le (s.data.toList.take (j + 1))) := by
          show _ = _; rw [or1, le_take_succ s j hlt]
        clear or1 hbd
        by_cases hlo : (s[j].toNat : Int) < 128
        · have HP := Lib.hid (rv_at s j (by omega) hlt (by omega) (fun q hq => HH.out q (by omega) hq))
          have hjs1 : j + 1 ≤ s.size := by omega
          go_wp2_with fail
          rw [HS.out]
          refine (exactVar_any s (j + 1) hjs1 _).mono ?_
          rintro e w' ⟨rfl, hb1⟩
          go_wp2
          go_ret2
          exact ⟨ret_ii (by rw [HP.out]) (by rw [HP.out]), hb1⟩
        · go_wp2_with fail
          go_round
          case rel =>
            refine ⟨j + 1, by omega, by omega, by go_num, by rw [HS.out], fun q hq hqj => ?_⟩
            rcases Nat.lt_or_ge q j with h' | h'
            · exact HH.out q hq h'
            · obtain rfl : q = j := by omega
              omega
          case measure => simp [intOf]; omega
      · have HP := Lib.hid (rv_not s (fun q hq hq7 => HH.out q hq (by omega)))
        have hend : j = 7 ∨ j = s.size := by omega
        rcases hend with rfl | rfl
        all_goals
          go_wp2
          all_goals go_ret2
          all_goals exact ⟨ret_ii (by rw [HP.out]) (by rw [HP.out]), Below.refl _ _⟩
end Go.Proofs.Ytcppgckimbnjbaa
