/- spec.Dec gives the decimal numeral. -/
import Derived.Test.YtcppgckimbnjbaaDoorBytes
import Derived.Lib.ItoaNum
namespace Go.Proofs.YtcppgckimbnjbaaDoor
open Go Go.RowKit

theorem conv_one (W : World) (z : Int) : (convert 22 9 (.slice (some ⟨W.heap.size, 0, none⟩) 1 1)).run Tryd.prog (W.alloc (.cells #[.int .u8 z] 5)) =
    .ok (.string ⟨[UInt8.ofNat z.toNat].toArray⟩) (W.alloc (.cells #[.int .u8 z] 5)) := by
  refine run_convert_bytes_arg _ _ 5 Tryd.underlying22 Tryd.underlying5 W.heap.size 0 1 1 [z] rfl (fun i hi => ?_) _ Tryd.underlying9
  obtain rfl : i = 0 := by omega
  simp [go_sem]

theorem cat_one (z : UInt8) (l : List UInt8) : (ByteArray.mk [z].toArray ++ ByteArray.mk l.toArray) = ByteArray.mk (z :: l).toArray := by
  simpa using ByteArray.mk_append_mk [z] l
theorem ret_str {a b : ByteArray} (h : a = b) : Ending.returned (.string a) = .returned (.string b) := by rw [h]

/-- What stands written when u is what is left of u0. -/
def decRest (u0 u : Nat) (l : List UInt8) : Prop := (u = 0 → l = Lib.decDigits u0) ∧ (u ≠ 0 → Lib.decDigits u0 = Lib.decDigits u ++ l)

theorem decRest_step {u0 u : Nat} {l : List UInt8} (h : decRest u0 u l) (hu : u ≠ 0) : decRest u0 (u / 10) (UInt8.ofNat (48 + u % 10) :: l) := by
  have h2 := h.2 hu
  refine ⟨fun h0 => ?_, fun h0 => ?_⟩
  · rw [h2, Lib.decDigits_one (by omega), show u % 10 = u by omega]; rfl
  · rw [h2, Lib.decDigits, dif_neg (by omega), List.append_assoc]; rfl

theorem neg_tmod (u : Nat) : (-(u : Int)).tmod 10 = -((u : Int) % 10) := by
  rw [Int.neg_tmod, Int.tmod_eq_emod_of_nonneg (by omega)]
theorem neg_tdiv (u : Nat) : (-(u : Int)).tdiv 10 = -((u : Int) / 10) := by
  rw [Int.neg_tdiv, Int.tdiv_eq_ediv_of_nonneg (by omega)]
theorem nDigits_le (u : Nat) (h : u < 18446744073709551616) : Lib.nDigits u ≤ 20 := by
  by_cases h' : 10 ^ 19 ≤ u
  · rw [Lib.nDigits_unique 19 u h' (by omega)]; exact Nat.le_refl _
  · have := Lib.lt_pow_nDigits u
    rcases Nat.lt_or_ge 20 (Lib.nDigits u) with h2 | h2
    · exfalso
      have aux : ∀ k u, u < 10 ^ k → 1 ≤ k → Lib.nDigits u ≤ k := by
        intro k
        induction k with
        | zero => intro u _ h; omega
        | succ k ih =>
          intro u hu _
          by_cases hs : u < 10
          · rw [Lib.nDigits_small hs]; omega
          · rw [Lib.nDigits_big hs]
            have : 1 ≤ k := by
              rcases Nat.eq_zero_or_pos k with h0 | h0
              · subst h0; simp at hu; omega
              · exact h0
            have := ih (u / 10) (by rw [Nat.pow_succ] at hu; omega) this
            omega
      have := aux 19 u (by omega) (by omega)
      omega
    · exact h2

theorem decRest_len {u0 u : Nat} {l : List UInt8} (h : decRest u0 u l) (hu : u0 < 18446744073709551616) : l.length ≤ 20 := by
  have h1 := Lib.decDigits_length u0
  have h2 := nDigits_le u0 hu
  by_cases h0 : u = 0
  · rw [h.1 h0]; omega
  · have := congrArg List.length (h.2 h0)
    rw [List.length_append] at this; omega

theorem dig_add (u : Nat) : (48 : UInt8) + UInt8.ofNat (u % 10) = UInt8.ofNat (48 + u % 10) := by
  rw [UInt8.ofNat_add]; rfl

set_option maxHeartbeats 400000 in
theorem sDec_pos (u0 : Nat) (w : World) (h0 : u0 ≠ 0) (h1 : (u0 : Int) ≤ 9223372036854775807) :
    Calls Tryd.prog 18 #[.int .i64 (u0 : Int)] w fun e w' => e = .returned (.string ⟨(Lib.decDigits u0).toArray⟩) ∧ Below w.heap.size w w' := by
  have HC := conv_one
  have hz : ((u0 : Int) == 0) = false := by simp; omega
  go_enter Tryd.func18, Tryd.ntmps18
  go_wp2
  go_loopw [0, 3] (fun x out wr => ∃ (u : Nat) (l : List UInt8), (u : Int) ≤ 9223372036854775807 ∧ x = .int .i64 (u : Int) ∧ out = .string ⟨l.toArray⟩ ∧ decRest u0 u l ∧ Below w.heap.size w wr) (fun x _ _ => (intOf x).toNat)
  case atStart => exact ⟨u0, [], h1, rfl, rfl, ⟨fun h => absurd h h0, fun _ => by simp⟩, Below.refl _ _⟩
  case round =>
    obtain ⟨u, l, hu, rfl, rfl, hr, hbel⟩ := hrel
    have hl := decRest_len hr (by omega)
    by_cases hlt : u = 0
    · subst hlt
      have HR := Lib.hid (hr.1 rfl); clear hr
      go_wp2
      go_ret
      exact ⟨ret_str (by rw [HR.out]), hbel⟩
    · have HS := Lib.hid (decRest_step hr hlt)
      clear hr
      have hz : ((u : Int) != 0) = true := by simp; omega
      go_wp2
      go_roundw
      case rel => exact ⟨u / 10, _, by omega, by go_num, by rw [dig_add]; rw [cat_one], HS.out, hbel.alloc hbel.size _⟩
      case measure => simp [intOf]; omega

set_option maxHeartbeats 400000 in
theorem sDec_neg (u0 : Nat) (w : World) (h0 : u0 ≠ 0) (h1 : (u0 : Int) ≤ 9223372036854775808) :
    Calls Tryd.prog 18 #[.int .i64 (-(u0 : Int))] w fun e w' => e = .returned (.string ⟨(45 :: Lib.decDigits u0).toArray⟩) ∧ Below w.heap.size w w' := by
  have HC := conv_one
  have hz : (-(u0 : Int) == 0) = false := by simp; omega
  have hneg : -(u0 : Int) < 0 := by omega
  go_enter Tryd.func18, Tryd.ntmps18
  go_wp2
  go_loopw [0, 3, 5] (fun x out _ wr => ∃ (u : Nat) (l : List UInt8), (u : Int) ≤ 9223372036854775808 ∧ x = .int .i64 (-(u : Int)) ∧ out = .string ⟨l.toArray⟩ ∧ decRest u0 u l ∧ Below w.heap.size w wr) (fun x _ _ _ => (-(intOf x)).toNat)
  case atStart => exact ⟨u0, [], h1, rfl, rfl, ⟨fun h => absurd h h0, fun _ => by simp⟩, Below.refl _ _⟩
  case round =>
    obtain ⟨u, l, hu, rfl, rfl, hr, hbel⟩ := hrel
    have hl := decRest_len hr (by omega)
    by_cases hlt : u = 0
    · subst hlt
      have HR := Lib.hid (hr.1 rfl); clear hr
      have HC2 := Lib.hid (cat_one 45 l)
      go_wp2
      go_ret
      exact ⟨ret_str (by rw [← HR.out]; exact HC2.out), hbel⟩
    · have HS := Lib.hid (decRest_step hr hlt)
      clear hr
      have hz : (-(u : Int) != 0) = true := by simp; omega
      have et := neg_tmod u
      have ed := neg_tdiv u
      by_cases hd : (u : Int) % 10 = 0
      · have hd' : ¬ (-((u : Int) % 10) < 0) := by omega
        have HD : Hid (UInt8.ofNat (48 + u % 10) = 48) := by show _ = _; rw [show u % 10 = 0 by omega]; rfl
        go_wp2
        go_roundw
        case rel => exact ⟨u / 10, UInt8.ofNat (48 + u % 10) :: l, by omega, by go_num, by rw [HD.out]; exact congrArg Value.string (cat_one 48 l), HS.out, hbel.alloc hbel.size _⟩
        case measure => simp [intOf]; omega
      · have hd' : -((u : Int) % 10) < 0 := by omega
        clear hd
        go_wp2
        go_roundw
        case rel => exact ⟨u / 10, UInt8.ofNat (48 + u % 10) :: l, by omega, by go_num, by rw [dig_add]; exact congrArg Value.string (cat_one _ l), HS.out, hbel.alloc hbel.size _⟩
        case measure => simp [intOf]; omega

theorem sDec_any (n : Int) (w : World) (h0 : -9223372036854775808 ≤ n) (h1 : n ≤ 9223372036854775807) :
    Calls Tryd.prog 18 #[.int .i64 n] w fun e w' => e = .returned (.string ⟨(Lib.itoa n).toArray⟩) ∧ Below w.heap.size w w' := by
  rcases Int.lt_trichotomy n 0 with h | h | h
  · obtain ⟨u, rfl⟩ : ∃ u : Nat, n = -(u : Int) := ⟨(-n).toNat, by omega⟩
    rw [Lib.itoa, if_pos h, show (-(u : Int)).natAbs = u by omega]
    exact sDec_neg u w (by omega) (by omega)
  · subst h
    have HZ : Hid (Lib.itoa 0 = [48]) := by show _ = _; rw [Lib.itoa, if_neg (by omega)]; exact Lib.decDigits_one (by decide)
    go_enter Tryd.func18, Tryd.ntmps18
    go_wp2
    go_ret
    exact ⟨ret_str (by rw [HZ.out]), Below.refl _ _⟩
  · obtain ⟨u, rfl⟩ : ∃ u : Nat, n = (u : Int) := ⟨n.toNat, by omega⟩
    rw [Lib.itoa, if_neg (by omega), show (u : Int).toNat = u by omega]
    exact sDec_pos u w (by omega) (by omega)
end Go.Proofs.YtcppgckimbnjbaaDoor
