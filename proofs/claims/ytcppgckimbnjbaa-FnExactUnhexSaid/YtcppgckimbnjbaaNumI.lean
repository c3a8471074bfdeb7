/- Hexadecimal digits read back: spec.l1FromHex and strings.IndexByte over the digits. -/
import Derived.Test.YtcppgckimbnjbaaNumH
import Derived.Test.YtcppgckimbnjbaaShelf
namespace Go.Proofs.Ytcppgckimbnjbaa
open Go Go.RowKit

/-- What a byte stands for as a digit; -1 if it is none. -/
def unh (c : UInt8) : Int := if 48 ≤ c.toNat ∧ c.toNat ≤ 57 then (c.toNat : Int) - 48 else if 97 ≤ c.toNat ∧ c.toNat ≤ 102 then (c.toNat : Int) - 87 else -1

theorem unh_bd (c : UInt8) : -1 ≤ unh c ∧ unh c ≤ 15 := by unfold unh; split <;> (try split) <;> omega

theorem unh_all : ∀ (c : Fin 256), (∀ q : Fin 16, dig q.val = UInt8.ofNat c.val → unh (UInt8.ofNat c.val) = (q.val : Int)) ∧ ((∀ q : Fin 16, dig q.val ≠ UInt8.ofNat c.val) → unh (UInt8.ofNat c.val) = -1) := by decide +kernel
theorem u8_of (c : UInt8) : UInt8.ofNat c.toNat = c := by simp
theorem unh_hit (c : UInt8) (q : Nat) (hq : q < 16) (h : dig q = c) : unh c = (q : Int) := by
  have := (unh_all ⟨c.toNat, c.toNat_lt⟩).1 ⟨q, hq⟩
  simp only [u8_of] at this
  exact this h
theorem unh_miss (c : UInt8) (h : ∀ q, q < 16 → dig q ≠ c) : unh c = -1 := by
  have := (unh_all ⟨c.toNat, c.toNat_lt⟩).2
  simp only [u8_of] at this
  exact this fun q => h q.val q.isLt

theorem ret_int {k : IntKind} {a b : Int} (h : a = b) : Ending.returned (.int k a) = .returned (.int k b) := by rw [h]

set_option maxHeartbeats 400000 in
theorem l1FromHex_any (c : UInt8) (w : World) :
    Calls Try.prog 25 #[.int .u8 (c.toNat : Int)] w fun e w' => e = .returned (.int .i64 (unh c)) ∧ w = w' := by
  go_enter Try.func25, Try.ntmps25
  go_wp2
  go_loop [3] (fun i => ∃ k : Nat, k ≤ 16 ∧ i = .int .i64 k ∧ ∀ q, q < k → dig q ≠ c) (fun i => 16 - (intOf i).toNat)
  case atStart => exact ⟨0, by omega, rfl, by intro q h; omega⟩
  case round =>
    obtain ⟨k, hk, rfl, hq⟩ := hrel
    have HQ := Lib.hid hq; clear hq
    by_cases hlt : k < 16
    · by_cases hd : dig k = c
      · have HU := Lib.hid (unh_hit c k hlt hd)
        have ht : (((dig k).toNat : Int) == (c.toNat : Int)) = true := by rw [hd]; simp
        clear hd
        go_wp2_with (go_at_call 24; refine (l1Digit_any _ (by omega) (by omega) _).mono ?_; rintro e w' ⟨rfl, rfl⟩)
        go_ret
        exact ⟨ret_int (by rw [HU.out]), rfl⟩
      · have ht : (((dig k).toNat : Int) == (c.toNat : Int)) = false := by
          simp only [beq_eq_false_iff_ne]
          intro h; exact hd (UInt8.toNat_inj.1 (by omega))
        have HD := Lib.hid hd; clear hd
        go_wp2_with (go_at_call 24; refine (l1Digit_any _ (by omega) (by omega) _).mono ?_; rintro e w' ⟨rfl, rfl⟩)
        go_round
        case rel =>
          refine ⟨k + 1, by omega, by go_num, fun q hq => ?_⟩
          rcases Nat.lt_or_ge q k with h | h
          · exact HQ.out q h
          · obtain rfl : q = k := by omega
            exact HD.out
        case measure => simp [intOf]; omega
    · obtain rfl : k = 16 := by omega
      have HU := Lib.hid (unh_miss c HQ.out)
      go_wp2
      go_ret
      exact ⟨ret_int (by rw [HU.out]), rfl⟩

theorem idx_all : ∀ (c : Fin 256), Lib.indexByte hexD.data.toList (UInt8.ofNat c.val) = unh (UInt8.ofNat c.val) := by decide +kernel
theorem indexByte_any (c : UInt8) (w : World) :
    Calls Try.prog 26 #[.string ⟨#[48, 49, 50, 51, 52, 53, 54, 55, 56, 57, 97, 98, 99, 100, 101, 102]⟩, .int .u8 (c.toNat : Int)] w fun e w' => e = .returned (.int .i64 (unh c)) ∧ w = w' := by
  refine (Try.strings_IndexByte hexD (c.toNat : Int) w).mono fun e w' ⟨he, hw⟩ => ⟨?_, hw.symm⟩
  have := idx_all ⟨c.toNat, c.toNat_lt⟩
  simp only [u8_of] at this
  rw [he]
  have e2 : ((c.toNat : Int).toNat.toUInt8) = c := by simp
  rw [e2, this]

/-- Unhex. -/
def unhexL : List UInt8 → Option (List UInt8)
  | [] => some []
  | [_] => none
  | a :: b :: l => if unh a < 0 ∨ unh b < 0 then none else (unhexL l).map (UInt8.ofNat (16 * unh a + unh b).toNat :: ·)

theorem unhexL_odd : ∀ (l : List UInt8), l.length % 2 = 1 → unhexL l = none
  | [], h => by simp at h
  | [_], _ => rfl
  | a :: b :: l, h => by
    rw [unhexL, unhexL_odd l (by simp at h; omega)]
    split <;> rfl

def uhS (s : ByteArray) : ByteArray := match unhexL s.data.toList with | some l => ⟨l.toArray⟩ | none => ⟨#[]⟩
def uhB (s : ByteArray) : Bool := (unhexL s.data.toList).isSome

theorem unhexL_at (s : ByteArray) (j : Nat) (h : j + 1 < s.size) : unhexL (s.data.toList.drop j) =
    if unh s[j] < 0 ∨ unh s[j + 1] < 0 then none else (unhexL (s.data.toList.drop (j + 2))).map (UInt8.ofNat (16 * unh s[j] + unh s[j + 1]).toNat :: ·) := by
  have hs : s.data.size = s.size := rfl
  rw [List.drop_eq_getElem_cons (by simp; omega), List.drop_eq_getElem_cons (i := j + 1) (by simp; omega), unhexL]
  simp
  rfl
end Go.Proofs.Ytcppgckimbnjbaa
