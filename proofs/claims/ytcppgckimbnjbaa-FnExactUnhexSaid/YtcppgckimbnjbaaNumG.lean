/- Contracts of Hex in both packages. -/
import Derived.Test.YtcppgckimbnjbaaBytes
import Derived.Test.YtcppgckimbnjbaaNumM
import Derived.Deep.RegionLaw
namespace Go.Proofs.Ytcppgckimbnjbaa
open Go Go.RowKit

/-- The lower-case hexadecimal digit of a number below 16. -/
def dig (n : Nat) : UInt8 := UInt8.ofNat (if n < 10 then 48 + n else 87 + n)
def hexL : List UInt8 → List UInt8
  | [] => []
  | c :: l => dig (c.toNat / 16) :: dig (c.toNat % 16) :: hexL l

theorem hexL_snoc (l : List UInt8) (c : UInt8) : hexL (l ++ [c]) = hexL l ++ [dig (c.toNat / 16), dig (c.toNat % 16)] := by
  induction l with
  | nil => rfl
  | cons d l ih => simp [hexL, ih]
theorem hexL_len (l : List UInt8) : (hexL l).length = 2 * l.length := by
  induction l with
  | nil => rfl
  | cons d l ih => simp [hexL, ih]; omega

def hexD : ByteArray := ⟨#[48, 49, 50, 51, 52, 53, 54, 55, 56, 57, 97, 98, 99, 100, 101, 102]⟩
theorem hexD_get : ∀ (n : Fin 16), hexD[n.val]'(by have := n.isLt; show _ < 16; exact this) = dig n.val := by decide
theorem hexD_at (n : Nat) (h : n < 16) : ∀ (z : Int), z = n → ∀ h', (ByteArray.mk #[48, 49, 50, 51, 52, 53, 54, 55, 56, 57, 97, 98, 99, 100, 101, 102])[z.toNat]'h' = dig n := by
  intro z hz h'
  subst hz
  exact hexD_get ⟨n, h⟩

theorem u8_div (c : UInt8) : IntKind.u8.wrap ((c.toNat : Int) / 16) = (c.toNat : Int) / 16 := by
  have := u8_le c
  rw [IntWalk.u8_in _ (by omega)]

theorem ret_str {a b : ByteArray} (h : a = b) : Ending.returned (.string a) = .returned (.string b) := by rw [h]

set_option maxHeartbeats 1000000 in
theorem iHex_any (s : ByteArray) (w : World) (hs : s.size ≤ 1048576) :
    Calls Try.prog 18 #[.string s] w fun e w' => e = .returned (.string ⟨(hexL s.data.toList).toArray⟩) ∧ Below w.heap.size w w' := by
  obtain ⟨i0, hi, hz0, hz1, hz2⟩ := info_parts info_u8
  go_enter Try.func18, Try.ntmps18
  go_wp2_with (at_make; refine wpList_make_own _ rfl _ _ 36 rfl w.heap.size 5 i0 (.int .u8 0) 1 Try.underlying36 hi hz0 hz1 .i64 .i64 _ (2 * s.size) rfl rfl (by omega) (by rw [hz2]; omega) (by unfold maxLen; omega) (Nat.le_refl _) ?_; intro w1 hown1 hgrow1)
  go_loopw [3, 11] (fun v i wr => ∃ j : Nat, j ≤ s.size ∧ i = .int .i64 j ∧ Below w.heap.size w wr ∧ ownsB wr w.heap.size v (hexL (s.data.toList.take j))) (fun _ i _ => s.size - (intOf i).toNat)
  case atStart => exact ⟨0, by omega, rfl, (Below.refl _ _).grown hgrow1 (Nat.le_refl _) (by intro k hk; cases hk), hown1⟩
  case round =>
    obtain ⟨j, hj, rfl, hbel, hown⟩ := hrel
    have hlen := hexL_len (s.data.toList.take j)
    have hll : (hexL (s.data.toList.take j)).length ≤ 2097152 := by
      rw [hlen]; have := List.length_take_le j s.data.toList; omega
    clear hlen
    have hsz := hbel.size
    have hownd : ownsB wr.drew w.heap.size _ (hexL (s.data.toList.take j)) := hown
    by_cases hlt : j < s.size
    · have hc := u8_le s[j]
      have d1 := u8_div s[j]
      have dm : (s[j].toNat : Int).tmod 16 = (s[j].toNat : Int) % 16 := Int.tmod_eq_emod_of_nonneg (by omega)
      have hi1 := hexD_at (s[j].toNat / 16) (by have := s[j].toNat_lt; omega) ((s[j].toNat : Int) / 16) (by omega)
      have hi2 := hexD_at (s[j].toNat % 16) (by omega) ((s[j].toNat : Int).tmod 16) (by rw [dm]; omega)
      have q1 : (0 : Int) ≤ (s[j].toNat : Int) / 16 := by omega
      have q2 : (s[j].toNat : Int) / 16 < 16 := by omega
      have q3 : (0 : Int) ≤ (s[j].toNat : Int).tmod 16 := by rw [dm]; omega
      have q4 : (s[j].toNat : Int).tmod 16 < 16 := by rw [dm]; omega
      clear dm
      go_wp2
      go_region_law (first | (refine step_appendB wr.drew rfl _ _ rfl w.heap.size _ (hexL (s.data.toList.take j)) (by rfl) hownd #[_, _] [dig (s[j].toNat / 16), dig (s[j].toNat % 16)] rfl (by simp) 2 rfl _ (by rfl) rfl (by simp; omega) hsz ?_; intro v' w1 hown1 hb1 hne1))
      all_goals
        go_wp2
        go_roundw
        case rel =>
          refine ⟨j + 1, by omega, by go_num, hbel.drew.trans hb1, ?_⟩
          rw [take_snoc s j hlt, hexL_snoc]; exact hown1
        case measure => simp [intOf]; omega
    · obtain rfl : j = s.size := by omega
      have hcv := conv_own hown
      go_wp2
      go_ret
      exact ⟨ret_str (by
        have : s.data.size = s.size := rfl
        rw [List.take_of_length_le (by simp)]), hbel⟩
end Go.Proofs.Ytcppgckimbnjbaa
