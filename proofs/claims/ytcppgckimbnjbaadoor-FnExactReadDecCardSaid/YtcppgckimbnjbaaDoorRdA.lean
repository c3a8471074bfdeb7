/- spec.ReadDec: its fold over the bytes, its test. -/
import Derived.Test.YtcppgckimbnjbaaDoorDecA
import Derived.Test.YtcppgckimbnjbaaDoorRdM
import Derived.Test.YtcppgckimbnjbaaDoorNumM
import Derived.Laws.Strings
namespace Go.Proofs.YtcppgckimbnjbaaDoor
open Go Go.RowKit

theorem ret_ib {a c : Int} {b d : Bool} (h : a = c) (h' : b = d) : Ending.returned (.tuple #[.int .i64 a, .bool b]) = .returned (.tuple #[.int .i64 c, .bool d]) := by rw [h, h']

def rdN (s : ByteArray) : Int := if rdOk s.data.toList then rdVal s.data.toList else 0
def rdB (s : ByteArray) : Bool := rdOk s.data.toList

theorem rdFold_take (s : ByteArray) (j : Nat) (h : j < s.size) : rdFold (s.data.toList.take (j + 1)) = rdStep (rdFold (s.data.toList.take j)) s[j] := by
  rw [take_snoc s j h, rdFold_snoc]

theorem rdNeg_eq (s : ByteArray) : rdNeg s.data.toList = decide (∃ h : 0 < s.size, s[0] = 45) := by
  have hz : s.data.size = s.size := rfl
  by_cases h : 0 < s.size
  · have e : s.data.toList.head? = some s[0] := by
      rw [List.head?_eq_getElem?, List.getElem?_eq_getElem (by simpa using h)]
      simp; rfl
    rw [rdNeg, e]
    by_cases h2 : s[0] = 45
    · simp [h2, h]
    · simp [h2, h]
  · have e : s.data.toList = [] := List.length_eq_zero_iff.1 (by rw [Array.length_toList]; omega)
    rw [rdNeg, e]; simp [h]

theorem sign_cases {s : ByteArray} {a : Int} {k : Nat} (hneg : rdNeg s.data.toList = decide (∃ h : 0 < s.size, s[0] = 45)) (hF : rdFold (s.data.toList.take 11) = (a, k)) (h0 : 0 ≤ a) (h1 : a ≤ 99999999999) :
    ∃ v : Int, rdVal s.data.toList = v ∧ -99999999999 ≤ v ∧ v ≤ 99999999999 ∧ ((¬ 0 < s.size ∧ v = a) ∨ (∃ h : 0 < s.size, ((s[0].toNat : Int) == 45) = true ∧ v = -a) ∨ (∃ h : 0 < s.size, ((s[0].toNat : Int) == 45) = false ∧ v = a)) := by
  by_cases h : 0 < s.size
  · by_cases h2 : s[0] = 45
    · refine ⟨-a, by rw [rdVal, hneg, hF]; simp [h, h2], by omega, by omega, .inr (.inl ⟨h, by rw [h2]; rfl, rfl⟩)⟩
    · refine ⟨a, by rw [rdVal, hneg, hF]; simp [h2], by omega, by omega, .inr (.inr ⟨h, ?_, rfl⟩)⟩
      simp only [beq_eq_false_iff_ne]
      intro e; apply h2; apply UInt8.toNat_inj.1; simp; omega
  · exact ⟨a, by rw [rdVal, hneg, hF]; simp [h], by omega, by omega, .inl ⟨h, rfl⟩⟩

set_option maxRecDepth 100000 in
set_option maxHeartbeats 1000000 in
theorem sReadDec_any (s : ByteArray) (w : World) (hs : s.size ≤ 9223372036854775807) :
    Calls Tryd.prog 19 #[.string s] w fun e w' => e = .returned (.tuple #[.int .i64 (rdN s), .bool (rdB s)]) ∧ Below w.heap.size w w' := by
  go_enter Tryd.func19, Tryd.ntmps19
  go_wp2
  go_loop [4, 5, 6] (fun n k i => ∃ j : Nat, j ≤ 11 ∧ j ≤ s.size ∧ i = .int .i64 j ∧ n = .int .i64 (rdFold (s.data.toList.take j)).1 ∧ k = .int .i64 ((rdFold (s.data.toList.take j)).2 : Nat)) (fun _ _ i => 11 - (intOf i).toNat)
  case atStart => exact ⟨0, by omega, by omega, rfl, by simp [rdFold], by simp [rdFold]⟩
  case round =>
    obtain ⟨j, hj, hjs, rfl, rfl, rfl⟩ := hrel
    by_cases hin : j < s.size ∧ j < 11
    · obtain ⟨hlt, h11⟩ := hin
      have hbd := rdFold_10 (s.data.toList.take j) (by simp; omega)
      have hc := u8_le s[j]
      have HT := Lib.hid (rdFold_take s j hlt)
      by_cases hd : isDig s[j]
      · have HS : Hid (rdFold (s.data.toList.take (j + 1)) = ((rdFold (s.data.toList.take j)).1 * 10 + ((s[j].toNat : Int) - 48), (rdFold (s.data.toList.take j)).2 + 1)) := by show _ = _; rw [HT.out, rdStep, if_pos hd]
        obtain ⟨d0, d1⟩ := hd
        go_wp2
        all_goals
          go_round
          case rel => exact ⟨j + 1, by omega, by omega, by go_num, by rw [HS.out], by rw [HS.out]; go_num⟩
          case measure => simp [intOf]; omega
      · have HS : Hid (rdFold (s.data.toList.take (j + 1)) = rdFold (s.data.toList.take j)) := by show _ = _; rw [HT.out, rdStep, if_neg hd]
        have hd' : (s[j].toNat : Int) < 48 ∨ 57 < (s[j].toNat : Int) := by unfold isDig at hd; omega
        clear hd
        rcases hd' with hd' | hd'
        all_goals
          go_wp2
          all_goals
            go_round
            case rel => exact ⟨j + 1, by omega, by omega, by go_num, by rw [HS.out], by rw [HS.out]⟩
            case measure => simp [intOf]; omega
    · have ht : s.data.toList.take j = s.data.toList.take 11 := by
        have : s.data.size = s.size := rfl
        rcases Nat.lt_or_ge j s.size with h | h
        · rw [show j = 11 by omega]
        · rw [List.take_of_length_le (by simp; omega), List.take_of_length_le (by simp; omega)]
      have hbd := rdFold_11 (s.data.toList.take 11) (by simp; omega)
      have hneg : rdNeg s.data.toList = decide (∃ h : 0 < s.size, s[0] = 45) := rdNeg_eq s
      obtain ⟨a, k, hF⟩ : ∃ a k, rdFold (s.data.toList.take 11) = (a, k) := ⟨_, _, rfl⟩
      simp only [hF] at hbd
      have hsg : ∃ v : Int, rdVal s.data.toList = v ∧ -99999999999 ≤ v ∧ v ≤ 99999999999 ∧ ((¬ 0 < s.size ∧ v = a) ∨ (∃ h : 0 < s.size, ((s[0].toNat : Int) == 45) = true ∧ v = -a) ∨ (∃ h : 0 < s.size, ((s[0].toNat : Int) == 45) = false ∧ v = a)) := sign_cases hneg hF hbd.1 hbd.2.1
      clear hneg
      obtain ⟨v, hv, hv0, hv1, hsg⟩ := hsg
      have hok : rdOk s.data.toList = (decide (k ≤ 9) && decide (s.size ≤ 10) && (Lib.itoa v == s.data.toList)) := by rw [rdOk, hF, hv]; rfl
      have hexit : ¬ j < s.size ∨ (j < s.size ∧ 11 ≤ j) := by omega
      rw [ht, hF]
      clear ht hF hin
      have HV := Lib.hid hv
      have HO := Lib.hid hok
      clear hv hok
      by_cases hk : k ≤ 9
      · have hk' : (k : Int) ≤ 9 := by omega
        by_cases h10 : s.size ≤ 10
        · have h10' : (s.size : Int) ≤ 10 := by omega
          by_cases heq : (Lib.itoa v == s.toList) = true
          · have HR : Hid (rdOk s.data.toList = true) := by show _ = _; rw [HO.out, ← ByteArray.toList_eq, heq]; simp [hk, h10]
            rcases hexit with h1 | ⟨h1, h2⟩ <;> rcases hsg with ⟨g0, rfl⟩ | ⟨g0, g1, rfl⟩ | ⟨g0, g1, rfl⟩
            all_goals
              go_wp2_with (go_at_call 18; refine (sDec_any _ _ (by omega) (by omega)).mono ?_; rintro e w' ⟨rfl, hb1⟩)
              all_goals go_ret2
              all_goals exact ⟨ret_ib (by rw [rdN, HR.out]; exact HV.out.symm) (by rw [rdB, HR.out]), hb1⟩
          · have heq : (Lib.itoa v == s.toList) = false := by simpa using heq
            have HR : Hid (rdOk s.data.toList = false) := by show _ = _; rw [HO.out, ← ByteArray.toList_eq, heq]; simp
            rcases hexit with h1 | ⟨h1, h2⟩ <;> rcases hsg with ⟨g0, rfl⟩ | ⟨g0, g1, rfl⟩ | ⟨g0, g1, rfl⟩
            all_goals
              go_wp2_with (go_at_call 18; refine (sDec_any _ _ (by omega) (by omega)).mono ?_; rintro e w' ⟨rfl, hb1⟩)
              all_goals go_ret2
              all_goals exact ⟨ret_ib (by rw [rdN, HR.out]; rfl) (by rw [rdB, HR.out]), hb1⟩
        · have HR : Hid (rdOk s.data.toList = false) := by show _ = _; rw [HO.out]; simp [h10]
          have h10' : (10 : Int) < s.size := by omega
          rcases hexit with h1 | ⟨h1, h2⟩ <;> rcases hsg with ⟨g0, rfl⟩ | ⟨g0, g1, rfl⟩ | ⟨g0, g1, rfl⟩
          all_goals
            go_wp2_with (go_at_call 18; refine (sDec_any _ _ (by omega) (by omega)).mono ?_; rintro e w' ⟨rfl, hb1⟩)
            all_goals go_ret2
            all_goals exact ⟨ret_ib (by rw [rdN, HR.out]; rfl) (by rw [rdB, HR.out]), Below.refl _ _⟩
      · have HR : Hid (rdOk s.data.toList = false) := by show _ = _; rw [HO.out]; simp [hk]
        have hk' : (9 : Int) < (k : Int) := by omega
        rcases hexit with h1 | ⟨h1, h2⟩ <;> rcases hsg with ⟨g0, rfl⟩ | ⟨g0, g1, rfl⟩ | ⟨g0, g1, rfl⟩
        all_goals
          go_wp2_with (go_at_call 18; refine (sDec_any _ _ (by omega) (by omega)).mono ?_; rintro e w' ⟨rfl, hb1⟩)
          all_goals go_ret2
          all_goals exact ⟨ret_ib (by rw [rdN, HR.out]; rfl) (by rw [rdB, HR.out]), Below.refl _ _⟩
end Go.Proofs.YtcppgckimbnjbaaDoor
