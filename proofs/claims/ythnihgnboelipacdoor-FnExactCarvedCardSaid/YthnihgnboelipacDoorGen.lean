/- Contracts of GenAt in both packages. -/
import Derived.Test.YthnihgnboelipacDoorClsM
import Derived.Test.YthnihgnboelipacDoorIn
import Derived.Test.YthnihgnboelipacDoorRet
import Derived.Test.YthnihgnboelipacDoorPg
import Derived.Test.YthnihgnboelipacDoorIx
import Derived.Test.YthnihgnboelipacDoorCls
namespace Go.Proofs.YthnihgnboelipacDoor
open Go Go.RowKit


theorem gen_yes {s c : Int} (h : genOk s c = true) : genAt s c = s / 4 * 64 + 8 + s % 4 * strOf c ∧ stAt s c = s / 4 * 64 + 8 + s % 4 * strOf c + 4 := ⟨by rw [genAt, if_pos h], by rw [stAt, if_pos h]⟩
theorem gen_no {s c : Int} (h : genOk s c = false) : genAt s c = -1 ∧ stAt s c = -1 := ⟨by rw [genAt, h]; rfl, by rw [stAt, h]; rfl⟩
theorem mul_bd {a b : Int} (h0 : 0 ≤ a) (h1 : a ≤ 3) (h2 : 0 ≤ b) (h3 : b ≤ 44) : 0 ≤ a * b ∧ a * b ≤ 132 := by
  have : a = 0 ∨ a = 1 ∨ a = 2 ∨ a = 3 := by omega
  rcases this with rfl | rfl | rfl | rfl <;> omega

theorem sGenAt_any (s c : Int) (w : World) :
    Calls Tryd.prog 66 #[.int .i64 s, .int .i64 c] w fun e w' => e = .returned (.int .i64 (genAt s c)) ∧ w = w' := by
  have hp := per_bd c
  have hst := str_bd c
  cases hb : inB s 0 23
  · have HZ := Lib.hid (gen_no (s := s) (c := c) (by rw [genOk, hb]; rfl))
    have hpg : pgOf s = -1 := by rw [pgOf, hb]; rfl
    go_enter Tryd.func66, Tryd.ntmps66
    go_wp2_with (first | (go_at_call 17; refine (sPageOf_any _ _).mono ?_; rintro e w' ⟨rfl, rfl⟩) | (go_at_call 70; refine (sIndexOf_any _ _).mono ?_; rintro e w' ⟨rfl, rfl⟩) | (go_at_call 13; refine (sPerPage_any _ _).mono ?_; rintro e w' ⟨rfl, rfl⟩) | (go_at_call 44; refine (l1In_any _ _ _ _).mono ?_; rintro e w' ⟨rfl, rfl⟩))
    go_ret
    exact ⟨ret_int HZ.out.1.symm, rfl⟩
  · have hi := inB_iff.1 hb
    have hpg : pgOf s = s / 4 := by rw [pgOf, hb]; rfl
    have hix : ixOf s = s % 4 := by rw [ixOf, hb]; rfl
    cases hl : inB (s % 4) 0 (perOf c - 1)
    · have HZ := Lib.hid (gen_no (s := s) (c := c) (by rw [genOk, hb]; have := inB_no.1 hl; simp; omega))
      go_enter Tryd.func66, Tryd.ntmps66
      go_wp2_with (first | (go_at_call 17; refine (sPageOf_any _ _).mono ?_; rintro e w' ⟨rfl, rfl⟩) | (go_at_call 70; refine (sIndexOf_any _ _).mono ?_; rintro e w' ⟨rfl, rfl⟩) | (go_at_call 13; refine (sPerPage_any _ _).mono ?_; rintro e w' ⟨rfl, rfl⟩) | (go_at_call 44; refine (l1In_any _ _ _ _).mono ?_; rintro e w' ⟨rfl, rfl⟩))
      go_ret
      exact ⟨ret_int HZ.out.1.symm, rfl⟩
    · have hlt := inB_iff.1 hl
      have HZ := Lib.hid (gen_yes (s := s) (c := c) (by rw [genOk, hb]; simp; omega))
      have hm := mul_bd (a := s % 4) (b := strOf c) (by omega) (by omega) hst.1 hst.2
      go_enter Tryd.func66, Tryd.ntmps66
      go_wp2_with (first | (go_at_call 17; refine (sPageOf_any _ _).mono ?_; rintro e w' ⟨rfl, rfl⟩) | (go_at_call 70; refine (sIndexOf_any _ _).mono ?_; rintro e w' ⟨rfl, rfl⟩) | (go_at_call 13; refine (sPerPage_any _ _).mono ?_; rintro e w' ⟨rfl, rfl⟩) | (go_at_call 45; refine (sStrideOf_any _ _).mono ?_; rintro e w' ⟨rfl, rfl⟩) | (go_at_call 44; refine (l1In_any _ _ _ _).mono ?_; rintro e w' ⟨rfl, rfl⟩))
      go_ret
      exact ⟨ret_int HZ.out.1.symm, rfl⟩

theorem iGenAt_any (s c : Int) (w : World) (ht : Tab w) :
    Calls Tryd.prog 40 #[.int .i64 s, .int .i64 c] w fun e w' => e = .returned (.int .i64 (genAt s c)) ∧ w = w' := by
  have hp := per_bd c
  have hst := str_bd c
  cases hb : inB s 0 23
  · have HZ := Lib.hid (gen_no (s := s) (c := c) (by rw [genOk, hb]; rfl))
    go_enter Tryd.func40, Tryd.ntmps40
    go_wp2_with (go_at_call 61; refine (slotOk_any _ _).mono ?_; rintro e w' ⟨rfl, rfl⟩)
    go_ret
    exact ⟨ret_int HZ.out.1.symm, rfl⟩
  · have hi := inB_iff.1 hb
    have hpg : pgOf s = s / 4 := by rw [pgOf, hb]; rfl
    have hix : ixOf s = s % 4 := by rw [ixOf, hb]; rfl
    by_cases hl : perOf c ≤ s % 4
    · have HZ := Lib.hid (gen_no (s := s) (c := c) (by rw [genOk, hb]; simp; omega))
      go_enter Tryd.func40, Tryd.ntmps40
      go_wp2_with (first | (go_at_call 63; refine (iPageOf_any _ _).mono ?_; rintro e w' ⟨rfl, rfl⟩) | (go_at_call 62; refine (iIndexOf_any _ _).mono ?_; rintro e w' ⟨rfl, rfl⟩) | (go_at_call 37; refine (iPerPage_any _ _ ht).mono ?_; rintro e w' ⟨rfl, rfl⟩) | (go_at_call 61; refine (slotOk_any _ _).mono ?_; rintro e w' ⟨rfl, rfl⟩))
      go_ret
      exact ⟨ret_int HZ.out.1.symm, rfl⟩
    · have HZ := Lib.hid (gen_yes (s := s) (c := c) (by rw [genOk, hb]; simp; omega))
      have hm := mul_bd (a := s % 4) (b := strOf c) (by omega) (by omega) hst.1 hst.2
      go_enter Tryd.func40, Tryd.ntmps40
      go_wp2_with (first | (go_at_call 63; refine (iPageOf_any _ _).mono ?_; rintro e w' ⟨rfl, rfl⟩) | (go_at_call 62; refine (iIndexOf_any _ _).mono ?_; rintro e w' ⟨rfl, rfl⟩) | (go_at_call 37; refine (iPerPage_any _ _ ht).mono ?_; rintro e w' ⟨rfl, rfl⟩) | (go_at_call 59; refine (iStrideOf_any _ _ ht).mono ?_; rintro e w' ⟨rfl, rfl⟩) | (go_at_call 61; refine (slotOk_any _ _).mono ?_; rintro e w' ⟨rfl, rfl⟩))
      go_ret
      exact ⟨ret_int HZ.out.1.symm, rfl⟩
theorem gen_rng (s c : Int) : (genAt s c = -1 ∧ stAt s c = -1) ∨ (0 ≤ genAt s c ∧ genAt s c ≤ 500 ∧ stAt s c = genAt s c + 4) := by
  cases h : genOk s c
  · exact .inl (gen_no h)
  · obtain ⟨h1, h2⟩ := gen_yes h
    simp only [genOk, Bool.and_eq_true] at h
    have hi := inB_iff.1 h.1
    have hst := str_bd c
    have hm := mul_bd (a := s % 4) (b := strOf c) (by omega) (by omega) hst.1 hst.2
    right
    rw [h1, h2]
    omega

end Go.Proofs.YthnihgnboelipacDoor
