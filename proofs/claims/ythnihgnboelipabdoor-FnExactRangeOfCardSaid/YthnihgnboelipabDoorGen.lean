/- Contracts of GenAt and StartOf in both packages. -/
import Derived.Test.YthnihgnboelipabDoorClsM
import Derived.Test.YthnihgnboelipabDoorIn
import Derived.Test.YthnihgnboelipabDoorRet
import Derived.Test.YthnihgnboelipabDoorPg
import Derived.Test.YthnihgnboelipabDoorIx
import Derived.Test.YthnihgnboelipabDoorCls
namespace Go.Proofs.YthnihgnboelipabDoor
open Go Go.RowKit


theorem gen_yes {s c : Int} (h : genOk s c = true) : genAt s c = s / 4 * 64 + 8 + s % 4 * strOf c ∧ stAt s c = s / 4 * 64 + 8 + s % 4 * strOf c + 4 := ⟨by rw [genAt, if_pos h], by rw [stAt, if_pos h]⟩
theorem gen_no {s c : Int} (h : genOk s c = false) : genAt s c = -1 ∧ stAt s c = -1 := ⟨by rw [genAt, h]; rfl, by rw [stAt, h]; rfl⟩
theorem mul_bd {a b : Int} (h0 : 0 ≤ a) (h1 : a ≤ 3) (h2 : 0 ≤ b) (h3 : b ≤ 44) : 0 ≤ a * b ∧ a * b ≤ 132 := by
  have : a = 0 ∨ a = 1 ∨ a = 2 ∨ a = 3 := by omega
  rcases this with rfl | rfl | rfl | rfl <;> omega

theorem sGenAt_any (s c : Int) (w : World) :
    Calls Tryd.prog 30 #[.int .i64 s, .int .i64 c] w fun e w' => e = .returned (.int .i64 (genAt s c)) ∧ w = w' := by
  have hp := per_bd c
  have hst := str_bd c
  cases hb : inB s 0 23
  · have HZ := Lib.hid (gen_no (s := s) (c := c) (by rw [genOk, hb]; rfl))
    have hpg : pgOf s = -1 := by rw [pgOf, hb]; rfl
    go_enter Tryd.func30, Tryd.ntmps30
    go_wp2_with (first | (go_at_call 41; refine (sPageOf_any _ _).mono ?_; rintro e w' ⟨rfl, rfl⟩) | (go_at_call 42; refine (sIndexOf_any _ _).mono ?_; rintro e w' ⟨rfl, rfl⟩) | (go_at_call 15; refine (sPerPage_any _ _).mono ?_; rintro e w' ⟨rfl, rfl⟩) | (go_at_call 34; refine (l1In_any _ _ _ _).mono ?_; rintro e w' ⟨rfl, rfl⟩))
    go_ret
    exact ⟨ret_int HZ.out.1.symm, rfl⟩
  · have hi := inB_iff.1 hb
    have hpg : pgOf s = s / 4 := by rw [pgOf, hb]; rfl
    have hix : ixOf s = s % 4 := by rw [ixOf, hb]; rfl
    cases hl : inB (s % 4) 0 (perOf c - 1)
    · have HZ := Lib.hid (gen_no (s := s) (c := c) (by rw [genOk, hb]; have := inB_no.1 hl; simp; omega))
      go_enter Tryd.func30, Tryd.ntmps30
      go_wp2_with (first | (go_at_call 41; refine (sPageOf_any _ _).mono ?_; rintro e w' ⟨rfl, rfl⟩) | (go_at_call 42; refine (sIndexOf_any _ _).mono ?_; rintro e w' ⟨rfl, rfl⟩) | (go_at_call 15; refine (sPerPage_any _ _).mono ?_; rintro e w' ⟨rfl, rfl⟩) | (go_at_call 34; refine (l1In_any _ _ _ _).mono ?_; rintro e w' ⟨rfl, rfl⟩))
      go_ret
      exact ⟨ret_int HZ.out.1.symm, rfl⟩
    · have hlt := inB_iff.1 hl
      have HZ := Lib.hid (gen_yes (s := s) (c := c) (by rw [genOk, hb]; simp; omega))
      have hm := mul_bd (a := s % 4) (b := strOf c) (by omega) (by omega) hst.1 hst.2
      go_enter Tryd.func30, Tryd.ntmps30
      go_wp2_with (first | (go_at_call 41; refine (sPageOf_any _ _).mono ?_; rintro e w' ⟨rfl, rfl⟩) | (go_at_call 42; refine (sIndexOf_any _ _).mono ?_; rintro e w' ⟨rfl, rfl⟩) | (go_at_call 15; refine (sPerPage_any _ _).mono ?_; rintro e w' ⟨rfl, rfl⟩) | (go_at_call 13; refine (sStrideOf_any _ _).mono ?_; rintro e w' ⟨rfl, rfl⟩) | (go_at_call 34; refine (l1In_any _ _ _ _).mono ?_; rintro e w' ⟨rfl, rfl⟩))
      go_ret
      exact ⟨ret_int HZ.out.1.symm, rfl⟩

theorem iGenAt_any (s c : Int) (w : World) (ht : Tab w) :
    Calls Tryd.prog 24 #[.int .i64 s, .int .i64 c] w fun e w' => e = .returned (.int .i64 (genAt s c)) ∧ w = w' := by
  have hp := per_bd c
  have hst := str_bd c
  cases hb : inB s 0 23
  · have HZ := Lib.hid (gen_no (s := s) (c := c) (by rw [genOk, hb]; rfl))
    go_enter Tryd.func24, Tryd.ntmps24
    go_wp2_with (go_at_call 37; refine (slotOk_any _ _).mono ?_; rintro e w' ⟨rfl, rfl⟩)
    go_ret
    exact ⟨ret_int HZ.out.1.symm, rfl⟩
  · have hi := inB_iff.1 hb
    have hpg : pgOf s = s / 4 := by rw [pgOf, hb]; rfl
    have hix : ixOf s = s % 4 := by rw [ixOf, hb]; rfl
    by_cases hl : perOf c ≤ s % 4
    · have HZ := Lib.hid (gen_no (s := s) (c := c) (by rw [genOk, hb]; simp; omega))
      go_enter Tryd.func24, Tryd.ntmps24
      go_wp2_with (first | (go_at_call 22; refine (iPageOf_any _ _).mono ?_; rintro e w' ⟨rfl, rfl⟩) | (go_at_call 23; refine (iIndexOf_any _ _).mono ?_; rintro e w' ⟨rfl, rfl⟩) | (go_at_call 16; refine (iPerPage_any _ _ ht).mono ?_; rintro e w' ⟨rfl, rfl⟩) | (go_at_call 37; refine (slotOk_any _ _).mono ?_; rintro e w' ⟨rfl, rfl⟩))
      go_ret
      exact ⟨ret_int HZ.out.1.symm, rfl⟩
    · have HZ := Lib.hid (gen_yes (s := s) (c := c) (by rw [genOk, hb]; simp; omega))
      have hm := mul_bd (a := s % 4) (b := strOf c) (by omega) (by omega) hst.1 hst.2
      go_enter Tryd.func24, Tryd.ntmps24
      go_wp2_with (first | (go_at_call 22; refine (iPageOf_any _ _).mono ?_; rintro e w' ⟨rfl, rfl⟩) | (go_at_call 23; refine (iIndexOf_any _ _).mono ?_; rintro e w' ⟨rfl, rfl⟩) | (go_at_call 16; refine (iPerPage_any _ _ ht).mono ?_; rintro e w' ⟨rfl, rfl⟩) | (go_at_call 14; refine (iStrideOf_any _ _ ht).mono ?_; rintro e w' ⟨rfl, rfl⟩) | (go_at_call 37; refine (slotOk_any _ _).mono ?_; rintro e w' ⟨rfl, rfl⟩))
      go_ret
      exact ⟨ret_int HZ.out.1.symm, rfl⟩
theorem gen_rng (s c : Int) : (genAt s c = -1 ∧ stAt s c = -1) ∨ (0 ≤ genAt s c ∧ genAt s c ≤ 500 ∧ stAt s c = genAt s c + 4) := by
  cases h : genOk s c
  · exact .inl (gen_no h)
  · obtain ⟨h1, h2⟩ := gen_yes h
    simp only [genOk, Bool.and_eq_true] at h
    have hi := inB_iff.1 h.1
    have hst := str_bd c
    have hm := mul_bd (a := s % 4) (b := strOf c) (by omega) (by omega) hst.1 hst.2
    right
    rw [h1, h2]
    omega

theorem sStartOf_any (s c : Int) (w : World) :
    Calls Tryd.prog 31 #[.int .i64 s, .int .i64 c] w fun e w' => e = .returned (.int .i64 (stAt s c)) ∧ w = w' := by
  have HG := Lib.hid (sGenAt_any s c w)
  rcases gen_rng s c with ⟨h1, h2⟩ | ⟨h1, h3, h2⟩
  · rw [h1] at HG
    have HZ := Lib.hid h2
    clear h1 h2
    go_enter Tryd.func31, Tryd.ntmps31
    go_wp2_with (go_at_call 30; refine HG.out.mono ?_; rintro e w' ⟨rfl, rfl⟩)
    go_ret
    exact ⟨ret_int HZ.out.symm, rfl⟩
  · have HZ := Lib.hid h2
    clear h2
    go_enter Tryd.func31, Tryd.ntmps31
    go_wp2_with (go_at_call 30; refine HG.out.mono ?_; rintro e w' ⟨rfl, rfl⟩)
    go_ret
    exact ⟨ret_int HZ.out.symm, rfl⟩

theorem iStartOf_any (s c : Int) (w : World) (ht : Tab w) :
    Calls Tryd.prog 26 #[.int .i64 s, .int .i64 c] w fun e w' => e = .returned (.int .i64 (stAt s c)) ∧ w = w' := by
  have HG := Lib.hid (iGenAt_any s c w ht)
  rcases gen_rng s c with ⟨h1, h2⟩ | ⟨h1, h3, h2⟩
  · rw [h1] at HG
    have HZ := Lib.hid h2
    clear h1 h2
    go_enter Tryd.func26, Tryd.ntmps26
    go_wp2_with (go_at_call 24; refine HG.out.mono ?_; rintro e w' ⟨rfl, rfl⟩)
    go_ret
    exact ⟨ret_int HZ.out.symm, rfl⟩
  · have HZ := Lib.hid h2
    clear h2
    go_enter Tryd.func26, Tryd.ntmps26
    go_wp2_with (go_at_call 24; refine HG.out.mono ?_; rintro e w' ⟨rfl, rfl⟩)
    go_ret
    exact ⟨ret_int HZ.out.symm, rfl⟩
end Go.Proofs.YthnihgnboelipabDoor
