/- Contracts of StrideOf and PerPage in both packages. -/
import Derived.Test.YthnihgnboelipacDoorSz
import Derived.Test.YthnihgnboelipacDoorClsM
import Derived.Test.YthnihgnboelipacDoorIn
namespace Go.Proofs.YthnihgnboelipacDoor
open Go Go.RowKit

theorem sStrideOf_any (c : Int) (w : World) :
    Calls Tryd.prog 45 #[.int .i64 c] w fun e w' => e = .returned (.int .i64 (strOf c)) ∧ w = w' := by
  rcases cls_cases c with rfl | rfl | rfl | ⟨hc, _, _, _, _, hz, _⟩
  iterate 3
    · have hb1 : inB 0 0 2 = true := rfl
      have hb2 : inB 1 0 2 = true := rfl
      have hb3 : inB 2 0 2 = true := rfl
      have hz1 : szOf 0 = 8 := rfl
      have hz2 : szOf 1 = 16 := rfl
      have hz3 : szOf 2 = 40 := rfl
      go_enter Tryd.func45, Tryd.ntmps45
      go_wp2_with (first | (go_at_call 44; refine (l1In_any _ _ _ _).mono ?_; rintro e w' ⟨rfl, rfl⟩) | (go_at_call 68; refine (sSizeOf_any _ _).mono ?_; rintro e w' ⟨rfl, rfl⟩))
      go_ret
      exact ⟨rfl, rfl⟩
  · have HZ := Lib.hid hz; clear hz
    go_enter Tryd.func45, Tryd.ntmps45
    go_wp2_with (go_at_call 44; refine (l1In_any _ _ _ _).mono ?_; rintro e w' ⟨rfl, rfl⟩)
    go_ret
    exact ⟨ret_int HZ.out.symm, rfl⟩

theorem iStrideOf_any (c : Int) (w : World) (ht : Tab w) :
    Calls Tryd.prog 59 #[.int .i64 c] w fun e w' => e = .returned (.int .i64 (strOf c)) ∧ w = w' := by
  rcases cls_cases c with rfl | rfl | rfl | ⟨hc, _, _, _, _, hz, _⟩
  iterate 3
    · have hb1 : inB 0 0 2 = true := rfl
      have hb2 : inB 1 0 2 = true := rfl
      have hb3 : inB 2 0 2 = true := rfl
      have hz1 : szOf 0 = 8 := rfl
      have hz2 : szOf 1 = 16 := rfl
      have hz3 : szOf 2 = 40 := rfl
      go_enter Tryd.func59, Tryd.ntmps59
      go_wp2_with (first | (go_at_call 35; refine (classOk_any _ _).mono ?_; rintro e w' ⟨rfl, rfl⟩) | (go_at_call 77; refine (iSizeOf_any _ _ ht).mono ?_; rintro e w' ⟨rfl, rfl⟩))
      go_ret
      exact ⟨rfl, rfl⟩
  · have HZ := Lib.hid hz; clear hz
    go_enter Tryd.func59, Tryd.ntmps59
    go_wp2_with (go_at_call 35; refine (classOk_any _ _).mono ?_; rintro e w' ⟨rfl, rfl⟩)
    go_ret
    exact ⟨ret_int HZ.out.symm, rfl⟩

theorem sPerPage_any (c : Int) (w : World) :
    Calls Tryd.prog 13 #[.int .i64 c] w fun e w' => e = .returned (.int .i64 (perOf c)) ∧ w = w' := by
  rcases cls_cases c with rfl | rfl | rfl | ⟨hc, _, _, _, _, _, hz⟩
  iterate 3
    · have hb1 : inB 0 0 2 = true := rfl
      have hb2 : inB 1 0 2 = true := rfl
      have hb3 : inB 2 0 2 = true := rfl
      have hz1 : strOf 0 = 12 := rfl
      have hz2 : strOf 1 = 20 := rfl
      have hz3 : strOf 2 = 44 := rfl
      go_enter Tryd.func13, Tryd.ntmps13
      go_wp2_with (first | (go_at_call 44; refine (l1In_any _ _ _ _).mono ?_; rintro e w' ⟨rfl, rfl⟩) | (go_at_call 45; refine (sStrideOf_any _ _).mono ?_; rintro e w' ⟨rfl, rfl⟩))
      go_ret
      exact ⟨rfl, rfl⟩
  · have HZ := Lib.hid hz; clear hz
    go_enter Tryd.func13, Tryd.ntmps13
    go_wp2_with (go_at_call 44; refine (l1In_any _ _ _ _).mono ?_; rintro e w' ⟨rfl, rfl⟩)
    go_ret
    exact ⟨ret_int HZ.out.symm, rfl⟩

theorem iPerPage_any (c : Int) (w : World) (ht : Tab w) :
    Calls Tryd.prog 37 #[.int .i64 c] w fun e w' => e = .returned (.int .i64 (perOf c)) ∧ w = w' := by
  rcases cls_cases c with rfl | rfl | rfl | ⟨hc, _, _, _, _, _, hz⟩
  iterate 3
    · have hb1 : inB 0 0 2 = true := rfl
      have hb2 : inB 1 0 2 = true := rfl
      have hb3 : inB 2 0 2 = true := rfl
      have hz1 : strOf 0 = 12 := rfl
      have hz2 : strOf 1 = 20 := rfl
      have hz3 : strOf 2 = 44 := rfl
      go_enter Tryd.func37, Tryd.ntmps37
      go_wp2_with (first | (go_at_call 35; refine (classOk_any _ _).mono ?_; rintro e w' ⟨rfl, rfl⟩) | (go_at_call 59; refine (iStrideOf_any _ _ ht).mono ?_; rintro e w' ⟨rfl, rfl⟩))
      go_ret
      exact ⟨rfl, rfl⟩
  · have HZ := Lib.hid hz; clear hz
    go_enter Tryd.func37, Tryd.ntmps37
    go_wp2_with (go_at_call 35; refine (classOk_any _ _).mono ?_; rintro e w' ⟨rfl, rfl⟩)
    go_ret
    exact ⟨ret_int HZ.out.symm, rfl⟩
end Go.Proofs.YthnihgnboelipacDoor
