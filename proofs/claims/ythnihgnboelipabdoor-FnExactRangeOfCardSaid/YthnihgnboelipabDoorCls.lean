/- Contracts of StrideOf and PerPage in both packages. -/
import Derived.Test.YthnihgnboelipabDoorSz
import Derived.Test.YthnihgnboelipabDoorClsM
import Derived.Test.YthnihgnboelipabDoorIn
namespace Go.Proofs.YthnihgnboelipabDoor
open Go Go.RowKit

theorem sStrideOf_any (c : Int) (w : World) :
    Calls Tryd.prog 13 #[.int .i64 c] w fun e w' => e = .returned (.int .i64 (strOf c)) ∧ w = w' := by
  rcases cls_cases c with rfl | rfl | rfl | ⟨hc, _, _, _, _, hz, _⟩
  iterate 3
    · have hb1 : inB 0 0 2 = true := rfl
      have hb2 : inB 1 0 2 = true := rfl
      have hb3 : inB 2 0 2 = true := rfl
      have hz1 : szOf 0 = 8 := rfl
      have hz2 : szOf 1 = 16 := rfl
      have hz3 : szOf 2 = 40 := rfl
      go_enter Tryd.func13, Tryd.ntmps13
      go_wp2_with (first | (go_at_call 34; refine (l1In_any _ _ _ _).mono ?_; rintro e w' ⟨rfl, rfl⟩) | (go_at_call 27; refine (sSizeOf_any _ _).mono ?_; rintro e w' ⟨rfl, rfl⟩))
      go_ret
      exact ⟨rfl, rfl⟩
  · have HZ := Lib.hid hz; clear hz
    go_enter Tryd.func13, Tryd.ntmps13
    go_wp2_with (go_at_call 34; refine (l1In_any _ _ _ _).mono ?_; rintro e w' ⟨rfl, rfl⟩)
    go_ret
    exact ⟨ret_int HZ.out.symm, rfl⟩

theorem iStrideOf_any (c : Int) (w : World) (ht : Tab w) :
    Calls Tryd.prog 14 #[.int .i64 c] w fun e w' => e = .returned (.int .i64 (strOf c)) ∧ w = w' := by
  rcases cls_cases c with rfl | rfl | rfl | ⟨hc, _, _, _, _, hz, _⟩
  iterate 3
    · have hb1 : inB 0 0 2 = true := rfl
      have hb2 : inB 1 0 2 = true := rfl
      have hb3 : inB 2 0 2 = true := rfl
      have hz1 : szOf 0 = 8 := rfl
      have hz2 : szOf 1 = 16 := rfl
      have hz3 : szOf 2 = 40 := rfl
      go_enter Tryd.func14, Tryd.ntmps14
      go_wp2_with (first | (go_at_call 35; refine (classOk_any _ _).mono ?_; rintro e w' ⟨rfl, rfl⟩) | (go_at_call 36; refine (iSizeOf_any _ _ ht).mono ?_; rintro e w' ⟨rfl, rfl⟩))
      go_ret
      exact ⟨rfl, rfl⟩
  · have HZ := Lib.hid hz; clear hz
    go_enter Tryd.func14, Tryd.ntmps14
    go_wp2_with (go_at_call 35; refine (classOk_any _ _).mono ?_; rintro e w' ⟨rfl, rfl⟩)
    go_ret
    exact ⟨ret_int HZ.out.symm, rfl⟩

theorem sPerPage_any (c : Int) (w : World) :
    Calls Tryd.prog 15 #[.int .i64 c] w fun e w' => e = .returned (.int .i64 (perOf c)) ∧ w = w' := by
  rcases cls_cases c with rfl | rfl | rfl | ⟨hc, _, _, _, _, _, hz⟩
  iterate 3
    · have hb1 : inB 0 0 2 = true := rfl
      have hb2 : inB 1 0 2 = true := rfl
      have hb3 : inB 2 0 2 = true := rfl
      have hz1 : strOf 0 = 12 := rfl
      have hz2 : strOf 1 = 20 := rfl
      have hz3 : strOf 2 = 44 := rfl
      go_enter Tryd.func15, Tryd.ntmps15
      go_wp2_with (first | (go_at_call 34; refine (l1In_any _ _ _ _).mono ?_; rintro e w' ⟨rfl, rfl⟩) | (go_at_call 13; refine (sStrideOf_any _ _).mono ?_; rintro e w' ⟨rfl, rfl⟩))
      go_ret
      exact ⟨rfl, rfl⟩
  · have HZ := Lib.hid hz; clear hz
    go_enter Tryd.func15, Tryd.ntmps15
    go_wp2_with (go_at_call 34; refine (l1In_any _ _ _ _).mono ?_; rintro e w' ⟨rfl, rfl⟩)
    go_ret
    exact ⟨ret_int HZ.out.symm, rfl⟩

theorem iPerPage_any (c : Int) (w : World) (ht : Tab w) :
    Calls Tryd.prog 16 #[.int .i64 c] w fun e w' => e = .returned (.int .i64 (perOf c)) ∧ w = w' := by
  rcases cls_cases c with rfl | rfl | rfl | ⟨hc, _, _, _, _, _, hz⟩
  iterate 3
    · have hb1 : inB 0 0 2 = true := rfl
      have hb2 : inB 1 0 2 = true := rfl
      have hb3 : inB 2 0 2 = true := rfl
      have hz1 : strOf 0 = 12 := rfl
      have hz2 : strOf 1 = 20 := rfl
      have hz3 : strOf 2 = 44 := rfl
      go_enter Tryd.func16, Tryd.ntmps16
      go_wp2_with (first | (go_at_call 35; refine (classOk_any _ _).mono ?_; rintro e w' ⟨rfl, rfl⟩) | (go_at_call 14; refine (iStrideOf_any _ _ ht).mono ?_; rintro e w' ⟨rfl, rfl⟩))
      go_ret
      exact ⟨rfl, rfl⟩
  · have HZ := Lib.hid hz; clear hz
    go_enter Tryd.func16, Tryd.ntmps16
    go_wp2_with (go_at_call 35; refine (classOk_any _ _).mono ?_; rintro e w' ⟨rfl, rfl⟩)
    go_ret
    exact ⟨ret_int HZ.out.symm, rfl⟩
end Go.Proofs.YthnihgnboelipabDoor
