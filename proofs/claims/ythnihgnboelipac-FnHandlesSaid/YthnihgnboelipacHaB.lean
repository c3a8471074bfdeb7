/- Contracts of HandleSlot in both packages. -/
import Derived.Test.YthnihgnboelipacClsM
import Derived.Test.YthnihgnboelipacIn
import Derived.Test.YthnihgnboelipacRet
import Derived.Test.YthnihgnboelipacSlo
import Derived.Test.YthnihgnboelipacHaA2
namespace Go.Proofs.Ythnihgnboelipac
open Go Go.RowKit

theorem sHandleSlot_any (h : Int) (w : World) :
    Calls Try.prog 21 #[.int .i64 h] w fun e w' => e = .returned (.int .i64 (hSlot h)) ∧ w = w' := by
  cases h1 : hOk h
  · have HZ := Lib.hid (show hSlot h = -1 by rw [hSlot, h1]; rfl)
    go_enter Try.func21, Try.ntmps21
    go_wp2_with (go_at_call 19; refine (sHandleOk_any _ _).mono ?_; rintro e w' ⟨rfl, rfl⟩)
    go_ret
    exact ⟨ret_int HZ.out.symm, rfl⟩
  · have HZ := Lib.hid (show hSlot h = h % 32 by rw [hSlot, h1]; rfl)
    have i1 := hok_iff.1 h1
    go_enter Try.func21, Try.ntmps21
    go_wp2_with (go_at_call 19; refine (sHandleOk_any _ _).mono ?_; rintro e w' ⟨rfl, rfl⟩)
    go_ret
    exact ⟨ret_int HZ.out.symm, rfl⟩
theorem iHandleSlot_any (h : Int) (w : World) (hm : h ≤ 9223372036854775807) :
    Calls Try.prog 14 #[.int .i64 h] w fun e w' => e = .returned (.int .i64 (hSlot h)) ∧ w = w' := by
  cases h1 : hOk h
  · have HZ := Lib.hid (show hSlot h = -1 by rw [hSlot, h1]; rfl)
    go_enter Try.func14, Try.ntmps14
    go_wp2_with (go_at_call 16; refine (iHandleOk_any _ _ hm).mono ?_; rintro e w' ⟨rfl, rfl⟩)
    go_ret
    exact ⟨ret_int HZ.out.symm, rfl⟩
  · have HZ := Lib.hid (show hSlot h = h % 32 by rw [hSlot, h1]; rfl)
    have i1 := hok_iff.1 h1
    go_enter Try.func14, Try.ntmps14
    go_wp2_with (go_at_call 16; refine (iHandleOk_any _ _ hm).mono ?_; rintro e w' ⟨rfl, rfl⟩)
    go_ret
    exact ⟨ret_int HZ.out.symm, rfl⟩
end Go.Proofs.Ythnihgnboelipac
