/- Contracts of HandleGen in both packages. -/
import Derived.Test.YthnihgnboelipacClsM
import Derived.Test.YthnihgnboelipacIn
import Derived.Test.YthnihgnboelipacRet
import Derived.Test.YthnihgnboelipacSlo
import Derived.Test.YthnihgnboelipacHaA2
namespace Go.Proofs.Ythnihgnboelipac
open Go Go.RowKit

theorem sHandleGen_any (h : Int) (w : World) :
    Calls Try.prog 22 #[.int .i64 h] w fun e w' => e = .returned (.int .i64 (hGen h)) ∧ w = w' := by
  cases h1 : hOk h
  · have HZ := Lib.hid (show hGen h = 0 by rw [hGen, h1]; rfl)
    go_enter Try.func22, Try.ntmps22
    go_wp2_with (go_at_call 19; refine (sHandleOk_any _ _).mono ?_; rintro e w' ⟨rfl, rfl⟩)
    go_ret
    exact ⟨ret_int HZ.out.symm, rfl⟩
  · have HZ := Lib.hid (show hGen h = h / 32 by rw [hGen, h1]; rfl)
    have i1 := hok_iff.1 h1
    go_enter Try.func22, Try.ntmps22
    go_wp2_with (go_at_call 19; refine (sHandleOk_any _ _).mono ?_; rintro e w' ⟨rfl, rfl⟩)
    go_ret
    exact ⟨ret_int HZ.out.symm, rfl⟩
theorem iHandleGen_any (h : Int) (w : World) (hm : h ≤ 9223372036854775807) :
    Calls Try.prog 15 #[.int .i64 h] w fun e w' => e = .returned (.int .i64 (hGen h)) ∧ w = w' := by
  cases h1 : hOk h
  · have HZ := Lib.hid (show hGen h = 0 by rw [hGen, h1]; rfl)
    go_enter Try.func15, Try.ntmps15
    go_wp2_with (go_at_call 16; refine (iHandleOk_any _ _ hm).mono ?_; rintro e w' ⟨rfl, rfl⟩)
    go_ret
    exact ⟨ret_int HZ.out.symm, rfl⟩
  · have HZ := Lib.hid (show hGen h = h / 32 by rw [hGen, h1]; rfl)
    have i1 := hok_iff.1 h1
    go_enter Try.func15, Try.ntmps15
    go_wp2_with (go_at_call 16; refine (iHandleOk_any _ _ hm).mono ?_; rintro e w' ⟨rfl, rfl⟩)
    go_ret
    exact ⟨ret_int HZ.out.symm, rfl⟩
end Go.Proofs.Ythnihgnboelipac
