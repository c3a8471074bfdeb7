/- Contracts of PageOf in both packages. -/
import Derived.Test.YthnihgnboelipacDoorClsM
import Derived.Test.YthnihgnboelipacDoorIn
import Derived.Test.YthnihgnboelipacDoorRet
import Derived.Test.YthnihgnboelipacDoorSlo
namespace Go.Proofs.YthnihgnboelipacDoor
open Go Go.RowKit


theorem sPageOf_any (n : Int) (w : World) :
    Calls Tryd.prog 17 #[.int .i64 n] w fun e w' => e = .returned (.int .i64 (pgOf n)) ∧ w = w' := by
  cases hb : inB n 0 23
  · have HZ : Hid (pgOf n = -1) := by show _ = _; rw [pgOf, hb]; rfl
    go_enter Tryd.func17, Tryd.ntmps17
    go_wp2_with (go_at_call 44; refine (l1In_any _ _ _ _).mono ?_; rintro e w' ⟨rfl, rfl⟩)
    go_ret
    exact ⟨ret_int HZ.out.symm, rfl⟩
  · have hi := inB_iff.1 hb
    have HZ := Lib.hid (show pgOf n = n / 4 by rw [pgOf, hb]; rfl)
    go_enter Tryd.func17, Tryd.ntmps17
    go_wp2_with (go_at_call 44; refine (l1In_any _ _ _ _).mono ?_; rintro e w' ⟨rfl, rfl⟩)
    go_ret
    exact ⟨ret_int HZ.out.symm, rfl⟩

theorem iPageOf_any (n : Int) (w : World) :
    Calls Tryd.prog 63 #[.int .i64 n] w fun e w' => e = .returned (.int .i64 (pgOf n)) ∧ w = w' := by
  cases hb : inB n 0 23
  · have HZ : Hid (pgOf n = -1) := by show _ = _; rw [pgOf, hb]; rfl
    go_enter Tryd.func63, Tryd.ntmps63
    go_wp2_with (go_at_call 61; refine (slotOk_any _ _).mono ?_; rintro e w' ⟨rfl, rfl⟩)
    go_ret
    exact ⟨ret_int HZ.out.symm, rfl⟩
  · have hi := inB_iff.1 hb
    have HZ := Lib.hid (show pgOf n = n / 4 by rw [pgOf, hb]; rfl)
    go_enter Tryd.func63, Tryd.ntmps63
    go_wp2_with (go_at_call 61; refine (slotOk_any _ _).mono ?_; rintro e w' ⟨rfl, rfl⟩)
    go_ret
    exact ⟨ret_int HZ.out.symm, rfl⟩
end Go.Proofs.YthnihgnboelipacDoor
