/- Contracts of IndexOf in both packages. -/
import Derived.Test.YthnihgnboelipacDoorClsM
import Derived.Test.YthnihgnboelipacDoorIn
import Derived.Test.YthnihgnboelipacDoorRet
import Derived.Test.YthnihgnboelipacDoorSlo
namespace Go.Proofs.YthnihgnboelipacDoor
open Go Go.RowKit


theorem sIndexOf_any (n : Int) (w : World) :
    Calls Tryd.prog 70 #[.int .i64 n] w fun e w' => e = .returned (.int .i64 (ixOf n)) ∧ w = w' := by
  cases hb : inB n 0 23
  · have HZ : Hid (ixOf n = -1) := by show _ = _; rw [ixOf, hb]; rfl
    go_enter Tryd.func70, Tryd.ntmps70
    go_wp2_with (go_at_call 44; refine (l1In_any _ _ _ _).mono ?_; rintro e w' ⟨rfl, rfl⟩)
    go_ret
    exact ⟨ret_int HZ.out.symm, rfl⟩
  · have hi := inB_iff.1 hb
    have HZ := Lib.hid (show ixOf n = n % 4 by rw [ixOf, hb]; rfl)
    go_enter Tryd.func70, Tryd.ntmps70
    go_wp2_with (go_at_call 44; refine (l1In_any _ _ _ _).mono ?_; rintro e w' ⟨rfl, rfl⟩)
    go_ret
    exact ⟨ret_int HZ.out.symm, rfl⟩

theorem iIndexOf_any (n : Int) (w : World) :
    Calls Tryd.prog 62 #[.int .i64 n] w fun e w' => e = .returned (.int .i64 (ixOf n)) ∧ w = w' := by
  cases hb : inB n 0 23
  · have HZ : Hid (ixOf n = -1) := by show _ = _; rw [ixOf, hb]; rfl
    go_enter Tryd.func62, Tryd.ntmps62
    go_wp2_with (go_at_call 61; refine (slotOk_any _ _).mono ?_; rintro e w' ⟨rfl, rfl⟩)
    go_ret
    exact ⟨ret_int HZ.out.symm, rfl⟩
  · have hi := inB_iff.1 hb
    have HZ := Lib.hid (show ixOf n = n % 4 by rw [ixOf, hb]; rfl)
    go_enter Tryd.func62, Tryd.ntmps62
    go_wp2_with (go_at_call 61; refine (slotOk_any _ _).mono ?_; rintro e w' ⟨rfl, rfl⟩)
    go_ret
    exact ⟨ret_int HZ.out.symm, rfl⟩
end Go.Proofs.YthnihgnboelipacDoor
