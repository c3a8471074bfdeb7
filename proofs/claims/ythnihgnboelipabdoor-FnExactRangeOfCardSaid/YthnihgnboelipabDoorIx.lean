/- Contracts of IndexOf in both packages. -/
import Derived.Test.YthnihgnboelipabDoorClsM
import Derived.Test.YthnihgnboelipabDoorIn
import Derived.Test.YthnihgnboelipabDoorRet
import Derived.Test.YthnihgnboelipabDoorSlo
namespace Go.Proofs.YthnihgnboelipabDoor
open Go Go.RowKit


theorem sIndexOf_any (n : Int) (w : World) :
    Calls Tryd.prog 42 #[.int .i64 n] w fun e w' => e = .returned (.int .i64 (ixOf n)) ∧ w = w' := by
  cases hb : inB n 0 23
  · have HZ : Hid (ixOf n = -1) := by show _ = _; rw [ixOf, hb]; rfl
    go_enter Tryd.func42, Tryd.ntmps42
    go_wp2_with (go_at_call 34; refine (l1In_any _ _ _ _).mono ?_; rintro e w' ⟨rfl, rfl⟩)
    go_ret
    exact ⟨ret_int HZ.out.symm, rfl⟩
  · have hi := inB_iff.1 hb
    have HZ := Lib.hid (show ixOf n = n % 4 by rw [ixOf, hb]; rfl)
    go_enter Tryd.func42, Tryd.ntmps42
    go_wp2_with (go_at_call 34; refine (l1In_any _ _ _ _).mono ?_; rintro e w' ⟨rfl, rfl⟩)
    go_ret
    exact ⟨ret_int HZ.out.symm, rfl⟩

theorem iIndexOf_any (n : Int) (w : World) :
    Calls Tryd.prog 23 #[.int .i64 n] w fun e w' => e = .returned (.int .i64 (ixOf n)) ∧ w = w' := by
  cases hb : inB n 0 23
  · have HZ : Hid (ixOf n = -1) := by show _ = _; rw [ixOf, hb]; rfl
    go_enter Tryd.func23, Tryd.ntmps23
    go_wp2_with (go_at_call 37; refine (slotOk_any _ _).mono ?_; rintro e w' ⟨rfl, rfl⟩)
    go_ret
    exact ⟨ret_int HZ.out.symm, rfl⟩
  · have hi := inB_iff.1 hb
    have HZ := Lib.hid (show ixOf n = n % 4 by rw [ixOf, hb]; rfl)
    go_enter Tryd.func23, Tryd.ntmps23
    go_wp2_with (go_at_call 37; refine (slotOk_any _ _).mono ?_; rintro e w' ⟨rfl, rfl⟩)
    go_ret
    exact ⟨ret_int HZ.out.symm, rfl⟩
end Go.Proofs.YthnihgnboelipabDoor
