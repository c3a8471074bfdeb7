/- Contracts of PageOf in both packages. -/
import Derived.Test.YthnihgnboelipabDoorClsM
import Derived.Test.YthnihgnboelipabDoorIn
import Derived.Test.YthnihgnboelipabDoorRet
import Derived.Test.YthnihgnboelipabDoorSlo
namespace Go.Proofs.YthnihgnboelipabDoor
open Go Go.RowKit


theorem sPageOf_any (n : Int) (w : World) :
    Calls Tryd.prog 41 #[.int .i64 n] w fun e w' => e = .returned (.int .i64 (pgOf n)) ∧ w = w' := by
  cases hb : inB n 0 23
  · have HZ : Hid (pgOf n = -1) := by show _ = _; rw [pgOf, hb]; rfl
    go_enter Tryd.func41, Tryd.ntmps41
    go_wp2_with (go_at_call 34; refine (l1In_any _ _ _ _).mono ?_; rintro e w' ⟨rfl, rfl⟩)
    go_ret
    exact ⟨ret_int HZ.out.symm, rfl⟩
  · have hi := inB_iff.1 hb
    have HZ := Lib.hid (show pgOf n = n / 4 by rw [pgOf, hb]; rfl)
    go_enter Tryd.func41, Tryd.ntmps41
    go_wp2_with (go_at_call 34; refine (l1In_any _ _ _ _).mono ?_; rintro e w' ⟨rfl, rfl⟩)
    go_ret
    exact ⟨ret_int HZ.out.symm, rfl⟩

theorem iPageOf_any (n : Int) (w : World) :
    Calls Tryd.prog 22 #[.int .i64 n] w fun e w' => e = .returned (.int .i64 (pgOf n)) ∧ w = w' := by
  cases hb : inB n 0 23
  · have HZ : Hid (pgOf n = -1) := by show _ = _; rw [pgOf, hb]; rfl
    go_enter Tryd.func22, Tryd.ntmps22
    go_wp2_with (go_at_call 37; refine (slotOk_any _ _).mono ?_; rintro e w' ⟨rfl, rfl⟩)
    go_ret
    exact ⟨ret_int HZ.out.symm, rfl⟩
  · have hi := inB_iff.1 hb
    have HZ := Lib.hid (show pgOf n = n / 4 by rw [pgOf, hb]; rfl)
    go_enter Tryd.func22, Tryd.ntmps22
    go_wp2_with (go_at_call 37; refine (slotOk_any _ _).mono ?_; rintro e w' ⟨rfl, rfl⟩)
    go_ret
    exact ⟨ret_int HZ.out.symm, rfl⟩
end Go.Proofs.YthnihgnboelipabDoor
