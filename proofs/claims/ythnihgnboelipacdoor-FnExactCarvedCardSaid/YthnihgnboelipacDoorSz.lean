/- Contracts of SizeOf in both packages. -/
import Derived.Test.YthnihgnboelipacDoorTab
import Derived.Test.YthnihgnboelipacDoorCok
import Derived.Test.YthnihgnboelipacDoorClsM
import Derived.Test.YthnihgnboelipacDoorIn
namespace Go.Proofs.YthnihgnboelipacDoor
open Go Go.RowKit

theorem sSizeOf_any (c : Int) (w : World) :
    Calls Tryd.prog 68 #[.int .i64 c] w fun e w' => e = .returned (.int .i64 (szOf c)) ∧ w = w' := by
  rcases cls_cases c with rfl | rfl | rfl | ⟨_, h0, h1, h2, hz, _⟩
  · go_enter Tryd.func68, Tryd.ntmps68
    go_wp2
    go_ret
    exact ⟨rfl, rfl⟩
  · go_enter Tryd.func68, Tryd.ntmps68
    go_wp2
    go_ret
    exact ⟨rfl, rfl⟩
  · go_enter Tryd.func68, Tryd.ntmps68
    go_wp2
    go_ret
    exact ⟨rfl, rfl⟩
  · have HZ := Lib.hid hz; clear hz
    go_enter Tryd.func68, Tryd.ntmps68
    go_wp2
    go_ret
    exact ⟨ret_int HZ.out.symm, rfl⟩

theorem iSizeOf_any (c : Int) (w : World) (ht : Tab w) :
    Calls Tryd.prog 77 #[.int .i64 c] w fun e w' => e = .returned (.int .i64 (szOf c)) ∧ w = w' := by
  rcases cls_cases c with rfl | rfl | rfl | ⟨hc, h0, h1, h2, hz, _⟩
  · have hb : inB 0 0 2 = true := rfl
    have hc := ht.c0
    go_enter Tryd.func77, Tryd.ntmps77
    go_wp2_with (go_at_call 35; refine (classOk_any _ _).mono ?_; rintro e w' ⟨rfl, rfl⟩)
    go_ret
    exact ⟨rfl, rfl⟩
  · have hb : inB 1 0 2 = true := rfl
    have hc := ht.c1
    go_enter Tryd.func77, Tryd.ntmps77
    go_wp2_with (go_at_call 35; refine (classOk_any _ _).mono ?_; rintro e w' ⟨rfl, rfl⟩)
    go_ret
    exact ⟨rfl, rfl⟩
  · have hb : inB 2 0 2 = true := rfl
    have hc := ht.c2
    go_enter Tryd.func77, Tryd.ntmps77
    go_wp2_with (go_at_call 35; refine (classOk_any _ _).mono ?_; rintro e w' ⟨rfl, rfl⟩)
    go_ret
    exact ⟨rfl, rfl⟩
  · have HZ := Lib.hid hz; clear hz
    go_enter Tryd.func77, Tryd.ntmps77
    go_wp2_with (go_at_call 35; refine (classOk_any _ _).mono ?_; rintro e w' ⟨rfl, rfl⟩)
    go_ret
    exact ⟨ret_int HZ.out.symm, rfl⟩

end Go.Proofs.YthnihgnboelipacDoor
