/- Contracts of PageOf in both packages. -/
import Derived.Test.YthnihgnboelipabClsM
import Derived.Test.YthnihgnboelipabIn
import Derived.Test.YthnihgnboelipabRet
import Derived.Test.YthnihgnboelipabSlo
namespace Go.Proofs.Ythnihgnboelipab
open Go Go.RowKit


theorem sPageOf_any (n : Int) (w : World) :
    Calls Try.prog 7 #[.int .i64 n] w fun e w' => e = .returned (.int .i64 (pgOf n)) ∧ w = w' := by
  cases hb : inB n 0 23
  · have HZ : Hid (pgOf n = -1) := by show _ = _; rw [pgOf, hb]; rfl
    go_enter Try.func7, Try.ntmps7
    go_wp2_with (go_at_call 16; refine (l1In_any _ _ _ _).mono ?_; rintro e w' ⟨rfl, rfl⟩)
    go_ret
    exact ⟨ret_int HZ.out.symm, rfl⟩
  · have hi := inB_iff.1 hb
    have HZ := Lib.hid (show pgOf n = n / 4 by rw [pgOf, hb]; rfl)
    go_enter Try.func7, Try.ntmps7
    go_wp2_with (go_at_call 16; refine (l1In_any _ _ _ _).mono ?_; rintro e w' ⟨rfl, rfl⟩)
    go_ret
    exact ⟨ret_int HZ.out.symm, rfl⟩

theorem iPageOf_any (n : Int) (w : World) :
    Calls Try.prog 8 #[.int .i64 n] w fun e w' => e = .returned (.int .i64 (pgOf n)) ∧ w = w' := by
  cases hb : inB n 0 23
  · have HZ : Hid (pgOf n = -1) := by show _ = _; rw [pgOf, hb]; rfl
    go_enter Try.func8, Try.ntmps8
    go_wp2_with (go_at_call 17; refine (slotOk_any _ _).mono ?_; rintro e w' ⟨rfl, rfl⟩)
    go_ret
    exact ⟨ret_int HZ.out.symm, rfl⟩
  · have hi := inB_iff.1 hb
    have HZ := Lib.hid (show pgOf n = n / 4 by rw [pgOf, hb]; rfl)
    go_enter Try.func8, Try.ntmps8
    go_wp2_with (go_at_call 17; refine (slotOk_any _ _).mono ?_; rintro e w' ⟨rfl, rfl⟩)
    go_ret
    exact ⟨ret_int HZ.out.symm, rfl⟩
end Go.Proofs.Ythnihgnboelipab
