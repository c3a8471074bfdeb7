/- Contracts of spec.HandleOf. -/
import Derived.Test.YthnihgnboelipacClsM
import Derived.Test.YthnihgnboelipacIn
import Derived.Test.YthnihgnboelipacRet
import Derived.Test.YthnihgnboelipacSlo
import Derived.Test.YthnihgnboelipacHaA
namespace Go.Proofs.Ythnihgnboelipac
open Go Go.RowKit

theorem sHandleOf_any (s g : Int) (w : World) :
    Calls Try.prog 20 #[.int .i64 s, .int .i64 g] w fun e w' => e = .returned (.int .i64 (hOf s g)) ∧ w = w' := by
  cases h1 : inB s 0 23
  · have HZ := Lib.hid (h_no1 (g := g) h1)
    go_enter Try.func20, Try.ntmps20
    go_wp2_with (go_at_call 39; refine (l1In_any _ _ _ _).mono ?_; rintro e w' ⟨rfl, rfl⟩)
    go_ret
    exact ⟨ret_int HZ.out.symm, rfl⟩
  · cases h2 : inB g 1 6
    · have HZ := Lib.hid (h_no2 (s := s) h2)
      go_enter Try.func20, Try.ntmps20
      go_wp2_with (go_at_call 39; refine (l1In_any _ _ _ _).mono ?_; rintro e w' ⟨rfl, rfl⟩)
      go_ret
      exact ⟨ret_int HZ.out.symm, rfl⟩
    · have HZ := Lib.hid (h_yes h1 h2)
      have i1 := inB_iff.1 h1
      have i2 := inB_iff.1 h2
      go_enter Try.func20, Try.ntmps20
      go_wp2_with (go_at_call 39; refine (l1In_any _ _ _ _).mono ?_; rintro e w' ⟨rfl, rfl⟩)
      go_ret
      exact ⟨ret_int HZ.out.symm, rfl⟩
end Go.Proofs.Ythnihgnboelipac
