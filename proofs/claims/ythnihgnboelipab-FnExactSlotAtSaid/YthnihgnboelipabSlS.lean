/- Contract of spec.SlotAt. -/
import Derived.Test.YthnihgnboelipabClsM
import Derived.Test.YthnihgnboelipabIn
import Derived.Test.YthnihgnboelipabRet
import Derived.Test.YthnihgnboelipabSl
namespace Go.Proofs.Ythnihgnboelipab
open Go Go.RowKit


theorem sSlotAt_any (p i : Int) (w : World) :
    Calls Try.prog 11 #[.int .i64 p, .int .i64 i] w fun e w' => e = .returned (.int .i64 (sltAt p i)) ∧ w = w' := by
  cases h1 : inB p 0 5
  · have HZ := Lib.hid (slt_no (p := p) (i := i) (by have := inB_no.1 h1; omega))
    go_enter Try.func11, Try.ntmps11
    go_wp2_with (go_at_call 16; refine (l1In_any _ _ _ _).mono ?_; rintro e w' ⟨rfl, rfl⟩)
    go_ret
    exact ⟨ret_int HZ.out.symm, rfl⟩
  · cases h2 : inB i 0 3
    · have HZ := Lib.hid (slt_no (p := p) (i := i) (by have := inB_no.1 h2; omega))
      go_enter Try.func11, Try.ntmps11
      go_wp2_with (go_at_call 16; refine (l1In_any _ _ _ _).mono ?_; rintro e w' ⟨rfl, rfl⟩)
      go_ret
      exact ⟨ret_int HZ.out.symm, rfl⟩
    · have HZ := Lib.hid (slt_yes h1 h2)
      have i1 := inB_iff.1 h1
      have i2 := inB_iff.1 h2
      go_enter Try.func11, Try.ntmps11
      go_wp2_with (go_at_call 16; refine (l1In_any _ _ _ _).mono ?_; rintro e w' ⟨rfl, rfl⟩)
      go_ret
      exact ⟨ret_int HZ.out.symm, rfl⟩
end Go.Proofs.Ythnihgnboelipab
