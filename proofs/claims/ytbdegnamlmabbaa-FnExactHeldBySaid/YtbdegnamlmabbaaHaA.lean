/- Contracts of impl.HandleOf. -/
import Derived.Test.YtbdegnamlmabbaaClsM
import Derived.Test.YtbdegnamlmabbaaIn
import Derived.Test.YtbdegnamlmabbaaRet
import Derived.Test.YtbdegnamlmabbaaSlo
namespace Go.Proofs.Ytbdegnamlmabbaa
open Go Go.RowKit

theorem genOk_any (n : Int) (w : World) :
    Calls Try.prog 54 #[.int .i64 n] w fun e w' => e = .returned (.bool (inB n 1 6)) ∧ w = w' := by
  go_enter Try.func54, Try.ntmps54
  go_wp2
  all_goals (go_ret; exact ⟨ret_bool (by first | (simp [inB]; done) | (simp [inB] <;> omega) | (rw [Bool.eq_iff_iff]; simp [inB]; omega)), rfl⟩)
theorem h_yes {s g : Int} (h1 : inB s 0 23 = true) (h2 : inB g 1 6 = true) : hOf s g = g * 32 + s := by rw [hOf, h1, h2]; rfl
theorem h_no1 {s g : Int} (h1 : inB s 0 23 = false) : hOf s g = 0 := by rw [hOf, h1]; rfl
theorem h_no2 {s g : Int} (h2 : inB g 1 6 = false) : hOf s g = 0 := by rw [hOf, h2, Bool.and_false]; rfl
theorem iHandleOf_any (s g : Int) (w : World) :
    Calls Try.prog 49 #[.int .i64 s, .int .i64 g] w fun e w' => e = .returned (.int .i64 (hOf s g)) ∧ w = w' := by
  cases h1 : inB s 0 23
  · have HZ := Lib.hid (h_no1 (g := g) h1)
    go_enter Try.func49, Try.ntmps49
    go_wp2_with (first | (go_at_call 53; refine (slotOk_any _ _).mono ?_; rintro e w' ⟨rfl, rfl⟩) | (go_at_call 54; refine (genOk_any _ _).mono ?_; rintro e w' ⟨rfl, rfl⟩))
    go_ret
    exact ⟨ret_int HZ.out.symm, rfl⟩
  · cases h2 : inB g 1 6
    · have HZ := Lib.hid (h_no2 (s := s) h2)
      go_enter Try.func49, Try.ntmps49
      go_wp2_with (first | (go_at_call 53; refine (slotOk_any _ _).mono ?_; rintro e w' ⟨rfl, rfl⟩) | (go_at_call 54; refine (genOk_any _ _).mono ?_; rintro e w' ⟨rfl, rfl⟩))
      go_ret
      exact ⟨ret_int HZ.out.symm, rfl⟩
    · have HZ := Lib.hid (h_yes h1 h2)
      have i1 := inB_iff.1 h1
      have i2 := inB_iff.1 h2
      go_enter Try.func49, Try.ntmps49
      go_wp2_with (first | (go_at_call 53; refine (slotOk_any _ _).mono ?_; rintro e w' ⟨rfl, rfl⟩) | (go_at_call 54; refine (genOk_any _ _).mono ?_; rintro e w' ⟨rfl, rfl⟩))
      go_ret
      exact ⟨ret_int HZ.out.symm, rfl⟩
end Go.Proofs.Ytbdegnamlmabbaa
