/- Contract of slotOk. -/
import Derived.Test.YthnihgnboelipabClsM
import Derived.Test.YthnihgnboelipabIn
import Derived.Test.YthnihgnboelipabRet
namespace Go.Proofs.Ythnihgnboelipab
open Go Go.RowKit

theorem slotOk_any (n : Int) (w : World) :
    Calls Try.prog 17 #[.int .i64 n] w fun e w' => e = .returned (.bool (inB n 0 23)) ∧ w = w' := by
  go_enter Try.func17, Try.ntmps17
  go_wp2
  all_goals (go_ret; exact ⟨ret_bool (by first | (simp [inB]; done) | (simp [inB] <;> omega) | (rw [Bool.eq_iff_iff]; simp [inB]; omega)), rfl⟩)
end Go.Proofs.Ythnihgnboelipab
