/- Contract of slotOk. -/
import Derived.Test.YthnihgnboelipacClsM
import Derived.Test.YthnihgnboelipacIn
import Derived.Test.YthnihgnboelipacRet
namespace Go.Proofs.Ythnihgnboelipac
open Go Go.RowKit

theorem slotOk_any (n : Int) (w : World) :
    Calls Try.prog 36 #[.int .i64 n] w fun e w' => e = .returned (.bool (inB n 0 23)) ∧ w = w' := by
  go_enter Try.func36, Try.ntmps36
  go_wp2
  all_goals (go_ret; exact ⟨ret_bool (by first | (simp [inB]; done) | (simp [inB] <;> omega) | (rw [Bool.eq_iff_iff]; simp [inB]; omega)), rfl⟩)
end Go.Proofs.Ythnihgnboelipac
