/- Contract of slotOk. -/
import Derived.Test.YthnihgnboelipacDoorClsM
import Derived.Test.YthnihgnboelipacDoorIn
import Derived.Test.YthnihgnboelipacDoorRet
namespace Go.Proofs.YthnihgnboelipacDoor
open Go Go.RowKit

theorem slotOk_any (n : Int) (w : World) :
    Calls Tryd.prog 61 #[.int .i64 n] w fun e w' => e = .returned (.bool (inB n 0 23)) ∧ w = w' := by
  go_enter Tryd.func61, Tryd.ntmps61
  go_wp2
  all_goals (go_ret; exact ⟨ret_bool (by first | (simp [inB]; done) | (simp [inB] <;> omega) | (rw [Bool.eq_iff_iff]; simp [inB]; omega)), rfl⟩)
end Go.Proofs.YthnihgnboelipacDoor
