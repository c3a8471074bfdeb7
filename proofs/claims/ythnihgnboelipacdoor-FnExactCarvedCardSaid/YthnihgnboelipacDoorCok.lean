/- Contract of classOk. -/
import Derived.Test.YthnihgnboelipacDoorNumM
import Derived.Test.YthnihgnboelipacDoorRet
import Derived.Test.YthnihgnboelipacDoorIn
namespace Go.Proofs.YthnihgnboelipacDoor
open Go Go.RowKit

theorem classOk_any (n : Int) (w : World) :
    Calls Tryd.prog 35 #[.int .i64 n] w fun e w' => e = .returned (.bool (inB n 0 2)) ∧ w = w' := by
  go_enter Tryd.func35, Tryd.ntmps35
  go_wp2
  all_goals (go_ret; exact ⟨ret_bool (by first | (simp [inB]; done) | (simp [inB] <;> omega) | (rw [Bool.eq_iff_iff]; simp [inB]; omega)), rfl⟩)

end Go.Proofs.YthnihgnboelipacDoor
