/- Contract of classOk. -/
import Derived.Test.YthnihgnboelipadDoorNumM
import Derived.Test.YthnihgnboelipadDoorRet
import Derived.Test.YthnihgnboelipadDoorIn
namespace Go.Proofs.YthnihgnboelipadDoor
open Go Go.RowKit

theorem classOk_any (n : Int) (w : World) :
    Calls Tryd.prog 40 #[.int .i64 n] w fun e w' => e = .returned (.bool (inB n 0 2)) ∧ w = w' := by
  go_enter Tryd.func40, Tryd.ntmps40
  go_wp2
  all_goals (go_ret; exact ⟨ret_bool (by first | (simp [inB]; done) | (simp [inB] <;> omega) | (rw [Bool.eq_iff_iff]; simp [inB]; omega)), rfl⟩)

end Go.Proofs.YthnihgnboelipadDoor
