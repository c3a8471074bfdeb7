/- Contract of l1In. -/
import Derived.Test.YthnihgnboelipacDoorChecked
import Derived.Test.YthnihgnboelipacDoorNumM
import Derived.WalkKit
import Derived.BigQuiet
import Derived.Deep.QuietTactic
import Derived.IntWalk
import Derived.Handy
import Derived.Lib.Hide
namespace Go.Proofs.YthnihgnboelipacDoor
open Go Go.RowKit

theorem l1In_any (n lo hi : Int) (w : World) :
    Calls Tryd.prog 44 #[.int .i64 n, .int .i64 lo, .int .i64 hi] w fun e w' => e = .returned (.bool (inB n lo hi)) ∧ w = w' := by
  go_enter Tryd.func44, Tryd.ntmps44
  go_wp2
  all_goals (go_ret; exact ⟨by simp [inB] <;> omega, rfl⟩)
end Go.Proofs.YthnihgnboelipacDoor
