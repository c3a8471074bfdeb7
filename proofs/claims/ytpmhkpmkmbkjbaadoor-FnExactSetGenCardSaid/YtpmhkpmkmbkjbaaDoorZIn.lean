import Derived.Test.YtpmhkpmkmbkjbaaDoorChecked
import Derived.Test.YtpmhkpmkmbkjbaaDoorZNumM
import Derived.WalkKit
import Derived.BigQuiet
import Derived.Deep.QuietTactic
import Derived.IntWalk
import Derived.Handy
import Derived.Lib.Hide
/- Contract of l1In. -/
namespace Go.Proofs.YtpmhkpmkmbkjbaaDoor
open Go Go.RowKit

theorem l1In_any (n lo hi : Int) (w : World) :
    Calls Tryd.prog 33 #[.int .i64 n, .int .i64 lo, .int .i64 hi] w fun e w' => e = .returned (.bool (inB n lo hi)) ∧ w = w' := by
  go_enter Tryd.func33, Tryd.ntmps33
  go_wp2
  all_goals (go_ret; exact ⟨by simp [inB] <;> omega, rfl⟩)
end Go.Proofs.YtpmhkpmkmbkjbaaDoor
