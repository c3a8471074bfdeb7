/- Contract of l1In. -/
import Derived.Test.YtbdegnamlmabbaaChecked
import Derived.Test.YtbdegnamlmabbaaNumM
import Derived.WalkKit
import Derived.BigQuiet
import Derived.Deep.QuietTactic
import Derived.IntWalk
import Derived.Handy
import Derived.Lib.Hide
namespace Go.Proofs.Ytbdegnamlmabbaa
open Go Go.RowKit

theorem l1In_any (n lo hi : Int) (w : World) :
    Calls Try.prog 40 #[.int .i64 n, .int .i64 lo, .int .i64 hi] w fun e w' => e = .returned (.bool (inB n lo hi)) ∧ w = w' := by
  go_enter Try.func40, Try.ntmps40
  go_wp2
  all_goals (go_ret; exact ⟨by simp [inB] <;> omega, rfl⟩)
end Go.Proofs.Ytbdegnamlmabbaa
