/- Contract of l1In. -/
import Derived.Test.YtkafibaoikmccaaChecked
import Derived.Test.YtkafibaoikmccaaNumM
import Derived.WalkKit
import Derived.BigQuiet
import Derived.Deep.QuietTactic
import Derived.IntWalk
import Derived.Handy
import Derived.Lib.Hide
namespace Go.Proofs.Ytkafibaoikmccaa
open Go Go.RowKit

theorem l1In_any (n lo hi : Int) (w : World) :
    Calls Try.prog 54 #[.int .i64 n, .int .i64 lo, .int .i64 hi] w fun e w' => e = .returned (.bool (inB n lo hi)) ∧ w = w' := by
  go_enter Try.func54, Try.ntmps54
  go_wp2
  all_goals (go_ret; exact ⟨by simp [inB] <;> omega, rfl⟩)
end Go.Proofs.Ytkafibaoikmccaa
