/- Contract of slotOk. -/
import Derived.Test.YtbdegnamlmabbaaClsM
import Derived.Test.YtbdegnamlmabbaaIn
import Derived.Test.YtbdegnamlmabbaaRet
namespace Go.Proofs.Ytbdegnamlmabbaa
open Go Go.RowKit

theorem slotOk_any (n : Int) (w : World) :
    Calls Try.prog 53 #[.int .i64 n] w fun e w' => e = .returned (.bool (inB n 0 23)) ∧ w = w' := by
  go_enter Try.func53, Try.ntmps53
  go_wp2
  all_goals (go_ret; exact ⟨ret_bool (by first | (simp [inB]; done) | (simp [inB] <;> omega) | (rw [Bool.eq_iff_iff]; simp [inB]; omega)), rfl⟩)
end Go.Proofs.Ytbdegnamlmabbaa
