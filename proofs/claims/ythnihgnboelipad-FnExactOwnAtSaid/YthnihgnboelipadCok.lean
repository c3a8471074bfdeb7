/- Contract of classOk. -/
import Derived.Test.YthnihgnboelipadNumM
import Derived.Test.YthnihgnboelipadRet
import Derived.Test.YthnihgnboelipadIn
namespace Go.Proofs.Ythnihgnboelipad
open Go Go.RowKit

theorem classOk_any (n : Int) (w : World) :
    Calls Try.prog 61 #[.int .i64 n] w fun e w' => e = .returned (.bool (inB n 0 2)) ∧ w = w' := by
  go_enter Try.func61, Try.ntmps61
  go_wp2
  all_goals (go_ret; exact ⟨ret_bool (by first | (simp [inB]; done) | (simp [inB] <;> omega) | (rw [Bool.eq_iff_iff]; simp [inB]; omega)), rfl⟩)

end Go.Proofs.Ythnihgnboelipad
