/- Contracts of SlotAt in both packages. -/
import Derived.Test.YthnihgnboelipabClsM
import Derived.Test.YthnihgnboelipabIn
import Derived.Test.YthnihgnboelipabRet
namespace Go.Proofs.Ythnihgnboelipab
open Go Go.RowKit


theorem slt_yes {p i : Int} (h1 : inB p 0 5 = true) (h2 : inB i 0 3 = true) : sltAt p i = p * 4 + i := by rw [sltAt, h1, h2]; rfl
theorem slt_no {p i : Int} (h : ¬ (0 ≤ p ∧ p ≤ 5 ∧ 0 ≤ i ∧ i ≤ 3)) : sltAt p i = -1 := by
  rw [sltAt, if_neg]
  intro hh
  rw [Bool.and_eq_true, inB_iff, inB_iff] at hh
  exact h ⟨hh.1.1, hh.1.2, hh.2.1, hh.2.2⟩
theorem iSlotAt_any (p i : Int) (w : World) :
    Calls Try.prog 12 #[.int .i64 p, .int .i64 i] w fun e w' => e = .returned (.int .i64 (sltAt p i)) ∧ w = w' := by
  by_cases hp0 : p < 0
  · have HZ := Lib.hid (slt_no (p := p) (i := i) (by omega))
    go_enter Try.func12, Try.ntmps12
    go_wp2
    go_ret
    exact ⟨ret_int HZ.out.symm, rfl⟩
  by_cases hp1 : 6 ≤ p
  · have HZ := Lib.hid (slt_no (p := p) (i := i) (by omega))
    go_enter Try.func12, Try.ntmps12
    go_wp2
    go_ret
    exact ⟨ret_int HZ.out.symm, rfl⟩
  by_cases hi0 : i < 0
  · have HZ := Lib.hid (slt_no (p := p) (i := i) (by omega))
    go_enter Try.func12, Try.ntmps12
    go_wp2
    go_ret
    exact ⟨ret_int HZ.out.symm, rfl⟩
  by_cases hi1 : 4 ≤ i
  · have HZ := Lib.hid (slt_no (p := p) (i := i) (by omega))
    go_enter Try.func12, Try.ntmps12
    go_wp2
    go_ret
    exact ⟨ret_int HZ.out.symm, rfl⟩
  have HZ := Lib.hid (slt_yes (p := p) (i := i) (by rw [inB_iff]; omega) (by rw [inB_iff]; omega))
  go_enter Try.func12, Try.ntmps12
  go_wp2
  go_ret
  exact ⟨ret_int HZ.out.symm, rfl⟩
end Go.Proofs.Ythnihgnboelipab
