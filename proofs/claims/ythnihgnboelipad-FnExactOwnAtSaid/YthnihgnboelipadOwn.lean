/- Contracts of OwnAt in both packages. -/
import Derived.Test.YthnihgnboelipadNumM
import Derived.Test.YthnihgnboelipadRet
import Derived.Test.YthnihgnboelipadIn
import Derived.Test.YthnihgnboelipadCok
namespace Go.Proofs.Ythnihgnboelipad
open Go Go.RowKit

def ownAt (w c : Int) : Int := if inB w 0 2 && inB c 0 2 then w * 3 + c else -1
theorem own_no1 {w c : Int} (h : inB w 0 2 = false) : ownAt w c = -1 := by rw [ownAt, h]; rfl
theorem own_no2 {w c : Int} (h : inB c 0 2 = false) : ownAt w c = -1 := by rw [ownAt, h, Bool.and_false]; rfl
theorem own_yes {w c : Int} (h : inB w 0 2 = true) (h' : inB c 0 2 = true) : ownAt w c = w * 3 + c := by rw [ownAt, h, h']; rfl
theorem workerOk_any (n : Int) (w : World) :
    Calls Try.prog 69 #[.int .i64 n] w fun e w' => e = .returned (.bool (inB n 0 2)) ∧ w = w' := by
  go_enter Try.func69, Try.ntmps69
  go_wp2
  all_goals (go_ret; exact ⟨ret_bool (by first | (simp [inB]; done) | (simp [inB] <;> omega) | (rw [Bool.eq_iff_iff]; simp [inB]; omega)), rfl⟩)

theorem sOwnAt_any (v c : Int) (w : World) :
    Calls Try.prog 26 #[.int .i64 v, .int .i64 c] w fun e w' => e = .returned (.int .i64 (ownAt v c)) ∧ w = w' := by
  cases h1 : inB v 0 2
  · have HZ := Lib.hid (own_no1 (c := c) h1)
    go_enter Try.func26, Try.ntmps26
    go_wp2_with (go_at_call 54; refine (l1In_any _ _ _ _).mono ?_; rintro e w' ⟨rfl, rfl⟩)
    go_ret
    exact ⟨ret_int HZ.out.symm, rfl⟩
  · cases h2 : inB c 0 2
    · have HZ := Lib.hid (own_no2 (w := v) h2)
      go_enter Try.func26, Try.ntmps26
      go_wp2_with (go_at_call 54; refine (l1In_any _ _ _ _).mono ?_; rintro e w' ⟨rfl, rfl⟩)
      go_ret
      exact ⟨ret_int HZ.out.symm, rfl⟩
    · have HZ := Lib.hid (own_yes h1 h2)
      have i1 := inB_iff.1 h1
      have i2 := inB_iff.1 h2
      go_enter Try.func26, Try.ntmps26
      go_wp2_with (go_at_call 54; refine (l1In_any _ _ _ _).mono ?_; rintro e w' ⟨rfl, rfl⟩)
      go_ret
      exact ⟨ret_int HZ.out.symm, rfl⟩

theorem iOwnAt_any (v c : Int) (w : World) :
    Calls Try.prog 37 #[.int .i64 v, .int .i64 c] w fun e w' => e = .returned (.int .i64 (ownAt v c)) ∧ w = w' := by
  cases h1 : inB v 0 2
  · have HZ := Lib.hid (own_no1 (c := c) h1)
    go_enter Try.func37, Try.ntmps37
    go_wp2_with (first | (go_at_call 69; refine (workerOk_any _ _).mono ?_; rintro e w' ⟨rfl, rfl⟩) | (go_at_call 61; refine (classOk_any _ _).mono ?_; rintro e w' ⟨rfl, rfl⟩))
    go_ret
    exact ⟨ret_int HZ.out.symm, rfl⟩
  · cases h2 : inB c 0 2
    · have HZ := Lib.hid (own_no2 (w := v) h2)
      go_enter Try.func37, Try.ntmps37
      go_wp2_with (first | (go_at_call 69; refine (workerOk_any _ _).mono ?_; rintro e w' ⟨rfl, rfl⟩) | (go_at_call 61; refine (classOk_any _ _).mono ?_; rintro e w' ⟨rfl, rfl⟩))
      go_ret
      exact ⟨ret_int HZ.out.symm, rfl⟩
    · have HZ := Lib.hid (own_yes h1 h2)
      have i1 := inB_iff.1 h1
      have i2 := inB_iff.1 h2
      go_enter Try.func37, Try.ntmps37
      go_wp2_with (first | (go_at_call 69; refine (workerOk_any _ _).mono ?_; rintro e w' ⟨rfl, rfl⟩) | (go_at_call 61; refine (classOk_any _ _).mono ?_; rintro e w' ⟨rfl, rfl⟩))
      go_ret
      exact ⟨ret_int HZ.out.symm, rfl⟩
end Go.Proofs.Ythnihgnboelipad
