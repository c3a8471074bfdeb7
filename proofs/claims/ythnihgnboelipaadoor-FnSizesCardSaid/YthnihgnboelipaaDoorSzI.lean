/- Contracts of impl.SizeOf. -/
import Derived.Test.YthnihgnboelipaaDoorTab
import Derived.Test.YthnihgnboelipaaDoorClsM
import Derived.Test.YthnihgnboelipaaDoorIn
namespace Go.Proofs.YthnihgnboelipaaDoor
open Go Go.RowKit

theorem classOk_any (n : Int) (w : World) :
    Calls Tryd.prog 37 #[.int .i64 n] w fun e w' => e = .returned (.bool (inB n 0 2)) ∧ w = w' := by
  go_enter Tryd.func37, Tryd.ntmps37
  go_wp2
  all_goals (go_ret; exact ⟨ret_bool (by first | (simp [inB]; done) | (simp [inB] <;> omega) | (rw [Bool.eq_iff_iff]; simp [inB]; omega)), rfl⟩)

theorem iSizeOf_any (c : Int) (w : World) (ht : Tab w) :
    Calls Tryd.prog 22 #[.int .i64 c] w fun e w' => e = .returned (.int .i64 (szOf c)) ∧ w = w' := by
  rcases cls_cases c with rfl | rfl | rfl | ⟨hc, h0, h1, h2, hz, _⟩
  · have hb : inB 0 0 2 = true := rfl
    have hc := ht.c0
    go_enter Tryd.func22, Tryd.ntmps22
    go_wp2_with (go_at_call 37; refine (classOk_any _ _).mono ?_; rintro e w' ⟨rfl, rfl⟩)
    go_ret
    exact ⟨rfl, rfl⟩
  · have hb : inB 1 0 2 = true := rfl
    have hc := ht.c1
    go_enter Tryd.func22, Tryd.ntmps22
    go_wp2_with (go_at_call 37; refine (classOk_any _ _).mono ?_; rintro e w' ⟨rfl, rfl⟩)
    go_ret
    exact ⟨rfl, rfl⟩
  · have hb : inB 2 0 2 = true := rfl
    have hc := ht.c2
    go_enter Tryd.func22, Tryd.ntmps22
    go_wp2_with (go_at_call 37; refine (classOk_any _ _).mono ?_; rintro e w' ⟨rfl, rfl⟩)
    go_ret
    exact ⟨rfl, rfl⟩
  · have HZ := Lib.hid hz; clear hz
    go_enter Tryd.func22, Tryd.ntmps22
    go_wp2_with (go_at_call 37; refine (classOk_any _ _).mono ?_; rintro e w' ⟨rfl, rfl⟩)
    go_ret
    exact ⟨ret_int HZ.out.symm, rfl⟩

end Go.Proofs.YthnihgnboelipaaDoor
