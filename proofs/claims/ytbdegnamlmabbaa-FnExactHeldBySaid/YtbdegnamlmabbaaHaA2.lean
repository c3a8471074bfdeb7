/- Contracts of HandleOk in both packages. -/
import Derived.Test.YtbdegnamlmabbaaClsM
import Derived.Test.YtbdegnamlmabbaaIn
import Derived.Test.YtbdegnamlmabbaaRet
import Derived.Test.YtbdegnamlmabbaaSlo
import Derived.Test.YtbdegnamlmabbaaHaA
namespace Go.Proofs.Ytbdegnamlmabbaa
open Go Go.RowKit


theorem hok_no {h : Int} (hh : ¬ (32 ≤ h ∧ h ≤ 223 ∧ h % 32 < 24)) : hOk h = false := by
  rw [Bool.eq_false_iff]
  intro e
  simp only [hOk, Bool.and_eq_true, decide_eq_true_eq] at e
  have := inB_iff.1 e.1
  exact hh ⟨this.1, this.2, e.2⟩
theorem hok_yes {h : Int} (hh : 32 ≤ h ∧ h ≤ 223 ∧ h % 32 < 24) : hOk h = true := by
  simp only [hOk, Bool.and_eq_true, decide_eq_true_eq]
  exact ⟨inB_iff.2 ⟨hh.1, hh.2.1⟩, hh.2.2⟩
theorem hok_iff {h : Int} : hOk h = true ↔ (32 ≤ h ∧ h ≤ 223 ∧ h % 32 < 24) :=
  ⟨fun e => by
    simp only [hOk, Bool.and_eq_true, decide_eq_true_eq] at e
    have := inB_iff.1 e.1
    exact ⟨this.1, this.2, e.2⟩, hok_yes⟩
theorem hof_back (h : Int) (h0 : 0 < h) : (hOf (h % 32) (h / 32) == h) = hOk h := by
  cases e : hOk h
  · rw [beq_eq_false_iff_ne]
    intro e2
    have : ¬ (32 ≤ h ∧ h ≤ 223 ∧ h % 32 < 24) := fun hh => by rw [hok_yes hh] at e; cases e
    unfold hOf at e2
    split at e2
    · rename_i hb
      rw [Bool.and_eq_true, inB_iff, inB_iff] at hb
      omega
    · omega
  · have := hok_iff.1 e
    rw [beq_iff_eq, h_yes (by rw [inB_iff]; omega) (by rw [inB_iff]; omega)]
    omega
theorem sHandleOk_any (h : Int) (w : World) :
    Calls Try.prog 37 #[.int .i64 h] w fun e w' => e = .returned (.bool (hOk h)) ∧ w = w' := by
  cases h1 : inB h 32 223
  · have HZ := Lib.hid (hok_no (h := h) (by have := inB_no.1 h1; omega))
    go_enter Try.func37, Try.ntmps37
    go_wp2_with (go_at_call 40; refine (l1In_any _ _ _ _).mono ?_; rintro e w' ⟨rfl, rfl⟩)
    go_ret
    exact ⟨ret_bool HZ.out.symm, rfl⟩
  · have i1 := inB_iff.1 h1
    have HZ := Lib.hid (show hOk h = decide (h % 32 < 24) by rw [hOk, h1]; rfl)
    go_enter Try.func37, Try.ntmps37
    go_wp2_with (go_at_call 40; refine (l1In_any _ _ _ _).mono ?_; rintro e w' ⟨rfl, rfl⟩)
    go_ret
    exact ⟨ret_bool HZ.out.symm, rfl⟩
theorem iHandleOk_any (h : Int) (w : World) (hm : h ≤ 9223372036854775807) :
    Calls Try.prog 43 #[.int .i64 h] w fun e w' => e = .returned (.bool (hOk h)) ∧ w = w' := by
  by_cases h0 : 0 < h
  · have HZ := Lib.hid (hof_back h h0)
    go_enter Try.func43, Try.ntmps43
    go_wp2_with (go_at_call 49; refine (iHandleOf_any _ _ _).mono ?_; rintro e w' ⟨rfl, rfl⟩)
    go_ret
    exact ⟨ret_bool HZ.out, rfl⟩
  · have HZ := Lib.hid (hok_no (h := h) (by omega))
    go_enter Try.func43, Try.ntmps43
    go_wp2
    go_ret
    exact ⟨ret_bool HZ.out.symm, rfl⟩
end Go.Proofs.Ytbdegnamlmabbaa
