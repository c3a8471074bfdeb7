/- Contracts of Later in both packages. -/
import Derived.Test.YthnihgnboelipacClsM
import Derived.Test.YthnihgnboelipacIn
import Derived.Test.YthnihgnboelipacRet
import Derived.Test.YthnihgnboelipacSlo
import Derived.Test.YthnihgnboelipacHaB
import Derived.Test.YthnihgnboelipacHaC
namespace Go.Proofs.Ythnihgnboelipac
open Go Go.RowKit


theorem lat_no {h : Int} (hh : latOk h = false) : latN h = 0 := by rw [latN, hh]; rfl
theorem lat_yes {h : Int} (hh : latOk h = true) : latN h = h + 32 := by rw [latN, hh]; rfl
theorem lat_key (h : Int) : hOf (hSlot h) (hGen h + 1) = latN h ∧ (hOf (hSlot h) (hGen h + 1) != 0) = latOk h := by
  cases e : hOk h
  · have e1 : latOk h = false := by rw [latOk, e]; rfl
    have e2 : hSlot h = -1 := by rw [hSlot, e]; rfl
    rw [lat_no e1, e1, e2, h_no1 (by decide)]
    exact ⟨rfl, rfl⟩
  · have i := hok_iff.1 e
    have e2 : hSlot h = h % 32 := by rw [hSlot, e]; rfl
    have e3 : hGen h = h / 32 := by rw [hGen, e]; rfl
    rw [e2, e3]
    by_cases hg : h / 32 < 6
    · have e1 : latOk h = true := by rw [latOk, e]; simp [hg]
      have e4 : hOf (h % 32) (h / 32 + 1) = h + 32 := by
        rw [h_yes (by rw [inB_iff]; omega) (by rw [inB_iff]; omega)]; omega
      rw [lat_yes e1, e1, e4]
      exact ⟨rfl, by rw [bne_iff_ne]; omega⟩
    · have e1 : latOk h = false := by rw [latOk, e]; simp; omega
      rw [lat_no e1, e1, h_no2 (by rw [inB_no]; omega)]
      exact ⟨rfl, rfl⟩
theorem hgen_bd (h : Int) : 0 ≤ hGen h ∧ hGen h ≤ 6 := by
  unfold hGen
  split
  · rename_i e; have := hok_iff.1 e; omega
  · omega
theorem iLater_any (h : Int) (w : World) (hm : h ≤ 9223372036854775807) :
    Calls Try.prog 18 #[.int .i64 h] w fun e w' => e = .returned (.tuple #[.int .i64 (latN h), .bool (latOk h)]) ∧ w = w' := by
  have HZ := Lib.hid (lat_key h)
  have hb := hgen_bd h
  go_enter Try.func18, Try.ntmps18
  go_wp2_with (first | (go_at_call 14; refine (iHandleSlot_any _ _ hm).mono ?_; rintro e w' ⟨rfl, rfl⟩) | (go_at_call 15; refine (iHandleGen_any _ _ hm).mono ?_; rintro e w' ⟨rfl, rfl⟩) | (go_at_call 13; refine (iHandleOf_any _ _ _).mono ?_; rintro e w' ⟨rfl, rfl⟩))
  go_ret2
  exact ⟨ret_ib HZ.out.1 HZ.out.2, rfl⟩
theorem sLater_any (h : Int) (w : World) :
    Calls Try.prog 23 #[.int .i64 h] w fun e w' => e = .returned (.tuple #[.int .i64 (latN h), .bool (latOk h)]) ∧ w = w' := by
  cases h1 : hOk h
  · have e1 : latOk h = false := by rw [latOk, h1]; rfl
    have HZ := Lib.hid (And.intro (lat_no e1) e1)
    clear e1
    go_enter Try.func23, Try.ntmps23
    go_wp2_with (go_at_call 19; refine (sHandleOk_any _ _).mono ?_; rintro e w' ⟨rfl, rfl⟩)
    go_ret2
    exact ⟨ret_ib HZ.out.1.symm HZ.out.2.symm, rfl⟩
  · have i := hok_iff.1 h1
    have e3 : hGen h = h / 32 := by rw [hGen, h1]; rfl
    by_cases hg : h / 32 < 6
    · have e1 : latOk h = true := by rw [latOk, h1]; simp [hg]
      have HZ := Lib.hid (And.intro (lat_yes e1) e1)
      have ht : (h / 32 == 6) = false := by simp; omega
      clear e1
      go_enter Try.func23, Try.ntmps23
      go_wp2_with (first | (go_at_call 19; refine (sHandleOk_any _ _).mono ?_; rintro e w' ⟨rfl, rfl⟩) | (go_at_call 22; refine (sHandleGen_any _ _).mono ?_; rintro e w' ⟨rfl, rfl⟩))
      go_ret2
      exact ⟨ret_ib HZ.out.1.symm HZ.out.2.symm, rfl⟩
    · have e1 : latOk h = false := by rw [latOk, h1]; simp; omega
      have HZ := Lib.hid (And.intro (lat_no e1) e1)
      have ht : (h / 32 == 6) = true := by simp; omega
      clear e1
      go_enter Try.func23, Try.ntmps23
      go_wp2_with (first | (go_at_call 19; refine (sHandleOk_any _ _).mono ?_; rintro e w' ⟨rfl, rfl⟩) | (go_at_call 22; refine (sHandleGen_any _ _).mono ?_; rintro e w' ⟨rfl, rfl⟩))
      go_ret2
      exact ⟨ret_ib HZ.out.1.symm HZ.out.2.symm, rfl⟩
end Go.Proofs.Ythnihgnboelipac
