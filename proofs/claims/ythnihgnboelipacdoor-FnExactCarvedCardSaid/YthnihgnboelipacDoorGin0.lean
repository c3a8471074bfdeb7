/- The class of a slot: its bounds. -/
import Derived.Test.YthnihgnboelipacDoorCin
namespace Go.Proofs.YthnihgnboelipacDoor
open Go Go.RowKit

theorem gen_384 {s c : Int} (h : genOk s c = true) : 0 ≤ genAt s c ∧ genAt s c ≤ 380 := by
  have e := (gen_yes h).1
  simp only [genOk, Bool.and_eq_true, decide_eq_true_eq] at h
  have hi := inB_iff.1 h.1
  have hl := h.2
  rw [e]
  rcases cls_cases c with rfl | rfl | rfl | h'
  · rw [show strOf 0 = 12 from rfl]
    rw [show perOf 0 = 4 from rfl] at hl
    omega
  · rw [show strOf 1 = 20 from rfl]
    rw [show perOf 1 = 2 from rfl] at hl
    omega
  · rw [show strOf 2 = 44 from rfl]
    rw [show perOf 2 = 1 from rfl] at hl
    omega
  · have := h'.2.2.2.2.2.2
    omega
theorem cin_ok {ys : List Int} {s : Int} (h : clsIn ys s ≠ -1) : genOk s (clsIn ys s) = true := by
  unfold clsIn at h ⊢
  split at h
  · rename_i hh
    rw [if_pos hh]
    rw [Bool.and_eq_true] at hh
    exact hh.2
  · exact absurd rfl h
theorem cin_rng {xs ys : List Int} {s : Int} (hs : shp xs ys = true) : -1 ≤ clsIn ys s ∧ clsIn ys s ≤ 2 := by
  unfold clsIn
  split
  · rename_i hh
    rw [Bool.and_eq_true] at hh
    have hi := inB_iff.1 hh.1
    have := shp_iff.1 hs
    have hlt : (s / 4).toNat < ys.length := by omega
    exact this.2.2.2 _ (by simp [List.getD, hlt])
  · omega

end Go.Proofs.YthnihgnboelipacDoor
