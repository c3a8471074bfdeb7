import Derived.Test.YtjlphbhmjicdhaaUO
import Derived.Test.YtjlphbhmjicdhaaVR
namespace Go.Proofs.Ytjlphbhmjicdhaa
open Go Go.Tr
set_option maxRecDepth 100000
set_option linter.unusedVariables false
set_option linter.unusedSimpArgs false
/-- The first i elements are told by f, the others stand as they were. -/
def mkL {α : Type} (d : α) (f : Nat → α) (xs : List α) (i : Nat) : List α := (List.range xs.length).map fun j => if j < i then f j else xs.getD j d
theorem mkL_len {α : Type} (d : α) (f : Nat → α) (xs : List α) (i : Nat) : (mkL d f xs i).length = xs.length := by simp [mkL]
theorem mkL_zero {α : Type} (d : α) (f : Nat → α) (xs : List α) : mkL d f xs 0 = xs := by
  apply List.ext_getElem
  · simp [mkL]
  · intro j h1 h2
    have : j < xs.length := h2
    simp [mkL, List.getD, this]
theorem mkL_set {α : Type} (d : α) (f : Nat → α) (xs : List α) (i : Nat) (h : i < xs.length) : (mkL d f xs i).set i (f i) = mkL d f xs (i + 1) := by
  apply List.ext_getElem
  · simp [mkL]
  · intro j h1 h2
    simp only [List.getElem_set, mkL, List.getElem_map, List.getElem_range]
    by_cases e : i = j
    · subst e; rw [if_pos rfl, if_pos (by omega)]
    · rw [if_neg e]
      by_cases hj : j < i
      · rw [if_pos hj, if_pos (by omega)]
      · rw [if_neg hj, if_neg (by omega)]
theorem mkL_get {α : Type} (d : α) (f : Nat → α) (xs : List α) (i j : Nat) (h : j < i) (hj : j < xs.length) : (mkL d f xs i).getD j d = f j := by
  simp [mkL, List.getD, h, hj]
theorem set_getD {α : Type} (ys : List α) (d x : α) (i : Nat) (h : i < ys.length) : (ys.set i x).getD i d = x := by simp [List.getD, h]
theorem mkL_ge {α : Type} (d : α) (f : Nat → α) (xs : List α) (i j : Nat) (h : i ≤ j) : (mkL d f xs i).getD j d = xs.getD j d := by
  by_cases hj : j < xs.length
  · simp [mkL, List.getD, hj, show ¬ j < i by omega]
  · simp [mkL, List.getD, hj]
end Go.Proofs.Ytjlphbhmjicdhaa
