import Derived.Test.YtlmmmeknilgdhaaWA
namespace Go.Proofs.Ytlmmmeknilgdhaa
open Go Go.Tr
set_option maxRecDepth 100000
set_option linter.unusedVariables false
set_option linter.unusedSimpArgs false
/-- All of the first n have the property. -/
noncomputable def allP (n : Nat) (p : Nat → Prop) : Bool := @decide (∀ j, j < n → p j) (Classical.propDecidable _)
theorem allP_false {n i : Nat} {p : Nat → Prop} (hi : i < n) (h : ¬ p i) : allP n p = false := by
  unfold allP; exact @decide_eq_false _ (Classical.propDecidable _) (fun k => h (k i hi))
theorem allP_true {n : Nat} {p : Nat → Prop} (h : ∀ j, j < n → p j) : allP n p = true := by
  unfold allP; exact @decide_eq_true _ (Classical.propDecidable _) h
/-- How many of the first n have the property. -/
def cntP (p : Nat → Bool) : Nat → Int
  | 0 => 0
  | m + 1 => cntP p m + if p m then 1 else 0
theorem cntP_bd (p : Nat → Bool) : ∀ n : Nat, 0 ≤ cntP p n ∧ cntP p n ≤ n
  | 0 => ⟨Int.le_refl _, Int.le_refl _⟩
  | n + 1 => by have := cntP_bd p n; unfold cntP; split <;> omega
theorem cntP_yes {p : Nat → Bool} {i : Nat} (h : p i = true) : cntP p (i + 1) = cntP p i + 1 := by rw [cntP, if_pos h]
theorem cntP_no {p : Nat → Bool} {i : Nat} (h : p i = false) : cntP p (i + 1) = cntP p i := by rw [cntP, if_neg (by simp [h])]; omega
theorem cntP_stop {p : Nat → Bool} {i : Nat} (h : ∀ j, i ≤ j → p j = false) : ∀ n : Nat, i ≤ n → cntP p n = cntP p i
  | 0, hn => by obtain rfl : i = 0 := by omega
                rfl
  | n + 1, hn => by
    by_cases e : i = n + 1
    · rw [e]
    · show cntP p n + (if p n then 1 else 0) = _
      rw [h n (by omega), cntP_stop h n (by omega)]; simp
/-- The last of the first n that has the property. -/
def lastP (p : Nat → Bool) : Nat → Option Nat
  | 0 => none
  | m + 1 => if p m then some m else lastP p m
theorem lastP_lt {p : Nat → Bool} : ∀ {n m : Nat}, lastP p n = some m → m < n ∧ p m = true
  | 0, m, h => by cases h
  | n + 1, m, h => by
    unfold lastP at h
    split at h
    · injection h with h; subst h; exact ⟨by omega, by assumption⟩
    · have := lastP_lt h; exact ⟨by omega, this.2⟩
/-- The first of n places, from place i on, that has the property. -/
def firstP (p : Nat → Bool) : Nat → Nat → Option Nat
  | _, 0 => none
  | i, m + 1 => if p i then some i else firstP p (i + 1) m
theorem firstP_yes {p : Nat → Bool} {i m : Nat} (hm : 0 < m) (h : p i = true) : firstP p i m = some i := by
  cases m with
  | zero => omega
  | succ m => unfold firstP; rw [if_pos h]
theorem firstP_no {p : Nat → Bool} {i m : Nat} (hm : 0 < m) (h : p i = false) : firstP p i m = firstP p (i + 1) (m - 1) := by
  cases m with
  | zero => omega
  | succ m => rw [firstP, if_neg (by simp [h])]; rfl
end Go.Proofs.Ytlmmmeknilgdhaa
