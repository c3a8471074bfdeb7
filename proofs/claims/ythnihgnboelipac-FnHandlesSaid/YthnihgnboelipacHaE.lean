/- What the law on handles asks, said of the numbers alone. -/
import Derived.Test.YthnihgnboelipacClsM
import Derived.Test.YthnihgnboelipacHaD
namespace Go.Proofs.Ythnihgnboelipac
open Go

theorem pair_cases (s g : Int) : (hOf s g = 0 ∧ (s < 0 ∨ (0 ≤ s ∧ 24 ≤ s) ∨ (0 ≤ s ∧ s < 24 ∧ g < 1) ∨ (0 ≤ s ∧ s < 24 ∧ 1 ≤ g ∧ 6 < g))) ∨
    ((0 ≤ s ∧ s < 24 ∧ 1 ≤ g ∧ g ≤ 6) ∧ (hOf s g != 0) = true ∧ hOf s g ≤ 1000 ∧ hSlot (hOf s g) = s ∧ hGen (hOf s g) = g ∧ hOk (hOf s g) = true) := by
  cases i1 : inB s 0 23
  · have := inB_no.1 i1
    refine .inl ⟨h_no1 i1, ?_⟩
    omega
  · have j1 := inB_iff.1 i1
    cases i2 : inB g 1 6
    · have := inB_no.1 i2
      refine .inl ⟨h_no2 i2, ?_⟩
      omega
    · have j2 := inB_iff.1 i2
      have e := h_yes i1 i2
      have ok : hOk (hOf s g) = true := by rw [e, hok_iff]; omega
      refine .inr ⟨by omega, by rw [e, bne_iff_ne]; omega, by rw [e]; omega, ?_, ?_, ok⟩
      · rw [hSlot, if_pos ok, e]; omega
      · rw [hGen, if_pos ok, e]; omega

theorem hand_cases (x : Int) : (hOk x = false ∧ hSlot x = -1 ∧ latOk x = false) ∨
    (hOk x = true ∧ 0 ≤ hSlot x ∧ hOf (hSlot x) (hGen x) = x ∧ decide (hGen x < 6) = false ∧ latOk x = false) ∨
    (hOk x = true ∧ 0 ≤ hSlot x ∧ hOf (hSlot x) (hGen x) = x ∧ hGen x < 6 ∧ latOk x = true ∧ latN x ≤ 1000 ∧ (hSlot (latN x) == hSlot x) = true ∧ (hGen (latN x) == hGen x + 1) = true ∧ 0 ≤ hGen x) := by
  cases e : hOk x
  · exact .inl ⟨rfl, by rw [hSlot, e]; rfl, by rw [latOk, e]; rfl⟩
  · have i := hok_iff.1 e
    have e2 : hSlot x = x % 32 := by rw [hSlot, e]; rfl
    have e3 : hGen x = x / 32 := by rw [hGen, e]; rfl
    have e4 : hOf (hSlot x) (hGen x) = x := by
      rw [e2, e3, h_yes (by rw [inB_iff]; omega) (by rw [inB_iff]; omega)]; omega
    by_cases hg : x / 32 < 6
    · have e1 : latOk x = true := by rw [latOk, e]; simp [hg]
      have e5 := lat_yes e1
      have ok : hOk (latN x) = true := by rw [e5, hok_iff]; omega
      refine .inr (.inr ⟨rfl, by omega, e4, by omega, e1, by omega, ?_, ?_, by omega⟩)
      · rw [beq_iff_eq, hSlot, if_pos ok, e2, e5]; omega
      · rw [beq_iff_eq, hGen, if_pos ok, e3, e5]; omega
    · exact .inr (.inl ⟨rfl, by omega, e4, by simp; omega, by rw [latOk, e]; simp; omega⟩)
end Go.Proofs.Ythnihgnboelipac
