/- Plain mathematics of the chapters 4 to 6: classes, places, handles. -/
import Derived.Test.YtbdegnamlmabbaaNumM
namespace Go.Proofs.Ytbdegnamlmabbaa
def szOf (c : Int) : Int := if c = 0 then 8 else if c = 1 then 16 else if c = 2 then 40 else 0
def clsOf (n : Int) : Int := if n < 1 then -1 else if n ≤ 8 then 0 else if n ≤ 16 then 1 else if n ≤ 40 then 2 else -1
def strOf (c : Int) : Int := if c = 0 then 12 else if c = 1 then 20 else if c = 2 then 44 else 0
def perOf (c : Int) : Int := if c = 0 then 4 else if c = 1 then 2 else if c = 2 then 1 else 0
def wstOf (n : Int) : Int := if clsOf n < 0 then -1 else szOf (clsOf n) - n
def pgOf (s : Int) : Int := if inB s 0 23 then s / 4 else -1
def ixOf (s : Int) : Int := if inB s 0 23 then s % 4 else -1
def sltAt (p i : Int) : Int := if inB p 0 5 && inB i 0 3 then p * 4 + i else -1
def genOk (s c : Int) : Bool := inB s 0 23 && decide (s % 4 < perOf c)
def genAt (s c : Int) : Int := if genOk s c then s / 4 * 64 + 8 + s % 4 * strOf c else -1
def stAt (s c : Int) : Int := if genOk s c then s / 4 * 64 + 8 + s % 4 * strOf c + 4 else -1
def hOf (s g : Int) : Int := if inB s 0 23 && inB g 1 6 then g * 32 + s else 0
def hOk (h : Int) : Bool := inB h 32 223 && decide (h % 32 < 24)
def hSlot (h : Int) : Int := if hOk h then h % 32 else -1
def hGen (h : Int) : Int := if hOk h then h / 32 else 0
def latOk (h : Int) : Bool := hOk h && decide (h / 32 < 6)
def latN (h : Int) : Int := if latOk h then h + 32 else 0

theorem cls_cases (c : Int) : c = 0 ∨ c = 1 ∨ c = 2 ∨ (inB c 0 2 = false ∧ (c == 0) = false ∧ (c == 1) = false ∧ (c == 2) = false ∧ szOf c = 0 ∧ strOf c = 0 ∧ perOf c = 0) := by
  by_cases h0 : c = 0
  · exact .inl h0
  by_cases h1 : c = 1
  · exact .inr (.inl h1)
  by_cases h2 : c = 2
  · exact .inr (.inr (.inl h2))
  · refine .inr (.inr (.inr ⟨by rw [inB_no]; omega, by simpa using h0, by simpa using h1, by simpa using h2, ?_, ?_, ?_⟩))
    · simp [szOf, h0, h1, h2]
    · simp [strOf, h0, h1, h2]
    · simp [perOf, h0, h1, h2]
theorem per_bd (c : Int) : 0 ≤ perOf c ∧ perOf c ≤ 4 := by unfold perOf; split <;> (try split) <;> (try split) <;> omega
theorem str_bd (c : Int) : 0 ≤ strOf c ∧ strOf c ≤ 44 := by unfold strOf; split <;> (try split) <;> (try split) <;> omega
theorem sz_bd (c : Int) : 0 ≤ szOf c ∧ szOf c ≤ 40 := by unfold szOf; split <;> (try split) <;> (try split) <;> omega
end Go.Proofs.Ytbdegnamlmabbaa
