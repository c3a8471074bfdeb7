/- Contracts of HazOk in both packages. -/
import Derived.Test.YtbdegnamlmabbaaInts
import Derived.Test.YtbdegnamlmabbaaHaA2
namespace Go.Proofs.Ytbdegnamlmabbaa
open Go Go.RowKit

def hz1 (h : Int) : Bool := h == 0 || hOk h
def hzOk (zs : List Int) : Bool := zs.all hz1 && zs.length == 3
theorem hz_all_false {xs : List Int} {j : Nat} {x : Int} (h : xs[j]? = some x) (hx : hz1 x = false) : xs.all hz1 = false := by
  rw [List.all_eq_false]
  exact ⟨x, List.mem_of_getElem? h, by simp [hx]⟩
theorem hz_all_true {xs : List Int} {j : Nat} (h : (xs.take j).all hz1 = true) (hj : xs.length ≤ j) : xs.all hz1 = true := by
  rwa [List.take_of_length_le hj] at h
theorem hz_all_step {xs : List Int} {j : Nat} {x : Int} (h : (xs.take j).all hz1 = true) (hx : xs[j]? = some x) (h1 : hz1 x = true) : (xs.take (j + 1)).all hz1 = true := by
  rw [take_succ_of hx, List.all_append, h]; simp [h1]
theorem hzOk_len {xs : List Int} (h : hzOk xs = true) : xs.length = 3 := by simp [hzOk] at h; exact h.2

theorem handleOrNone_any (h : Int) (w : World) (hm : h ≤ 9223372036854775807) :
    Calls Try.prog 48 #[.int .i64 h] w fun e w' => e = .returned (.bool (hz1 h)) ∧ w = w' := by
  by_cases h0 : h = 0
  · subst h0
    go_enter Try.func48, Try.ntmps48
    go_wp2
    go_ret
    exact ⟨ret_bool (by decide), rfl⟩
  · have hb : ((h : Int) == 0) = false := by simpa using h0
    have HZ := Lib.hid (show hz1 h = hOk h by rw [hz1, hb]; rfl)
    clear h0
    go_enter Try.func48, Try.ntmps48
    go_wp2_with (go_at_call 43; refine (iHandleOk_any _ _ hm).mono ?_; rintro e w' ⟨rfl, rfl⟩)
    go_ret
    exact ⟨ret_bool HZ.out.symm, rfl⟩
end Go.Proofs.Ytbdegnamlmabbaa
