/- The words of operations and of steps: contracts in both packages. -/
import Derived.Test.YtkafibaoikmccaaChecked
import Derived.Test.YtkafibaoikmccaaRet
import Derived.Test.YtkafibaoikmccaaIn
import Derived.Below
namespace Go.Proofs.Ytkafibaoikmccaa
open Go Go.RowKit
def wordsS : List (List UInt8) := [[97, 108, 108, 111, 99], [114, 101, 116, 105, 114, 101], [97, 100, 118, 97, 110, 99, 101], [99, 111, 108, 108, 101, 99, 116], [112, 105, 110]]
def sw (k : Int) : ByteArray := if inB k 1 5 then ⟨(wordsS.getD (k.toNat - 1) []).toArray⟩ else ⟨#[]⟩
theorem iSubWord_any (c : Int) (w : World) : Calls Try.prog 26 #[.int .i64 c] w fun e w' => e = .returned (.string (sw c)) ∧ w = w' := by
  cases hb : inB c 1 5
  · have HZ := Lib.hid (show sw c = ⟨#[]⟩ by rw [sw, hb]; rfl)
    have hi := inB_no.1 hb
    have h1 : (c == 1) = false := by simp; omega
    have h2 : (c == 2) = false := by simp; omega
    have h3 : (c == 3) = false := by simp; omega
    have h4 : (c == 4) = false := by simp; omega
    have h5 : (c == 5) = false := by simp; omega
    clear hi hb
    go_enter Try.func26, Try.ntmps26
    go_wp2
    go_ret
    exact ⟨ret_str HZ.out.symm, rfl⟩
  · have hi := inB_iff.1 hb
    have : c = 1 ∨ c = 2 ∨ c = 3 ∨ c = 4 ∨ c = 5 := by omega
    rcases this with rfl | rfl | rfl | rfl | rfl
    all_goals
      go_enter Try.func26, Try.ntmps26
      go_wp2
      go_ret
      exact ⟨rfl, rfl⟩
set_option maxHeartbeats 2000000 in
theorem sSubWord_any (c : Int) (w : World) : Calls Try.prog 25 #[.int .i64 c] w fun e w' => e = .returned (.string (sw c)) ∧ Below w.heap.size w w' := by
  cases hb : inB c 1 5
  · have HZ := Lib.hid (show sw c = ⟨#[]⟩ by rw [sw, hb]; rfl)
    go_enter Try.func25, Try.ntmps25
    go_wp2_with (go_at_call 54; refine (l1In_any _ _ _ _).mono ?_; rintro e w' ⟨rfl, rfl⟩)
    go_ret
    exact ⟨ret_str HZ.out.symm, Below.refl _ _⟩
  · have hi := inB_iff.1 hb
    have : c = 1 ∨ c = 2 ∨ c = 3 ∨ c = 4 ∨ c = 5 := by omega
    rcases this with rfl | rfl | rfl | rfl | rfl
    all_goals
      go_enter Try.func25, Try.ntmps25
      go_wp2_with (go_at_call 54; refine (l1In_any _ _ _ _).mono ?_; rintro e w' ⟨rfl, rfl⟩)
      go_ret
      exact ⟨rfl, (Below.refl _ _).alloc (Nat.le_refl _) _⟩
end Go.Proofs.Ytkafibaoikmccaa
