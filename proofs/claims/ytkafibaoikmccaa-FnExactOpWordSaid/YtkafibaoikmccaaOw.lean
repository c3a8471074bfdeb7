/- The words of operations and of steps: contracts in both packages. -/
import Derived.Test.YtkafibaoikmccaaChecked
import Derived.Test.YtkafibaoikmccaaRet
import Derived.Test.YtkafibaoikmccaaIn
import Derived.Below
namespace Go.Proofs.Ytkafibaoikmccaa
open Go Go.RowKit
def wordsO : List (List UInt8) := [[115, 101, 116], [103, 101, 116], [104, 97, 122], [99, 111, 108, 108, 101, 99, 116], [112, 105, 110], [117, 110, 112, 105, 110], [112, 101, 101, 107]]
def ow (k : Int) : ByteArray := if inB k 1 7 then ⟨(wordsO.getD (k.toNat - 1) []).toArray⟩ else ⟨#[]⟩
theorem iOpWord_any (c : Int) (w : World) : Calls Try.prog 31 #[.int .i64 c] w fun e w' => e = .returned (.string (ow c)) ∧ w = w' := by
  cases hb : inB c 1 7
  · have HZ := Lib.hid (show ow c = ⟨#[]⟩ by rw [ow, hb]; rfl)
    have hi := inB_no.1 hb
    have h1 : (c == 1) = false := by simp; omega
    have h2 : (c == 2) = false := by simp; omega
    have h3 : (c == 3) = false := by simp; omega
    have h4 : (c == 4) = false := by simp; omega
    have h5 : (c == 5) = false := by simp; omega
    have h6 : (c == 6) = false := by simp; omega
    have h7 : (c == 7) = false := by simp; omega
    clear hi hb
    go_enter Try.func31, Try.ntmps31
    go_wp2
    go_ret
    exact ⟨ret_str HZ.out.symm, rfl⟩
  · have hi := inB_iff.1 hb
    have : c = 1 ∨ c = 2 ∨ c = 3 ∨ c = 4 ∨ c = 5 ∨ c = 6 ∨ c = 7 := by omega
    rcases this with rfl | rfl | rfl | rfl | rfl | rfl | rfl
    all_goals
      go_enter Try.func31, Try.ntmps31
      go_wp2
      go_ret
      exact ⟨rfl, rfl⟩
set_option maxHeartbeats 2000000 in
theorem sOpWord_any (c : Int) (w : World) : Calls Try.prog 30 #[.int .i64 c] w fun e w' => e = .returned (.string (ow c)) ∧ Below w.heap.size w w' := by
  cases hb : inB c 1 7
  · have HZ := Lib.hid (show ow c = ⟨#[]⟩ by rw [ow, hb]; rfl)
    go_enter Try.func30, Try.ntmps30
    go_wp2_with (go_at_call 54; refine (l1In_any _ _ _ _).mono ?_; rintro e w' ⟨rfl, rfl⟩)
    go_ret
    exact ⟨ret_str HZ.out.symm, Below.refl _ _⟩
  · have hi := inB_iff.1 hb
    have : c = 1 ∨ c = 2 ∨ c = 3 ∨ c = 4 ∨ c = 5 ∨ c = 6 ∨ c = 7 := by omega
    rcases this with rfl | rfl | rfl | rfl | rfl | rfl | rfl
    all_goals
      go_enter Try.func30, Try.ntmps30
      go_wp2_with (go_at_call 54; refine (l1In_any _ _ _ _).mono ?_; rintro e w' ⟨rfl, rfl⟩)
      go_ret
      exact ⟨rfl, (Below.refl _ _).alloc (Nat.le_refl _) _⟩
end Go.Proofs.Ytkafibaoikmccaa
