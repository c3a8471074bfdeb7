import Derived.Test.YtkafibaoikmccaaWEv
import Derived.Test.YtkafibaoikmccaaVT
import Derived.Test.YtkafibaoikmccaaWM
namespace Go.Proofs.Ytkafibaoikmccaa
open Go Go.Tr
set_option maxRecDepth 100000
set_option maxHeartbeats 1000000
set_option linter.unusedVariables false
set_option linter.unusedSimpArgs false
def pc (xs : List EvT) (c : Int) (j : Nat) : Bool := decide ((xs.getD j zEv).1 = 2) && decide ((xs.getD j zEv).2.2.2.1 = c)
def evR (xs : List EvT) : Option Nat → EvT
  | some j => xs.getD j zEv
  | none => zEv
def cut (n : Nat) (a : Int) : Nat := (if (n : Int) < a then (n : Int) else a).toNat
/-- The last change of a cell ahead of a place. -/
def cellAt (xs : List EvT) (a c : Int) : EvT := evR xs (lastP (pc xs c) (cut xs.length a))
abbrev bEv (x : EvT) : List TCl := [.cl (.lit (.int .i64 x.1)), .cl (.lit (.int .i64 x.2.1)), .cl (.lit (.int .i64 x.2.2.1)), .cl (.lit (.int .i64 x.2.2.2.1)), .cl (.lit (.int .i64 x.2.2.2.2.1)), .cl (.lit (.int .i64 x.2.2.2.2.2.1)), .cl (.lit (.int .i64 x.2.2.2.2.2.2))]
theorem CellAtS_run' (e : Nat) (xs : List EvT) (a c : Int) (hn : xs.length ≤ 1048576) : RunT Try.prog 37 [.one (.c (tEv e xs)), ti a, ti c] [] [oEv (cellAt xs a c)] [] := by
  have hcut : cut xs.length a ≤ xs.length ∧ ((cut xs.length a : Int) ≤ a ∨ a < 0) ∧ (a < 0 → cut xs.length a = 0) ∧ (0 ≤ a → (cut xs.length a : Int) = if (xs.length : Int) < a then (xs.length : Int) else a) := by unfold cut; split <;> omega
  refine RunT.of_vc gOk Try.func37 rfl rfl (Nat.le_of_ble_eq_true rfl) (by repeat' (first | exact trivial | exact ⟨_, rfl, Nat.le_refl _⟩ | exact Nat.le_of_ble_eq_true rfl | refine And.intro ?_ ?_)) (Nat.le_of_ble_eq_true rfl) rfl (fun F hE => ?_)
  repeat' (first | exact trivial | refine BS.d (fun h => ?_) (fun h => ?_) | refine BS.e (fun h => ?_) (fun h => ?_) | refine BS.ne (fun h => ?_) (fun h => ?_) | refine BS.n ?_ | refine BS.s (fun h => ?_) (fun h => ?_) | refine And.intro ?_ ?_ | (refine Need.mk ?_; first | with_reducible rfl | (show @Eq TC _ _; rfl) | omega | (simp only [adN_zero]; omega)) | exact OutS.whole rfl rfl)
  refine CodeK.loop gOk hE (fun i : Nat => ⟨[(0, vr 1000000 xs.length), (1, vi a), (2, vi c), (6, .ptr 6 0 0), (7, .ptr 7 0 0), (8, vi i)], [(6, .box 51 (bEv zEv)), (7, .box 51 (bEv (evR xs (lastP (pc xs c) i)))), (1000000, rEv .fro false e xs)]⟩) (fun i => i ≤ cut xs.length a) (fun i => xs.length - i) 0 (by refine leT.of ?_ ?_ rfl <;> repeat' (first | exact trivial | refine And.intro rfl ?_ | refine And.intro (by simp) ?_)) (Nat.zero_le _) ?_
  rintro i hi
  have hL : lastP (pc xs c) (i + 1) = if pc xs c i then some i else lastP (pc xs c) i := rfl
  rcases hp : pc xs c i
  all_goals rw [hp] at hL
  all_goals simp at hL
  all_goals simp only [pc, Bool.and_eq_true, Bool.and_eq_false_imp, decide_eq_true_eq, decide_eq_false_iff_not] at hp
  all_goals (repeat' (first | exact trivial | refine BS.d (fun h => ?_) (fun h => ?_) | refine BS.e (fun h => ?_) (fun h => ?_) | refine BS.ne (fun h => ?_) (fun h => ?_) | refine BS.n ?_ | refine BS.s (fun h => ?_) (fun h => ?_) | refine And.intro ?_ ?_ | (refine Need.mk ?_; first | with_reducible rfl | (show @Eq TC _ _; rfl) | omega | (simp only [adN_zero]; omega)) | exact OutS.whole rfl rfl))
  all_goals (try simp only [adN_zero] at *)
  all_goals first
    | (exfalso; first | omega | (simp_all; done))
    | (refine Need.mk ?_; omega)
    | (refine Need.mk ?_; rw [cellAt, show cut xs.length a = i by omega])
    | (refine ⟨i + 1, (by refine leT.of ?_ ?_ rfl <;> repeat' (first | exact trivial | refine And.intro rfl ?_ | refine And.intro (by first | rfl | (rw [hL]; rfl)) ?_)), by omega, by first | omega | (dsimp only; omega)⟩)
theorem CellAtI_run' (e : Nat) (xs : List EvT) (a c : Int) (hn : xs.length ≤ 1048576) : RunT Try.prog 38 [.one (.c (tEv e xs)), ti a, ti c] [] [oEv (cellAt xs a c)] [] := by
  refine RunT.of_vc gOk Try.func38 rfl rfl (Nat.le_of_ble_eq_true rfl) (by repeat' (first | exact trivial | exact ⟨_, rfl, Nat.le_refl _⟩ | exact Nat.le_of_ble_eq_true rfl | refine And.intro ?_ ?_)) (Nat.le_of_ble_eq_true rfl) rfl (fun F hE => ?_)
  repeat' (first | exact trivial | refine BS.d (fun h => ?_) (fun h => ?_) | refine BS.e (fun h => ?_) (fun h => ?_) | refine BS.ne (fun h => ?_) (fun h => ?_) | refine BS.n ?_ | refine BS.s (fun h => ?_) (fun h => ?_) | refine And.intro ?_ ?_ | (refine Need.mk ?_; first | with_reducible rfl | (show @Eq TC _ _; rfl) | omega | (simp only [adN_zero]; omega)) | exact OutS.whole rfl rfl | (refine OpK.min rfl rfl rfl rfl rfl ?_))
  refine CodeK.loop gOk hE (fun n : Int => ⟨[(0, vr 1000000 xs.length), (2, vi c), (6, .ptr 6 0 0), (7, vi n)], [(6, .box 51 (bEv zEv)), (1000000, rEv .fro false e xs)]⟩) (fun n => n ≤ xs.length ∧ n ≤ 9223372036854775807 ∧ cellAt xs a c = evR xs (lastP (pc xs c) n.toNat)) (fun n => n.toNat) (if (xs.length : Int) < a then (xs.length : Int) else a) (by refine leT.of ?_ ?_ rfl <;> repeat' (first | exact trivial | refine And.intro rfl ?_ | refine And.intro (by simp) ?_)) ⟨by split <;> omega, by split <;> omega, rfl⟩ ?_
  rintro n ⟨hi, hi2, hs⟩
  rcases (by omega : 0 < n ∨ n ≤ 0) with h0 | h0
  · obtain ⟨i, rfl⟩ : ∃ i : Nat, n = (i : Int) + 1 := ⟨(n - 1).toNat, by omega⟩
    have hL : lastP (pc xs c) (i + 1) = if pc xs c i then some i else lastP (pc xs c) i := rfl
    have hn1 : ((i : Int) + 1).toNat = i + 1 := by omega
    rcases hp : pc xs c i
    all_goals rw [hp] at hL
    all_goals simp at hL
    all_goals simp only [pc, Bool.and_eq_true, Bool.and_eq_false_imp, decide_eq_true_eq, decide_eq_false_iff_not] at hp
    all_goals rw [hn1, hL] at hs
    all_goals (repeat' (first | exact trivial | refine BS.d (fun h => ?_) (fun h => ?_) | refine BS.e (fun h => ?_) (fun h => ?_) | refine BS.ne (fun h => ?_) (fun h => ?_) | refine BS.n ?_ | refine BS.s (fun h => ?_) (fun h => ?_) | refine And.intro ?_ ?_ | (refine Need.mk ?_; first | with_reducible rfl | (show @Eq TC _ _; rfl) | omega | (simp only [adN_zero]; omega)) | exact OutS.whole rfl rfl))
    all_goals (try simp only [Int.add_sub_cancel, adN_zero] at *)
    all_goals first
      | (exfalso; first | omega | (simp_all; done))
      | (refine Need.mk ?_; omega)
      | (refine Need.mk ?_; rw [hs]; rfl)
      | (refine ⟨(i : Int), (by refine leT.of ?_ ?_ rfl <;> repeat' (first | exact trivial | refine And.intro rfl ?_ | refine And.intro (by simp) ?_)), ⟨by omega, by omega, by rw [hs]; rfl⟩, by first | omega | (dsimp only; omega)⟩)
  · repeat' (first | exact trivial | refine BS.d (fun h => ?_) (fun h => ?_) | refine BS.e (fun h => ?_) (fun h => ?_) | refine BS.ne (fun h => ?_) (fun h => ?_) | refine BS.n ?_ | refine BS.s (fun h => ?_) (fun h => ?_) | refine And.intro ?_ ?_ | (refine Need.mk ?_; first | with_reducible rfl | (show @Eq TC _ _; rfl) | omega | (simp only [adN_zero]; omega)) | exact OutS.whole rfl rfl)
    all_goals (try simp only [Int.add_sub_cancel, adN_zero] at *)
    all_goals first
      | (exfalso; first | omega | (simp_all; done))
      | (refine Need.mk ?_; rw [hs, show n.toNat = 0 by omega]; rfl)
theorem CellAtS_run (e : Nat) (xs : List EvT) (a : Int) (wa : -9223372036854775808 ≤ a ∧ a ≤ 9223372036854775807) (c : Int) (wc : -9223372036854775808 ≤ c ∧ c ≤ 9223372036854775807) (hn : xs.length ≤ 1048576) : RunT Try.prog 37 [.one (.c (tEv e xs)), ti a, ti c] [] [oEv (cellAt xs a c)] [] := CellAtS_run' e xs a c hn
theorem CellAtI_run (e : Nat) (xs : List EvT) (a : Int) (wa : -9223372036854775808 ≤ a ∧ a ≤ 9223372036854775807) (c : Int) (wc : -9223372036854775808 ≤ c ∧ c ≤ 9223372036854775807) (hn : xs.length ≤ 1048576) : RunT Try.prog 38 [.one (.c (tEv e xs)), ti a, ti c] [] [oEv (cellAt xs a c)] [] := CellAtI_run' e xs a c hn
end Go.Proofs.Ytkafibaoikmccaa
