import Derived.Test.YtkafibaoikmccabWWrite
import Derived.Test.YtkafibaoikmccabWM
namespace Go.Proofs.Ytkafibaoikmccab
open Go Go.Tr
set_option maxRecDepth 100000
set_option linter.unusedVariables false
set_option linter.unusedSimpArgs false
def pw (xs : List WriteT) (k : Int) (j : Nat) : Bool := decide ((xs.getD j zWrite).1 = k)
def woR (xs : List WriteT) : Option Nat → WriteT × Bool
  | some j => (xs.getD j zWrite, true)
  | none => (zWrite, false)
/-- The write of a key. -/
def wof (xs : List WriteT) (k : Int) : WriteT × Bool := woR xs (firstP (pw xs k) 0 xs.length)
theorem WriteOfS_run (e : Nat) (xs : List WriteT) (k : Int) (w : -9223372036854775808 ≤ k ∧ k ≤ 9223372036854775807) (hn : xs.length ≤ 1048576) : RunT Try.prog 31 [.one (.c (tWrite e xs)), ti k] [] [oWrite (wof xs k).1, ob (wof xs k).2] [] := by
  refine RunT.of_vc gOk Try.func31 rfl rfl (Nat.le_of_ble_eq_true rfl) (by repeat' (first | exact trivial | exact ⟨_, rfl, Nat.le_refl _⟩ | exact Nat.le_of_ble_eq_true rfl | refine And.intro ?_ ?_)) (Nat.le_of_ble_eq_true rfl) rfl (fun F hE => ?_)
  repeat' (first | exact trivial | refine BS.d (fun h => ?_) (fun h => ?_) | refine BS.e (fun h => ?_) (fun h => ?_) | refine BS.ne (fun h => ?_) (fun h => ?_) | refine BS.n ?_ | refine BS.s (fun h => ?_) (fun h => ?_) | refine And.intro ?_ ?_ | (refine Need.mk ?_; first | with_reducible rfl | (show @Eq TC _ _; rfl) | omega | (simp only [adN_zero]; omega)) | exact OutS.whole rfl rfl)
  refine CodeK.loop gOk hE (fun i : Nat => ⟨[(0, vr 1000000 xs.length), (1, vi k), (4, .ptr 4 0 0), (6, vi i)], [(4, .box 51 [.cl (.lit (.int .i64 0)), .cl (.lit (.bool false)), .cl (.lit (.int .i64 0))]), (1000000, rWrite .fro false e xs)]⟩) (fun i => i ≤ xs.length ∧ wof xs k = woR xs (firstP (pw xs k) i (xs.length - i))) (fun i => xs.length - i) 0 (by refine leT.of ?_ ?_ rfl <;> repeat' (first | exact trivial | refine And.intro rfl ?_ | refine And.intro (by simp) ?_)) ⟨Nat.zero_le _, rfl⟩ ?_
  rintro i ⟨hi, hs⟩
  repeat' (first | exact trivial | refine BS.d (fun h => ?_) (fun h => ?_) | refine BS.e (fun h => ?_) (fun h => ?_) | refine BS.ne (fun h => ?_) (fun h => ?_) | refine BS.n ?_ | refine BS.s (fun h => ?_) (fun h => ?_) | refine And.intro ?_ ?_ | (refine Need.mk ?_; first | with_reducible rfl | (show @Eq TC _ _; rfl) | omega | (simp only [adN_zero]; omega)) | exact OutS.whole rfl rfl)
  (
      all_goals (try simp only [adN_zero] at *)
      all_goals (first
        | (refine Need.mk ?_; rw [hs, firstP_yes (by omega) (by exact decide_eq_true (by assumption))]; rfl)
        | (refine Need.mk ?_; rw [hs, show xs.length - i = 0 by omega]; rfl)
        | (refine ⟨i + 1, (by refine leT.of ?_ ?_ rfl <;> repeat' (first | exact trivial | refine And.intro rfl ?_ | refine And.intro (by simp) ?_)), ⟨by omega, by rw [hs, firstP_no (by omega) (by exact decide_eq_false (by assumption)), show xs.length - i - 1 = xs.length - (i + 1) by omega]⟩, by first | omega | (dsimp only; omega)⟩)))
theorem WriteOfI_run (e : Nat) (xs : List WriteT) (k : Int) (w : -9223372036854775808 ≤ k ∧ k ≤ 9223372036854775807) (hn : xs.length ≤ 1048576) : RunT Try.prog 33 [.one (.c (tWrite e xs)), ti k] [] [oWrite (wof xs k).1, ob (wof xs k).2] [] := by
  refine RunT.of_vc gOk Try.func33 rfl rfl (Nat.le_of_ble_eq_true rfl) (by repeat' (first | exact trivial | exact ⟨_, rfl, Nat.le_refl _⟩ | exact Nat.le_of_ble_eq_true rfl | refine And.intro ?_ ?_)) (Nat.le_of_ble_eq_true rfl) rfl (fun F hE => ?_)
  repeat' (first | exact trivial | refine BS.d (fun h => ?_) (fun h => ?_) | refine BS.e (fun h => ?_) (fun h => ?_) | refine BS.ne (fun h => ?_) (fun h => ?_) | refine BS.n ?_ | refine BS.s (fun h => ?_) (fun h => ?_) | refine And.intro ?_ ?_ | (refine Need.mk ?_; first | with_reducible rfl | (show @Eq TC _ _; rfl) | omega | (simp only [adN_zero]; omega)) | exact OutS.whole rfl rfl)
  refine CodeK.loop gOk hE (fun i : Nat => ⟨[(1, vi k), (4, .ptr 4 0 0), (8, vr 1000000 xs.length), (9, vi xs.length), (10, vi i)], [(4, .box 51 [.cl (.lit (.int .i64 0)), .cl (.lit (.bool false)), .cl (.lit (.int .i64 0))]), (1000000, rWrite .fro false e xs)]⟩) (fun i => i ≤ xs.length ∧ wof xs k = woR xs (firstP (pw xs k) i (xs.length - i))) (fun i => xs.length - i) 0 (by refine leT.of ?_ ?_ rfl <;> repeat' (first | exact trivial | refine And.intro rfl ?_ | refine And.intro (by simp) ?_)) ⟨Nat.zero_le _, rfl⟩ ?_
  rintro i ⟨hi, hs⟩
  repeat' (first | exact trivial | refine BS.d (fun h => ?_) (fun h => ?_) | refine BS.e (fun h => ?_) (fun h => ?_) | refine BS.ne (fun h => ?_) (fun h => ?_) | refine BS.n ?_ | refine BS.s (fun h => ?_) (fun h => ?_) | refine And.intro ?_ ?_ | (refine Need.mk ?_; first | with_reducible rfl | (show @Eq TC _ _; rfl) | omega | (simp only [adN_zero]; omega)) | exact OutS.whole rfl rfl)
  (
      all_goals (try simp only [adN_zero] at *)
      all_goals (first
        | (refine Need.mk ?_; rw [hs, firstP_yes (by omega) (by exact decide_eq_true (by assumption))]; rfl)
        | (refine Need.mk ?_; rw [hs, show xs.length - i = 0 by omega]; rfl)
        | (refine ⟨i + 1, (by refine leT.of ?_ ?_ rfl <;> repeat' (first | exact trivial | refine And.intro rfl ?_ | refine And.intro (by simp) ?_)), ⟨by omega, by rw [hs, firstP_no (by omega) (by exact decide_eq_false (by assumption)), show xs.length - i - 1 = xs.length - (i + 1) by omega]⟩, by first | omega | (dsimp only; omega)⟩)))
end Go.Proofs.Ytkafibaoikmccab
