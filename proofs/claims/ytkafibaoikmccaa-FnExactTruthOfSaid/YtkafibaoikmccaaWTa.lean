import Derived.Test.YtkafibaoikmccaaWCa
namespace Go.Proofs.Ytkafibaoikmccaa
open Go Go.Tr
set_option maxRecDepth 100000
set_option maxHeartbeats 1000000
set_option linter.unusedVariables false
set_option linter.unusedSimpArgs false
def pr (xs : List EvT) (s : Int) (j : Nat) : Bool := decide ((xs.getD j zEv).1 = 3) && decide ((xs.getD j zEv).2.2.1 = s)
def rdI' : Option Nat → Int
  | some j => (j : Int)
  | none => -1
theorem rdI'_bd (p : Nat → Bool) (n : Nat) : -1 ≤ rdI' (lastP p n) ∧ rdI' (lastP p n) < n := by
  cases h : lastP p n with
  | none => exact ⟨Int.le_refl _, by show (-1 : Int) < n; omega⟩
  | some j => have := (lastP_lt h).1; exact ⟨by show (-1 : Int) ≤ (j : Int); omega, by show (j : Int) < n; omega⟩
theorem l17Read_run (e : Nat) (xs : List EvT) (m : Nat) (s : Int) (hm : m ≤ xs.length) (hn : xs.length ≤ 1048576) : RunT Try.prog 58 [.one (.c (tEv e xs)), ti m, ti s] [] [oi (rdI' (lastP (pr xs s) m))] [] := by
  refine RunT.of_vc gOk Try.func58 rfl rfl (Nat.le_of_ble_eq_true rfl) (by repeat' (first | exact trivial | exact ⟨_, rfl, Nat.le_refl _⟩ | exact Nat.le_of_ble_eq_true rfl | refine And.intro ?_ ?_)) (Nat.le_of_ble_eq_true rfl) rfl (fun F hE => ?_)
  repeat' (first | exact trivial | refine BS.d (fun h => ?_) (fun h => ?_) | refine BS.e (fun h => ?_) (fun h => ?_) | refine BS.ne (fun h => ?_) (fun h => ?_) | refine BS.n ?_ | refine BS.s (fun h => ?_) (fun h => ?_) | refine And.intro ?_ ?_ | (refine Need.mk ?_; first | with_reducible rfl | (show @Eq TC _ _; rfl) | omega | (simp only [adN_zero]; omega)) | exact OutS.whole rfl rfl)
  refine CodeK.loop gOk hE (fun i : Nat => ⟨[(0, vr 1000000 xs.length), (1, vi m), (2, vi s), (7, vi (rdI' (lastP (pr xs s) i))), (8, vi i)], [(1000000, rEv .fro false e xs)]⟩) (fun i => i ≤ m) (fun i => xs.length - i) 0 (by refine leT.of ?_ ?_ rfl <;> repeat' (first | exact trivial | refine And.intro rfl ?_ | refine And.intro (by simp) ?_)) (Nat.zero_le _) ?_
  rintro i hi
  have hL : lastP (pr xs s) (i + 1) = if pr xs s i then some i else lastP (pr xs s) i := rfl
  rcases hp : pr xs s i
  all_goals rw [hp] at hL
  all_goals simp at hL
  all_goals simp only [pr, Bool.and_eq_true, Bool.and_eq_false_imp, decide_eq_true_eq, decide_eq_false_iff_not] at hp
  all_goals (repeat' (first | exact trivial | refine BS.d (fun h => ?_) (fun h => ?_) | refine BS.e (fun h => ?_) (fun h => ?_) | refine BS.ne (fun h => ?_) (fun h => ?_) | refine BS.n ?_ | refine BS.s (fun h => ?_) (fun h => ?_) | refine And.intro ?_ ?_ | (refine Need.mk ?_; first | with_reducible rfl | (show @Eq TC _ _; rfl) | omega | (simp only [adN_zero]; omega)) | exact OutS.whole rfl rfl))
  all_goals (try simp only [adN_zero] at *)
  all_goals first
    | (exfalso; first | omega | (simp_all; done))
    | (refine Need.mk ?_; omega)
    | (refine Need.mk ?_; rw [show i = m by omega])
    | (refine ⟨i + 1, (by refine leT.of ?_ ?_ rfl <;> repeat' (first | exact trivial | refine And.intro rfl ?_ | refine And.intro (by first | rfl | (rw [hL]; rfl)) ?_)), by omega, by first | omega | (dsimp only; omega)⟩)
theorem readBefore_run (e : Nat) (xs : List EvT) (m : Nat) (hm : m < xs.length) (hn : xs.length ≤ 1048576) : RunT Try.prog 59 [.one (.c (tEv e xs)), ti m] [] [oi (rdI' (lastP (pr xs (xs.getD m zEv).2.2.1) m))] [] := by
  refine RunT.of_vc gOk Try.func59 rfl rfl (Nat.le_of_ble_eq_true rfl) (by repeat' (first | exact trivial | exact ⟨_, rfl, Nat.le_refl _⟩ | exact Nat.le_of_ble_eq_true rfl | refine And.intro ?_ ?_)) (Nat.le_of_ble_eq_true rfl) rfl (fun F hE => ?_)
  repeat' (first | exact trivial | refine BS.d (fun h => ?_) (fun h => ?_) | refine BS.e (fun h => ?_) (fun h => ?_) | refine BS.ne (fun h => ?_) (fun h => ?_) | refine BS.n ?_ | refine BS.s (fun h => ?_) (fun h => ?_) | refine And.intro ?_ ?_ | (refine Need.mk ?_; first | with_reducible rfl | (show @Eq TC _ _; rfl) | omega | (simp only [adN_zero]; omega)) | exact OutS.whole rfl rfl)
  refine CodeK.loop gOk hE (fun n : Nat => ⟨[(0, vr 1000000 xs.length), (1, vi m), (5, vi ((n : Int) - 1))], [(1000000, rEv .fro false e xs)]⟩) (fun n => n ≤ m ∧ lastP (pr xs (xs.getD m zEv).2.2.1) m = lastP (pr xs (xs.getD m zEv).2.2.1) n) (fun n => n) m (by refine leT.of ?_ ?_ rfl <;> repeat' (first | exact trivial | refine And.intro rfl ?_ | refine And.intro (by simp) ?_)) ⟨Nat.le_refl _, rfl⟩ ?_
  rintro n ⟨hi, hs⟩
  rcases n with _ | i
  · repeat' (first | exact trivial | refine BS.d (fun h => ?_) (fun h => ?_) | refine BS.e (fun h => ?_) (fun h => ?_) | refine BS.ne (fun h => ?_) (fun h => ?_) | refine BS.n ?_ | refine BS.s (fun h => ?_) (fun h => ?_) | refine And.intro ?_ ?_ | (refine Need.mk ?_; first | with_reducible rfl | (show @Eq TC _ _; rfl) | omega | (simp only [adN_zero]; omega)) | exact OutS.whole rfl rfl)
    all_goals first
      | (exfalso; first | omega | (simp at *; done))
      | (refine Need.mk ?_; rw [hs]; rfl)
  · have hL : lastP (pr xs (xs.getD m zEv).2.2.1) (i + 1) = if pr xs (xs.getD m zEv).2.2.1 i then some i else lastP (pr xs (xs.getD m zEv).2.2.1) i := rfl
    rcases hp : pr xs (xs.getD m zEv).2.2.1 i
    all_goals rw [hp] at hL
    all_goals simp only [reduceIte, Bool.false_eq_true] at hL
    all_goals simp only [pr, Bool.and_eq_true, Bool.and_eq_false_imp, decide_eq_true_eq, decide_eq_false_iff_not] at hp
    all_goals rw [hL] at hs
    all_goals (repeat' (first | exact trivial | refine BS.d (fun h => ?_) (fun h => ?_) | refine BS.e (fun h => ?_) (fun h => ?_) | refine BS.ne (fun h => ?_) (fun h => ?_) | refine BS.n ?_ | refine BS.s (fun h => ?_) (fun h => ?_) | refine And.intro ?_ ?_ | (refine Need.mk ?_; first | with_reducible rfl | (show @Eq TC _ _; rfl) | omega | (simp only [adN_zero]; omega)) | exact OutS.whole rfl rfl | (refine CodeK.draw gOk hE rfl (fun _ _ h => h) (.take 0 (.take 1 (.take 2 (.take 3 (.alt 4 (.take 5 (.take 6 (.take 7 (.take 8 (.take 9 (.take 10 (.take 12 (.take 13 (.take 14 (.take 15 (.alt 11 (.alt 16 (.take 17 (.take 18 .done)) .stop) (.alt 16 (.alt 11 (.take 17 (.take 18 .done)) .stop) .stop)))))))))))) .stop))))) ?_ ?_; focus (decide +kernel))))
    all_goals (try simp only [adN_zero] at *)
    all_goals (try simp only [Int.natCast_add, Int.natCast_one, Int.add_sub_cancel, adN_zero] at *)
    all_goals first
      | (exfalso; first | omega | (simp_all; done))
      | (refine Need.mk ?_; omega)
      | (refine Need.mk ?_; rw [hs]; rfl)
      | (refine ⟨i, (by refine leT.of ?_ ?_ rfl <;> repeat' (first | exact trivial | refine And.intro rfl ?_ | refine And.intro (by simp) ?_)), ⟨by omega, hs⟩, by first | omega | (dsimp only; omega)⟩)
end Go.Proofs.Ytkafibaoikmccaa
