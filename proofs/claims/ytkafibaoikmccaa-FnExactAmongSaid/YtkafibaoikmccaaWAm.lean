import Derived.Test.YtkafibaoikmccaaWEv
import Derived.Test.YtkafibaoikmccaaWM
namespace Go.Proofs.Ytkafibaoikmccaa
open Go Go.Tr
set_option maxRecDepth 100000
set_option maxHeartbeats 1000000
set_option linter.unusedVariables false
set_option linter.unusedSimpArgs false
def pa (xs : List EvT) (n : Int) (j : Nat) : Bool := decide ((xs.getD j zEv).1 = n)
theorem AmongS_run (e : Nat) (xs : List EvT) (n : Int) (w : -9223372036854775808 ≤ n ∧ n ≤ 9223372036854775807) (hn : xs.length ≤ 1048576) : RunT Try.prog 33 [.one (.c (tEv e xs)), ti n] [] [oi (cntP (pa xs n) xs.length)] [] := by
  refine RunT.of_vc gOk Try.func33 rfl rfl (Nat.le_of_ble_eq_true rfl) (by repeat' (first | exact trivial | exact ⟨_, rfl, Nat.le_refl _⟩ | exact Nat.le_of_ble_eq_true rfl | refine And.intro ?_ ?_)) (Nat.le_of_ble_eq_true rfl) rfl (fun F hE => ?_)
  repeat' (first | exact trivial | refine BS.d (fun h => ?_) (fun h => ?_) | refine BS.e (fun h => ?_) (fun h => ?_) | refine BS.ne (fun h => ?_) (fun h => ?_) | refine BS.n ?_ | refine BS.s (fun h => ?_) (fun h => ?_) | refine And.intro ?_ ?_ | (refine Need.mk ?_; first | with_reducible rfl | (show @Eq TC _ _; rfl) | omega | (simp only [adN_zero]; omega)) | exact OutS.whole rfl rfl)
  refine CodeK.loop gOk hE (fun i : Nat => ⟨[(0, vr 1000000 xs.length), (1, vi n), (5, vi (cntP (pa xs n) i)), (6, vi i)], [(1000000, rEv .fro false e xs)]⟩) (fun i => i ≤ xs.length) (fun i => xs.length - i) 0 (by refine leT.of ?_ ?_ rfl <;> repeat' (first | exact trivial | refine And.intro rfl ?_ | refine And.intro (by simp) ?_)) (Nat.zero_le _) ?_
  rintro i hi
  have hb := cntP_bd (pa xs n) i
  repeat' (first | exact trivial | refine BS.d (fun h => ?_) (fun h => ?_) | refine BS.e (fun h => ?_) (fun h => ?_) | refine BS.ne (fun h => ?_) (fun h => ?_) | refine BS.n ?_ | refine BS.s (fun h => ?_) (fun h => ?_) | refine And.intro ?_ ?_ | (refine Need.mk ?_; first | with_reducible rfl | (show @Eq TC _ _; rfl) | omega | (simp only [adN_zero]; omega)) | exact OutS.whole rfl rfl)
  (
      all_goals (try simp only [adN_zero] at *)
      all_goals (first
        | (refine Need.mk ?_; omega)
        | (refine Need.mk ?_; rw [show i = xs.length by omega])
        | (refine Need.mk ?_; exact (cntP_stop (fun j hj => by have hq : ¬ (j : Int) < n := by omega
                                                               simp [pp, hq]) xs.length hi).symm)
        | (refine ⟨i + 1, (by refine leT.of ?_ ?_ rfl <;> repeat' (first | exact trivial | refine And.intro rfl ?_ | refine And.intro (by first | rfl | (rw [cntP_yes] <;> first | (show V.a _ = V.a _; rfl) | (simp_all [pa]; done) | (simp_all [pa]; intros; omega) | (simp_all [pa] <;> omega)) | (rw [cntP_no] <;> first | (show V.a _ = V.a _; rfl) | (simp_all [pa]; done) | (simp_all [pa]; intros; omega) | (simp_all [pa] <;> omega)) | simp) ?_)), by omega, by first | omega | (dsimp only; omega)⟩)))
theorem AmongI_run (e : Nat) (xs : List EvT) (n : Int) (w : -9223372036854775808 ≤ n ∧ n ≤ 9223372036854775807) (hn : xs.length ≤ 1048576) : RunT Try.prog 35 [.one (.c (tEv e xs)), ti n] [] [oi (cntP (pa xs n) xs.length)] [] := by
  refine RunT.of_vc gOk Try.func35 rfl rfl (Nat.le_of_ble_eq_true rfl) (by repeat' (first | exact trivial | exact ⟨_, rfl, Nat.le_refl _⟩ | exact Nat.le_of_ble_eq_true rfl | refine And.intro ?_ ?_)) (Nat.le_of_ble_eq_true rfl) rfl (fun F hE => ?_)
  repeat' (first | exact trivial | refine BS.d (fun h => ?_) (fun h => ?_) | refine BS.e (fun h => ?_) (fun h => ?_) | refine BS.ne (fun h => ?_) (fun h => ?_) | refine BS.n ?_ | refine BS.s (fun h => ?_) (fun h => ?_) | refine And.intro ?_ ?_ | (refine Need.mk ?_; first | with_reducible rfl | (show @Eq TC _ _; rfl) | omega | (simp only [adN_zero]; omega)) | exact OutS.whole rfl rfl)
  refine CodeK.loop gOk hE (fun i : Nat => ⟨[(1, vi n), (5, vi (cntP (pa xs n) i)), (8, vr 1000000 xs.length), (9, vi xs.length), (10, vi i)], [(1000000, rEv .fro false e xs)]⟩) (fun i => i ≤ xs.length) (fun i => xs.length - i) 0 (by refine leT.of ?_ ?_ rfl <;> repeat' (first | exact trivial | refine And.intro rfl ?_ | refine And.intro (by simp) ?_)) (Nat.zero_le _) ?_
  rintro i hi
  have hb := cntP_bd (pa xs n) i
  repeat' (first | exact trivial | refine BS.d (fun h => ?_) (fun h => ?_) | refine BS.e (fun h => ?_) (fun h => ?_) | refine BS.ne (fun h => ?_) (fun h => ?_) | refine BS.n ?_ | refine BS.s (fun h => ?_) (fun h => ?_) | refine And.intro ?_ ?_ | (refine Need.mk ?_; first | with_reducible rfl | (show @Eq TC _ _; rfl) | omega | (simp only [adN_zero]; omega)) | exact OutS.whole rfl rfl)
  (
      all_goals (try simp only [adN_zero] at *)
      all_goals (first
        | (refine Need.mk ?_; omega)
        | (refine Need.mk ?_; rw [show i = xs.length by omega])
        | (refine Need.mk ?_; exact (cntP_stop (fun j hj => by have hq : ¬ (j : Int) < n := by omega
                                                               simp [pp, hq]) xs.length hi).symm)
        | (refine ⟨i + 1, (by refine leT.of ?_ ?_ rfl <;> repeat' (first | exact trivial | refine And.intro rfl ?_ | refine And.intro (by first | rfl | (rw [cntP_yes] <;> first | (show V.a _ = V.a _; rfl) | (simp_all [pa]; done) | (simp_all [pa]; intros; omega) | (simp_all [pa] <;> omega)) | (rw [cntP_no] <;> first | (show V.a _ = V.a _; rfl) | (simp_all [pa]; done) | (simp_all [pa]; intros; omega) | (simp_all [pa] <;> omega)) | simp) ?_)), by omega, by first | omega | (dsimp only; omega)⟩)))
end Go.Proofs.Ytkafibaoikmccaa
