import Derived.Test.YtkafibaoikmccabWSeen
import Derived.Test.YtkafibaoikmccabWM
import Derived.Test.YtkafibaoikmccabVS
import Derived.Test.YtkafibaoikmccabWClSeen
namespace Go.Proofs.Ytkafibaoikmccab
open Go Go.Tr
set_option maxRecDepth 100000
set_option maxHeartbeats 1000000
set_option linter.unusedVariables false
set_option linter.unusedSimpArgs false
def ps (xs : List SeenT) (b : Int) (j : Nat) : Bool := decide ((xs.getD j zSeen).1 = b)
def spR (xs : List SeenT) (b v : Int) : Option Nat → List SeenT × Bool
  | some j => (xs, decide ((xs.getD j zSeen).2 = v))
  | none => (xs ++ [(b, v)], true)
/-- What is seen of a bucket is noted once. -/
def spt (xs : List SeenT) (b v : Int) : List SeenT × Bool := spR xs b v (firstP (ps xs b) 0 xs.length)
theorem seenFlat : ∀ (x : SeenT) (r : Nat), r < 2 → ∃ v, encSeen x r = .lit v ∧ encSeen x r = .lit v := fun x r _ => by cases r <;> exact ⟨_, rfl, rfl⟩
theorem SeenPutS_run (e : Nat) (xs : List SeenT) (b v : Int) (hn : xs.length ≤ 1048576) : RunT Try.prog 24 [.one (.c (tSeen e xs)), ti b, ti v] [] [.one (tSeen 73 (spt xs b v).1), ob (spt xs b v).2] [] := by
  refine RunT.of_vc gOk Try.func24 rfl rfl (Nat.le_of_ble_eq_true rfl) (by repeat' (first | exact trivial | exact ⟨_, rfl, Nat.le_refl _⟩ | exact Nat.le_of_ble_eq_true rfl | refine And.intro ?_ ?_)) (Nat.le_of_ble_eq_true rfl) rfl (fun F hE => ?_)
  repeat' (first | exact trivial | refine BS.d (fun h => ?_) (fun h => ?_) | refine BS.e (fun h => ?_) (fun h => ?_) | refine BS.ne (fun h => ?_) (fun h => ?_) | refine BS.n ?_ | refine BS.s (fun h => ?_) (fun h => ?_) | refine And.intro ?_ ?_ | (refine Need.mk ?_; first | with_reducible rfl | (show @Eq TC _ _; rfl) | omega | (simp only [adN_zero]; omega)) | exact OutS.whole rfl rfl)
  refine OpK.apps gOk (by rfl) (by rfl) (by rfl) (by rfl) (by rfl) (by rfl) (by rfl) (by rfl) (by rfl) (by rfl) (by first | rfl | simp) (by exact seenFlat) (by rfl) (by refine ⟨?_, ?_⟩ <;> (try unfold maxLen) <;> simp <;> omega) ?_
  repeat' (first | exact trivial | refine BS.d (fun h => ?_) (fun h => ?_) | refine BS.e (fun h => ?_) (fun h => ?_) | refine BS.ne (fun h => ?_) (fun h => ?_) | refine BS.n ?_ | refine BS.s (fun h => ?_) (fun h => ?_) | refine And.intro ?_ ?_ | (refine Need.mk ?_; first | with_reducible rfl | (show @Eq TC _ _; rfl) | omega | (simp only [adN_zero]; omega)) | exact OutS.whole rfl rfl)
  refine CodeK.loop gOk hE (fun i : Nat => ⟨[(0, vr 1000000 xs.length), (1, vi b), (2, vi v), (8, vr 10 xs.length), (9, vi i)], [(10, rSeen .own true 73 xs), (1000000, rSeen .fro false e xs)]⟩) (fun i => i ≤ xs.length ∧ spt xs b v = spR xs b v (firstP (ps xs b) i (xs.length - i))) (fun i => xs.length - i) 0 (by refine leT.of ?_ ?_ rfl <;> repeat' (first | exact trivial | refine And.intro rfl ?_ | refine And.intro (by simp) ?_)) ⟨Nat.zero_le _, rfl⟩ ?_
  rintro i ⟨hi, hs⟩
  repeat' (first | exact trivial | refine BS.d (fun h => ?_) (fun h => ?_) | refine BS.e (fun h => ?_) (fun h => ?_) | refine BS.ne (fun h => ?_) (fun h => ?_) | refine BS.n ?_ | refine BS.s (fun h => ?_) (fun h => ?_) | refine And.intro ?_ ?_ | (refine Need.mk ?_; first | with_reducible rfl | (show @Eq TC _ _; rfl) | omega | (simp only [adN_zero]; omega)) | exact OutS.whole rfl rfl | (refine CodeK.draw gOk hE rfl (fun _ _ h => h) (.take 0 (.take 1 (.take 2 (.take 3 (.take 4 (.take 6 (.take 8 (.alt 5 (.take 7 (.take 9 .done)) .stop)))))))) ?_ ?_; focus (decide +kernel)))
  (
      all_goals (try simp only [adN_zero] at *)
      all_goals (first
        | (refine Need.mk ?_; rw [hs, firstP_yes (by omega) (by exact decide_eq_true (by assumption))]; rfl)
        | (refine Need.mk ?_; rw [hs, show xs.length - i = 0 by omega]; rfl)
        | (refine Need.mk ?_; unfold maxLen; omega)
        | (refine Need.mk ?_; simp; done)
        | (refine OutS.whole ?_ ?_; (first | rfl | (simp; done)); rw [hs, firstP_yes (by omega) (by exact decide_eq_true (by assumption))]; rfl)
        | (refine OutS.whole ?_ ?_; (first | rfl | (simp; done)); rw [hs, show xs.length - i = 0 by omega]; rfl)
        | (refine ⟨i + 1, (by refine leT.of ?_ ?_ rfl <;> repeat' (first | exact trivial | refine And.intro rfl ?_ | refine And.intro (by simp) ?_)), ⟨by omega, by rw [hs, firstP_no (by omega) (by exact decide_eq_false (by assumption)), show xs.length - i - 1 = xs.length - (i + 1) by omega]⟩, by first | omega | (dsimp only; omega)⟩)))
theorem SeenPutI_run (e : Nat) (xs : List SeenT) (b v : Int) (hn : xs.length ≤ 1048576) : RunT Try.prog 26 [.one (.c (tSeen e xs)), ti b, ti v] [] [.one (tSeen 73 (spt xs b v).1), ob (spt xs b v).2] [] := by
  have c1 := CloneSeen_run e xs hn
  refine RunT.of_vc gOk Try.func26 rfl rfl (Nat.le_of_ble_eq_true rfl) (by repeat' (first | exact trivial | exact ⟨_, rfl, Nat.le_refl _⟩ | exact Nat.le_of_ble_eq_true rfl | refine And.intro ?_ ?_)) (Nat.le_of_ble_eq_true rfl) rfl (fun F hE => ?_)
  repeat' (first | exact trivial | refine BS.d (fun h => ?_) (fun h => ?_) | refine BS.e (fun h => ?_) (fun h => ?_) | refine BS.ne (fun h => ?_) (fun h => ?_) | refine BS.n ?_ | refine BS.s (fun h => ?_) (fun h => ?_) | refine And.intro ?_ ?_ | (refine Need.mk ?_; first | with_reducible rfl | (show @Eq TC _ _; rfl) | omega | (simp only [adN_zero]; omega)) | exact OutS.whole rfl rfl | (refine OpK.call c1 rfl rfl rfl rfl hE ?_ rfl rfl ?_; focus ((repeat' (first | exact PsA.lit _ | exact PsA.ref rfl rfl | constructor)); all_goals (fail "ps"))))
  refine CodeK.loop gOk hE (fun i : Nat => ⟨[(1, vi b), (2, vi v), (8, vr 2001536 xs.length), (13, vr 1000000 xs.length), (14, vi xs.length), (15, vi i)], [(2001536, rSeen .own true 73 xs), (1000000, rSeen .fro false e xs)]⟩) (fun i => i ≤ xs.length ∧ spt xs b v = spR xs b v (firstP (ps xs b) i (xs.length - i))) (fun i => xs.length - i) 0 (by refine leT.of ?_ ?_ rfl <;> repeat' (first | exact trivial | refine And.intro rfl ?_ | refine And.intro (by simp) ?_)) ⟨Nat.zero_le _, rfl⟩ ?_
  rintro i ⟨hi, hs⟩
  repeat' (first | exact trivial | refine BS.d (fun h => ?_) (fun h => ?_) | refine BS.e (fun h => ?_) (fun h => ?_) | refine BS.ne (fun h => ?_) (fun h => ?_) | refine BS.n ?_ | refine BS.s (fun h => ?_) (fun h => ?_) | refine And.intro ?_ ?_ | (refine Need.mk ?_; first | with_reducible rfl | (show @Eq TC _ _; rfl) | omega | (simp only [adN_zero]; omega)) | exact OutS.whole rfl rfl | (refine CodeK.draw gOk hE rfl (fun _ _ h => h) (.take 0 (.take 1 (.take 3 (.take 5 (.alt 2 (.take 4 (.take 6 .done)) .stop))))) ?_ ?_; focus (decide +kernel)))
  (
      all_goals (try simp only [adN_zero] at *)
      all_goals (first
        | (refine Need.mk ?_; rw [hs, firstP_yes (by omega) (by exact decide_eq_true (by assumption))]; rfl)
        | (refine Need.mk ?_; rw [hs, show xs.length - i = 0 by omega]; rfl)
        | (refine Need.mk ?_; unfold maxLen; omega)
        | (refine Need.mk ?_; simp; done)
        | (refine OutS.whole ?_ ?_; (first | rfl | (simp; done)); rw [hs, firstP_yes (by omega) (by exact decide_eq_true (by assumption))]; rfl)
        | (refine OutS.whole ?_ ?_; (first | rfl | (simp; done)); rw [hs, show xs.length - i = 0 by omega]; rfl)
        | (refine ⟨i + 1, (by refine leT.of ?_ ?_ rfl <;> repeat' (first | exact trivial | refine And.intro rfl ?_ | refine And.intro (by simp) ?_)), ⟨by omega, by rw [hs, firstP_no (by omega) (by exact decide_eq_false (by assumption)), show xs.length - i - 1 = xs.length - (i + 1) by omega]⟩, by first | omega | (dsimp only; omega)⟩)))
end Go.Proofs.Ytkafibaoikmccab
