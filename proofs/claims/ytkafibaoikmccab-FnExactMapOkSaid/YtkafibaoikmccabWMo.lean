import Derived.Test.YtkafibaoikmccabWKo
import Derived.Test.YtkafibaoikmccabWIa
import Derived.Test.YtkafibaoikmccabWKV
import Derived.Test.YtkafibaoikmccabWM
namespace Go.Proofs.Ytkafibaoikmccab
open Go Go.Tr
set_option maxRecDepth 100000
set_option maxHeartbeats 1000000
set_option linter.unusedVariables false
set_option linter.unusedSimpArgs false
/-- Pair j is well formed and its key is greater than the one before. -/
def pmo (xs : List KVT) (j : Nat) : Prop := (0 ≤ (xs.getD j zKV).1 ∧ (xs.getD j zKV).1 ≤ 99) ∧ (0 ≤ (xs.getD j zKV).2 ∧ (xs.getD j zKV).2 ≤ 65535) ∧ (j = 0 ∨ (xs.getD (j - 1) zKV).1 < (xs.getD j zKV).1)
theorem MapOkS_run (e : Nat) (xs : List KVT) (hn : xs.length ≤ 1048576) : RunT Try.prog 15 [.one (.c (tKV e xs))] [] [ob (allP xs.length (pmo xs))] [] := by
  refine RunT.of_vc gOk Try.func15 rfl rfl (Nat.le_of_ble_eq_true rfl) (by repeat' (first | exact trivial | exact ⟨_, rfl, Nat.le_refl _⟩ | exact Nat.le_of_ble_eq_true rfl | refine And.intro ?_ ?_)) (Nat.le_of_ble_eq_true rfl) rfl (fun F hE => ?_)
  repeat' (first | exact trivial | refine BS.d (fun h => ?_) (fun h => ?_) | refine BS.e (fun h => ?_) (fun h => ?_) | refine BS.ne (fun h => ?_) (fun h => ?_) | refine BS.n ?_ | refine BS.s (fun h => ?_) (fun h => ?_) | refine And.intro ?_ ?_ | (refine Need.mk ?_; first | with_reducible rfl | (show @Eq TC _ _; rfl) | omega | (simp only [adN_zero]; omega)) | exact OutS.whole rfl rfl)
  refine CodeK.loop gOk hE (fun i : Nat => ⟨[(0, vr 1000000 xs.length), (3, vi i)], [(1000000, rKV .fro false e xs)]⟩) (fun i => i ≤ xs.length ∧ ∀ j, j < i → pmo xs j) (fun i => xs.length - i) 0 (by refine leT.of ?_ ?_ rfl <;> repeat' (first | exact trivial | refine And.intro rfl ?_ | refine And.intro (by simp) ?_)) ⟨Nat.zero_le _, fun j hj => absurd hj (Nat.not_lt_zero _)⟩ ?_
  rintro i ⟨hi, hs⟩
  have c1 := l1In_run (xs.getD i zKV).1 0 99
  have c2 := l1In_run (xs.getD i zKV).2 0 65535
  rcases i with _ | i
  · repeat' (first | exact trivial | refine BS.d (fun h => ?_) (fun h => ?_) | refine BS.e (fun h => ?_) (fun h => ?_) | refine BS.ne (fun h => ?_) (fun h => ?_) | refine BS.n ?_ | refine BS.s (fun h => ?_) (fun h => ?_) | refine And.intro ?_ ?_ | (refine Need.mk ?_; first | with_reducible rfl | (show @Eq TC _ _; rfl) | omega | (simp only [adN_zero]; omega)) | exact OutS.whole rfl rfl | (refine CodeK.draw gOk hE rfl (fun _ _ h => h) (.take 0 (.take 1 (.take 2 (.take 3 (.alt 4 (.alt 5 (.take 6 (.take 7 (.take 8 (.take 9 (.take 10 (.take 11 (.alt 12 (.alt 13 (.take 14 (.take 15 (.take 16 (.take 17 (.take 18 (.take 19 (.take 20 (.take 21 (.take 22 (.take 23 (.take 25 (.take 26 (.take 27 (.take 28 (.take 29 (.alt 24 (.alt 30 (.take 31 (.take 32 (.take 33 .done))) .stop) (.alt 30 (.alt 24 (.take 31 (.take 32 (.take 33 .done))) .stop) .stop))))))))))))))))) .stop) .stop))))))) .stop) .stop))))) ?_ ?_; focus (decide +kernel)) | (refine OpK.call c1 rfl rfl rfl rfl hE ?_ rfl rfl ?_; focus ((repeat' (first | exact PsA.lit _ | exact PsA.ref rfl rfl | constructor)); all_goals (fail "ps"))) | (refine OpK.call c2 rfl rfl rfl rfl hE ?_ rfl rfl ?_; focus ((repeat' (first | exact PsA.lit _ | exact PsA.ref rfl rfl | constructor)); all_goals (fail "ps"))))
    all_goals (try simp only [Int.natCast_zero, adN_zero] at *)
    (all_goals first
          | (exfalso; omega)
          | (refine Need.mk ?_; omega)
          | (refine Need.mk ?_; refine (allP_false (i := 0) (by omega) (fun hp => ?_)).symm; obtain ⟨p1, p2, p3⟩ := hp; (try simp only [Nat.add_sub_cancel, Nat.zero_sub] at p3); omega)
          | (refine Need.mk ?_; exact (allP_true fun j hj => hs j (by omega)).symm)
          | (have hpm : pmo xs 0 := ?_; rotate_left; (refine ⟨⟨?_, ?_⟩, ⟨?_, ?_⟩, ?_⟩ <;> first | exact Or.inl rfl | ((try simp only [Nat.add_sub_cancel]); omega)); refine ⟨0 + 1, (by refine leT.of ?_ ?_ rfl <;> repeat' (first | exact trivial | refine And.intro rfl ?_ | refine And.intro (by simp) ?_)), ⟨by omega, fun j hj => (Nat.lt_or_ge j 0).elim (hs j) (fun h9 => (show j = 0 by omega) ▸ hpm)⟩, by first | omega | (dsimp only; omega)⟩))
  · repeat' (first | exact trivial | refine BS.d (fun h => ?_) (fun h => ?_) | refine BS.e (fun h => ?_) (fun h => ?_) | refine BS.ne (fun h => ?_) (fun h => ?_) | refine BS.n ?_ | refine BS.s (fun h => ?_) (fun h => ?_) | refine And.intro ?_ ?_ | (refine Need.mk ?_; first | with_reducible rfl | (show @Eq TC _ _; rfl) | omega | (simp only [adN_zero]; omega)) | exact OutS.whole rfl rfl | (refine CodeK.draw gOk hE rfl (fun _ _ h => h) (.take 0 (.take 1 (.take 2 (.take 3 (.alt 4 (.alt 5 (.take 6 (.take 7 (.take 8 (.take 9 (.take 10 (.take 11 (.alt 12 (.alt 13 (.take 14 (.take 15 (.take 16 (.take 17 (.take 18 (.take 19 (.take 20 (.take 21 (.take 22 (.take 23 (.take 25 (.take 26 (.take 27 (.take 28 (.take 29 (.alt 24 (.alt 30 (.take 31 (.take 32 (.take 33 .done))) .stop) (.alt 30 (.alt 24 (.take 31 (.take 32 (.take 33 .done))) .stop) .stop))))))))))))))))) .stop) .stop))))))) .stop) .stop))))) ?_ ?_; focus (decide +kernel)) | (refine OpK.call c1 rfl rfl rfl rfl hE ?_ rfl rfl ?_; focus ((repeat' (first | exact PsA.lit _ | exact PsA.ref rfl rfl | constructor)); all_goals (fail "ps"))) | (refine OpK.call c2 rfl rfl rfl rfl hE ?_ rfl rfl ?_; focus ((repeat' (first | exact PsA.lit _ | exact PsA.ref rfl rfl | constructor)); all_goals (fail "ps"))))
    all_goals (try simp only [adN_zero] at *)
    all_goals (try simp only [Int.natCast_add, Int.natCast_one, Int.add_sub_cancel, adN_zero] at *)
    (all_goals first
          | (exfalso; omega)
          | (refine Need.mk ?_; omega)
          | (refine Need.mk ?_; refine (allP_false (i := (i + 1)) (by omega) (fun hp => ?_)).symm; obtain ⟨p1, p2, p3⟩ := hp; (try simp only [Nat.add_sub_cancel, Nat.zero_sub] at p3); omega)
          | (refine Need.mk ?_; exact (allP_true fun j hj => hs j (by omega)).symm)
          | (have hpm : pmo xs (i + 1) := ?_; rotate_left; (refine ⟨⟨?_, ?_⟩, ⟨?_, ?_⟩, ?_⟩ <;> first | exact Or.inl rfl | ((try simp only [Nat.add_sub_cancel]); omega)); refine ⟨(i + 1) + 1, (by refine leT.of ?_ ?_ rfl <;> repeat' (first | exact trivial | refine And.intro rfl ?_ | refine And.intro (by simp) ?_)), ⟨by omega, fun j hj => (Nat.lt_or_ge j (i + 1)).elim (hs j) (fun h9 => (show j = (i + 1) by omega) ▸ hpm)⟩, by first | omega | (dsimp only; omega)⟩))
theorem MapOkI_run (e : Nat) (xs : List KVT) (hn : xs.length ≤ 1048576) : RunT Try.prog 17 [.one (.c (tKV e xs))] [] [ob (allP xs.length (pmo xs))] [] := by
  refine RunT.of_vc gOk Try.func17 rfl rfl (Nat.le_of_ble_eq_true rfl) (by repeat' (first | exact trivial | exact ⟨_, rfl, Nat.le_refl _⟩ | exact Nat.le_of_ble_eq_true rfl | refine And.intro ?_ ?_)) (Nat.le_of_ble_eq_true rfl) rfl (fun F hE => ?_)
  repeat' (first | exact trivial | refine BS.d (fun h => ?_) (fun h => ?_) | refine BS.e (fun h => ?_) (fun h => ?_) | refine BS.ne (fun h => ?_) (fun h => ?_) | refine BS.n ?_ | refine BS.s (fun h => ?_) (fun h => ?_) | refine And.intro ?_ ?_ | (refine Need.mk ?_; first | with_reducible rfl | (show @Eq TC _ _; rfl) | omega | (simp only [adN_zero]; omega)) | exact OutS.whole rfl rfl)
  refine CodeK.loop gOk hE (fun i : Nat => ⟨[(0, vr 1000000 xs.length), (5, vr 1000000 xs.length), (6, vi xs.length), (7, vi i)], [(1000000, rKV .fro false e xs)]⟩) (fun i => i ≤ xs.length ∧ ∀ j, j < i → pmo xs j) (fun i => xs.length - i) 0 (by refine leT.of ?_ ?_ rfl <;> repeat' (first | exact trivial | refine And.intro rfl ?_ | refine And.intro (by simp) ?_)) ⟨Nat.zero_le _, fun j hj => absurd hj (Nat.not_lt_zero _)⟩ ?_
  rintro i ⟨hi, hs⟩
  have c1 := keyOk_run (xs.getD i zKV).1
  have c2 := valOk_run (xs.getD i zKV).2
  rcases i with _ | i
  · repeat' (first | exact trivial | refine BS.d (fun h => ?_) (fun h => ?_) | refine BS.e (fun h => ?_) (fun h => ?_) | refine BS.ne (fun h => ?_) (fun h => ?_) | refine BS.n ?_ | refine BS.s (fun h => ?_) (fun h => ?_) | refine And.intro ?_ ?_ | (refine Need.mk ?_; first | with_reducible rfl | (show @Eq TC _ _; rfl) | omega | (simp only [adN_zero]; omega)) | exact OutS.whole rfl rfl | (refine CodeK.draw gOk hE rfl (fun _ _ h => h) (.take 0 (.alt 1 (.alt 2 (.take 3 (.take 4 (.take 5 (.alt 6 (.alt 7 (.take 8 (.take 9 (.take 10 (.take 11 (.take 12 (.take 13 (.take 14 (.take 15 (.take 16 (.take 17 (.take 18 (.take 20 (.alt 19 (.alt 21 (.take 22 (.take 23 (.take 24 .done))) .stop) (.alt 21 (.alt 19 (.take 22 (.take 23 (.take 24 .done))) .stop) .stop)))))))))))))) .stop) .stop)))) .stop) .stop)) ?_ ?_; focus (decide +kernel)) | (refine OpK.call c1 rfl rfl rfl rfl hE ?_ rfl rfl ?_; focus ((repeat' (first | exact PsA.lit _ | exact PsA.ref rfl rfl | constructor)); all_goals (fail "ps"))) | (refine OpK.call c2 rfl rfl rfl rfl hE ?_ rfl rfl ?_; focus ((repeat' (first | exact PsA.lit _ | exact PsA.ref rfl rfl | constructor)); all_goals (fail "ps"))))
    all_goals (try simp only [Int.natCast_zero, adN_zero] at *)
    (all_goals first
          | (exfalso; omega)
          | (refine Need.mk ?_; omega)
          | (refine Need.mk ?_; refine (allP_false (i := 0) (by omega) (fun hp => ?_)).symm; obtain ⟨p1, p2, p3⟩ := hp; (try simp only [Nat.add_sub_cancel, Nat.zero_sub] at p3); omega)
          | (refine Need.mk ?_; exact (allP_true fun j hj => hs j (by omega)).symm)
          | (have hpm : pmo xs 0 := ?_; rotate_left; (refine ⟨⟨?_, ?_⟩, ⟨?_, ?_⟩, ?_⟩ <;> first | exact Or.inl rfl | ((try simp only [Nat.add_sub_cancel]); omega)); refine ⟨0 + 1, (by refine leT.of ?_ ?_ rfl <;> repeat' (first | exact trivial | refine And.intro rfl ?_ | refine And.intro (by simp) ?_)), ⟨by omega, fun j hj => (Nat.lt_or_ge j 0).elim (hs j) (fun h9 => (show j = 0 by omega) ▸ hpm)⟩, by first | omega | (dsimp only; omega)⟩))
  · repeat' (first | exact trivial | refine BS.d (fun h => ?_) (fun h => ?_) | refine BS.e (fun h => ?_) (fun h => ?_) | refine BS.ne (fun h => ?_) (fun h => ?_) | refine BS.n ?_ | refine BS.s (fun h => ?_) (fun h => ?_) | refine And.intro ?_ ?_ | (refine Need.mk ?_; first | with_reducible rfl | (show @Eq TC _ _; rfl) | omega | (simp only [adN_zero]; omega)) | exact OutS.whole rfl rfl | (refine CodeK.draw gOk hE rfl (fun _ _ h => h) (.take 0 (.alt 1 (.alt 2 (.take 3 (.take 4 (.take 5 (.alt 6 (.alt 7 (.take 8 (.take 9 (.take 10 (.take 11 (.take 12 (.take 13 (.take 14 (.take 15 (.take 16 (.take 17 (.take 18 (.take 20 (.alt 19 (.alt 21 (.take 22 (.take 23 (.take 24 .done))) .stop) (.alt 21 (.alt 19 (.take 22 (.take 23 (.take 24 .done))) .stop) .stop)))))))))))))) .stop) .stop)))) .stop) .stop)) ?_ ?_; focus (decide +kernel)) | (refine OpK.call c1 rfl rfl rfl rfl hE ?_ rfl rfl ?_; focus ((repeat' (first | exact PsA.lit _ | exact PsA.ref rfl rfl | constructor)); all_goals (fail "ps"))) | (refine OpK.call c2 rfl rfl rfl rfl hE ?_ rfl rfl ?_; focus ((repeat' (first | exact PsA.lit _ | exact PsA.ref rfl rfl | constructor)); all_goals (fail "ps"))))
    all_goals (try simp only [adN_zero] at *)
    all_goals (try simp only [Int.natCast_add, Int.natCast_one, Int.add_sub_cancel, adN_zero] at *)
    (all_goals first
          | (exfalso; omega)
          | (refine Need.mk ?_; omega)
          | (refine Need.mk ?_; refine (allP_false (i := (i + 1)) (by omega) (fun hp => ?_)).symm; obtain ⟨p1, p2, p3⟩ := hp; (try simp only [Nat.add_sub_cancel, Nat.zero_sub] at p3); omega)
          | (refine Need.mk ?_; exact (allP_true fun j hj => hs j (by omega)).symm)
          | (have hpm : pmo xs (i + 1) := ?_; rotate_left; (refine ⟨⟨?_, ?_⟩, ⟨?_, ?_⟩, ?_⟩ <;> first | exact Or.inl rfl | ((try simp only [Nat.add_sub_cancel]); omega)); refine ⟨(i + 1) + 1, (by refine leT.of ?_ ?_ rfl <;> repeat' (first | exact trivial | refine And.intro rfl ?_ | refine And.intro (by simp) ?_)), ⟨by omega, fun j hj => (Nat.lt_or_ge j (i + 1)).elim (hs j) (fun h9 => (show j = (i + 1) by omega) ▸ hpm)⟩, by first | omega | (dsimp only; omega)⟩))
end Go.Proofs.Ytkafibaoikmccab
