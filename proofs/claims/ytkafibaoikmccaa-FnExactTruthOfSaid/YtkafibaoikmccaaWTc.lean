import Derived.Test.YtkafibaoikmccaaWTb
namespace Go.Proofs.Ytkafibaoikmccaa
open Go Go.Tr
set_option maxRecDepth 100000
set_option maxHeartbeats 4000000
set_option linter.unusedVariables false
set_option linter.unusedSimpArgs false
theorem TruthOfS_run (e : Nat) (xs : List EvT) (hn : xs.length ≤ 1048576) : RunT Try.prog 40 [.one (.c (tEv e xs))] [] [ob (allP xs.length (pt xs))] [] := by
  refine RunT.of_vc gOk Try.func40 rfl rfl (Nat.le_of_ble_eq_true rfl) (by repeat' (first | exact trivial | exact ⟨_, rfl, Nat.le_refl _⟩ | exact Nat.le_of_ble_eq_true rfl | refine And.intro ?_ ?_)) (Nat.le_of_ble_eq_true rfl) rfl (fun F hE => ?_)
  repeat' (first | exact trivial | refine BS.d (fun h => ?_) (fun h => ?_) | refine BS.e (fun h => ?_) (fun h => ?_) | refine BS.ne (fun h => ?_) (fun h => ?_) | refine BS.n ?_ | refine BS.s (fun h => ?_) (fun h => ?_) | refine And.intro ?_ ?_ | (refine Need.mk ?_; first | with_reducible rfl | (show @Eq TC _ _; rfl) | omega | (simp only [adN_zero]; omega)) | exact OutS.whole rfl rfl)
  refine CodeK.loop gOk hE (fun i : Nat => ⟨[(0, vr 1000000 xs.length), (3, vi i)], [(1000000, rEv .fro false e xs)]⟩) (fun i => i ≤ xs.length ∧ ∀ j, j < i → pt xs j) (fun i => xs.length - i) 0 (by refine leT.of ?_ ?_ rfl <;> repeat' (first | exact trivial | refine And.intro rfl ?_ | refine And.intro (by simp) ?_)) ⟨Nat.zero_le _, fun j hj => absurd hj (Nat.not_lt_zero _)⟩ ?_
  rintro i ⟨hi, hs⟩
  have c1 := l17Read_run e xs i (xs.getD i zEv).2.2.1 hi hn
  rcases hL : lastP (pr xs (xs.getD i zEv).2.2.1) i with _ | k
  all_goals rw [hL] at c1
  all_goals simp only [rdI'] at c1
  · repeat' (first | exact trivial | refine BS.d (fun h => ?_) (fun h => ?_) | refine BS.e (fun h => ?_) (fun h => ?_) | refine BS.ne (fun h => ?_) (fun h => ?_) | refine BS.n ?_ | refine BS.s (fun h => ?_) (fun h => ?_) | refine And.intro ?_ ?_ | (refine Need.mk ?_; first | with_reducible rfl | (show @Eq TC _ _; rfl) | omega | (simp only [adN_zero]; omega)) | exact OutS.whole rfl rfl | (refine OpK.call c1 rfl rfl rfl rfl hE ?_ rfl rfl ?_; focus ((repeat' (first | exact PsA.lit _ | exact PsA.ref rfl rfl | constructor)); all_goals (fail "ps"))))
    all_goals (try simp only [adN_zero] at *)
    all_goals first
      | (exfalso; first | omega | (simp_all; done))
      | (refine Need.mk ?_; omega)
      | (refine Need.mk ?_; exact (allP_true fun j hj => hs j (by omega)).symm)
      | (have hpm : pt xs i := ?_; rotate_left; (intro hk k' hk'; rw [hL] at hk'; simp at hk' <;> (subst hk'; unfold trueT at *; omega)); refine ⟨i + 1, (by refine leT.of ?_ ?_ rfl <;> repeat' (first | exact trivial | refine And.intro rfl ?_ | refine And.intro (by simp) ?_)), ⟨by omega, fun j hj => (Nat.lt_or_ge j i).elim (hs j) (fun h9 => (show j = i by omega) ▸ hpm)⟩, by first | omega | (dsimp only; omega)⟩)
  · have hk := (lastP_lt hL).1
    have c2 := CellAtS_run' e xs k (xs.getD k zEv).2.2.2.1 hn
    repeat' (first | exact trivial | refine BS.d (fun h => ?_) (fun h => ?_) | refine BS.e (fun h => ?_) (fun h => ?_) | refine BS.ne (fun h => ?_) (fun h => ?_) | refine BS.n ?_ | refine BS.s (fun h => ?_) (fun h => ?_) | refine And.intro ?_ ?_ | (refine Need.mk ?_; first | with_reducible rfl | (show @Eq TC _ _; rfl) | omega | (simp only [adN_zero]; omega)) | exact OutS.whole rfl rfl | (refine OpK.call c1 rfl rfl rfl rfl hE ?_ rfl rfl ?_; focus ((repeat' (first | exact PsA.lit _ | exact PsA.ref rfl rfl | constructor)); all_goals (fail "ps"))) | (refine OpK.call c2 rfl rfl rfl rfl hE ?_ rfl rfl ?_; focus ((repeat' (first | exact PsA.lit _ | exact PsA.ref rfl rfl | constructor)); all_goals (fail "ps"))) | (refine CodeK.draw gOk hE rfl (fun _ _ h => h) (.take 0 (.alt 1 (.take 2 (.take 3 (.take 4 (.take 6 (.take 7 (.take 8 (.take 9 (.alt 5 (.alt 10 (.take 11 (.take 12 (.take 13 (.take 14 (.take 16 (.take 17 (.take 18 (.take 19 (.alt 15 (.alt 20 (.take 21 (.take 22 .done)) .stop) (.alt 20 (.alt 15 (.take 21 (.take 22 .done)) .stop) .stop)))))))))) .stop) (.alt 10 (.alt 5 (.take 11 (.take 12 (.take 13 (.take 14 (.take 16 (.take 17 (.take 18 (.take 19 (.alt 15 (.alt 20 (.take 21 (.take 22 .done)) .stop) (.alt 20 (.alt 15 (.take 21 (.take 22 .done)) .stop) .stop)))))))))) .stop) .stop))))))))) .stop)) ?_ ?_; focus (decide +kernel)))
    all_goals (try simp only [adN_zero] at *)
    all_goals first
      | (exfalso; first | omega | (simp_all; done))
      | (refine Need.mk ?_; omega)
      | (refine Need.mk ?_; exact (allP_true fun j hj => hs j (by omega)).symm)
      | (refine Need.mk ?_; refine (allP_false (i := i) (by omega) (fun hp => ?_)).symm; have h9 := hp (by omega) k hL; unfold trueT at h9; omega)
      | (have hpm : pt xs i := ?_; rotate_left; (intro hk k' hk'; rw [hL] at hk'; simp at hk' <;> (subst hk'; unfold trueT at *; omega)); refine ⟨i + 1, (by refine leT.of ?_ ?_ rfl <;> repeat' (first | exact trivial | refine And.intro rfl ?_ | refine And.intro (by simp) ?_)), ⟨by omega, fun j hj => (Nat.lt_or_ge j i).elim (hs j) (fun h9 => (show j = i by omega) ▸ hpm)⟩, by first | omega | (dsimp only; omega)⟩)
end Go.Proofs.Ytkafibaoikmccaa
