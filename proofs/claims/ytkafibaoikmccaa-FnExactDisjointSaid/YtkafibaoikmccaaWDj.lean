import Derived.Test.YtkafibaoikmccaaWSpan
import Derived.Test.YtkafibaoikmccaaWM
namespace Go.Proofs.Ytkafibaoikmccaa
open Go Go.Tr
set_option maxRecDepth 100000
set_option linter.unusedVariables false
set_option linter.unusedSimpArgs false
def apt (a b : SpanT) : Bool := decide (a.2 ≤ a.1 ∨ b.2 ≤ b.1 ∨ a.2 ≤ b.1 ∨ b.2 ≤ a.1)
theorem ApartS_run (a b : SpanT) : RunT Try.prog 50 [aSpan a, aSpan b] [] [ob (apt a b)] [] := by
  unfold apt
  refine RunT.of_vc gOk Try.func50 rfl rfl (Nat.le_of_ble_eq_true rfl) (by repeat' (first | exact trivial | exact ⟨_, rfl, Nat.le_refl _⟩ | exact Nat.le_of_ble_eq_true rfl | refine And.intro ?_ ?_)) (Nat.le_of_ble_eq_true rfl) rfl (fun F hE => ?_)
  repeat' (first | exact trivial | refine BS.d (fun h => ?_) (fun h => ?_) | refine BS.e (fun h => ?_) (fun h => ?_) | refine BS.ne (fun h => ?_) (fun h => ?_) | refine BS.n ?_ | refine BS.s (fun h => ?_) (fun h => ?_) | refine And.intro ?_ ?_ | (refine Need.mk ?_; first | with_reducible rfl | (show @Eq TC _ _; rfl) | omega | (simp only [adN_zero]; omega)) | exact OutS.whole rfl rfl)
  all_goals (refine Need.mk ?_; first | rfl | (symm; apply decide_eq_true; omega) | (symm; apply decide_eq_false; omega) | (apply decide_eq_decide.2; omega) | (simp only [beq_iff_eq, Bool.beq_eq_decide_eq] at *; apply decide_eq_decide.2; omega) | (simp; omega))
theorem empty_run (a : SpanT) : RunT Try.prog 65 [aSpan a] [] [ob (decide (a.2 ≤ a.1))] [] := by
  refine RunT.of_vc gOk Try.func65 rfl rfl (Nat.le_of_ble_eq_true rfl) (by repeat' (first | exact trivial | exact ⟨_, rfl, Nat.le_refl _⟩ | exact Nat.le_of_ble_eq_true rfl | refine And.intro ?_ ?_)) (Nat.le_of_ble_eq_true rfl) rfl (fun F hE => ?_)
  repeat' (first | exact trivial | refine BS.d (fun h => ?_) (fun h => ?_) | refine BS.e (fun h => ?_) (fun h => ?_) | refine BS.ne (fun h => ?_) (fun h => ?_) | refine BS.n ?_ | refine BS.s (fun h => ?_) (fun h => ?_) | refine And.intro ?_ ?_ | (refine Need.mk ?_; first | with_reducible rfl | (show @Eq TC _ _; rfl) | omega | (simp only [adN_zero]; omega)) | exact OutS.whole rfl rfl)
theorem ApartI_run (a b : SpanT) : RunT Try.prog 52 [aSpan a, aSpan b] [] [ob (apt a b)] [] := by
  unfold apt
  refine RunT.of_vc gOk Try.func52 rfl rfl (Nat.le_of_ble_eq_true rfl) (by repeat' (first | exact trivial | exact ⟨_, rfl, Nat.le_refl _⟩ | exact Nat.le_of_ble_eq_true rfl | refine And.intro ?_ ?_)) (Nat.le_of_ble_eq_true rfl) rfl (fun F hE => ?_)
  have c1 := empty_run a
  have c2 := empty_run b
  repeat' (first | exact trivial | refine BS.d (fun h => ?_) (fun h => ?_) | refine BS.e (fun h => ?_) (fun h => ?_) | refine BS.ne (fun h => ?_) (fun h => ?_) | refine BS.n ?_ | refine BS.s (fun h => ?_) (fun h => ?_) | refine And.intro ?_ ?_ | (refine Need.mk ?_; first | with_reducible rfl | (show @Eq TC _ _; rfl) | omega | (simp only [adN_zero]; omega)) | exact OutS.whole rfl rfl | (refine OpK.call c1 rfl rfl rfl rfl hE ?_ rfl rfl ?_; focus ((repeat' (first | exact PsA.lit _ | exact PsA.ref rfl rfl | constructor)); all_goals (fail "ps"))) | (refine OpK.call c2 rfl rfl rfl rfl hE ?_ rfl rfl ?_; focus ((repeat' (first | exact PsA.lit _ | exact PsA.ref rfl rfl | constructor)); all_goals (fail "ps"))))
  all_goals (refine Need.mk ?_; first | rfl | (symm; apply decide_eq_true; omega) | (symm; apply decide_eq_false; omega) | (apply decide_eq_decide.2; omega) | (simp only [beq_iff_eq, Bool.beq_eq_decide_eq] at *; apply decide_eq_decide.2; omega) | (simp; omega))
/-- Element j lies in the arena and apart from those before. -/
def pdj (xs : List SpanT) (j : Nat) : Prop := (0 ≤ (xs.getD j zSpan).1 ∧ (xs.getD j zSpan).2 ≤ 384) ∧ ∀ k, k < j → apt (xs.getD j zSpan) (xs.getD k zSpan) = true
theorem DisjointS_run (e : Nat) (xs : List SpanT) (hn : xs.length ≤ 1048576) : RunT Try.prog 16 [.one (.c (tSpan e xs))] [] [ob (allP xs.length (pdj xs))] [] := by
  refine RunT.of_vc gOk Try.func16 rfl rfl (Nat.le_of_ble_eq_true rfl) (by repeat' (first | exact trivial | exact ⟨_, rfl, Nat.le_refl _⟩ | exact Nat.le_of_ble_eq_true rfl | refine And.intro ?_ ?_)) (Nat.le_of_ble_eq_true rfl) rfl (fun F hE => ?_)
  repeat' (first | exact trivial | refine BS.d (fun h => ?_) (fun h => ?_) | refine BS.e (fun h => ?_) (fun h => ?_) | refine BS.ne (fun h => ?_) (fun h => ?_) | refine BS.n ?_ | refine BS.s (fun h => ?_) (fun h => ?_) | refine And.intro ?_ ?_ | (refine Need.mk ?_; first | with_reducible rfl | (show @Eq TC _ _; rfl) | omega | (simp only [adN_zero]; omega)) | exact OutS.whole rfl rfl)
  refine CodeK.loop gOk hE (fun i : Nat => ⟨[(0, vr 1000000 xs.length), (3, vi i)], [(1000000, rSpan .fro false e xs)]⟩) (fun i => i ≤ xs.length ∧ ∀ j, j < i → pdj xs j) (fun i => xs.length - i) 0 (by refine leT.of ?_ ?_ rfl <;> repeat' (first | exact trivial | refine And.intro rfl ?_ | refine And.intro (by simp) ?_)) ⟨Nat.zero_le _, fun j hj => absurd hj (Nat.not_lt_zero _)⟩ ?_
  rintro i ⟨hi, hs⟩
  repeat' (first | exact trivial | refine BS.d (fun h => ?_) (fun h => ?_) | refine BS.e (fun h => ?_) (fun h => ?_) | refine BS.ne (fun h => ?_) (fun h => ?_) | refine BS.n ?_ | refine BS.s (fun h => ?_) (fun h => ?_) | refine And.intro ?_ ?_ | (refine Need.mk ?_; first | with_reducible rfl | (show @Eq TC _ _; rfl) | omega | (simp only [adN_zero]; omega)) | exact OutS.whole rfl rfl)
  all_goals (try simp only [adN_zero] at *)
  all_goals first
    | (refine Need.mk ?_; exact (allP_false (i := i) (by omega) (fun hp => by have := hp.1; omega)).symm)
    | (refine Need.mk ?_; exact (allP_true fun j hj => hs j (by omega)).symm)
    | skip
  all_goals refine CodeK.loop gOk hE (fun k : Nat => ⟨[(0, vr 1000000 xs.length), (3, vi i), (4, vi k)], [(1000000, rSpan .fro false e xs)]⟩) (fun k => k ≤ i ∧ ∀ m, m < k → apt (xs.getD i zSpan) (xs.getD m zSpan) = true) (fun k => i - k) 0 (by refine leT.of ?_ ?_ rfl <;> repeat' (first | exact trivial | refine And.intro rfl ?_ | refine And.intro (by simp) ?_)) ⟨Nat.zero_le _, fun j hj => absurd hj (Nat.not_lt_zero _)⟩ ?_
  all_goals rintro k ⟨hk, ht⟩
  all_goals have c1 := ApartS_run (xs.getD i zSpan) (xs.getD k zSpan)
  all_goals rcases Nat.lt_or_ge k i with hki | hki
  all_goals (repeat' (first | exact trivial | refine BS.d (fun h => ?_) (fun h => ?_) | refine BS.e (fun h => ?_) (fun h => ?_) | refine BS.ne (fun h => ?_) (fun h => ?_) | refine BS.n ?_ | refine BS.s (fun h => ?_) (fun h => ?_) | refine And.intro ?_ ?_ | (refine Need.mk ?_; first | with_reducible rfl | (show @Eq TC _ _; rfl) | omega | (simp only [adN_zero]; omega)) | exact OutS.whole rfl rfl | (refine CodeK.draw gOk hE rfl (fun _ _ h => h) (.take 0 (.take 1 (.take 2 (.take 4 (.take 5 (.take 6 (.alt 3 (.alt 7 (.alt 8 (.take 9 .done) .stop) .stop) (.alt 7 (.alt 3 (.alt 8 (.take 9 .done) .stop) .stop) .stop)))))))) ?_ ?_; focus (decide +kernel)) | (refine OpK.call c1 rfl rfl rfl rfl hE ?_ rfl rfl ?_; focus ((repeat' (first | exact PsA.lit _ | exact PsA.ref rfl rfl | constructor)); all_goals (fail "ps")))))
  (
      all_goals (try simp only [adN_zero] at *)
      all_goals first
        | (exfalso; omega)
        | (refine Need.mk ?_; omega)
        | (refine Need.mk ?_; refine (allP_false (i := i) (by omega) (fun hp => ?_)).symm; have := hp.2 k hki; first | exact absurd this (by assumption) | exact absurd (of_decide_eq_true this) (by assumption))
        | (have hkk := hki; rcases Nat.lt_or_ge k i with h9 | h9; rotate_left; (exfalso; omega); refine ⟨k + 1, (by refine leT.of ?_ ?_ rfl <;> repeat' (first | exact trivial | refine And.intro rfl ?_ | refine And.intro (by simp) ?_)), ⟨by omega, fun m hm => ?_⟩, ?_⟩; (by_cases e : m = k; (subst e; first | assumption | exact decide_eq_true (by assumption)); exact ht m (by omega)); first | omega | (dsimp only; omega); done)
        | (refine ⟨i + 1, (by refine leT.of ?_ ?_ rfl <;> repeat' (first | exact trivial | refine And.intro rfl ?_ | refine And.intro (by simp) ?_)), ⟨by omega, fun j hj => ?_⟩, ?_⟩; (by_cases e : j = i; (subst e; exact ⟨⟨by omega, by omega⟩, fun m hm => ht m (by omega)⟩); exact hs j (by omega)); first | omega | (dsimp only; omega); done))
theorem DisjointI_run (e : Nat) (xs : List SpanT) (hn : xs.length ≤ 1048576) : RunT Try.prog 18 [.one (.c (tSpan e xs))] [] [ob (allP xs.length (pdj xs))] [] := by
  refine RunT.of_vc gOk Try.func18 rfl rfl (Nat.le_of_ble_eq_true rfl) (by repeat' (first | exact trivial | exact ⟨_, rfl, Nat.le_refl _⟩ | exact Nat.le_of_ble_eq_true rfl | refine And.intro ?_ ?_)) (Nat.le_of_ble_eq_true rfl) rfl (fun F hE => ?_)
  repeat' (first | exact trivial | refine BS.d (fun h => ?_) (fun h => ?_) | refine BS.e (fun h => ?_) (fun h => ?_) | refine BS.ne (fun h => ?_) (fun h => ?_) | refine BS.n ?_ | refine BS.s (fun h => ?_) (fun h => ?_) | refine And.intro ?_ ?_ | (refine Need.mk ?_; first | with_reducible rfl | (show @Eq TC _ _; rfl) | omega | (simp only [adN_zero]; omega)) | exact OutS.whole rfl rfl)
  refine CodeK.loop gOk hE (fun i : Nat => ⟨[(0, vr 1000000 xs.length), (7, vr 1000000 xs.length), (8, vi xs.length), (9, vi i)], [(1000000, rSpan .fro false e xs)]⟩) (fun i => i ≤ xs.length ∧ ∀ j, j < i → pdj xs j) (fun i => xs.length - i) 0 (by refine leT.of ?_ ?_ rfl <;> repeat' (first | exact trivial | refine And.intro rfl ?_ | refine And.intro (by simp) ?_)) ⟨Nat.zero_le _, fun j hj => absurd hj (Nat.not_lt_zero _)⟩ ?_
  rintro i ⟨hi, hs⟩
  repeat' (first | exact trivial | refine BS.d (fun h => ?_) (fun h => ?_) | refine BS.e (fun h => ?_) (fun h => ?_) | refine BS.ne (fun h => ?_) (fun h => ?_) | refine BS.n ?_ | refine BS.s (fun h => ?_) (fun h => ?_) | refine And.intro ?_ ?_ | (refine Need.mk ?_; first | with_reducible rfl | (show @Eq TC _ _; rfl) | omega | (simp only [adN_zero]; omega)) | exact OutS.whole rfl rfl)
  all_goals (try simp only [adN_zero] at *)
  all_goals first
    | (refine Need.mk ?_; exact (allP_false (i := i) (by omega) (fun hp => by have := hp.1; omega)).symm)
    | (refine Need.mk ?_; exact (allP_true fun j hj => hs j (by omega)).symm)
    | skip
  all_goals refine CodeK.loop gOk hE (fun k : Nat => ⟨[(0, vr 1000000 xs.length), (4, .ptr 4 0 0), (7, vr 1000000 xs.length), (8, vi xs.length), (9, vi i), (24, vr 1000000 i), (25, vi i), (26, vi k)], [(4, .box 71 [.cl (.lit (.int .i64 (xs.getD i zSpan).1)), .cl (.lit (.int .i64 (xs.getD i zSpan).2))]), (1000000, rSpan .fro false e xs)]⟩) (fun k => k ≤ i ∧ ∀ m, m < k → apt (xs.getD i zSpan) (xs.getD m zSpan) = true) (fun k => i - k) 0 (by refine leT.of ?_ ?_ rfl <;> repeat' (first | exact trivial | refine And.intro rfl ?_ | refine And.intro (by simp) ?_)) ⟨Nat.zero_le _, fun j hj => absurd hj (Nat.not_lt_zero _)⟩ ?_
  all_goals rintro k ⟨hk, ht⟩
  all_goals have c1 := ApartI_run (xs.getD i zSpan) (xs.getD k zSpan)
  all_goals rcases Nat.lt_or_ge k i with hki | hki
  all_goals (repeat' (first | exact trivial | refine BS.d (fun h => ?_) (fun h => ?_) | refine BS.e (fun h => ?_) (fun h => ?_) | refine BS.ne (fun h => ?_) (fun h => ?_) | refine BS.n ?_ | refine BS.s (fun h => ?_) (fun h => ?_) | refine And.intro ?_ ?_ | (refine Need.mk ?_; first | with_reducible rfl | (show @Eq TC _ _; rfl) | omega | (simp only [adN_zero]; omega)) | exact OutS.whole rfl rfl | (refine OpK.call c1 rfl rfl rfl rfl hE ?_ rfl rfl ?_; focus ((repeat' (first | exact PsA.lit _ | exact PsA.ref rfl rfl | constructor)); all_goals (fail "ps")))))
  (
      all_goals (try simp only [adN_zero] at *)
      all_goals first
        | (exfalso; omega)
        | (refine Need.mk ?_; omega)
        | (refine Need.mk ?_; refine (allP_false (i := i) (by omega) (fun hp => ?_)).symm; have := hp.2 k hki; first | exact absurd this (by assumption) | exact absurd (of_decide_eq_true this) (by assumption))
        | (have hkk := hki; rcases Nat.lt_or_ge k i with h9 | h9; rotate_left; (exfalso; omega); refine ⟨k + 1, (by refine leT.of ?_ ?_ rfl <;> repeat' (first | exact trivial | refine And.intro rfl ?_ | refine And.intro (by simp) ?_)), ⟨by omega, fun m hm => ?_⟩, ?_⟩; (by_cases e : m = k; (subst e; first | assumption | exact decide_eq_true (by assumption)); exact ht m (by omega)); first | omega | (dsimp only; omega); done)
        | (refine ⟨i + 1, (by refine leT.of ?_ ?_ rfl <;> repeat' (first | exact trivial | refine And.intro rfl ?_ | refine And.intro (by simp) ?_)), ⟨by omega, fun j hj => ?_⟩, ?_⟩; (by_cases e : j = i; (subst e; exact ⟨⟨by omega, by omega⟩, fun m hm => ht m (by omega)⟩); exact hs j (by omega)); first | omega | (dsimp only; omega); done))
end Go.Proofs.Ytkafibaoikmccaa
