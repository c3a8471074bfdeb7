import Derived.Test.YthhjlcoijnjkdabWPin
import Derived.Test.YthhjlcoijnjkdabWQPin
import Derived.Test.YthhjlcoijnjkdabWIa
import Derived.Test.YthhjlcoijnjkdabWM
namespace Go.Proofs.Ythhjlcoijnjkdab
open Go Go.Tr
set_option maxRecDepth 100000
set_option maxHeartbeats 4000000
set_option linter.unusedVariables false
set_option linter.unusedSimpArgs false
abbrev pnP (E : Int) (p : PinT) : Prop := (p.1 = true ∨ p = (false, 0, false, 0)) ∧ (0 ≤ p.2.1 ∧ p.2.1 ≤ E) ∧ 0 ≤ p.2.2.2 ∧ p.2.2.2 ≤ 2
abbrev aClk (E : Int) (e : Nat) (ps : List PinT) : TAg := .agg [.c (.lit (.int .i64 E)), .c (tPin e ps)]
noncomputable def clk (E : Int) (ps : List PinT) : Bool := decide ((0 ≤ E ∧ E ≤ 100000) ∧ ps.length = 3) && allP 3 (fun j => pnP E (ps.getD j zPin))
theorem clk_no {E : Int} {ps : List PinT} (h : ¬ ((0 ≤ E ∧ E ≤ 100000) ∧ ps.length = 3)) : false = clk E ps := by unfold clk; rw [decide_eq_false h]; rfl
theorem clk_bad {E : Int} {ps : List PinT} (i : Nat) (hi : i < 3) (h : ¬ pnP E (ps.getD i zPin)) : false = clk E ps := by unfold clk; rw [allP_false hi h]; simp
theorem clk_yes {E : Int} {ps : List PinT} (h : (0 ≤ E ∧ E ≤ 100000) ∧ ps.length = 3) (h2 : ∀ j, j < 3 → pnP E (ps.getD j zPin)) : true = clk E ps := by unfold clk; rw [decide_eq_true h, allP_true h2]; rfl
theorem pn_split (p : PinT) : decide (p = (false, 0, false, 0)) = (!p.1 && decide (p.2.1 = 0) && !p.2.2.1 && decide (p.2.2.2 = 0)) := by
  obtain ⟨a, b, c, d⟩ := p; cases a <;> cases c <;> simp
theorem epochOk_run (x : Int) : RunT Try.prog 56 [ti x] [] [ob (decide (0 ≤ x ∧ x ≤ 100000))] [] := by
  refine RunT.of_vc gOk Try.func56 rfl rfl (Nat.le_of_ble_eq_true rfl) (by repeat' (first | exact trivial | exact ⟨_, rfl, Nat.le_refl _⟩ | exact Nat.le_of_ble_eq_true rfl | refine And.intro ?_ ?_)) (Nat.le_of_ble_eq_true rfl) rfl (fun F hE => ?_)
  repeat' (first | exact trivial | refine BS.d (fun h => ?_) (fun h => ?_) | refine BS.e (fun h => ?_) (fun h => ?_) | refine BS.ne (fun h => ?_) (fun h => ?_) | refine BS.n ?_ | refine BS.s (fun h => ?_) (fun h => ?_) | refine And.intro ?_ ?_ | (refine Need.mk ?_; first | with_reducible rfl | (show @Eq TC _ _; rfl) | omega | (simp only [adN_zero]; omega)) | exact OutS.whole rfl rfl)
  all_goals (refine Need.mk ?_; first | rfl | (symm; apply decide_eq_true; omega) | (symm; apply decide_eq_false; omega) | (apply decide_eq_decide.2; omega) | (simp only [beq_iff_eq, Bool.beq_eq_decide_eq] at *; apply decide_eq_decide.2; omega) | (simp; omega))
theorem eff_run (p : PinT) : RunT Try.prog 45 [aPin p] [] [ob (p.1 && !p.2.2.1)] [] := by
  refine RunT.of_vc gOk Try.func45 rfl rfl (Nat.le_of_ble_eq_true rfl) (by repeat' (first | exact trivial | exact ⟨_, rfl, Nat.le_refl _⟩ | exact Nat.le_of_ble_eq_true rfl | refine And.intro ?_ ?_)) (Nat.le_of_ble_eq_true rfl) rfl (fun F hE => ?_)
  repeat' (first | exact trivial | refine BS.d (fun h => ?_) (fun h => ?_) | refine BS.e (fun h => ?_) (fun h => ?_) | refine BS.ne (fun h => ?_) (fun h => ?_) | refine BS.n ?_ | refine BS.s (fun h => ?_) (fun h => ?_) | refine And.intro ?_ ?_ | (refine Need.mk ?_; first | with_reducible rfl | (show @Eq TC _ _; rfl) | omega | (simp only [adN_zero]; omega)) | exact OutS.whole rfl rfl)
  all_goals (refine Need.mk ?_; simp_all)
theorem pinOk_run (p : PinT) (E : Int) (hE0 : 0 ≤ E) : RunT Try.prog 57 [aPin p, ti E] [] [ob (decide (pnP E p))] [] := by
  refine RunT.of_vc gOk Try.func57 rfl rfl (Nat.le_of_ble_eq_true rfl) (by repeat' (first | exact trivial | exact ⟨_, rfl, Nat.le_refl _⟩ | exact Nat.le_of_ble_eq_true rfl | refine And.intro ?_ ?_)) (Nat.le_of_ble_eq_true rfl) rfl (fun F hE => ?_)
  repeat' (first | exact trivial | refine BS.d (fun h => ?_) (fun h => ?_) | refine BS.e (fun h => ?_) (fun h => ?_) | refine BS.ne (fun h => ?_) (fun h => ?_) | refine BS.n ?_ | refine BS.s (fun h => ?_) (fun h => ?_) | refine And.intro ?_ ?_ | (refine Need.mk ?_; first | with_reducible rfl | (show @Eq TC _ _; rfl) | omega | (simp only [adN_zero]; omega)) | exact OutS.whole rfl rfl | (refine PK.eqA (vPin p) (vPin (false, 0, false, 0)) rfl rfl rfl rfl rfl (by kernel_rfl) (Pin_eq _ _) ?_))
  all_goals (refine Need.mk ?_)
  all_goals first
    | (symm; apply decide_eq_true; exact ⟨.inl (by assumption), by omega⟩)
    | (symm; apply decide_eq_false; rintro ⟨_, h2, h3⟩; omega)
    | (apply decide_eq_decide.2; exact ⟨fun h9 => ⟨.inl (by assumption), by omega, by omega⟩, fun h9 => h9.2.2.2⟩)
    | (apply decide_eq_decide.2; refine ⟨fun h9 => ?_, fun h9 => ?_⟩; (subst h9; exact ⟨.inr rfl, ⟨Int.le_refl _, hE0⟩, Int.le_refl _, (by decide)⟩); (rcases h9.1 with h8 | h8 <;> first | exact h8 | (simp_all; done)))
theorem ClockOkS_run (E : Int) (e : Nat) (ps : List PinT) (hn : ps.length ≤ 1048576) : RunT Try.prog 42 [aClk E e ps] [] [ob (clk E ps)] [] := by
  refine RunT.of_vc gOk Try.func42 rfl rfl (Nat.le_of_ble_eq_true rfl) (by repeat' (first | exact trivial | exact ⟨_, rfl, Nat.le_refl _⟩ | exact Nat.le_of_ble_eq_true rfl | refine And.intro ?_ ?_)) (Nat.le_of_ble_eq_true rfl) rfl (fun F hE => ?_)
  have c0 := l1In_run E 0 100000
  repeat' (first | exact trivial | refine BS.d (fun h => ?_) (fun h => ?_) | refine BS.e (fun h => ?_) (fun h => ?_) | refine BS.ne (fun h => ?_) (fun h => ?_) | refine BS.n ?_ | refine BS.s (fun h => ?_) (fun h => ?_) | refine And.intro ?_ ?_ | (refine Need.mk ?_; first | with_reducible rfl | (show @Eq TC _ _; rfl) | omega | (simp only [adN_zero]; omega)) | exact OutS.whole rfl rfl | (refine OpK.call c0 rfl rfl rfl rfl hE ?_ rfl rfl ?_; focus ((repeat' (first | exact PsA.lit _ | exact PsA.ref rfl rfl | constructor)); all_goals (fail "ps"))))
  all_goals first | (refine Need.mk ?_; exact clk_no (by omega)) | skip
  all_goals refine CodeK.loop gOk hE (fun i : Nat => ⟨[(1, .ptr 1 0 0), (3, vi i)], [(1, .box 45 [.cl (.lit (.int .i64 E)), .ref 1000000 0 ps.length]), (1000000, rPin .fro false e ps)]⟩) (fun i => i ≤ 3 ∧ ∀ j, j < i → pnP E (ps.getD j zPin)) (fun i => 3 - i) 0 (by refine leT.of ?_ ?_ rfl <;> repeat' (first | exact trivial | refine And.intro rfl ?_ | refine And.intro (by simp) ?_)) ⟨Nat.zero_le _, fun j hj => absurd hj (Nat.not_lt_zero _)⟩ ?_
  all_goals rintro i ⟨hi, hs⟩
  all_goals have c1 := l1In_run (ps.getD i zPin).2.1 0 E
  all_goals have c2 := l1In_run (ps.getD i zPin).2.2.2 0 2
  all_goals (repeat' (first | exact trivial | refine BS.d (fun h => ?_) (fun h => ?_) | refine BS.e (fun h => ?_) (fun h => ?_) | refine BS.ne (fun h => ?_) (fun h => ?_) | refine BS.n ?_ | refine BS.s (fun h => ?_) (fun h => ?_) | refine And.intro ?_ ?_ | (refine Need.mk ?_; first | with_reducible rfl | (show @Eq TC _ _; rfl) | omega | (simp only [adN_zero]; omega)) | exact OutS.whole rfl rfl | (refine OpK.call c1 rfl rfl rfl rfl hE ?_ rfl rfl ?_; focus ((repeat' (first | exact PsA.lit _ | exact PsA.ref rfl rfl | constructor)); all_goals (fail "ps"))) | (refine OpK.call c2 rfl rfl rfl rfl hE ?_ rfl rfl ?_; focus ((repeat' (first | exact PsA.lit _ | exact PsA.ref rfl rfl | constructor)); all_goals (fail "ps"))) | (refine PK.neA (vPin (ps.getD i zPin)) (vPin (false, 0, false, 0)) rfl rfl rfl rfl rfl (by kernel_rfl) (Pin_eq _ _) ?_)))
  all_goals (try simp only [adN_zero] at *)
  all_goals first
    | (exfalso; omega)
    | (refine Need.mk ?_; omega)
    | (refine Need.mk ?_; refine clk_bad i ?_ ?_; (omega); (assumption); done)
    | (refine Need.mk ?_; refine clk_bad i (by omega) (fun hp => ?_); obtain ⟨p1, p2, p3⟩ := hp; first | omega | (rcases p1 with p1 | p1 <;> simp_all; done))
    | (refine Need.mk ?_; exact clk_yes (by omega) (fun j hj => hs j (by omega)))
    | (have hpm : pnP E (ps.getD i zPin) := ?_; rotate_left; (first | assumption | (refine ⟨?_, ?_, ?_⟩; (first | exact .inl (by assumption) | exact .inr (by assumption)); omega; omega)); refine ⟨i + 1, (by refine leT.of ?_ ?_ rfl <;> repeat' (first | exact trivial | refine And.intro rfl ?_ | refine And.intro (by simp) ?_)), ⟨by omega, fun j hj => (Nat.lt_or_ge j i).elim (hs j) (fun h9 => (show j = i by omega) ▸ hpm)⟩, by first | omega | (dsimp only; omega)⟩)
theorem ClockOkI_run (E : Int) (e : Nat) (ps : List PinT) (hn : ps.length ≤ 1048576) : RunT Try.prog 44 [aClk E e ps] [] [ob (clk E ps)] [] := by
  refine RunT.of_vc gOk Try.func44 rfl rfl (Nat.le_of_ble_eq_true rfl) (by repeat' (first | exact trivial | exact ⟨_, rfl, Nat.le_refl _⟩ | exact Nat.le_of_ble_eq_true rfl | refine And.intro ?_ ?_)) (Nat.le_of_ble_eq_true rfl) rfl (fun F hE => ?_)
  have c0 := epochOk_run E
  repeat' (first | exact trivial | refine BS.d (fun h => ?_) (fun h => ?_) | refine BS.e (fun h => ?_) (fun h => ?_) | refine BS.ne (fun h => ?_) (fun h => ?_) | refine BS.n ?_ | refine BS.s (fun h => ?_) (fun h => ?_) | refine And.intro ?_ ?_ | (refine Need.mk ?_; first | with_reducible rfl | (show @Eq TC _ _; rfl) | omega | (simp only [adN_zero]; omega)) | exact OutS.whole rfl rfl | (refine OpK.call c0 rfl rfl rfl rfl hE ?_ rfl rfl ?_; focus ((repeat' (first | exact PsA.lit _ | exact PsA.ref rfl rfl | constructor)); all_goals (fail "ps"))))
  all_goals first | (refine Need.mk ?_; exact clk_no (by omega)) | skip
  all_goals refine CodeK.loop gOk hE (fun i : Nat => ⟨[(1, .ptr 1 0 0), (16, vr 1000000 ps.length), (17, vi ps.length), (18, vi i)], [(1, .box 45 [.cl (.lit (.int .i64 E)), .ref 1000000 0 ps.length]), (1000000, rPin .fro false e ps)]⟩) (fun i => i ≤ 3 ∧ ∀ j, j < i → pnP E (ps.getD j zPin)) (fun i => 3 - i) 0 (by refine leT.of ?_ ?_ rfl <;> repeat' (first | exact trivial | refine And.intro rfl ?_ | refine And.intro (by simp) ?_)) ⟨Nat.zero_le _, fun j hj => absurd hj (Nat.not_lt_zero _)⟩ ?_
  all_goals rintro i ⟨hi, hs⟩
  all_goals have c1 := pinOk_run (ps.getD i zPin) E (by omega)
  all_goals (repeat' (first | exact trivial | refine BS.d (fun h => ?_) (fun h => ?_) | refine BS.e (fun h => ?_) (fun h => ?_) | refine BS.ne (fun h => ?_) (fun h => ?_) | refine BS.n ?_ | refine BS.s (fun h => ?_) (fun h => ?_) | refine And.intro ?_ ?_ | (refine Need.mk ?_; first | with_reducible rfl | (show @Eq TC _ _; rfl) | omega | (simp only [adN_zero]; omega)) | exact OutS.whole rfl rfl | (refine OpK.call c1 rfl rfl rfl rfl hE ?_ rfl rfl ?_; focus ((repeat' (first | exact PsA.lit _ | exact PsA.ref rfl rfl | constructor)); all_goals (fail "ps")))))
  all_goals (try simp only [adN_zero] at *)
  all_goals first
    | (exfalso; omega)
    | (refine Need.mk ?_; omega)
    | (refine Need.mk ?_; refine clk_bad i ?_ ?_; (omega); (assumption); done)
    | (refine Need.mk ?_; refine clk_bad i (by omega) (fun hp => ?_); obtain ⟨p1, p2, p3⟩ := hp; first | omega | (rcases p1 with p1 | p1 <;> simp_all; done))
    | (refine Need.mk ?_; exact clk_yes (by omega) (fun j hj => hs j (by omega)))
    | (have hpm : pnP E (ps.getD i zPin) := ?_; rotate_left; (first | assumption | (refine ⟨?_, ?_, ?_⟩; (first | exact .inl (by assumption) | exact .inr (by assumption)); omega; omega)); refine ⟨i + 1, (by refine leT.of ?_ ?_ rfl <;> repeat' (first | exact trivial | refine And.intro rfl ?_ | refine And.intro (by simp) ?_)), ⟨by omega, fun j hj => (Nat.lt_or_ge j i).elim (hs j) (fun h9 => (show j = i by omega) ▸ hpm)⟩, by first | omega | (dsimp only; omega)⟩)
end Go.Proofs.Ythhjlcoijnjkdab
