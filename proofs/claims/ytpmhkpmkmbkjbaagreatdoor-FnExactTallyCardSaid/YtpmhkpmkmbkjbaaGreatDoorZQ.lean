import Derived.Test.YtpmhkpmkmbkjbaaGreatDoorZA
import Derived.Test.YtpmhkpmkmbkjbaaGreatDoorZN
import Derived.Test.YtpmhkpmkmbkjbaaGreatDoorZO
import Derived.Test.YtpmhkpmkmbkjbaaGreatDoorVZ
import Derived.Test.YtpmhkpmkmbkjbaaGreatDoorZL
import Derived.Test.YtpmhkpmkmbkjbaaGreatDoorZH
section
namespace Go.Proofs.YtpmhkpmkmbkjbaaGreatDoor
open Go Go.Tr
set_option maxRecDepth 100000
set_option maxHeartbeats 4000000
set_option linter.unusedVariables false
set_option linter.unusedSimpArgs false
/-- All of the first n have the property. -/
noncomputable def allP (n : Nat) (p : Nat → Prop) : Bool := @decide (∀ j, j < n → p j) (Classical.propDecidable _)
theorem allP_false {n i : Nat} {p : Nat → Prop} (hi : i < n) (h : ¬ p i) : allP n p = false := by
  unfold allP; exact @decide_eq_false _ (Classical.propDecidable _) (fun k => h (k i hi))
theorem allP_true {n : Nat} {p : Nat → Prop} (h : ∀ j, j < n → p j) : allP n p = true := by
  unfold allP; exact @decide_eq_true _ (Classical.propDecidable _) h
end Go.Proofs.YtpmhkpmkmbkjbaaGreatDoor
end

section
namespace Go.Proofs.YtpmhkpmkmbkjbaaGreatDoor
open Go Go.Tr
set_option maxRecDepth 100000
set_option maxHeartbeats 4000000
set_option linter.unusedVariables false
set_option linter.unusedSimpArgs false
abbrev pnP (E : Int) (p : PinT) : Prop := (p.1 = true ∨ p = (false, 0, false, 0)) ∧ (0 ≤ p.2.1 ∧ p.2.1 ≤ E) ∧ 0 ≤ p.2.2.2 ∧ p.2.2.2 ≤ 2
noncomputable def clk (E : Int) (ps : List PinT) : Bool := decide ((0 ≤ E ∧ E ≤ 100000) ∧ ps.length = 3) && allP 3 (fun j => pnP E (ps.getD j zPin))
theorem clk_no {E : Int} {ps : List PinT} (h : ¬ ((0 ≤ E ∧ E ≤ 100000) ∧ ps.length = 3)) : false = clk E ps := by unfold clk; rw [decide_eq_false h]; rfl
theorem clk_bad {E : Int} {ps : List PinT} (i : Nat) (hi : i < 3) (h : ¬ pnP E (ps.getD i zPin)) : false = clk E ps := by unfold clk; rw [allP_false hi h]; simp
theorem clk_yes {E : Int} {ps : List PinT} (h : (0 ≤ E ∧ E ≤ 100000) ∧ ps.length = 3) (h2 : ∀ j, j < 3 → pnP E (ps.getD j zPin)) : true = clk E ps := by unfold clk; rw [decide_eq_true h, allP_true h2]; rfl
theorem pn_split (p : PinT) : decide (p = (false, 0, false, 0)) = (!p.1 && decide (p.2.1 = 0) && !p.2.2.1 && decide (p.2.2.2 = 0)) := by
  obtain ⟨a, b, c, d⟩ := p; cases a <;> cases c <;> simp
theorem epochOk_run (x : Int) : RunT Tryz.prog 145 [ti x] [] [ob (decide (0 ≤ x ∧ x ≤ 100000))] [] := by
  refine RunT.of_vc gOk Tryz.func145 rfl rfl (Nat.le_of_ble_eq_true rfl) (by repeat' (first | exact trivial | exact ⟨_, rfl, Nat.le_refl _⟩ | exact Nat.le_of_ble_eq_true rfl | refine And.intro ?_ ?_)) (Nat.le_of_ble_eq_true rfl) rfl (fun F hE => ?_)
  repeat' (first | exact trivial | refine BS.d (fun h => ?_) (fun h => ?_) | refine BS.e (fun h => ?_) (fun h => ?_) | refine BS.ne (fun h => ?_) (fun h => ?_) | refine BS.n ?_ | refine BS.s (fun h => ?_) (fun h => ?_) | refine And.intro ?_ ?_ | (refine Need.mk ?_; first | with_reducible rfl | (show @Eq TC _ _; rfl) | omega | (simp only [adN_zero]; omega)) | exact OutS.whole rfl rfl | refine ListO.go gOk hE ?_)
  all_goals (refine Need.mk ?_; first | rfl | (symm; apply decide_eq_true; omega) | (symm; apply decide_eq_false; omega) | (apply decide_eq_decide.2; omega) | (simp only [beq_iff_eq, Bool.beq_eq_decide_eq] at *; apply decide_eq_decide.2; omega) | (simp; omega))
theorem pinOk_run (p : PinT) (E : Int) (hE0 : 0 ≤ E) : RunT Tryz.prog 146 [aPin p, ti E] [] [ob (decide (pnP E p))] [] := by
  refine RunT.of_vc gOk Tryz.func146 rfl rfl (Nat.le_of_ble_eq_true rfl) (by repeat' (first | exact trivial | exact ⟨_, rfl, Nat.le_refl _⟩ | exact Nat.le_of_ble_eq_true rfl | refine And.intro ?_ ?_)) (Nat.le_of_ble_eq_true rfl) rfl (fun F hE => ?_)
  repeat' (first | exact trivial | refine BS.d (fun h => ?_) (fun h => ?_) | refine BS.e (fun h => ?_) (fun h => ?_) | refine BS.ne (fun h => ?_) (fun h => ?_) | refine BS.n ?_ | refine BS.s (fun h => ?_) (fun h => ?_) | refine And.intro ?_ ?_ | (refine Need.mk ?_; first | with_reducible rfl | (show @Eq TC _ _; rfl) | omega | (simp only [adN_zero]; omega)) | exact OutS.whole rfl rfl | (refine PK.eqA (vPin p) (vPin (false, 0, false, 0)) rfl rfl rfl rfl rfl (by kernel_rfl) (Pin_eq _ _) ?_) | refine ListO.go gOk hE ?_)
  all_goals (refine Need.mk ?_)
  all_goals first
    | (symm; apply decide_eq_true; exact ⟨.inl (by assumption), by omega⟩)
    | (symm; apply decide_eq_false; rintro ⟨_, h2, h3⟩; omega)
    | (apply decide_eq_decide.2; exact ⟨fun h9 => ⟨.inl (by assumption), by omega, by omega⟩, fun h9 => h9.2.2.2⟩)
    | (apply decide_eq_decide.2; refine ⟨fun h9 => ?_, fun h9 => ?_⟩; (subst h9; exact ⟨.inr rfl, ⟨Int.le_refl _, hE0⟩, Int.le_refl _, (by decide)⟩); (rcases h9.1 with h8 | h8 <;> first | exact h8 | (simp_all; done)))
theorem ClockOkS_run (E : Int) (e : Nat) (ps : List PinT) (hn : ps.length ≤ 1048576) : RunT Tryz.prog 70 [aClk E e ps] [] [ob (clk E ps)] [] := by
  refine RunT.of_vc gOk Tryz.func70 rfl rfl (Nat.le_of_ble_eq_true rfl) (by repeat' (first | exact trivial | exact ⟨_, rfl, Nat.le_refl _⟩ | exact Nat.le_of_ble_eq_true rfl | refine And.intro ?_ ?_)) (Nat.le_of_ble_eq_true rfl) rfl (fun F hE => ?_)
  have c0 := l1InB_run E 0 100000
  repeat' (first | exact trivial | refine BS.d (fun h => ?_) (fun h => ?_) | refine BS.e (fun h => ?_) (fun h => ?_) | refine BS.ne (fun h => ?_) (fun h => ?_) | refine BS.n ?_ | refine BS.s (fun h => ?_) (fun h => ?_) | refine And.intro ?_ ?_ | (refine Need.mk ?_; first | with_reducible rfl | (show @Eq TC _ _; rfl) | omega | (simp only [adN_zero]; omega)) | exact OutS.whole rfl rfl | (refine OpK.call c0 rfl rfl rfl rfl hE ?_ rfl rfl ?_; focus ((repeat' (first | exact PsA.lit _ | exact PsA.ref rfl rfl | constructor)); all_goals (fail "ps"))) | refine ListO.go gOk hE ?_)
  all_goals first | (refine Need.mk ?_; exact clk_no (by omega)) | skip
  all_goals refine CodeK.loop gOk hE (fun i : Nat => ⟨[(1, .ptr 1 0 0), (3, vi i)], [(1, .box 61 [.cl (.lit (.int .i64 E)), .ref 1000000 0 ps.length]), (1000000, rPin .fro false e ps)]⟩) (fun i => i ≤ 3 ∧ ∀ j, j < i → pnP E (ps.getD j zPin)) (fun i => 3 - i) 0 (by refine leT.of ?_ ?_ rfl <;> repeat' (first | exact trivial | refine And.intro rfl ?_ | refine And.intro (by simp) ?_)) ⟨Nat.zero_le _, fun j hj => absurd hj (Nat.not_lt_zero _)⟩ ?_
  all_goals rintro i ⟨hi, hs⟩
  all_goals have c1 := l1InB_run (ps.getD i zPin).2.1 0 E
  all_goals have c2 := l1InB_run (ps.getD i zPin).2.2.2 0 2
  all_goals (repeat' (first | exact trivial | refine BS.d (fun h => ?_) (fun h => ?_) | refine BS.e (fun h => ?_) (fun h => ?_) | refine BS.ne (fun h => ?_) (fun h => ?_) | refine BS.n ?_ | refine BS.s (fun h => ?_) (fun h => ?_) | refine And.intro ?_ ?_ | (refine Need.mk ?_; first | with_reducible rfl | (show @Eq TC _ _; rfl) | omega | (simp only [adN_zero]; omega)) | exact OutS.whole rfl rfl | (refine OpK.call c1 rfl rfl rfl rfl hE ?_ rfl rfl ?_; focus ((repeat' (first | exact PsA.lit _ | exact PsA.ref rfl rfl | constructor)); all_goals (fail "ps"))) | (refine OpK.call c2 rfl rfl rfl rfl hE ?_ rfl rfl ?_; focus ((repeat' (first | exact PsA.lit _ | exact PsA.ref rfl rfl | constructor)); all_goals (fail "ps"))) | (refine PK.neA (vPin (ps.getD i zPin)) (vPin (false, 0, false, 0)) rfl rfl rfl rfl rfl (by kernel_rfl) (Pin_eq _ _) ?_) | refine ListO.go gOk hE ?_))
  all_goals (try simp only [adN_zero] at *)
  all_goals first
    | (exfalso; omega)
    | (refine Need.mk ?_; omega)
    | (refine Need.mk ?_; refine clk_bad i ?_ ?_; (omega); (assumption); done)
    | (refine Need.mk ?_; refine clk_bad i (by omega) (fun hp => ?_); obtain ⟨p1, p2, p3⟩ := hp; first | omega | (rcases p1 with p1 | p1 <;> simp_all; done))
    | (refine Need.mk ?_; exact clk_yes (by omega) (fun j hj => hs j (by omega)))
    | (have hpm : pnP E (ps.getD i zPin) := ?_; rotate_left; (first | assumption | (refine ⟨?_, ?_, ?_⟩; (first | exact .inl (by assumption) | exact .inr (by assumption)); omega; omega)); refine ⟨i + 1, (by refine leT.of ?_ ?_ rfl <;> repeat' (first | exact trivial | refine And.intro rfl ?_ | refine And.intro (by simp) ?_)), ⟨by omega, fun j hj => (Nat.lt_or_ge j i).elim (hs j) (fun h9 => (show j = i by omega) ▸ hpm)⟩, by first | omega | (dsimp only; omega)⟩)
theorem ClockOkI_run (E : Int) (e : Nat) (ps : List PinT) (hn : ps.length ≤ 1048576) : RunT Tryz.prog 77 [aClk E e ps] [] [ob (clk E ps)] [] := by
  refine RunT.of_vc gOk Tryz.func77 rfl rfl (Nat.le_of_ble_eq_true rfl) (by repeat' (first | exact trivial | exact ⟨_, rfl, Nat.le_refl _⟩ | exact Nat.le_of_ble_eq_true rfl | refine And.intro ?_ ?_)) (Nat.le_of_ble_eq_true rfl) rfl (fun F hE => ?_)
  have c0 := epochOk_run E
  repeat' (first | exact trivial | refine BS.d (fun h => ?_) (fun h => ?_) | refine BS.e (fun h => ?_) (fun h => ?_) | refine BS.ne (fun h => ?_) (fun h => ?_) | refine BS.n ?_ | refine BS.s (fun h => ?_) (fun h => ?_) | refine And.intro ?_ ?_ | (refine Need.mk ?_; first | with_reducible rfl | (show @Eq TC _ _; rfl) | omega | (simp only [adN_zero]; omega)) | exact OutS.whole rfl rfl | (refine OpK.call c0 rfl rfl rfl rfl hE ?_ rfl rfl ?_; focus ((repeat' (first | exact PsA.lit _ | exact PsA.ref rfl rfl | constructor)); all_goals (fail "ps"))) | refine ListO.go gOk hE ?_)
  all_goals first | (refine Need.mk ?_; exact clk_no (by omega)) | skip
  all_goals refine CodeK.loop gOk hE (fun i : Nat => ⟨[(1, .ptr 1 0 0), (16, vr 1000000 ps.length), (17, vi ps.length), (18, vi i)], [(1, .box 61 [.cl (.lit (.int .i64 E)), .ref 1000000 0 ps.length]), (1000000, rPin .fro false e ps)]⟩) (fun i => i ≤ 3 ∧ ∀ j, j < i → pnP E (ps.getD j zPin)) (fun i => 3 - i) 0 (by refine leT.of ?_ ?_ rfl <;> repeat' (first | exact trivial | refine And.intro rfl ?_ | refine And.intro (by simp) ?_)) ⟨Nat.zero_le _, fun j hj => absurd hj (Nat.not_lt_zero _)⟩ ?_
  all_goals rintro i ⟨hi, hs⟩
  all_goals have c1 := pinOk_run (ps.getD i zPin) E (by omega)
  all_goals (repeat' (first | exact trivial | refine BS.d (fun h => ?_) (fun h => ?_) | refine BS.e (fun h => ?_) (fun h => ?_) | refine BS.ne (fun h => ?_) (fun h => ?_) | refine BS.n ?_ | refine BS.s (fun h => ?_) (fun h => ?_) | refine And.intro ?_ ?_ | (refine Need.mk ?_; first | with_reducible rfl | (show @Eq TC _ _; rfl) | omega | (simp only [adN_zero]; omega)) | exact OutS.whole rfl rfl | (refine OpK.call c1 rfl rfl rfl rfl hE ?_ rfl rfl ?_; focus ((repeat' (first | exact PsA.lit _ | exact PsA.ref rfl rfl | constructor)); all_goals (fail "ps"))) | refine ListO.go gOk hE ?_))
  all_goals (try simp only [adN_zero] at *)
  all_goals first
    | (exfalso; omega)
    | (refine Need.mk ?_; omega)
    | (refine Need.mk ?_; refine clk_bad i ?_ ?_; (omega); (assumption); done)
    | (refine Need.mk ?_; refine clk_bad i (by omega) (fun hp => ?_); obtain ⟨p1, p2, p3⟩ := hp; first | omega | (rcases p1 with p1 | p1 <;> simp_all; done))
    | (refine Need.mk ?_; exact clk_yes (by omega) (fun j hj => hs j (by omega)))
    | (have hpm : pnP E (ps.getD i zPin) := ?_; rotate_left; (first | assumption | (refine ⟨?_, ?_, ?_⟩; (first | exact .inl (by assumption) | exact .inr (by assumption)); omega; omega)); refine ⟨i + 1, (by refine leT.of ?_ ?_ rfl <;> repeat' (first | exact trivial | refine And.intro rfl ?_ | refine And.intro (by simp) ?_)), ⟨by omega, fun j hj => (Nat.lt_or_ge j i).elim (hs j) (fun h9 => (show j = i by omega) ▸ hpm)⟩, by first | omega | (dsimp only; omega)⟩)
end Go.Proofs.YtpmhkpmkmbkjbaaGreatDoor
end

section
/- Hazard pointers: whether they are right. -/
namespace Go.Proofs.YtpmhkpmkmbkjbaaGreatDoor
open Go Go.Tr
set_option maxRecDepth 100000
set_option maxHeartbeats 4000000
set_option linter.unusedVariables false
set_option linter.unusedSimpArgs false
abbrev hzQ (z : List Int) (j : Nat) : Prop := z.getD j 0 = 0 ∨ hOk (z.getD j 0) = true
noncomputable def hzA (z : List Int) : Bool := allP z.length (hzQ z)
noncomputable def hzB (z : List Int) : Bool := decide (z.length = 3) && hzA z
theorem handleOrNone_run (x : Int) (hm : x ≤ 9223372036854775807) : RunT Tryz.prog 66 [ti x] [] [ob (decide (x = 0) || hOk x)] [] := by
  have c1 := iHandleOk_run x hm
  cases hk : hOk x
  all_goals (rw [hk] at c1)
  all_goals (refine RunT.of_vc gOk Tryz.func66 rfl rfl (Nat.le_of_ble_eq_true rfl) (by repeat' (first | exact trivial | exact ⟨_, rfl, Nat.le_refl _⟩ | exact Nat.le_of_ble_eq_true rfl | refine And.intro ?_ ?_)) (Nat.le_of_ble_eq_true rfl) rfl (fun F hE => ?_))
  all_goals (repeat' (first | exact trivial | refine BS.d (fun h => ?_) (fun h => ?_) | refine BS.e (fun h => ?_) (fun h => ?_) | refine BS.ne (fun h => ?_) (fun h => ?_) | refine BS.n ?_ | refine BS.s (fun h => ?_) (fun h => ?_) | refine And.intro ?_ ?_ | (refine Need.mk ?_; first | with_reducible rfl | (show @Eq TC _ _; rfl) | omega | (simp only [adN_zero]; omega)) | exact OutS.whole rfl rfl | (refine OpK.call c1 rfl rfl rfl rfl hE ?_ rfl rfl ?_; focus ((repeat' (first | exact PsA.lit _ | exact PsA.ref rfl rfl | constructor)); all_goals (fail "ps"))) | refine ListO.go gOk hE ?_))
  all_goals (refine Need.mk ?_; simp_all)
theorem hzNone_run (z : List Int) (hn : z.length ≤ 4000000) (hm : ∀ i, z.getD i 0 ≤ 9223372036854775807) : RunT Tryz.prog 148 [.one (.c (tI z))] [] [ob (hzA z)] [] := by
  refine RunT.of_vc gOk Tryz.func148 rfl rfl (Nat.le_of_ble_eq_true rfl) (by repeat' (first | exact trivial | exact ⟨_, rfl, Nat.le_refl _⟩ | exact Nat.le_of_ble_eq_true rfl | refine And.intro ?_ ?_)) (Nat.le_of_ble_eq_true rfl) rfl (fun F hE => ?_)
  repeat' (first | exact trivial | refine BS.d (fun h => ?_) (fun h => ?_) | refine BS.e (fun h => ?_) (fun h => ?_) | refine BS.ne (fun h => ?_) (fun h => ?_) | refine BS.n ?_ | refine BS.s (fun h => ?_) (fun h => ?_) | refine And.intro ?_ ?_ | (refine Need.mk ?_; first | with_reducible rfl | (show @Eq TC _ _; rfl) | omega | (simp only [adN_zero]; omega)) | exact OutS.whole rfl rfl | refine ListO.go gOk hE ?_)
  refine CodeK.loop gOk hE (fun i : Nat => ⟨[(5, vr 1000000 z.length), (6, vi z.length), (7, vi i)], [(1000000, rI .fro false z)]⟩) (fun i => i ≤ z.length ∧ ∀ j, j < i → hzQ z j) (fun i => z.length - i) 0 (by refine leT.of ?_ ?_ rfl <;> repeat' (first | exact trivial | refine And.intro rfl ?_ | refine And.intro (by simp) ?_)) ⟨Nat.zero_le _, fun j hj => absurd hj (Nat.not_lt_zero _)⟩ ?_
  rintro i ⟨hi, hs⟩
  have c1 := handleOrNone_run (z.getD i 0) (hm i)
  by_cases hp : hzQ z i
  · have hb : (decide (z.getD i 0 = 0) || hOk (z.getD i 0)) = true := by rw [Bool.or_eq_true, decide_eq_true_eq]; exact hp
    rw [hb] at c1
    repeat' (first | exact trivial | refine BS.d (fun h => ?_) (fun h => ?_) | refine BS.e (fun h => ?_) (fun h => ?_) | refine BS.ne (fun h => ?_) (fun h => ?_) | refine BS.n ?_ | refine BS.s (fun h => ?_) (fun h => ?_) | refine And.intro ?_ ?_ | (refine Need.mk ?_; first | with_reducible rfl | (show @Eq TC _ _; rfl) | omega | (simp only [adN_zero]; omega)) | exact OutS.whole rfl rfl | (refine OpK.call c1 rfl rfl rfl rfl hE ?_ rfl rfl ?_; focus ((repeat' (first | exact PsA.lit _ | exact PsA.ref rfl rfl | constructor)); all_goals (fail "ps"))) | refine ListO.go gOk hE ?_)
    all_goals (try simp only [adN_zero] at *)
    all_goals first
      | (exfalso; omega)
      | (refine Need.mk ?_; omega)
      | (refine Need.mk ?_; exact (allP_true (fun j hj => hs j (by omega))).symm)
      | (refine ⟨i + 1, (by refine leT.of ?_ ?_ rfl <;> repeat' (first | exact trivial | refine And.intro rfl ?_ | refine And.intro (by simp) ?_)), ⟨by omega, fun j hj => (Nat.lt_or_ge j i).elim (hs j) (fun h9 => (show j = i by omega) ▸ hp)⟩, by first | omega | (dsimp only; omega)⟩)
      | (exfalso; simp_all; done)
      | trace_state
  · have hb : (decide (z.getD i 0 = 0) || hOk (z.getD i 0)) = false := by
      cases hq : hOk (z.getD i 0) <;> by_cases h9 : z.getD i 0 = 0 <;> simp_all [hzQ]
    rw [hb] at c1
    repeat' (first | exact trivial | refine BS.d (fun h => ?_) (fun h => ?_) | refine BS.e (fun h => ?_) (fun h => ?_) | refine BS.ne (fun h => ?_) (fun h => ?_) | refine BS.n ?_ | refine BS.s (fun h => ?_) (fun h => ?_) | refine And.intro ?_ ?_ | (refine Need.mk ?_; first | with_reducible rfl | (show @Eq TC _ _; rfl) | omega | (simp only [adN_zero]; omega)) | exact OutS.whole rfl rfl | (refine OpK.call c1 rfl rfl rfl rfl hE ?_ rfl rfl ?_; focus ((repeat' (first | exact PsA.lit _ | exact PsA.ref rfl rfl | constructor)); all_goals (fail "ps"))) | refine ListO.go gOk hE ?_)
    all_goals (try simp only [adN_zero] at *)
    all_goals first
      | (exfalso; omega)
      | (refine Need.mk ?_; omega)
      | (refine Need.mk ?_; exact (allP_false (i := i) (by omega) hp).symm)
      | (refine Need.mk ?_; exact (allP_true (fun j hj => hs j (by omega))).symm)
      | (exfalso; simp_all; done)
      | trace_state
theorem HazOkI_run (z : List Int) (hn : z.length ≤ 4000000) (hm : ∀ i, z.getD i 0 ≤ 9223372036854775807) : RunT Tryz.prog 79 [.one (.c (tI z))] [] [ob (hzB z)] [] := by
  have c1 := hzNone_run z hn hm
  unfold hzB
  generalize hzA z = bb at *
  refine RunT.of_vc gOk Tryz.func79 rfl rfl (Nat.le_of_ble_eq_true rfl) (by repeat' (first | exact trivial | exact ⟨_, rfl, Nat.le_refl _⟩ | exact Nat.le_of_ble_eq_true rfl | refine And.intro ?_ ?_)) (Nat.le_of_ble_eq_true rfl) rfl (fun F hE => ?_)
  repeat' (first | exact trivial | refine BS.d (fun h => ?_) (fun h => ?_) | refine BS.e (fun h => ?_) (fun h => ?_) | refine BS.ne (fun h => ?_) (fun h => ?_) | refine BS.n ?_ | refine BS.s (fun h => ?_) (fun h => ?_) | refine And.intro ?_ ?_ | (refine Need.mk ?_; first | with_reducible rfl | (show @Eq TC _ _; rfl) | omega | (simp only [adN_zero]; omega)) | exact OutS.whole rfl rfl | (refine OpK.call c1 rfl rfl rfl rfl hE ?_ rfl rfl ?_; focus ((repeat' (first | exact PsA.lit _ | exact PsA.ref rfl rfl | constructor)); all_goals (fail "ps"))) | refine ListO.go gOk hE ?_)
  all_goals (refine Need.mk ?_; first | (rw [decide_eq_true (by omega)]; rfl) | (rw [decide_eq_false (by omega)]; rfl) | (simp_all; done))
theorem HazOkS_run (z : List Int) (hn : z.length ≤ 4000000) : RunT Tryz.prog 72 [.one (.c (tI z))] [] [ob (hzB z)] [] := by
  refine RunT.of_vc gOk Tryz.func72 rfl rfl (Nat.le_of_ble_eq_true rfl) (by repeat' (first | exact trivial | exact ⟨_, rfl, Nat.le_refl _⟩ | exact Nat.le_of_ble_eq_true rfl | refine And.intro ?_ ?_)) (Nat.le_of_ble_eq_true rfl) rfl (fun F hE => ?_)
  repeat' (first | exact trivial | refine BS.d (fun h => ?_) (fun h => ?_) | refine BS.e (fun h => ?_) (fun h => ?_) | refine BS.ne (fun h => ?_) (fun h => ?_) | refine BS.n ?_ | refine BS.s (fun h => ?_) (fun h => ?_) | refine And.intro ?_ ?_ | (refine Need.mk ?_; first | with_reducible rfl | (show @Eq TC _ _; rfl) | omega | (simp only [adN_zero]; omega)) | exact OutS.whole rfl rfl | refine ListO.go gOk hE ?_)
  refine CodeK.loop gOk hE (fun i : Nat => ⟨[(0, vr 1000000 z.length), (3, vi i)], [(1000000, rI .fro false z)]⟩) (fun i => i ≤ z.length ∧ ∀ j, j < i → hzQ z j) (fun i => z.length - i) 0 (by refine leT.of ?_ ?_ rfl <;> repeat' (first | exact trivial | refine And.intro rfl ?_ | refine And.intro (by simp) ?_)) ⟨Nat.zero_le _, fun j hj => absurd hj (Nat.not_lt_zero _)⟩ ?_
  rintro i ⟨hi, hs⟩
  have c1 := sHandleOk_run (z.getD i 0)
  by_cases hp : hzQ z i
  · cases hk : hOk (z.getD i 0)
    all_goals (rw [hk] at c1)
    all_goals (repeat' (first | exact trivial | refine BS.d (fun h => ?_) (fun h => ?_) | refine BS.e (fun h => ?_) (fun h => ?_) | refine BS.ne (fun h => ?_) (fun h => ?_) | refine BS.n ?_ | refine BS.s (fun h => ?_) (fun h => ?_) | refine And.intro ?_ ?_ | (refine Need.mk ?_; first | with_reducible rfl | (show @Eq TC _ _; rfl) | omega | (simp only [adN_zero]; omega)) | exact OutS.whole rfl rfl | (refine OpK.call c1 rfl rfl rfl rfl hE ?_ rfl rfl ?_; focus ((repeat' (first | exact PsA.lit _ | exact PsA.ref rfl rfl | constructor)); all_goals (fail "ps"))) | refine ListO.go gOk hE ?_))
    all_goals (try simp only [adN_zero] at *)
    all_goals first
      | (exfalso; omega)
      | (refine Need.mk ?_; omega)
      | (refine Need.mk ?_; unfold hzB hzA; rw [allP_true (fun j hj => hs j (by omega)), Bool.and_true, Bool.beq_eq_decide_eq]; apply decide_eq_decide.2; omega)
      | (refine ⟨i + 1, (by refine leT.of ?_ ?_ rfl <;> repeat' (first | exact trivial | refine And.intro rfl ?_ | refine And.intro (by simp) ?_)), ⟨by omega, fun j hj => (Nat.lt_or_ge j i).elim (hs j) (fun h9 => (show j = i by omega) ▸ hp)⟩, by first | omega | (dsimp only; omega)⟩)
      | (exfalso; rcases hp with h | h <;> simp_all; done)
      | trace_state
  · have hk : hOk (z.getD i 0) = false := by cases hk : hOk (z.getD i 0); rfl; exact absurd (Or.inr hk) hp
    have hz : z.getD i 0 ≠ 0 := fun h => hp (.inl h)
    rw [hk] at c1
    repeat' (first | exact trivial | refine BS.d (fun h => ?_) (fun h => ?_) | refine BS.e (fun h => ?_) (fun h => ?_) | refine BS.ne (fun h => ?_) (fun h => ?_) | refine BS.n ?_ | refine BS.s (fun h => ?_) (fun h => ?_) | refine And.intro ?_ ?_ | (refine Need.mk ?_; first | with_reducible rfl | (show @Eq TC _ _; rfl) | omega | (simp only [adN_zero]; omega)) | exact OutS.whole rfl rfl | (refine OpK.call c1 rfl rfl rfl rfl hE ?_ rfl rfl ?_; focus ((repeat' (first | exact PsA.lit _ | exact PsA.ref rfl rfl | constructor)); all_goals (fail "ps"))) | refine ListO.go gOk hE ?_)
    all_goals (try simp only [adN_zero] at *)
    all_goals first
      | (exfalso; omega)
      | (refine Need.mk ?_; omega)
      | (refine Need.mk ?_; unfold hzB hzA; rw [allP_false (i := i) (by omega) hp]; simp; done)
      | (refine Need.mk ?_; unfold hzB hzA; rw [allP_true (fun j hj => hs j (by omega)), Bool.and_true, Bool.beq_eq_decide_eq]; apply decide_eq_decide.2; omega)
      | (exfalso; simp_all; done)
      | trace_state
end Go.Proofs.YtpmhkpmkmbkjbaaGreatDoor
end

section
/- Whether a base is right. -/
namespace Go.Proofs.YtpmhkpmkmbkjbaaGreatDoor
open Go Go.Tr
set_option maxRecDepth 100000
set_option maxHeartbeats 4000000
set_option linter.unusedVariables false
set_option linter.unusedSimpArgs false
abbrev bBs (e eP eR eL : Nat) (b c : List Int) (g o : List (List Int)) (E : Int) (ps : List PinT) (l : List (List Row)) (z : List Int) : TRoot := .box 64 [.ref 1000000 0 b.length, .ref 1000001 0 c.length, .ref 1000002 0 g.length, .ref 1000003 0 o.length, .cl (.lit (.int .i64 E)), .ref 1000004 0 ps.length, .ref 1000005 0 l.length, .ref 1000006 0 z.length]
/-- A base of bounded size. -/
structure BsT (b c : List Int) (g o : List (List Int)) (ps : List PinT) (l : List (List Row)) (z : List Int) : Prop where
  ok : BsOk 1048576 b c g o ps l z
  mt : MmT b c g o
  cn : cnt l ≤ 1048576
  mx : ∀ i, (l.flatten.getD i (0, 0)).1 ≤ 9223372036854775807
  zx : ∀ i, z.getD i 0 ≤ 9223372036854775807
theorem BsT.of_sz {b c : List Int} {g o : List (List Int)} {ps : List PinT} {l : List (List Row)} {z : List Int} {m : Int} (h0 : 0 ≤ m) (h1 : m ≤ 1048576) (h : ¬ szB b c g o ps l z m < 0) (mx : ∀ i, (l.flatten.getD i (0, 0)).1 ≤ 9223372036854775807) (zx : ∀ i, z.getD i 0 ≤ 9223372036854775807) : BsT b c g o ps l z := by
  obtain ⟨q1, q2, q3⟩ := szB_ok (b := b) (c := c) (g := g) (o := o) (ps := ps) (l := l) (z := z) h0 h1
  refine ⟨q3 (by omega), ?_, ?_, mx, zx⟩
  · refine MmT.of_sz h0 h1 (fun hm => h ?_)
    unfold szB ch; rw [if_pos hm]; omega
  · unfold szB ch at h
    dsimp only at h
    have a := szM_le b c g o m h0
    split at h
    · omega
    have a2 := szJ_bd ps (szM b c g o m) (by omega)
    split at h
    · omega
    obtain ⟨b1, b2, b3⟩ := szJLs_le l (szJ ps (szM b c g o m)) (by omega)
    split at h
    · omega
    obtain ⟨b4, b5, b6⟩ := b3 (by omega)
    rw [← flat_len]; omega
abbrev rwQ (b c : List Int) (g o : List (List Int)) (E : Int) (R : List Row) (j : Nat) : Prop := vlB b c g o (R.getD j (0, 0)).1 = true ∧ (R.getD j (0, 0)).2 ≤ E
noncomputable def bsB (b c : List Int) (g o : List (List Int)) (E : Int) (ps : List PinT) (l : List (List Row)) (z : List Int) : Bool := dcB (mmP b c g o) && clk E ps && lOk l && hzB z && allP l.flatten.length (rwQ b c g o E l.flatten)
theorem bsB_mm {b c : List Int} {g o : List (List Int)} {E : Int} {ps : List PinT} {l : List (List Row)} {z : List Int} (h : bsB b c g o E ps l z = true) : mmP b c g o := by
  refine Classical.byContradiction fun hn => ?_
  unfold bsB at h
  rw [dcB_false hn] at h; simp at h
theorem BaseOkS_run (e eP eR eL : Nat) (b c : List Int) (g o : List (List Int)) (E : Int) (ps : List PinT) (l : List (List Row)) (z : List Int) (h : BsT b c g o ps l z) : RunT Tryz.prog 24 [aBs e eP eR eL b c g o E ps l z] [] [ob (bsB b c g o E ps l z)] [] := by
  have c1 := h.mt.S e
  have c2 := ClockOkS_run E eP ps h.ok.hps
  have c3 := LimboOkS_run eR eL l h.ok.hl h.cn
  have c4 := HazOkS_run z (by have := h.ok.hz; omega)
  have c5 := l11All_run eR eL l h.ok.hl h.cn
  have hfl := flat_len l
  have hcn := h.cn
  by_cases hm : mmP b c g o
  · rw [dcB_true hm] at c1
    have hb0 : bsB b c g o E ps l z = (clk E ps && lOk l && hzB z && allP l.flatten.length (rwQ b c g o E l.flatten)) := by unfold bsB; rw [dcB_true hm]; simp
    rw [hb0]
    generalize clk E ps = b2 at *
    generalize lOk l = b3 at *
    generalize hzB z = b4 at *
    cases b2
    · refine RunT.of_vc gOk Tryz.func24 rfl rfl (Nat.le_of_ble_eq_true rfl) (by repeat' (first | exact trivial | exact ⟨_, rfl, Nat.le_refl _⟩ | exact Nat.le_of_ble_eq_true rfl | refine And.intro ?_ ?_)) (Nat.le_of_ble_eq_true rfl) rfl (fun F hE => ?_)
      repeat' (first | exact trivial | refine BS.d (fun h => ?_) (fun h => ?_) | refine BS.e (fun h => ?_) (fun h => ?_) | refine BS.ne (fun h => ?_) (fun h => ?_) | refine BS.n ?_ | refine BS.s (fun h => ?_) (fun h => ?_) | refine And.intro ?_ ?_ | (refine Need.mk ?_; first | with_reducible rfl | (show @Eq TC _ _; rfl) | omega | (simp only [adN_zero]; omega)) | exact OutS.whole rfl rfl | (refine OpK.call c1 rfl rfl rfl rfl hE ?_ rfl rfl ?_; focus ((repeat' (first | exact PsA.lit _ | exact PsA.ref rfl rfl | constructor)); all_goals (fail "ps"))) | (refine OpK.call c2 rfl rfl rfl rfl hE ?_ rfl rfl ?_; focus ((repeat' (first | exact PsA.lit _ | exact PsA.ref rfl rfl | constructor)); all_goals (fail "ps"))) | refine ListO.go gOk hE ?_)
      all_goals first | exact Need.mk rfl | trace_state
    cases b3
    · refine RunT.of_vc gOk Tryz.func24 rfl rfl (Nat.le_of_ble_eq_true rfl) (by repeat' (first | exact trivial | exact ⟨_, rfl, Nat.le_refl _⟩ | exact Nat.le_of_ble_eq_true rfl | refine And.intro ?_ ?_)) (Nat.le_of_ble_eq_true rfl) rfl (fun F hE => ?_)
      repeat' (first | exact trivial | refine BS.d (fun h => ?_) (fun h => ?_) | refine BS.e (fun h => ?_) (fun h => ?_) | refine BS.ne (fun h => ?_) (fun h => ?_) | refine BS.n ?_ | refine BS.s (fun h => ?_) (fun h => ?_) | refine And.intro ?_ ?_ | (refine Need.mk ?_; first | with_reducible rfl | (show @Eq TC _ _; rfl) | omega | (simp only [adN_zero]; omega)) | exact OutS.whole rfl rfl | (refine OpK.call c1 rfl rfl rfl rfl hE ?_ rfl rfl ?_; focus ((repeat' (first | exact PsA.lit _ | exact PsA.ref rfl rfl | constructor)); all_goals (fail "ps"))) | (refine OpK.call c2 rfl rfl rfl rfl hE ?_ rfl rfl ?_; focus ((repeat' (first | exact PsA.lit _ | exact PsA.ref rfl rfl | constructor)); all_goals (fail "ps"))) | (refine OpK.call c3 rfl rfl rfl rfl hE ?_ rfl rfl ?_; focus ((repeat' (first | exact PsA.lit _ | exact PsA.ref rfl rfl | constructor)); all_goals (fail "ps"))) | refine ListO.go gOk hE ?_)
      all_goals first | exact Need.mk rfl | trace_state
    cases b4
    · refine RunT.of_vc gOk Tryz.func24 rfl rfl (Nat.le_of_ble_eq_true rfl) (by repeat' (first | exact trivial | exact ⟨_, rfl, Nat.le_refl _⟩ | exact Nat.le_of_ble_eq_true rfl | refine And.intro ?_ ?_)) (Nat.le_of_ble_eq_true rfl) rfl (fun F hE => ?_)
      repeat' (first | exact trivial | refine BS.d (fun h => ?_) (fun h => ?_) | refine BS.e (fun h => ?_) (fun h => ?_) | refine BS.ne (fun h => ?_) (fun h => ?_) | refine BS.n ?_ | refine BS.s (fun h => ?_) (fun h => ?_) | refine And.intro ?_ ?_ | (refine Need.mk ?_; first | with_reducible rfl | (show @Eq TC _ _; rfl) | omega | (simp only [adN_zero]; omega)) | exact OutS.whole rfl rfl | (refine OpK.call c1 rfl rfl rfl rfl hE ?_ rfl rfl ?_; focus ((repeat' (first | exact PsA.lit _ | exact PsA.ref rfl rfl | constructor)); all_goals (fail "ps"))) | (refine OpK.call c2 rfl rfl rfl rfl hE ?_ rfl rfl ?_; focus ((repeat' (first | exact PsA.lit _ | exact PsA.ref rfl rfl | constructor)); all_goals (fail "ps"))) | (refine OpK.call c3 rfl rfl rfl rfl hE ?_ rfl rfl ?_; focus ((repeat' (first | exact PsA.lit _ | exact PsA.ref rfl rfl | constructor)); all_goals (fail "ps"))) | (refine OpK.call c4 rfl rfl rfl rfl hE ?_ rfl rfl ?_; focus ((repeat' (first | exact PsA.lit _ | exact PsA.ref rfl rfl | constructor)); all_goals (fail "ps"))) | refine ListO.go gOk hE ?_)
      all_goals first | exact Need.mk rfl | trace_state
    rw [show (true && true && true && allP l.flatten.length (rwQ b c g o E l.flatten)) = allP l.flatten.length (rwQ b c g o E l.flatten) from rfl]
    refine RunT.of_vc gOk Tryz.func24 rfl rfl (Nat.le_of_ble_eq_true rfl) (by repeat' (first | exact trivial | exact ⟨_, rfl, Nat.le_refl _⟩ | exact Nat.le_of_ble_eq_true rfl | refine And.intro ?_ ?_)) (Nat.le_of_ble_eq_true rfl) rfl (fun F hE => ?_)
    repeat' (first | exact trivial | refine BS.d (fun h => ?_) (fun h => ?_) | refine BS.e (fun h => ?_) (fun h => ?_) | refine BS.ne (fun h => ?_) (fun h => ?_) | refine BS.n ?_ | refine BS.s (fun h => ?_) (fun h => ?_) | refine And.intro ?_ ?_ | (refine Need.mk ?_; first | with_reducible rfl | (show @Eq TC _ _; rfl) | omega | (simp only [adN_zero]; omega)) | exact OutS.whole rfl rfl | (refine OpK.call c1 rfl rfl rfl rfl hE ?_ rfl rfl ?_; focus ((repeat' (first | exact PsA.lit _ | exact PsA.ref rfl rfl | constructor)); all_goals (fail "ps"))) | (refine OpK.call c2 rfl rfl rfl rfl hE ?_ rfl rfl ?_; focus ((repeat' (first | exact PsA.lit _ | exact PsA.ref rfl rfl | constructor)); all_goals (fail "ps"))) | (refine OpK.call c3 rfl rfl rfl rfl hE ?_ rfl rfl ?_; focus ((repeat' (first | exact PsA.lit _ | exact PsA.ref rfl rfl | constructor)); all_goals (fail "ps"))) | (refine OpK.call c4 rfl rfl rfl rfl hE ?_ rfl rfl ?_; focus ((repeat' (first | exact PsA.lit _ | exact PsA.ref rfl rfl | constructor)); all_goals (fail "ps"))) | (refine OpK.call c5 rfl rfl rfl rfl hE ?_ rfl rfl ?_; focus ((repeat' (first | exact PsA.lit _ | exact PsA.ref rfl rfl | constructor)); all_goals (fail "ps"))) | refine ListO.go gOk hE ?_)
    have hR : l.flatten.length ≤ 1048576 := by omega
    generalize l.flatten = R at *
    refine CodeK.loop gOk hE (fun i : Nat => ⟨[(1, .ptr 1 0 0), (3, vr 2003712 R.length), (4, vi i)], [(1, bBs e eP eR eL b c g o E ps l z), (2003712, rR .own true 103 R), (1000000, rI .fro false b), (1000001, rI .fro false c), (1000002, rSL .fro false e g), (1000003, rSL .fro false e o), (1000004, rPin .fro false eP ps), (1000005, rLL .fro false eR eL l), (1000006, rI .fro false z)]⟩) (fun i => i ≤ R.length ∧ ∀ j, j < i → rwQ b c g o E R j) (fun i => R.length - i) 0 (by refine leT.of ?_ ?_ rfl <;> repeat' (first | exact trivial | refine And.intro rfl ?_ | refine And.intro (by first | rfl | (simp; done)) ?_)) ⟨Nat.zero_le _, fun j hj => absurd hj (Nat.not_lt_zero _)⟩ ?_
    rintro i ⟨hi, hs⟩
    have c6 := l9Valid_run e b c g o (R.getD i (0, 0)).1 h.mt hm.1
    by_cases hv : vlB b c g o (R.getD i (0, 0)).1 = true
    · rw [hv] at c6
      repeat' (first | exact trivial | refine BS.d (fun h => ?_) (fun h => ?_) | refine BS.e (fun h => ?_) (fun h => ?_) | refine BS.ne (fun h => ?_) (fun h => ?_) | refine BS.n ?_ | refine BS.s (fun h => ?_) (fun h => ?_) | refine And.intro ?_ ?_ | (refine Need.mk ?_; first | with_reducible rfl | (show @Eq TC _ _; rfl) | omega | (simp only [adN_zero]; omega)) | exact OutS.whole rfl rfl | (refine OpK.call c6 rfl rfl rfl rfl hE ?_ rfl rfl ?_; focus ((repeat' (first | exact PsA.lit _ | exact PsA.ref rfl rfl | constructor)); all_goals (fail "ps"))) | (refine CodeK.draw gOk hE rfl (fun _ _ h => h) (.take 0 (.take 2 (.take 3 (.take 4 (.take 5 (.alt 1 (.alt 6 (.alt 7 (.take 8 (.take 9 (.take 10 (.take 11 (.take 12 (.take 13 (.take 15 (.take 16 (.alt 14 (.alt 17 (.take 18 (.take 19 .done)) .stop) (.alt 17 (.alt 14 (.take 18 (.take 19 .done)) .stop) .stop)))))))))) .stop) .stop) (.alt 6 (.alt 1 (.alt 7 (.take 8 (.take 9 (.take 10 (.take 11 (.take 12 (.take 13 (.take 15 (.take 16 (.alt 14 (.alt 17 (.take 18 (.take 19 .done)) .stop) (.alt 17 (.alt 14 (.take 18 (.take 19 .done)) .stop) .stop)))))))))) .stop) .stop) .stop))))))) ?_ ?_; focus (decide +kernel)) | refine ListO.go gOk hE ?_)
      all_goals (try simp only [adN_zero] at *)
      all_goals first
        | (exfalso; omega)
        | (refine Need.mk ?_; omega)
        | (refine Need.mk ?_; exact (allP_true (fun j hj => hs j (by omega))).symm)
        | (refine Need.mk ?_; exact (allP_false (i := i) (by omega) (fun hq => by have := hq.2; omega)).symm)
        | (refine ⟨i + 1, (by refine leT.of ?_ ?_ rfl <;> repeat' (first | exact trivial | refine And.intro rfl ?_ | refine And.intro (by simp) ?_)), ⟨by omega, fun j hj => (Nat.lt_or_ge j i).elim (hs j) (fun h9 => (show j = i by omega) ▸ ⟨hv, by omega⟩)⟩, by first | omega | (dsimp only; omega)⟩)
        | trace_state
    · have hv2 : vlB b c g o (R.getD i (0, 0)).1 = false := by simpa using hv
      rw [hv2] at c6
      repeat' (first | exact trivial | refine BS.d (fun h => ?_) (fun h => ?_) | refine BS.e (fun h => ?_) (fun h => ?_) | refine BS.ne (fun h => ?_) (fun h => ?_) | refine BS.n ?_ | refine BS.s (fun h => ?_) (fun h => ?_) | refine And.intro ?_ ?_ | (refine Need.mk ?_; first | with_reducible rfl | (show @Eq TC _ _; rfl) | omega | (simp only [adN_zero]; omega)) | exact OutS.whole rfl rfl | (refine OpK.call c6 rfl rfl rfl rfl hE ?_ rfl rfl ?_; focus ((repeat' (first | exact PsA.lit _ | exact PsA.ref rfl rfl | constructor)); all_goals (fail "ps"))) | (refine CodeK.draw gOk hE rfl (fun _ _ h => h) (.take 0 (.take 2 (.take 3 (.take 4 (.take 5 (.alt 1 (.alt 6 (.alt 7 (.take 8 (.take 9 (.take 10 (.take 11 (.take 12 (.take 13 (.take 15 (.take 16 (.alt 14 (.alt 17 (.take 18 (.take 19 .done)) .stop) (.alt 17 (.alt 14 (.take 18 (.take 19 .done)) .stop) .stop)))))))))) .stop) .stop) (.alt 6 (.alt 1 (.alt 7 (.take 8 (.take 9 (.take 10 (.take 11 (.take 12 (.take 13 (.take 15 (.take 16 (.alt 14 (.alt 17 (.take 18 (.take 19 .done)) .stop) (.alt 17 (.alt 14 (.take 18 (.take 19 .done)) .stop) .stop)))))))))) .stop) .stop) .stop))))))) ?_ ?_; focus (decide +kernel)) | refine ListO.go gOk hE ?_)
      all_goals (try simp only [adN_zero] at *)
      all_goals first
        | (exfalso; omega)
        | (refine Need.mk ?_; omega)
        | (refine Need.mk ?_; exact (allP_true (fun j hj => hs j (by omega))).symm)
        | (refine Need.mk ?_; exact (allP_false (i := i) (by omega) (fun hq => hv hq.1)).symm)
        | trace_state
  · rw [dcB_false hm] at c1
    have hb0 : bsB b c g o E ps l z = false := by unfold bsB; rw [dcB_false hm]; simp
    rw [hb0]
    refine RunT.of_vc gOk Tryz.func24 rfl rfl (Nat.le_of_ble_eq_true rfl) (by repeat' (first | exact trivial | exact ⟨_, rfl, Nat.le_refl _⟩ | exact Nat.le_of_ble_eq_true rfl | refine And.intro ?_ ?_)) (Nat.le_of_ble_eq_true rfl) rfl (fun F hE => ?_)
    repeat' (first | exact trivial | refine BS.d (fun h => ?_) (fun h => ?_) | refine BS.e (fun h => ?_) (fun h => ?_) | refine BS.ne (fun h => ?_) (fun h => ?_) | refine BS.n ?_ | refine BS.s (fun h => ?_) (fun h => ?_) | refine And.intro ?_ ?_ | (refine Need.mk ?_; first | with_reducible rfl | (show @Eq TC _ _; rfl) | omega | (simp only [adN_zero]; omega)) | exact OutS.whole rfl rfl | (refine OpK.call c1 rfl rfl rfl rfl hE ?_ rfl rfl ?_; focus ((repeat' (first | exact PsA.lit _ | exact PsA.ref rfl rfl | constructor)); all_goals (fail "ps"))) | refine ListO.go gOk hE ?_)
    all_goals first | exact Need.mk rfl | trace_state
theorem BaseOkI_run (e eP eR eL : Nat) (b c : List Int) (g o : List (List Int)) (E : Int) (ps : List PinT) (l : List (List Row)) (z : List Int) (h : BsT b c g o ps l z) : RunH Tryz.prog hT 26 [aBs e eP eR eL b c g o E ps l z] [] [ob (bsB b c g o E ps l z)] [] := by
  have c1 := h.mt.I e
  have c2 := ClockOkI_run E eP ps h.ok.hps
  have c3 := LimboOkI_run eR eL l h.ok.hl h.cn h.mx
  have c4 := HazOkI_run z (by have := h.ok.hz; omega) h.zx
  have c5 := allRows_run eR eL l h.ok.hl h.cn
  have hfl := flat_len l
  have hcn := h.cn
  by_cases hm : mmP b c g o
  · rw [dcB_true hm] at c1
    have hb0 : bsB b c g o E ps l z = (clk E ps && lOk l && hzB z && allP l.flatten.length (rwQ b c g o E l.flatten)) := by unfold bsB; rw [dcB_true hm]; simp
    rw [hb0]
    have hmx := h.mx
    generalize clk E ps = b2 at *
    generalize lOk l = b3 at *
    generalize hzB z = b4 at *
    cases b2
    · refine RunH.of_vc gOk Tryz.func26 rfl rfl (Nat.le_of_ble_eq_true rfl) (by repeat' (first | exact trivial | exact ⟨_, rfl, Nat.le_refl _⟩ | exact Nat.le_of_ble_eq_true rfl | refine And.intro ?_ ?_)) (Nat.le_of_ble_eq_true rfl) rfl (fun F hE hA => ?_)
      repeat' (first | exact trivial | refine BS.d (fun h => ?_) (fun h => ?_) | refine BS.e (fun h => ?_) (fun h => ?_) | refine BS.ne (fun h => ?_) (fun h => ?_) | refine BS.n ?_ | refine BS.s (fun h => ?_) (fun h => ?_) | refine And.intro ?_ ?_ | (refine Need.mk ?_; first | with_reducible rfl | (show @Eq TC _ _; rfl) | omega | (simp only [adN_zero]; omega)) | exact OutS.whole rfl rfl | (refine OpK.callH c1 hA rfl rfl rfl rfl hE ?_ rfl rfl ?_; focus ((repeat' (first | exact PsA.lit _ | exact PsA.ref rfl rfl | constructor)); all_goals (fail "ps"))) | (refine OpK.call c2 rfl rfl rfl rfl hE ?_ rfl rfl ?_; focus ((repeat' (first | exact PsA.lit _ | exact PsA.ref rfl rfl | constructor)); all_goals (fail "ps"))) | refine ListO.go gOk hE ?_)
      all_goals first | exact Need.mk rfl | trace_state
    cases b3
    · refine RunH.of_vc gOk Tryz.func26 rfl rfl (Nat.le_of_ble_eq_true rfl) (by repeat' (first | exact trivial | exact ⟨_, rfl, Nat.le_refl _⟩ | exact Nat.le_of_ble_eq_true rfl | refine And.intro ?_ ?_)) (Nat.le_of_ble_eq_true rfl) rfl (fun F hE hA => ?_)
      repeat' (first | exact trivial | refine BS.d (fun h => ?_) (fun h => ?_) | refine BS.e (fun h => ?_) (fun h => ?_) | refine BS.ne (fun h => ?_) (fun h => ?_) | refine BS.n ?_ | refine BS.s (fun h => ?_) (fun h => ?_) | refine And.intro ?_ ?_ | (refine Need.mk ?_; first | with_reducible rfl | (show @Eq TC _ _; rfl) | omega | (simp only [adN_zero]; omega)) | exact OutS.whole rfl rfl | (refine OpK.callH c1 hA rfl rfl rfl rfl hE ?_ rfl rfl ?_; focus ((repeat' (first | exact PsA.lit _ | exact PsA.ref rfl rfl | constructor)); all_goals (fail "ps"))) | (refine OpK.call c2 rfl rfl rfl rfl hE ?_ rfl rfl ?_; focus ((repeat' (first | exact PsA.lit _ | exact PsA.ref rfl rfl | constructor)); all_goals (fail "ps"))) | (refine OpK.call c3 rfl rfl rfl rfl hE ?_ rfl rfl ?_; focus ((repeat' (first | exact PsA.lit _ | exact PsA.ref rfl rfl | constructor)); all_goals (fail "ps"))) | refine ListO.go gOk hE ?_)
      all_goals first | exact Need.mk rfl | trace_state
    cases b4
    · refine RunH.of_vc gOk Tryz.func26 rfl rfl (Nat.le_of_ble_eq_true rfl) (by repeat' (first | exact trivial | exact ⟨_, rfl, Nat.le_refl _⟩ | exact Nat.le_of_ble_eq_true rfl | refine And.intro ?_ ?_)) (Nat.le_of_ble_eq_true rfl) rfl (fun F hE hA => ?_)
      repeat' (first | exact trivial | refine BS.d (fun h => ?_) (fun h => ?_) | refine BS.e (fun h => ?_) (fun h => ?_) | refine BS.ne (fun h => ?_) (fun h => ?_) | refine BS.n ?_ | refine BS.s (fun h => ?_) (fun h => ?_) | refine And.intro ?_ ?_ | (refine Need.mk ?_; first | with_reducible rfl | (show @Eq TC _ _; rfl) | omega | (simp only [adN_zero]; omega)) | exact OutS.whole rfl rfl | (refine OpK.callH c1 hA rfl rfl rfl rfl hE ?_ rfl rfl ?_; focus ((repeat' (first | exact PsA.lit _ | exact PsA.ref rfl rfl | constructor)); all_goals (fail "ps"))) | (refine OpK.call c2 rfl rfl rfl rfl hE ?_ rfl rfl ?_; focus ((repeat' (first | exact PsA.lit _ | exact PsA.ref rfl rfl | constructor)); all_goals (fail "ps"))) | (refine OpK.call c3 rfl rfl rfl rfl hE ?_ rfl rfl ?_; focus ((repeat' (first | exact PsA.lit _ | exact PsA.ref rfl rfl | constructor)); all_goals (fail "ps"))) | (refine OpK.call c4 rfl rfl rfl rfl hE ?_ rfl rfl ?_; focus ((repeat' (first | exact PsA.lit _ | exact PsA.ref rfl rfl | constructor)); all_goals (fail "ps"))) | refine ListO.go gOk hE ?_)
      all_goals first | exact Need.mk rfl | trace_state
    rw [show (true && true && true && allP l.flatten.length (rwQ b c g o E l.flatten)) = allP l.flatten.length (rwQ b c g o E l.flatten) from rfl]
    refine RunH.of_vc gOk Tryz.func26 rfl rfl (Nat.le_of_ble_eq_true rfl) (by repeat' (first | exact trivial | exact ⟨_, rfl, Nat.le_refl _⟩ | exact Nat.le_of_ble_eq_true rfl | refine And.intro ?_ ?_)) (Nat.le_of_ble_eq_true rfl) rfl (fun F hE hA => ?_)
    repeat' (first | exact trivial | refine BS.d (fun h => ?_) (fun h => ?_) | refine BS.e (fun h => ?_) (fun h => ?_) | refine BS.ne (fun h => ?_) (fun h => ?_) | refine BS.n ?_ | refine BS.s (fun h => ?_) (fun h => ?_) | refine And.intro ?_ ?_ | (refine Need.mk ?_; first | with_reducible rfl | (show @Eq TC _ _; rfl) | omega | (simp only [adN_zero]; omega)) | exact OutS.whole rfl rfl | (refine OpK.callH c1 hA rfl rfl rfl rfl hE ?_ rfl rfl ?_; focus ((repeat' (first | exact PsA.lit _ | exact PsA.ref rfl rfl | constructor)); all_goals (fail "ps"))) | (refine OpK.call c2 rfl rfl rfl rfl hE ?_ rfl rfl ?_; focus ((repeat' (first | exact PsA.lit _ | exact PsA.ref rfl rfl | constructor)); all_goals (fail "ps"))) | (refine OpK.call c3 rfl rfl rfl rfl hE ?_ rfl rfl ?_; focus ((repeat' (first | exact PsA.lit _ | exact PsA.ref rfl rfl | constructor)); all_goals (fail "ps"))) | (refine OpK.call c4 rfl rfl rfl rfl hE ?_ rfl rfl ?_; focus ((repeat' (first | exact PsA.lit _ | exact PsA.ref rfl rfl | constructor)); all_goals (fail "ps"))) | (refine OpK.call c5 rfl rfl rfl rfl hE ?_ rfl rfl ?_; focus ((repeat' (first | exact PsA.lit _ | exact PsA.ref rfl rfl | constructor)); all_goals (fail "ps"))) | refine ListO.go gOk hE ?_)
    have hR : l.flatten.length ≤ 1048576 := by omega
    generalize l.flatten = R at *
    refine CodeK.loop gOk hE (fun i : Nat => ⟨[(1, .ptr 1 0 0), (29, vr 2003712 R.length), (30, vi R.length), (31, vi i)], [(1, bBs e eP eR eL b c g o E ps l z), (2003712, rR .own true 103 R), (1000000, rI .fro false b), (1000001, rI .fro false c), (1000002, rSL .fro false e g), (1000003, rSL .fro false e o), (1000004, rPin .fro false eP ps), (1000005, rLL .fro false eR eL l), (1000006, rI .fro false z)]⟩) (fun i => i ≤ R.length ∧ ∀ j, j < i → rwQ b c g o E R j) (fun i => R.length - i) 0 (by refine leT.of ?_ ?_ rfl <;> repeat' (first | exact trivial | refine And.intro rfl ?_ | refine And.intro (by first | rfl | (simp; done)) ?_)) ⟨Nat.zero_le _, fun j hj => absurd hj (Nat.not_lt_zero _)⟩ ?_
    rintro i ⟨hi, hs⟩
    have c6 := validIn_run e b c g o (R.getD i (0, 0)).1 h.mt hm.1 (hmx i)
    by_cases hv : vlB b c g o (R.getD i (0, 0)).1 = true
    · rw [hv] at c6
      repeat' (first | exact trivial | refine BS.d (fun h => ?_) (fun h => ?_) | refine BS.e (fun h => ?_) (fun h => ?_) | refine BS.ne (fun h => ?_) (fun h => ?_) | refine BS.n ?_ | refine BS.s (fun h => ?_) (fun h => ?_) | refine And.intro ?_ ?_ | (refine Need.mk ?_; first | with_reducible rfl | (show @Eq TC _ _; rfl) | omega | (simp only [adN_zero]; omega)) | exact OutS.whole rfl rfl | (refine OpK.callH c6 hA rfl rfl rfl rfl hE ?_ rfl rfl ?_; focus ((repeat' (first | exact PsA.lit _ | exact PsA.ref rfl rfl | constructor)); all_goals (fail "ps"))) | refine ListO.go gOk hE ?_)
      all_goals (try simp only [adN_zero] at *)
      all_goals first
        | (exfalso; omega)
        | (refine Need.mk ?_; omega)
        | (refine Need.mk ?_; exact (allP_true (fun j hj => hs j (by omega))).symm)
        | (refine Need.mk ?_; exact (allP_false (i := i) (by omega) (fun hq => by have := hq.2; omega)).symm)
        | (refine ⟨i + 1, (by refine leT.of ?_ ?_ rfl <;> repeat' (first | exact trivial | refine And.intro rfl ?_ | refine And.intro (by simp) ?_)), ⟨by omega, fun j hj => (Nat.lt_or_ge j i).elim (hs j) (fun h9 => (show j = i by omega) ▸ ⟨hv, by omega⟩)⟩, by first | omega | (dsimp only; omega)⟩)
        | trace_state
    · have hv2 : vlB b c g o (R.getD i (0, 0)).1 = false := by simpa using hv
      rw [hv2] at c6
      repeat' (first | exact trivial | refine BS.d (fun h => ?_) (fun h => ?_) | refine BS.e (fun h => ?_) (fun h => ?_) | refine BS.ne (fun h => ?_) (fun h => ?_) | refine BS.n ?_ | refine BS.s (fun h => ?_) (fun h => ?_) | refine And.intro ?_ ?_ | (refine Need.mk ?_; first | with_reducible rfl | (show @Eq TC _ _; rfl) | omega | (simp only [adN_zero]; omega)) | exact OutS.whole rfl rfl | (refine OpK.callH c6 hA rfl rfl rfl rfl hE ?_ rfl rfl ?_; focus ((repeat' (first | exact PsA.lit _ | exact PsA.ref rfl rfl | constructor)); all_goals (fail "ps"))) | refine ListO.go gOk hE ?_)
      all_goals (try simp only [adN_zero] at *)
      all_goals first
        | (exfalso; omega)
        | (refine Need.mk ?_; omega)
        | (refine Need.mk ?_; exact (allP_true (fun j hj => hs j (by omega))).symm)
        | (refine Need.mk ?_; exact (allP_false (i := i) (by omega) (fun hq => hv hq.1)).symm)
        | (refine Need.mk ?_; exact (allP_false (i := i) (by omega) (fun hq => by have := hq.2; omega)).symm)
        | trace_state
  · rw [dcB_false hm] at c1
    have hb0 : bsB b c g o E ps l z = false := by unfold bsB; rw [dcB_false hm]; simp
    rw [hb0]
    refine RunH.of_vc gOk Tryz.func26 rfl rfl (Nat.le_of_ble_eq_true rfl) (by repeat' (first | exact trivial | exact ⟨_, rfl, Nat.le_refl _⟩ | exact Nat.le_of_ble_eq_true rfl | refine And.intro ?_ ?_)) (Nat.le_of_ble_eq_true rfl) rfl (fun F hE hA => ?_)
    repeat' (first | exact trivial | refine BS.d (fun h => ?_) (fun h => ?_) | refine BS.e (fun h => ?_) (fun h => ?_) | refine BS.ne (fun h => ?_) (fun h => ?_) | refine BS.n ?_ | refine BS.s (fun h => ?_) (fun h => ?_) | refine And.intro ?_ ?_ | (refine Need.mk ?_; first | with_reducible rfl | (show @Eq TC _ _; rfl) | omega | (simp only [adN_zero]; omega)) | exact OutS.whole rfl rfl | (refine OpK.callH c1 hA rfl rfl rfl rfl hE ?_ rfl rfl ?_; focus ((repeat' (first | exact PsA.lit _ | exact PsA.ref rfl rfl | constructor)); all_goals (fail "ps"))) | refine ListO.go gOk hE ?_)
    all_goals first | exact Need.mk rfl | trace_state
end Go.Proofs.YtpmhkpmkmbkjbaaGreatDoor
end
