import Derived.Test.YthhjlcoijnjkdaaWKo
import Derived.Test.YthhjlcoijnjkdaaWIa
import Derived.Test.YthhjlcoijnjkdaaWM
import Derived.Test.YthhjlcoijnjkdaaWCmd
namespace Go.Proofs.Ythhjlcoijnjkdaa
open Go Go.Tr
set_option maxRecDepth 100000
set_option maxHeartbeats 4000000
set_option linter.unusedVariables false
set_option linter.unusedSimpArgs false
def cmOk (x : CmdT) : Bool := decide ((0 ≤ x.2.1 ∧ x.2.1 ≤ 99) ∧ (((x.1 = 2 ∨ x.1 = 4) ∧ 0 ≤ x.2.2 ∧ x.2.2 ≤ 65535) ∨ ((x.1 = 1 ∨ x.1 = 3) ∧ x.2.2 = 0)))
theorem CmdOkS_run (x : CmdT) : RunT Try.prog 51 [aCmd x] [] [ob (cmOk x)] [] := by
  unfold cmOk
  refine RunT.of_vc gOk Try.func51 rfl rfl (Nat.le_of_ble_eq_true rfl) (by repeat' (first | exact trivial | exact ⟨_, rfl, Nat.le_refl _⟩ | exact Nat.le_of_ble_eq_true rfl | refine And.intro ?_ ?_)) (Nat.le_of_ble_eq_true rfl) rfl (fun F hE => ?_)
  repeat' (first | exact trivial | refine BS.d (fun h => ?_) (fun h => ?_) | refine BS.e (fun h => ?_) (fun h => ?_) | refine BS.ne (fun h => ?_) (fun h => ?_) | refine BS.n ?_ | refine BS.s (fun h => ?_) (fun h => ?_) | refine And.intro ?_ ?_ | (refine Need.mk ?_; first | with_reducible rfl | (show @Eq TC _ _; rfl) | omega | (simp only [adN_zero]; omega)) | exact OutS.whole rfl rfl | (refine OpK.call (l1In_run ?_ ?_ ?_) rfl rfl rfl rfl hE ?_ rfl rfl ?_; rotate_left 3; focus ((repeat' (first | exact PsA.lit _ | exact PsA.ref rfl rfl | constructor)); all_goals (fail "ps"))))
  all_goals (refine Need.mk ?_; first | rfl | (symm; apply decide_eq_true; omega) | (symm; apply decide_eq_false; omega) | (apply decide_eq_decide.2; omega) | (simp only [beq_iff_eq, Bool.beq_eq_decide_eq] at *; apply decide_eq_decide.2; omega) | (simp; omega))
theorem CmdOkI_run (x : CmdT) : RunT Try.prog 53 [aCmd x] [] [ob (cmOk x)] [] := by
  unfold cmOk
  refine RunT.of_vc gOk Try.func53 rfl rfl (Nat.le_of_ble_eq_true rfl) (by repeat' (first | exact trivial | exact ⟨_, rfl, Nat.le_refl _⟩ | exact Nat.le_of_ble_eq_true rfl | refine And.intro ?_ ?_)) (Nat.le_of_ble_eq_true rfl) rfl (fun F hE => ?_)
  repeat' (first | exact trivial | refine BS.d (fun h => ?_) (fun h => ?_) | refine BS.e (fun h => ?_) (fun h => ?_) | refine BS.ne (fun h => ?_) (fun h => ?_) | refine BS.n ?_ | refine BS.s (fun h => ?_) (fun h => ?_) | refine And.intro ?_ ?_ | (refine Need.mk ?_; first | with_reducible rfl | (show @Eq TC _ _; rfl) | omega | (simp only [adN_zero]; omega)) | exact OutS.whole rfl rfl | (refine OpK.call (keyOk_run ?_) rfl rfl rfl rfl hE ?_ rfl rfl ?_; rotate_left 1; focus ((repeat' (first | exact PsA.lit _ | exact PsA.ref rfl rfl | constructor)); all_goals (fail "ps"))) | (refine OpK.call (valOk_run ?_) rfl rfl rfl rfl hE ?_ rfl rfl ?_; rotate_left 1; focus ((repeat' (first | exact PsA.lit _ | exact PsA.ref rfl rfl | constructor)); all_goals (fail "ps"))))
  all_goals (refine Need.mk ?_; first | rfl | (symm; apply decide_eq_true; omega) | (symm; apply decide_eq_false; omega) | (apply decide_eq_decide.2; omega) | (simp only [beq_iff_eq, Bool.beq_eq_decide_eq] at *; apply decide_eq_decide.2; omega) | (simp; omega))
abbrev aBat (b : Bool) (e : Nat) (xs : List CmdT) : TAg := .agg [.c (.lit (.bool b)), .c (tCmd e xs)]
def pb (xs : List CmdT) (j : Nat) : Prop := cmOk (xs.getD j zCmd) = true
noncomputable def bok (b : Bool) (xs : List CmdT) : Bool := if b = true then decide (xs.length = 0) else allP xs.length (pb xs) && decide (1 ≤ xs.length ∧ xs.length ≤ 6)
theorem bok_on {xs : List CmdT} {b : Bool} (hb : b = true) : bok b xs = decide (xs.length = 0) := by unfold bok; rw [if_pos hb]
theorem bok_off {xs : List CmdT} {b : Bool} (hb : b = false) : bok b xs = (allP xs.length (pb xs) && decide (1 ≤ xs.length ∧ xs.length ≤ 6)) := by unfold bok; rw [if_neg (by simp [hb])]
theorem BatchOkS_run (b : Bool) (e : Nat) (xs : List CmdT) (hn : xs.length ≤ 1048576) : RunT Try.prog 27 [aBat b e xs] [] [ob (bok b xs)] [] := by
  have c0 := l1In_run xs.length 1 6
  cases b
  · refine RunT.of_vc gOk Try.func27 rfl rfl (Nat.le_of_ble_eq_true rfl) (by repeat' (first | exact trivial | exact ⟨_, rfl, Nat.le_refl _⟩ | exact Nat.le_of_ble_eq_true rfl | refine And.intro ?_ ?_)) (Nat.le_of_ble_eq_true rfl) rfl (fun F hE => ?_)
    repeat' (first | exact trivial | refine BS.d (fun h => ?_) (fun h => ?_) | refine BS.e (fun h => ?_) (fun h => ?_) | refine BS.ne (fun h => ?_) (fun h => ?_) | refine BS.n ?_ | refine BS.s (fun h => ?_) (fun h => ?_) | refine And.intro ?_ ?_ | (refine Need.mk ?_; first | with_reducible rfl | (show @Eq TC _ _; rfl) | omega | (simp only [adN_zero]; omega)) | exact OutS.whole rfl rfl)
    refine CodeK.loop gOk hE (fun i : Nat => ⟨[(1, .ptr 1 0 0), (3, vi i)], [(1, .box 46 [.cl (.lit (.bool false)), .ref 1000000 0 xs.length]), (1000000, rCmd .fro false e xs)]⟩) (fun i => i ≤ xs.length ∧ ∀ j, j < i → pb xs j) (fun i => xs.length - i) 0 (by refine leT.of ?_ ?_ rfl <;> repeat' (first | exact trivial | refine And.intro rfl ?_ | refine And.intro (by simp) ?_)) ⟨Nat.zero_le _, fun j hj => absurd hj (Nat.not_lt_zero _)⟩ ?_
    rintro i ⟨hi, hs⟩
    have c1 := CmdOkS_run (xs.getD i zCmd)
    rcases hck : cmOk (xs.getD i zCmd)
    all_goals rw [hck] at c1
    all_goals (repeat' (first | exact trivial | refine BS.d (fun h => ?_) (fun h => ?_) | refine BS.e (fun h => ?_) (fun h => ?_) | refine BS.ne (fun h => ?_) (fun h => ?_) | refine BS.n ?_ | refine BS.s (fun h => ?_) (fun h => ?_) | refine And.intro ?_ ?_ | (refine Need.mk ?_; first | with_reducible rfl | (show @Eq TC _ _; rfl) | omega | (simp only [adN_zero]; omega)) | exact OutS.whole rfl rfl | (refine OpK.call c0 rfl rfl rfl rfl hE ?_ rfl rfl ?_; focus ((repeat' (first | exact PsA.lit _ | exact PsA.ref rfl rfl | constructor)); all_goals (fail "ps"))) | (refine OpK.call c1 rfl rfl rfl rfl hE ?_ rfl rfl ?_; focus ((repeat' (first | exact PsA.lit _ | exact PsA.ref rfl rfl | constructor)); all_goals (fail "ps")))))
    all_goals (try simp only [adN_zero] at *)
    all_goals first
      | (exfalso; omega)
      | (refine Need.mk ?_; omega)
      | (refine Need.mk ?_; rw [bok_off rfl, allP_false (i := i) (by omega) (fun hp => absurd hp (by unfold pb; simp_all))]; rfl)
      | (refine Need.mk ?_; rw [bok_off rfl, allP_true (fun j hj => hs j (by omega)), Bool.true_and]; first | (apply decide_eq_decide.2; omega) | (symm; apply decide_eq_true; omega))
      | (have hpm : pb xs i := (by assumption); refine ⟨i + 1, (by refine leT.of ?_ ?_ rfl <;> repeat' (first | exact trivial | refine And.intro rfl ?_ | refine And.intro (by simp) ?_)), ⟨by omega, fun j hj => (Nat.lt_or_ge j i).elim (hs j) (fun h9 => (show j = i by omega) ▸ hpm)⟩, by first | omega | (dsimp only; omega)⟩)
      | trace_state
  · refine RunT.of_vc gOk Try.func27 rfl rfl (Nat.le_of_ble_eq_true rfl) (by repeat' (first | exact trivial | exact ⟨_, rfl, Nat.le_refl _⟩ | exact Nat.le_of_ble_eq_true rfl | refine And.intro ?_ ?_)) (Nat.le_of_ble_eq_true rfl) rfl (fun F hE => ?_)
    repeat' (first | exact trivial | refine BS.d (fun h => ?_) (fun h => ?_) | refine BS.e (fun h => ?_) (fun h => ?_) | refine BS.ne (fun h => ?_) (fun h => ?_) | refine BS.n ?_ | refine BS.s (fun h => ?_) (fun h => ?_) | refine And.intro ?_ ?_ | (refine Need.mk ?_; first | with_reducible rfl | (show @Eq TC _ _; rfl) | omega | (simp only [adN_zero]; omega)) | exact OutS.whole rfl rfl)
    all_goals (refine Need.mk ?_; rw [bok_on rfl, Bool.beq_eq_decide_eq]; apply decide_eq_decide.2; omega)
theorem BatchOkI_run (b : Bool) (e : Nat) (xs : List CmdT) (hn : xs.length ≤ 1048576) : RunT Try.prog 29 [aBat b e xs] [] [ob (bok b xs)] [] := by
  cases b
  · refine RunT.of_vc gOk Try.func29 rfl rfl (Nat.le_of_ble_eq_true rfl) (by repeat' (first | exact trivial | exact ⟨_, rfl, Nat.le_refl _⟩ | exact Nat.le_of_ble_eq_true rfl | refine And.intro ?_ ?_)) (Nat.le_of_ble_eq_true rfl) rfl (fun F hE => ?_)
    repeat' (first | exact trivial | refine BS.d (fun h => ?_) (fun h => ?_) | refine BS.e (fun h => ?_) (fun h => ?_) | refine BS.ne (fun h => ?_) (fun h => ?_) | refine BS.n ?_ | refine BS.s (fun h => ?_) (fun h => ?_) | refine And.intro ?_ ?_ | (refine Need.mk ?_; first | with_reducible rfl | (show @Eq TC _ _; rfl) | omega | (simp only [adN_zero]; omega)) | exact OutS.whole rfl rfl)
    all_goals first
      | (refine Need.mk ?_; rw [bok_off rfl, decide_eq_false (p := 1 ≤ xs.length ∧ xs.length ≤ 6) (by omega), Bool.and_false])
      | skip
    refine CodeK.loop gOk hE (fun i : Nat => ⟨[(22, vr 1000000 xs.length), (23, vi xs.length), (24, vi i)], [(1000000, rCmd .fro false e xs)]⟩) (fun i => i ≤ xs.length ∧ ∀ j, j < i → pb xs j) (fun i => xs.length - i) 0 (by refine leT.of ?_ ?_ rfl <;> repeat' (first | exact trivial | refine And.intro rfl ?_ | refine And.intro (by simp) ?_)) ⟨Nat.zero_le _, fun j hj => absurd hj (Nat.not_lt_zero _)⟩ ?_
    rintro i ⟨hi, hs⟩
    have c1 := CmdOkI_run (xs.getD i zCmd)
    rcases hck : cmOk (xs.getD i zCmd)
    all_goals rw [hck] at c1
    all_goals (repeat' (first | exact trivial | refine BS.d (fun h => ?_) (fun h => ?_) | refine BS.e (fun h => ?_) (fun h => ?_) | refine BS.ne (fun h => ?_) (fun h => ?_) | refine BS.n ?_ | refine BS.s (fun h => ?_) (fun h => ?_) | refine And.intro ?_ ?_ | (refine Need.mk ?_; first | with_reducible rfl | (show @Eq TC _ _; rfl) | omega | (simp only [adN_zero]; omega)) | exact OutS.whole rfl rfl | (refine OpK.call c1 rfl rfl rfl rfl hE ?_ rfl rfl ?_; focus ((repeat' (first | exact PsA.lit _ | exact PsA.ref rfl rfl | constructor)); all_goals (fail "ps")))))
    all_goals (try simp only [adN_zero] at *)
    all_goals first
      | (exfalso; omega)
      | (refine Need.mk ?_; omega)
      | (refine Need.mk ?_; rw [bok_off rfl, allP_false (i := i) (by omega) (fun hp => absurd hp (by unfold pb; simp_all))]; rfl)
      | (refine Need.mk ?_; rw [bok_off rfl, allP_true (fun j hj => hs j (by omega)), Bool.true_and]; first | (apply decide_eq_decide.2; omega) | (symm; apply decide_eq_true; omega))
      | (have hpm : pb xs i := (by assumption); refine ⟨i + 1, (by refine leT.of ?_ ?_ rfl <;> repeat' (first | exact trivial | refine And.intro rfl ?_ | refine And.intro (by simp) ?_)), ⟨by omega, fun j hj => (Nat.lt_or_ge j i).elim (hs j) (fun h9 => (show j = i by omega) ▸ hpm)⟩, by first | omega | (dsimp only; omega)⟩)
      | trace_state
  · refine RunT.of_vc gOk Try.func29 rfl rfl (Nat.le_of_ble_eq_true rfl) (by repeat' (first | exact trivial | exact ⟨_, rfl, Nat.le_refl _⟩ | exact Nat.le_of_ble_eq_true rfl | refine And.intro ?_ ?_)) (Nat.le_of_ble_eq_true rfl) rfl (fun F hE => ?_)
    repeat' (first | exact trivial | refine BS.d (fun h => ?_) (fun h => ?_) | refine BS.e (fun h => ?_) (fun h => ?_) | refine BS.ne (fun h => ?_) (fun h => ?_) | refine BS.n ?_ | refine BS.s (fun h => ?_) (fun h => ?_) | refine And.intro ?_ ?_ | (refine Need.mk ?_; first | with_reducible rfl | (show @Eq TC _ _; rfl) | omega | (simp only [adN_zero]; omega)) | exact OutS.whole rfl rfl)
    all_goals (refine Need.mk ?_; rw [bok_on rfl, Bool.beq_eq_decide_eq]; apply decide_eq_decide.2; omega)
theorem szBatch_run (b : Bool) (e : Nat) (xs : List CmdT) (m : Int) (h0 : 0 ≤ m) (h1 : m ≤ 1048576) (hn : xs.length ≤ 9223372036854775807) : RunT Try.prog 26 [aBat b e xs, ti m] [] [oi (szI xs m)] [] := by
  have c0 := szCmdS_run e xs m h0 h1 hn
  refine RunT.of_vc gOk Try.func26 rfl rfl (Nat.le_of_ble_eq_true rfl) (by repeat' (first | exact trivial | exact ⟨_, rfl, Nat.le_refl _⟩ | exact Nat.le_of_ble_eq_true rfl | refine And.intro ?_ ?_)) (Nat.le_of_ble_eq_true rfl) rfl (fun F hE => ?_)
  repeat' (first | exact trivial | refine BS.d (fun h => ?_) (fun h => ?_) | refine BS.e (fun h => ?_) (fun h => ?_) | refine BS.ne (fun h => ?_) (fun h => ?_) | refine BS.n ?_ | refine BS.s (fun h => ?_) (fun h => ?_) | refine And.intro ?_ ?_ | (refine Need.mk ?_; first | with_reducible rfl | (show @Eq TC _ _; rfl) | omega | (simp only [adN_zero]; omega)) | exact OutS.whole rfl rfl | (refine OpK.call c0 rfl rfl rfl rfl hE ?_ rfl rfl ?_; focus ((repeat' (first | exact PsA.lit _ | exact PsA.ref rfl rfl | constructor)); all_goals (fail "ps"))))
  all_goals (refine Need.mk ?_; unfold szI at *; split at * <;> simp_all <;> omega)
theorem toBatch_run (b : Bool) (e : Nat) (xs : List CmdT) (hn : xs.length ≤ 1048576) : RunT Try.prog 28 [aBat b e xs] [] [.agg [.lit (.bool b), tCmd 75 xs]] [] := by
  have c0 := toCmdS_run e xs hn
  refine RunT.of_vc gOk Try.func28 rfl rfl (Nat.le_of_ble_eq_true rfl) (by repeat' (first | exact trivial | exact ⟨_, rfl, Nat.le_refl _⟩ | exact Nat.le_of_ble_eq_true rfl | refine And.intro ?_ ?_)) (Nat.le_of_ble_eq_true rfl) rfl (fun F hE => ?_)
  repeat' (first | exact trivial | refine BS.d (fun h => ?_) (fun h => ?_) | refine BS.e (fun h => ?_) (fun h => ?_) | refine BS.ne (fun h => ?_) (fun h => ?_) | refine BS.n ?_ | refine BS.s (fun h => ?_) (fun h => ?_) | refine And.intro ?_ ?_ | (refine Need.mk ?_; first | with_reducible rfl | (show @Eq TC _ _; rfl) | omega | (simp only [adN_zero]; omega)) | exact OutS.whole rfl rfl | (refine OpK.call c0 rfl rfl rfl rfl hE ?_ rfl rfl ?_; focus ((repeat' (first | exact PsA.lit _ | exact PsA.ref rfl rfl | constructor)); all_goals (fail "ps"))))
theorem eqBatch_run (b : Bool) (e : Nat) (xs : List CmdT) (hn : xs.length ≤ 4000000) : RunT Try.prog 30 [aBat b e xs, aBat b e xs] [] [ob true] [] := by
  have c0 := eqCmdS_run e xs hn
  refine RunT.of_vc gOk Try.func30 rfl rfl (Nat.le_of_ble_eq_true rfl) (by repeat' (first | exact trivial | exact ⟨_, rfl, Nat.le_refl _⟩ | exact Nat.le_of_ble_eq_true rfl | refine And.intro ?_ ?_)) (Nat.le_of_ble_eq_true rfl) rfl (fun F hE => ?_)
  repeat' (first | exact trivial | refine BS.d (fun h => ?_) (fun h => ?_) | refine BS.e (fun h => ?_) (fun h => ?_) | refine BS.ne (fun h => ?_) (fun h => ?_) | refine BS.n ?_ | refine BS.s (fun h => ?_) (fun h => ?_) | refine And.intro ?_ ?_ | (refine Need.mk ?_; first | with_reducible rfl | (show @Eq TC _ _; rfl) | omega | (simp only [adN_zero]; omega)) | exact OutS.whole rfl rfl | (refine OpK.call c0 rfl rfl rfl rfl hE ?_ rfl rfl ?_; focus ((repeat' (first | exact PsA.lit _ | exact PsA.ref rfl rfl | constructor)); all_goals (fail "ps"))))
  all_goals (first | exact absurd rfl ‹_› | simp_all)
theorem BatchOk_law (b : Bool) (xs : List CmdT) (hn : xs.length ≤ 9223372036854775807) : RunT Try.prog 8 [aBat b 0 xs] [] [ob true] [] := by
  refine RunT.of_vc gOk Try.func8 rfl rfl (Nat.le_of_ble_eq_true rfl) (by repeat' (first | exact trivial | exact ⟨_, rfl, Nat.le_refl _⟩ | exact Nat.le_of_ble_eq_true rfl | refine And.intro ?_ ?_)) (Nat.le_of_ble_eq_true rfl) rfl (fun F hE => ?_)
  repeat' (first | exact trivial | refine BS.d (fun h => ?_) (fun h => ?_) | refine BS.e (fun h => ?_) (fun h => ?_) | refine BS.ne (fun h => ?_) (fun h => ?_) | refine BS.n ?_ | refine BS.s (fun h => ?_) (fun h => ?_) | refine And.intro ?_ ?_ | (refine Need.mk ?_; first | with_reducible rfl | (show @Eq TC _ _; rfl) | omega | (simp only [adN_zero]; omega)) | exact OutS.whole rfl rfl)
  refine OpK.call (szBatch_run b 0 xs 1048576 (by omega) (by omega) hn) rfl rfl rfl rfl hE (by repeat' (first | exact PsA.lit _ | exact PsA.ref rfl rfl | constructor)) rfl rfl ?_
  repeat' (first | exact trivial | refine BS.d (fun h => ?_) (fun h => ?_) | refine BS.e (fun h => ?_) (fun h => ?_) | refine BS.ne (fun h => ?_) (fun h => ?_) | refine BS.n ?_ | refine BS.s (fun h => ?_) (fun h => ?_) | refine And.intro ?_ ?_ | (refine Need.mk ?_; first | with_reducible rfl | (show @Eq TC _ _; rfl) | omega | (simp only [adN_zero]; omega)) | exact OutS.whole rfl rfl)
  have b0 := szI_le (xs := xs) (m := 1048576) (by omega)
  have hm : xs.length ≤ 1048576 := by omega
  have c1 := toBatch_run b 0 xs hm
  have c2 := BatchOkS_run b 75 xs hm
  have c3 := BatchOkI_run b 75 xs hm
  have c4 := eqBatch_run b 75 xs (by omega)
  repeat' (first | exact trivial | refine BS.d (fun h => ?_) (fun h => ?_) | refine BS.e (fun h => ?_) (fun h => ?_) | refine BS.ne (fun h => ?_) (fun h => ?_) | refine BS.n ?_ | refine BS.s (fun h => ?_) (fun h => ?_) | refine And.intro ?_ ?_ | (refine Need.mk ?_; first | with_reducible rfl | (show @Eq TC _ _; rfl) | omega | (simp only [adN_zero]; omega)) | exact OutS.whole rfl rfl | (refine OpK.call c1 rfl rfl rfl rfl hE ?_ rfl rfl ?_; focus ((repeat' (first | exact PsA.lit _ | exact PsA.ref rfl rfl | constructor)); all_goals (fail "ps"))) | (refine OpK.call c2 rfl rfl rfl rfl hE ?_ rfl rfl ?_; focus ((repeat' (first | exact PsA.lit _ | exact PsA.ref rfl rfl | constructor)); all_goals (fail "ps"))) | (refine OpK.call c3 rfl rfl rfl rfl hE ?_ rfl rfl ?_; focus ((repeat' (first | exact PsA.lit _ | exact PsA.ref rfl rfl | constructor)); all_goals (fail "ps"))) | (refine OpK.call c4 rfl rfl rfl rfl hE ?_ rfl rfl ?_; focus ((repeat' (first | exact PsA.lit _ | exact PsA.ref rfl rfl | constructor)); all_goals (fail "ps"))) | (refine CodeK.draw gOk hE rfl (fun _ _ h => h) (.alt 0 (.alt 1 (.alt 2 (.alt 3 (.take 4 .done) .stop) .stop) .stop) (.alt 1 (.alt 0 (.alt 2 (.alt 3 (.take 4 .done) .stop) .stop) (.alt 2 (.alt 0 (.alt 3 (.take 4 .done) .stop) .stop) .stop)) .stop)) ?_ ?_; focus (decide +kernel)))
  all_goals first | exact absurd rfl h | trace_state
end Go.Proofs.Ythhjlcoijnjkdaa
