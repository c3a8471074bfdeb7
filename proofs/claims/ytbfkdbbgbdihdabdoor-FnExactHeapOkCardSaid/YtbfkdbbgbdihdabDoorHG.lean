/- A page of a heap: what it must hold. -/
import Derived.Test.YtbfkdbbgbdihdabDoorHFi
import Derived.Test.YtbfkdbbgbdihdabDoorUT
namespace Go.Proofs.YtbfkdbbgbdihdabDoor
open Go Go.Tr
set_option maxRecDepth 100000
set_option maxHeartbeats 4000000
set_option linter.unusedVariables false
set_option linter.unusedSimpArgs false
def zrP (b : List Int) (lo n : Nat) : Prop := ∀ j, j < n → b.getD (lo + j) 0 = 0
def hdP (b : List Int) (lo : Nat) (k : Int) : Prop := b.getD lo 0 = 171 ∧ b.getD (lo + 1) 0 = k ∧ b.getD (lo + 2) 0 = perC k ∧ zrP b (lo + 3) 5
def gsP (b c : List Int) (p : Nat) : Prop := ∀ i : Nat, (i : Int) < perC (c.getD p 0) → 1 ≤ gnIn b c (slA p i) ∧ gnIn b c (slA p i) ≤ 7
def pgP (b c : List Int) (p : Nat) : Prop := if c.getD p 0 < 0 then zrP b (p * 64) 64 else hdP b (p * 64) (c.getD p 0) ∧ gsP b c p
noncomputable def dcB (p : Prop) : Bool := @decide p (Classical.propDecidable _)
theorem dcB_true {p : Prop} (h : p) : dcB p = true := by unfold dcB; exact @decide_eq_true _ (Classical.propDecidable _) h
theorem dcB_false {p : Prop} (h : ¬ p) : dcB p = false := by unfold dcB; exact @decide_eq_false _ (Classical.propDecidable _) h
theorem slA_at {p i : Nat} (hp : p < 6) (hi : i < 4) : slA p i = (p : Int) * 4 + i := if_pos (by omega)
theorem clIn_at {c : List Int} {p i : Nat} (hp : p < 6) (hi : (i : Int) < perC (c.getD p 0)) : clIn c (slA p i) = c.getD p 0 ∧ i < 4 := by
  have h4 : i < 4 := by rcases cls4 (c.getD p 0) with ⟨h1, h2, h3, h4⟩ | ⟨h1, h2, h3, h4⟩ | ⟨h1, h2, h3, h4⟩ | ⟨h1, h2, h3, h4⟩ <;> omega
  rw [slA_at hp h4]
  have e1 : (((p : Int) * 4 + i) / 4).toNat = p := by omega
  refine ⟨?_, h4⟩
  rw [clIn_yes (by omega) (by rw [e1]; omega), e1]
theorem genMaySet_run (x : Int) : RunT Tryd.prog 27 [ti x] [] [ob (decide (1 ≤ x ∧ x ≤ 7))] [] := by
  refine RunT.of_vc gOk Tryd.func27 rfl rfl (Nat.le_of_ble_eq_true rfl) (by repeat' (first | exact trivial | exact ⟨_, rfl, Nat.le_refl _⟩ | exact Nat.le_of_ble_eq_true rfl | refine And.intro ?_ ?_)) (Nat.le_of_ble_eq_true rfl) rfl (fun F hE => ?_)
  repeat' (first | exact trivial | refine BS.d (fun h => ?_) (fun h => ?_) | refine BS.e (fun h => ?_) (fun h => ?_) | refine BS.ne (fun h => ?_) (fun h => ?_) | refine BS.n ?_ | refine BS.s (fun h => ?_) (fun h => ?_) | refine And.intro ?_ ?_ | (refine Need.mk ?_; first | with_reducible rfl | (show @Eq TC _ _; rfl) | omega | (simp only [adN_zero]; omega)) | exact OutS.whole rfl rfl | refine ListO.go gOk hE ?_)
  all_goals (refine Need.mk ?_; first | rfl | (symm; apply decide_eq_true; omega) | (symm; apply decide_eq_false; omega) | (apply decide_eq_decide.2; omega) | (simp only [beq_iff_eq, Bool.beq_eq_decide_eq] at *; apply decide_eq_decide.2; omega) | (simp; omega))
theorem allZero_run (xs : List Int) (hn : xs.length ≤ 1048576) : RunT Tryd.prog 14 [.one (.c (tI xs))] [] [ob (decide (zeroP xs))] [] := by
  refine RunT.of_vc gOk Tryd.func14 rfl rfl (Nat.le_of_ble_eq_true rfl) (by repeat' (first | exact trivial | exact ⟨_, rfl, Nat.le_refl _⟩ | exact Nat.le_of_ble_eq_true rfl | refine And.intro ?_ ?_)) (Nat.le_of_ble_eq_true rfl) rfl (fun F hE => ?_)
  repeat' (first | exact trivial | refine BS.d (fun h => ?_) (fun h => ?_) | refine BS.e (fun h => ?_) (fun h => ?_) | refine BS.ne (fun h => ?_) (fun h => ?_) | refine BS.n ?_ | refine BS.s (fun h => ?_) (fun h => ?_) | refine And.intro ?_ ?_ | (refine Need.mk ?_; first | with_reducible rfl | (show @Eq TC _ _; rfl) | omega | (simp only [adN_zero]; omega)) | exact OutS.whole rfl rfl | refine ListO.go gOk hE ?_)
  refine CodeK.loop gOk hE (fun i : Nat => ⟨[(5, vr 1000000 xs.length), (6, vi xs.length), (7, vi i)], [(1000000, rI .fro false xs)]⟩) (fun i => i ≤ xs.length ∧ ∀ j, j < i → xs.getD j 0 = 0) (fun i => xs.length - i) 0 (by refine leT.of ?_ ?_ rfl <;> repeat' (first | exact trivial | refine And.intro rfl ?_ | refine And.intro (by simp) ?_)) ⟨Nat.zero_le _, fun j hj => absurd hj (Nat.not_lt_zero _)⟩ ?_
  rintro i ⟨hi, hq⟩
  by_cases hp : xs.getD i 0 = 0
  all_goals (repeat' (first | exact trivial | refine BS.d (fun h => ?_) (fun h => ?_) | refine BS.e (fun h => ?_) (fun h => ?_) | refine BS.ne (fun h => ?_) (fun h => ?_) | refine BS.n ?_ | refine BS.s (fun h => ?_) (fun h => ?_) | refine And.intro ?_ ?_ | (refine Need.mk ?_; first | with_reducible rfl | (show @Eq TC _ _; rfl) | omega | (simp only [adN_zero]; omega)) | exact OutS.whole rfl rfl | refine ListO.go gOk hE ?_))
  all_goals (try simp only [adN_zero] at *)
  all_goals first
    | (exfalso; first | omega | (simp_all; done))
    | (refine Need.mk ?_; omega)
    | (refine Need.mk ?_; symm; apply decide_eq_true; exact fun j hj => hq j (by omega))
    | (refine Need.mk ?_; symm; apply decide_eq_false; intro hh; exact hp (hh i (by omega)))
    | (refine ⟨i + 1, (by refine leT.of ?_ ?_ rfl <;> repeat' (first | exact trivial | refine And.intro rfl ?_ | refine And.intro (by simp) ?_)), ⟨by omega, fun j hj => (Nat.lt_or_ge j i).elim (hq j) (fun h9 => (show j = i by omega) ▸ hp)⟩, by first | omega | (dsimp only; omega)⟩)
    | trace_state
theorem pageHead_run (k : Int) : RunH Tryd.prog hT 15 [ti k] [] [.agg [.lit (.int .i64 171), .lit (.int .i64 k), .lit (.int .i64 (perC k)), .lit (.int .i64 0), .lit (.int .i64 0), .lit (.int .i64 0), .lit (.int .i64 0), .lit (.int .i64 0)]] [] := by
  have c1 := PerPageI_run k
  refine RunH.of_vc gOk Tryd.func15 rfl rfl (Nat.le_of_ble_eq_true rfl) (by repeat' (first | exact trivial | exact ⟨_, rfl, Nat.le_refl _⟩ | exact Nat.le_of_ble_eq_true rfl | refine And.intro ?_ ?_)) (Nat.le_of_ble_eq_true rfl) rfl (fun F hE hA => ?_)
  repeat' (first | exact trivial | refine BS.d (fun h => ?_) (fun h => ?_) | refine BS.e (fun h => ?_) (fun h => ?_) | refine BS.ne (fun h => ?_) (fun h => ?_) | refine BS.n ?_ | refine BS.s (fun h => ?_) (fun h => ?_) | refine And.intro ?_ ?_ | (refine Need.mk ?_; first | with_reducible rfl | (show @Eq TC _ _; rfl) | omega | (simp only [adN_zero]; omega)) | exact OutS.whole rfl rfl | (refine OpK.callH c1 hA rfl rfl rfl rfl hE ?_ rfl rfl ?_; focus ((repeat' (first | exact PsA.lit _ | exact PsA.ref rfl rfl | constructor)); all_goals (fail "ps"))) | (refine OpK.buildArr gOk rfl rfl rfl rfl rfl rfl rfl ?_) | refine ListO.go gOk hE ?_)
theorem gensOk_run (b c : List Int) (p : Nat) (hp : p < 6) (h : shP b c) : RunH Tryd.prog hT 16 [aH2 b c, ti p] [] [ob (dcB (gsP b c p))] [] := by
  have hc := h.2.1
  have hb := h.1
  have c1 := PerPageI_run (c.getD p 0)
  have hper : 0 ≤ perC (c.getD p 0) ∧ perC (c.getD p 0) ≤ 4 := by rcases cls4 (c.getD p 0) with ⟨h1, h2, h3, h4⟩ | ⟨h1, h2, h3, h4⟩ | ⟨h1, h2, h3, h4⟩ | ⟨h1, h2, h3, h4⟩ <;> omega
  refine RunH.of_vc gOk Tryd.func16 rfl rfl (Nat.le_of_ble_eq_true rfl) (by repeat' (first | exact trivial | exact ⟨_, rfl, Nat.le_refl _⟩ | exact Nat.le_of_ble_eq_true rfl | refine And.intro ?_ ?_)) (Nat.le_of_ble_eq_true rfl) rfl (fun F hE hA => ?_)
  repeat' (first | exact trivial | refine BS.d (fun h => ?_) (fun h => ?_) | refine BS.e (fun h => ?_) (fun h => ?_) | refine BS.ne (fun h => ?_) (fun h => ?_) | refine BS.n ?_ | refine BS.s (fun h => ?_) (fun h => ?_) | refine And.intro ?_ ?_ | (refine Need.mk ?_; first | with_reducible rfl | (show @Eq TC _ _; rfl) | omega | (simp only [adN_zero]; omega)) | exact OutS.whole rfl rfl | (refine OpK.callH c1 hA rfl rfl rfl rfl hE ?_ rfl rfl ?_; focus ((repeat' (first | exact PsA.lit _ | exact PsA.ref rfl rfl | constructor)); all_goals (fail "ps"))) | refine ListO.go gOk hE ?_)
  all_goals (try simp only [adN_zero] at *)
  all_goals first | (refine Need.mk ?_; omega) | skip
  refine CodeK.loop gOk hE (fun i : Nat => ⟨[(1, vi p), (2, .ptr 2 0 0), (11, vi (perC (c.getD p 0))), (12, vi i)], [(2, bH b c), (1000000, rI .fro false b), (1000001, rI .fro false c)]⟩) (fun i => (i : Int) ≤ perC (c.getD p 0) ∧ ∀ j : Nat, j < i → 1 ≤ gnIn b c (slA p j) ∧ gnIn b c (slA p j) ≤ 7) (fun i => (perC (c.getD p 0)).toNat - i) 0 (by refine leT.of ?_ ?_ rfl <;> repeat' (first | exact trivial | refine And.intro rfl ?_ | refine And.intro (by simp) ?_)) ⟨hper.1, fun j hj => absurd hj (Nat.not_lt_zero _)⟩ ?_
  rintro i ⟨hi, hq⟩
  by_cases hi2 : (i : Int) < perC (c.getD p 0)
  · obtain ⟨hk, hi4⟩ := clIn_at (c := c) hp hi2
    have c2 := SlotAtI_run p i
    have c3 := genIn_run b c (slA p i) h
    have c4 := genMaySet_run (gnIn b c (slA p i))
    by_cases hg : 1 ≤ gnIn b c (slA p i) ∧ gnIn b c (slA p i) ≤ 7
    · rw [decide_eq_true hg] at c4
      repeat' (first | exact trivial | refine BS.d (fun h => ?_) (fun h => ?_) | refine BS.e (fun h => ?_) (fun h => ?_) | refine BS.ne (fun h => ?_) (fun h => ?_) | refine BS.n ?_ | refine BS.s (fun h => ?_) (fun h => ?_) | refine And.intro ?_ ?_ | (refine Need.mk ?_; first | with_reducible rfl | (show @Eq TC _ _; rfl) | omega | (simp only [adN_zero]; omega)) | exact OutS.whole rfl rfl | (refine CodeK.draw gOk hE rfl (fun _ _ h => h) (.take 1 (.take 2 (.alt 0 (.alt 3 (.alt 4 (.alt 5 (.take 6 .done) .stop) .stop) .stop) (.alt 3 (.alt 0 (.alt 4 (.alt 5 (.take 6 .done) .stop) .stop) .stop) .stop)))) ?_ ?_; focus (decide +kernel)) | (refine OpK.call c2 rfl rfl rfl rfl hE ?_ rfl rfl ?_; focus ((repeat' (first | exact PsA.lit _ | exact PsA.ref rfl rfl | constructor)); all_goals (fail "ps"))) | (refine OpK.callH c3 hA rfl rfl rfl rfl hE ?_ rfl rfl ?_; focus ((repeat' (first | exact PsA.lit _ | exact PsA.ref rfl rfl | constructor)); all_goals (fail "ps"))) | (refine OpK.call c4 rfl rfl rfl rfl hE ?_ rfl rfl ?_; focus ((repeat' (first | exact PsA.lit _ | exact PsA.ref rfl rfl | constructor)); all_goals (fail "ps"))) | refine ListO.go gOk hE ?_)
      all_goals first
        | (exfalso; omega)
        | (refine Need.mk ?_; omega)
        | (refine ⟨i + 1, (by refine leT.of ?_ ?_ rfl <;> repeat' (first | exact trivial | refine And.intro rfl ?_ | refine And.intro (by simp) ?_)), ⟨by omega, fun j hj => (Nat.lt_or_ge j i).elim (hq j) (fun h9 => (show j = i by omega) ▸ hg)⟩, by first | omega | (dsimp only; omega)⟩)
        | trace_state
    · rw [decide_eq_false hg] at c4
      repeat' (first | exact trivial | refine BS.d (fun h => ?_) (fun h => ?_) | refine BS.e (fun h => ?_) (fun h => ?_) | refine BS.ne (fun h => ?_) (fun h => ?_) | refine BS.n ?_ | refine BS.s (fun h => ?_) (fun h => ?_) | refine And.intro ?_ ?_ | (refine Need.mk ?_; first | with_reducible rfl | (show @Eq TC _ _; rfl) | omega | (simp only [adN_zero]; omega)) | exact OutS.whole rfl rfl | (refine CodeK.draw gOk hE rfl (fun _ _ h => h) (.take 1 (.take 2 (.alt 0 (.alt 3 (.alt 4 (.alt 5 (.take 6 .done) .stop) .stop) .stop) (.alt 3 (.alt 0 (.alt 4 (.alt 5 (.take 6 .done) .stop) .stop) .stop) .stop)))) ?_ ?_; focus (decide +kernel)) | (refine OpK.call c2 rfl rfl rfl rfl hE ?_ rfl rfl ?_; focus ((repeat' (first | exact PsA.lit _ | exact PsA.ref rfl rfl | constructor)); all_goals (fail "ps"))) | (refine OpK.callH c3 hA rfl rfl rfl rfl hE ?_ rfl rfl ?_; focus ((repeat' (first | exact PsA.lit _ | exact PsA.ref rfl rfl | constructor)); all_goals (fail "ps"))) | (refine OpK.call c4 rfl rfl rfl rfl hE ?_ rfl rfl ?_; focus ((repeat' (first | exact PsA.lit _ | exact PsA.ref rfl rfl | constructor)); all_goals (fail "ps"))) | refine ListO.go gOk hE ?_)
      all_goals first
        | (exfalso; omega)
        | (refine Need.mk ?_; omega)
        | (refine Need.mk ?_; symm; apply dcB_false; intro hh; exact hg (hh i hi2))
        | trace_state
  · repeat' (first | exact trivial | refine BS.d (fun h => ?_) (fun h => ?_) | refine BS.e (fun h => ?_) (fun h => ?_) | refine BS.ne (fun h => ?_) (fun h => ?_) | refine BS.n ?_ | refine BS.s (fun h => ?_) (fun h => ?_) | refine And.intro ?_ ?_ | (refine Need.mk ?_; first | with_reducible rfl | (show @Eq TC _ _; rfl) | omega | (simp only [adN_zero]; omega)) | exact OutS.whole rfl rfl | refine ListO.go gOk hE ?_)
    all_goals first
      | (exfalso; omega)
      | (refine Need.mk ?_; symm; apply dcB_true; exact fun j hj => hq j (by omega))
      | trace_state
end Go.Proofs.YtbfkdbbgbdihdabDoor
