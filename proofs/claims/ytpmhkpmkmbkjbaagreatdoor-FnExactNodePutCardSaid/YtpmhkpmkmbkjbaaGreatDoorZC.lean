import Derived.Test.YtpmhkpmkmbkjbaaGreatDoorZB
section
/- A page of a heap: what it must hold. -/
namespace Go.Proofs.YtpmhkpmkmbkjbaaGreatDoor
open Go Go.Tr
set_option maxRecDepth 100000
set_option maxHeartbeats 4000000
set_option linter.unusedVariables false
set_option linter.unusedSimpArgs false
def zrP (b : List Int) (lo n : Nat) : Prop := ∀ j, j < n → b.getD (lo + j) 0 = 0
def hdP (b : List Int) (lo : Nat) (k : Int) : Prop := b.getD lo 0 = 171 ∧ b.getD (lo + 1) 0 = k ∧ b.getD (lo + 2) 0 = perC k ∧ zrP b (lo + 3) 5
def gsP (b c : List Int) (p : Nat) : Prop := ∀ i : Nat, (i : Int) < perC (c.getD p 0) → 1 ≤ gnIn b c (slA p i) ∧ gnIn b c (slA p i) ≤ 7
def pgP (b c : List Int) (p : Nat) : Prop := if c.getD p 0 < 0 then zrP b (p * 64) 64 else hdP b (p * 64) (c.getD p 0) ∧ gsP b c p
noncomputable def dcB (p : Prop) : Bool := @decide p (Classical.propDecidable _)
theorem dcB_true {p : Prop} (h : p) : dcB p = true := by unfold dcB; exact @decide_eq_true _ (Classical.propDecidable _) h
theorem dcB_false {p : Prop} (h : ¬ p) : dcB p = false := by unfold dcB; exact @decide_eq_false _ (Classical.propDecidable _) h
theorem slA_at {p i : Nat} (hp : p < 6) (hi : i < 4) : slA p i = (p : Int) * 4 + i := if_pos (by omega)
theorem clIn_at {c : List Int} {p i : Nat} (hp : p < 6) (hi : (i : Int) < perC (c.getD p 0)) : clIn c (slA p i) = c.getD p 0 ∧ i < 4 := by
  have h4 : i < 4 := by rcases cls4 (c.getD p 0) with ⟨h1, h2, h3, h4⟩ | ⟨h1, h2, h3, h4⟩ | ⟨h1, h2, h3, h4⟩ | ⟨h1, h2, h3, h4⟩ <;> omega
  rw [slA_at hp h4]
  have e1 : (((p : Int) * 4 + i) / 4).toNat = p := by omega
  refine ⟨?_, h4⟩
  rw [clIn_yes (by omega) (by rw [e1]; omega), e1]
theorem genMaySet_run (x : Int) : RunT Tryz.prog 159 [ti x] [] [ob (decide (1 ≤ x ∧ x ≤ 7))] [] := by
  refine RunT.of_vc gOk Tryz.func159 rfl rfl (Nat.le_of_ble_eq_true rfl) (by repeat' (first | exact trivial | exact ⟨_, rfl, Nat.le_refl _⟩ | exact Nat.le_of_ble_eq_true rfl | refine And.intro ?_ ?_)) (Nat.le_of_ble_eq_true rfl) rfl (fun F hE => ?_)
  repeat' (first | exact trivial | refine BS.d (fun h => ?_) (fun h => ?_) | refine BS.e (fun h => ?_) (fun h => ?_) | refine BS.ne (fun h => ?_) (fun h => ?_) | refine BS.n ?_ | refine BS.s (fun h => ?_) (fun h => ?_) | refine And.intro ?_ ?_ | (refine Need.mk ?_; first | with_reducible rfl | (show @Eq TC _ _; rfl) | omega | (simp only [adN_zero]; omega)) | exact OutS.whole rfl rfl | refine ListO.go gOk hE ?_)
  all_goals (refine Need.mk ?_; first | rfl | (symm; apply decide_eq_true; omega) | (symm; apply decide_eq_false; omega) | (apply decide_eq_decide.2; omega) | (simp only [beq_iff_eq, Bool.beq_eq_decide_eq] at *; apply decide_eq_decide.2; omega) | (simp; omega))
theorem allZero_run (xs : List Int) (hn : xs.length ≤ 1048576) : RunT Tryz.prog 189 [.one (.c (tI xs))] [] [ob (decide (zeroP xs))] [] := by
  refine RunT.of_vc gOk Tryz.func189 rfl rfl (Nat.le_of_ble_eq_true rfl) (by repeat' (first | exact trivial | exact ⟨_, rfl, Nat.le_refl _⟩ | exact Nat.le_of_ble_eq_true rfl | refine And.intro ?_ ?_)) (Nat.le_of_ble_eq_true rfl) rfl (fun F hE => ?_)
  repeat' (first | exact trivial | refine BS.d (fun h => ?_) (fun h => ?_) | refine BS.e (fun h => ?_) (fun h => ?_) | refine BS.ne (fun h => ?_) (fun h => ?_) | refine BS.n ?_ | refine BS.s (fun h => ?_) (fun h => ?_) | refine And.intro ?_ ?_ | (refine Need.mk ?_; first | with_reducible rfl | (show @Eq TC _ _; rfl) | omega | (simp only [adN_zero]; omega)) | exact OutS.whole rfl rfl | refine ListO.go gOk hE ?_)
  refine CodeK.loop gOk hE (fun i : Nat => ⟨[(5, vr 1000000 xs.length), (6, vi xs.length), (7, vi i)], [(1000000, rI .fro false xs)]⟩) (fun i => i ≤ xs.length ∧ ∀ j, j < i → xs.getD j 0 = 0) (fun i => xs.length - i) 0 (by refine leT.of ?_ ?_ rfl <;> repeat' (first | exact trivial | refine And.intro rfl ?_ | refine And.intro (by simp) ?_)) ⟨Nat.zero_le _, fun j hj => absurd hj (Nat.not_lt_zero _)⟩ ?_
  rintro i ⟨hi, hq⟩
  by_cases hp : xs.getD i 0 = 0
  all_goals (repeat' (first | exact trivial | refine BS.d (fun h => ?_) (fun h => ?_) | refine BS.e (fun h => ?_) (fun h => ?_) | refine BS.ne (fun h => ?_) (fun h => ?_) | refine BS.n ?_ | refine BS.s (fun h => ?_) (fun h => ?_) | refine And.intro ?_ ?_ | (refine Need.mk ?_; first | with_reducible rfl | (show @Eq TC _ _; rfl) | omega | (simp only [adN_zero]; omega)) | exact OutS.whole rfl rfl | refine ListO.go gOk hE ?_))
  all_goals (try simp only [adN_zero] at *)
  all_goals first
    | (exfalso; first | omega | (simp_all; done))
    | (refine Need.mk ?_; omega)
    | (refine Need.mk ?_; symm; apply decide_eq_true; exact fun j hj => hq j (by omega))
    | (refine Need.mk ?_; symm; apply decide_eq_false; intro hh; exact hp (hh i (by omega)))
    | (refine ⟨i + 1, (by refine leT.of ?_ ?_ rfl <;> repeat' (first | exact trivial | refine And.intro rfl ?_ | refine And.intro (by simp) ?_)), ⟨by omega, fun j hj => (Nat.lt_or_ge j i).elim (hq j) (fun h9 => (show j = i by omega) ▸ hp)⟩, by first | omega | (dsimp only; omega)⟩)
    | trace_state
theorem pageHead_run (k : Int) : RunH Tryz.prog hT 190 [ti k] [] [.agg [.lit (.int .i64 171), .lit (.int .i64 k), .lit (.int .i64 (perC k)), .lit (.int .i64 0), .lit (.int .i64 0), .lit (.int .i64 0), .lit (.int .i64 0), .lit (.int .i64 0)]] [] := by
  have c1 := PerPageI_run k
  refine RunH.of_vc gOk Tryz.func190 rfl rfl (Nat.le_of_ble_eq_true rfl) (by repeat' (first | exact trivial | exact ⟨_, rfl, Nat.le_refl _⟩ | exact Nat.le_of_ble_eq_true rfl | refine And.intro ?_ ?_)) (Nat.le_of_ble_eq_true rfl) rfl (fun F hE hA => ?_)
  repeat' (first | exact trivial | refine BS.d (fun h => ?_) (fun h => ?_) | refine BS.e (fun h => ?_) (fun h => ?_) | refine BS.ne (fun h => ?_) (fun h => ?_) | refine BS.n ?_ | refine BS.s (fun h => ?_) (fun h => ?_) | refine And.intro ?_ ?_ | (refine Need.mk ?_; first | with_reducible rfl | (show @Eq TC _ _; rfl) | omega | (simp only [adN_zero]; omega)) | exact OutS.whole rfl rfl | (refine OpK.callH c1 hA rfl rfl rfl rfl hE ?_ rfl rfl ?_; focus ((repeat' (first | exact PsA.lit _ | exact PsA.ref rfl rfl | constructor)); all_goals (fail "ps"))) | (refine OpK.buildArr gOk rfl rfl rfl rfl rfl rfl rfl ?_) | refine ListO.go gOk hE ?_)
theorem gensOk_run (b c : List Int) (p : Nat) (hp : p < 6) (h : shP b c) : RunH Tryz.prog hT 191 [aH2 b c, ti p] [] [ob (dcB (gsP b c p))] [] := by
  have hc := h.2.1
  have hb := h.1
  have c1 := PerPageI_run (c.getD p 0)
  have hper : 0 ≤ perC (c.getD p 0) ∧ perC (c.getD p 0) ≤ 4 := by rcases cls4 (c.getD p 0) with ⟨h1, h2, h3, h4⟩ | ⟨h1, h2, h3, h4⟩ | ⟨h1, h2, h3, h4⟩ | ⟨h1, h2, h3, h4⟩ <;> omega
  refine RunH.of_vc gOk Tryz.func191 rfl rfl (Nat.le_of_ble_eq_true rfl) (by repeat' (first | exact trivial | exact ⟨_, rfl, Nat.le_refl _⟩ | exact Nat.le_of_ble_eq_true rfl | refine And.intro ?_ ?_)) (Nat.le_of_ble_eq_true rfl) rfl (fun F hE hA => ?_)
  repeat' (first | exact trivial | refine BS.d (fun h => ?_) (fun h => ?_) | refine BS.e (fun h => ?_) (fun h => ?_) | refine BS.ne (fun h => ?_) (fun h => ?_) | refine BS.n ?_ | refine BS.s (fun h => ?_) (fun h => ?_) | refine And.intro ?_ ?_ | (refine Need.mk ?_; first | with_reducible rfl | (show @Eq TC _ _; rfl) | omega | (simp only [adN_zero]; omega)) | exact OutS.whole rfl rfl | (refine OpK.callH c1 hA rfl rfl rfl rfl hE ?_ rfl rfl ?_; focus ((repeat' (first | exact PsA.lit _ | exact PsA.ref rfl rfl | constructor)); all_goals (fail "ps"))) | refine ListO.go gOk hE ?_)
  all_goals (try simp only [adN_zero] at *)
  all_goals first | (refine Need.mk ?_; omega) | skip
  refine CodeK.loop gOk hE (fun i : Nat => ⟨[(1, vi p), (2, .ptr 2 0 0), (11, vi (perC (c.getD p 0))), (12, vi i)], [(2, bH b c), (1000000, rI .fro false b), (1000001, rI .fro false c)]⟩) (fun i => (i : Int) ≤ perC (c.getD p 0) ∧ ∀ j : Nat, j < i → 1 ≤ gnIn b c (slA p j) ∧ gnIn b c (slA p j) ≤ 7) (fun i => (perC (c.getD p 0)).toNat - i) 0 (by refine leT.of ?_ ?_ rfl <;> repeat' (first | exact trivial | refine And.intro rfl ?_ | refine And.intro (by simp) ?_)) ⟨hper.1, fun j hj => absurd hj (Nat.not_lt_zero _)⟩ ?_
  rintro i ⟨hi, hq⟩
  by_cases hi2 : (i : Int) < perC (c.getD p 0)
  · obtain ⟨hk, hi4⟩ := clIn_at (c := c) hp hi2
    have c2 := SlotAtI_run p i
    have c3 := genIn_run b c (slA p i) h
    have c4 := genMaySet_run (gnIn b c (slA p i))
    by_cases hg : 1 ≤ gnIn b c (slA p i) ∧ gnIn b c (slA p i) ≤ 7
    · rw [decide_eq_true hg] at c4
      repeat' (first | exact trivial | refine BS.d (fun h => ?_) (fun h => ?_) | refine BS.e (fun h => ?_) (fun h => ?_) | refine BS.ne (fun h => ?_) (fun h => ?_) | refine BS.n ?_ | refine BS.s (fun h => ?_) (fun h => ?_) | refine And.intro ?_ ?_ | (refine Need.mk ?_; first | with_reducible rfl | (show @Eq TC _ _; rfl) | omega | (simp only [adN_zero]; omega)) | exact OutS.whole rfl rfl | (refine CodeK.draw gOk hE rfl (fun _ _ h => h) (.take 1 (.take 2 (.alt 0 (.alt 3 (.alt 4 (.alt 5 (.take 6 .done) .stop) .stop) .stop) (.alt 3 (.alt 0 (.alt 4 (.alt 5 (.take 6 .done) .stop) .stop) .stop) .stop)))) ?_ ?_; focus (decide +kernel)) | (refine OpK.call c2 rfl rfl rfl rfl hE ?_ rfl rfl ?_; focus ((repeat' (first | exact PsA.lit _ | exact PsA.ref rfl rfl | constructor)); all_goals (fail "ps"))) | (refine OpK.callH c3 hA rfl rfl rfl rfl hE ?_ rfl rfl ?_; focus ((repeat' (first | exact PsA.lit _ | exact PsA.ref rfl rfl | constructor)); all_goals (fail "ps"))) | (refine OpK.call c4 rfl rfl rfl rfl hE ?_ rfl rfl ?_; focus ((repeat' (first | exact PsA.lit _ | exact PsA.ref rfl rfl | constructor)); all_goals (fail "ps"))) | refine ListO.go gOk hE ?_)
      all_goals first
        | (exfalso; omega)
        | (refine Need.mk ?_; omega)
        | (refine ⟨i + 1, (by refine leT.of ?_ ?_ rfl <;> repeat' (first | exact trivial | refine And.intro rfl ?_ | refine And.intro (by simp) ?_)), ⟨by omega, fun j hj => (Nat.lt_or_ge j i).elim (hq j) (fun h9 => (show j = i by omega) ▸ hg)⟩, by first | omega | (dsimp only; omega)⟩)
        | trace_state
    · rw [decide_eq_false hg] at c4
      repeat' (first | exact trivial | refine BS.d (fun h => ?_) (fun h => ?_) | refine BS.e (fun h => ?_) (fun h => ?_) | refine BS.ne (fun h => ?_) (fun h => ?_) | refine BS.n ?_ | refine BS.s (fun h => ?_) (fun h => ?_) | refine And.intro ?_ ?_ | (refine Need.mk ?_; first | with_reducible rfl | (show @Eq TC _ _; rfl) | omega | (simp only [adN_zero]; omega)) | exact OutS.whole rfl rfl | (refine CodeK.draw gOk hE rfl (fun _ _ h => h) (.take 1 (.take 2 (.alt 0 (.alt 3 (.alt 4 (.alt 5 (.take 6 .done) .stop) .stop) .stop) (.alt 3 (.alt 0 (.alt 4 (.alt 5 (.take 6 .done) .stop) .stop) .stop) .stop)))) ?_ ?_; focus (decide +kernel)) | (refine OpK.call c2 rfl rfl rfl rfl hE ?_ rfl rfl ?_; focus ((repeat' (first | exact PsA.lit _ | exact PsA.ref rfl rfl | constructor)); all_goals (fail "ps"))) | (refine OpK.callH c3 hA rfl rfl rfl rfl hE ?_ rfl rfl ?_; focus ((repeat' (first | exact PsA.lit _ | exact PsA.ref rfl rfl | constructor)); all_goals (fail "ps"))) | (refine OpK.call c4 rfl rfl rfl rfl hE ?_ rfl rfl ?_; focus ((repeat' (first | exact PsA.lit _ | exact PsA.ref rfl rfl | constructor)); all_goals (fail "ps"))) | refine ListO.go gOk hE ?_)
      all_goals first
        | (exfalso; omega)
        | (refine Need.mk ?_; omega)
        | (refine Need.mk ?_; symm; apply dcB_false; intro hh; exact hg (hh i hi2))
        | trace_state
  · repeat' (first | exact trivial | refine BS.d (fun h => ?_) (fun h => ?_) | refine BS.e (fun h => ?_) (fun h => ?_) | refine BS.ne (fun h => ?_) (fun h => ?_) | refine BS.n ?_ | refine BS.s (fun h => ?_) (fun h => ?_) | refine And.intro ?_ ?_ | (refine Need.mk ?_; first | with_reducible rfl | (show @Eq TC _ _; rfl) | omega | (simp only [adN_zero]; omega)) | exact OutS.whole rfl rfl | refine ListO.go gOk hE ?_)
    all_goals first
      | (exfalso; omega)
      | (refine Need.mk ?_; symm; apply dcB_true; exact fun j hj => hq j (by omega))
      | trace_state
end Go.Proofs.YtpmhkpmkmbkjbaaGreatDoor
end

section
/- HeapOk in both packages. -/
namespace Go.Proofs.YtpmhkpmkmbkjbaaGreatDoor
open Go Go.Tr
set_option maxRecDepth 100000
set_option maxHeartbeats 4000000
set_option linter.unusedVariables false
set_option linter.unusedSimpArgs false
theorem l7Page_run (b c : List Int) (p : Nat) (hp : p < 6) (hsh : shP b c) : RunT Tryz.prog 184 [aH2 b c, ti p] [] [ob (dcB (pgP b c p))] [] := by
  have hc := hsh.2.1
  have hb := hsh.1
  have hcp := hsh.2.2.2 p hp
  have c1 := PerPageS_run (c.getD p 0)
  have hper : 0 ≤ perC (c.getD p 0) ∧ perC (c.getD p 0) ≤ 4 := by rcases cls4 (c.getD p 0) with ⟨h1, h2, h3, h4⟩ | ⟨h1, h2, h3, h4⟩ | ⟨h1, h2, h3, h4⟩ | ⟨h1, h2, h3, h4⟩ <;> omega
  by_cases hk : c.getD p 0 < 0
  · have hq0 : pgP b c p = zrP b (p * 64) 64 := if_pos hk
    rw [hq0]
    refine RunT.of_vc gOk Tryz.func184 rfl rfl (Nat.le_of_ble_eq_true rfl) (by repeat' (first | exact trivial | exact ⟨_, rfl, Nat.le_refl _⟩ | exact Nat.le_of_ble_eq_true rfl | refine And.intro ?_ ?_)) (Nat.le_of_ble_eq_true rfl) rfl (fun F hE => ?_)
    repeat' (first | exact trivial | refine BS.d (fun h => ?_) (fun h => ?_) | refine BS.e (fun h => ?_) (fun h => ?_) | refine BS.ne (fun h => ?_) (fun h => ?_) | refine BS.n ?_ | refine BS.s (fun h => ?_) (fun h => ?_) | refine And.intro ?_ ?_ | (refine Need.mk ?_; first | with_reducible rfl | (show @Eq TC _ _; rfl) | omega | (simp only [adN_zero]; omega)) | exact OutS.whole rfl rfl | refine ListO.go gOk hE ?_)
    all_goals (try simp only [adN_zero] at *)
    all_goals first | (exfalso; omega) | (refine Need.mk ?_; omega) | skip
    refine CodeK.loop gOk hE (fun j : Nat => ⟨[(2, .ptr 2 0 0), (5, vi ((p * 64 : Nat) : Int)), (7, vi ((p * 64 + j : Nat) : Int))], [(2, bH b c), (1000000, rI .fro false b), (1000001, rI .fro false c)]⟩) (fun j => j ≤ 64 ∧ ∀ i, i < j → b.getD (p * 64 + i) 0 = 0) (fun j => 64 - j) 0 (by refine leT.of ?_ ?_ rfl <;> repeat' (first | exact trivial | refine And.intro rfl ?_ | refine And.intro (by simp) ?_)) ⟨Nat.zero_le _, fun j hj => absurd hj (Nat.not_lt_zero _)⟩ ?_
    rintro j ⟨hj, hq⟩
    by_cases hz : b.getD (p * 64 + j) 0 = 0
    all_goals (repeat' (first | exact trivial | refine BS.d (fun h => ?_) (fun h => ?_) | refine BS.e (fun h => ?_) (fun h => ?_) | refine BS.ne (fun h => ?_) (fun h => ?_) | refine BS.n ?_ | refine BS.s (fun h => ?_) (fun h => ?_) | refine And.intro ?_ ?_ | (refine Need.mk ?_; first | with_reducible rfl | (show @Eq TC _ _; rfl) | omega | (simp only [adN_zero]; omega)) | exact OutS.whole rfl rfl | refine ListO.go gOk hE ?_))
    all_goals (try simp only [adN_zero] at *)
    all_goals first
      | (exfalso; omega)
      | (refine Need.mk ?_; omega)
      | (refine Need.mk ?_; symm; apply dcB_true; exact fun i hi => hq i (by omega))
      | (refine Need.mk ?_; symm; apply dcB_false; intro hh; exact hz (hh j (by omega)))
      | (refine ⟨j + 1, (by refine leT.of ?_ ?_ rfl <;> repeat' (first | exact trivial | refine And.intro rfl ?_ | refine And.intro (by simp) ?_)), ⟨by omega, fun i hi => (Nat.lt_or_ge i j).elim (hq i) (fun h9 => (show i = j by omega) ▸ hz)⟩, by first | omega | (dsimp only; omega)⟩)
      | trace_state
  · have hq0 : pgP b c p = (hdP b (p * 64) (c.getD p 0) ∧ gsP b c p) := if_neg hk
    rw [hq0]
    have a0 : adN 0 ((p : Int) * 64) = p * 64 := by rw [adN_eq]; omega
    have a1 : adN 0 ((p : Int) * 64 + 1) = p * 64 + 1 := by rw [adN_eq]; omega
    have a2 : adN 0 ((p : Int) * 64 + 2) = p * 64 + 2 := by rw [adN_eq]; omega
    refine RunT.of_vc gOk Tryz.func184 rfl rfl (Nat.le_of_ble_eq_true rfl) (by repeat' (first | exact trivial | exact ⟨_, rfl, Nat.le_refl _⟩ | exact Nat.le_of_ble_eq_true rfl | refine And.intro ?_ ?_)) (Nat.le_of_ble_eq_true rfl) rfl (fun F hE => ?_)
    repeat' (first | exact trivial | refine BS.d (fun h => ?_) (fun h => ?_) | refine BS.e (fun h => ?_) (fun h => ?_) | refine BS.ne (fun h => ?_) (fun h => ?_) | refine BS.n ?_ | refine BS.s (fun h => ?_) (fun h => ?_) | refine And.intro ?_ ?_ | (refine Need.mk ?_; first | with_reducible rfl | (show @Eq TC _ _; rfl) | omega | (simp only [adN_zero]; omega)) | exact OutS.whole rfl rfl | (refine CodeK.draw gOk hE rfl (fun _ _ h => h) (.take 0 (.take 2 (.alt 1 (.take 3 (.alt 4 (.take 5 (.take 6 (.take 7 (.take 9 (.take 10 (.take 13 (.alt 8 (.take 11 (.alt 12 (.take 14 (.take 15 (.take 16 (.take 17 (.take 19 (.take 20 (.take 23 (.alt 18 (.take 21 (.alt 22 (.alt 24 (.take 25 (.take 26 .done)) .stop) (.alt 24 (.alt 22 (.take 25 (.take 26 .done)) .stop) .stop))) (.alt 24 (.alt 18 (.take 21 (.alt 22 (.take 25 (.take 26 .done)) .stop)) .stop) .stop))))))))) .stop)) .stop))))))) .stop)) .stop))) ?_ ?_; focus (decide +kernel)) | (refine OpK.call c1 rfl rfl rfl rfl hE ?_ rfl rfl ?_; focus ((repeat' (first | exact PsA.lit _ | exact PsA.ref rfl rfl | constructor)); all_goals (fail "ps"))) | refine ListO.go gOk hE ?_)
    all_goals (try simp only [adN_zero, a0, a1, a2] at *)
    all_goals first
      | (exfalso; omega)
      | (refine Need.mk ?_; omega)
      | (refine Need.mk ?_; symm; apply dcB_false; rintro ⟨⟨h1, h2, h3, h4⟩, h5⟩; omega)
      | skip
    all_goals (
      refine CodeK.loop gOk hE (fun j : Nat => ⟨[(1, vi p), (2, .ptr 2 0 0), (5, vi ((p * 64 : Nat) : Int)), (6, vi (c.getD p 0)), (8, vi ((p * 64 + 3 + j : Nat) : Int))], [(2, bH b c), (1000000, rI .fro false b), (1000001, rI .fro false c)]⟩) (fun j => j ≤ 5 ∧ ∀ i, i < j → b.getD (p * 64 + 3 + i) 0 = 0) (fun j => 5 - j) 0 (by refine leT.of ?_ ?_ rfl <;> repeat' (first | exact trivial | refine And.intro rfl ?_ | refine And.intro (by simp) ?_)) ⟨Nat.zero_le _, fun j hj => absurd hj (Nat.not_lt_zero _)⟩ ?_
      rintro j ⟨hj, hq⟩
      by_cases hj2 : j < 5
      · by_cases hz : b.getD (p * 64 + 3 + j) 0 = 0
        all_goals (repeat' (first | exact trivial | refine BS.d (fun h => ?_) (fun h => ?_) | refine BS.e (fun h => ?_) (fun h => ?_) | refine BS.ne (fun h => ?_) (fun h => ?_) | refine BS.n ?_ | refine BS.s (fun h => ?_) (fun h => ?_) | refine And.intro ?_ ?_ | (refine Need.mk ?_; first | with_reducible rfl | (show @Eq TC _ _; rfl) | omega | (simp only [adN_zero]; omega)) | exact OutS.whole rfl rfl | refine ListO.go gOk hE ?_))
        all_goals (try simp only [adN_zero] at *)
        all_goals first
          | (exfalso; omega)
          | (refine Need.mk ?_; omega)
          | (refine Need.mk ?_; symm; apply dcB_false; rintro ⟨⟨h1, h2, h3, h4⟩, h5⟩; exact hz (h4 j (by omega)))
          | (refine ⟨j + 1, (by refine leT.of ?_ ?_ rfl <;> repeat' (first | exact trivial | refine And.intro rfl ?_ | refine And.intro (by simp) ?_)), ⟨by omega, fun i hi => (Nat.lt_or_ge i j).elim (hq i) (fun h9 => (show i = j by omega) ▸ hz)⟩, by first | omega | (dsimp only; omega)⟩)
          | trace_state
      repeat' (first | exact trivial | refine BS.d (fun h => ?_) (fun h => ?_) | refine BS.e (fun h => ?_) (fun h => ?_) | refine BS.ne (fun h => ?_) (fun h => ?_) | refine BS.n ?_ | refine BS.s (fun h => ?_) (fun h => ?_) | refine And.intro ?_ ?_ | (refine Need.mk ?_; first | with_reducible rfl | (show @Eq TC _ _; rfl) | omega | (simp only [adN_zero]; omega)) | exact OutS.whole rfl rfl | refine ListO.go gOk hE ?_)
      all_goals first | (exfalso; omega) | skip
      have hz5 : zrP b (p * 64 + 3) 5 := fun i hi => hq i (by omega)
      have hhd : hdP b (p * 64) (c.getD p 0) := ⟨by assumption, by assumption, by assumption, hz5⟩
      refine CodeK.loop gOk hE (fun i : Nat => ⟨[(1, vi p), (2, .ptr 2 0 0), (6, vi (c.getD p 0)), (9, vi i)], [(2, bH b c), (1000000, rI .fro false b), (1000001, rI .fro false c)]⟩) (fun i => (i : Int) ≤ perC (c.getD p 0) ∧ ∀ j : Nat, j < i → 1 ≤ gnIn b c (slA p j) ∧ gnIn b c (slA p j) ≤ 7) (fun i => (perC (c.getD p 0)).toNat - i) 0 (by refine leT.of ?_ ?_ rfl <;> repeat' (first | exact trivial | refine And.intro rfl ?_ | refine And.intro (by simp) ?_)) ⟨hper.1, fun j hj => absurd hj (Nat.not_lt_zero _)⟩ ?_
      rintro i ⟨hi, hg⟩
      by_cases hi2 : (i : Int) < perC (c.getD p 0)
      · obtain ⟨hcl, hi4⟩ := clIn_at (c := c) hp hi2
        have hne : clIn c (slA p i) ≠ -1 := by rw [hcl]; unfold clP at hcp; omega
        have hsm := clIn_some hne
        have hgn : gnIn b c (slA p i) = ldN b (genA (slA p i) (c.getD p 0)).toNat 4 := by unfold gnIn; rw [if_neg hne, hcl]
        rw [hcl] at hsm
        have c2 := SlotAtS_run p i
        have c3 := GenAtS_run (slA p i) (c.getD p 0)
        have c4 := l3Load_run b (genA (slA p i) (c.getD p 0)) 4 (by omega) hsh.2.2.1.2 hsm.2.2.2.2.2.1 (by omega) (by have := hsm.2.2.2.2.2; rcases cls4 (c.getD p 0) with h | h | h | h <;> omega)
        rw [← hgn] at c4
        have c5 := inH_run (gnIn b c (slA p i)) 1 7
        by_cases hgg : 1 ≤ gnIn b c (slA p i) ∧ gnIn b c (slA p i) ≤ 7
        · rw [decide_eq_true hgg] at c5
          repeat' (first | exact trivial | refine BS.d (fun h => ?_) (fun h => ?_) | refine BS.e (fun h => ?_) (fun h => ?_) | refine BS.ne (fun h => ?_) (fun h => ?_) | refine BS.n ?_ | refine BS.s (fun h => ?_) (fun h => ?_) | refine And.intro ?_ ?_ | (refine Need.mk ?_; first | with_reducible rfl | (show @Eq TC _ _; rfl) | omega | (simp only [adN_zero]; omega)) | exact OutS.whole rfl rfl | (refine CodeK.draw gOk hE rfl (fun _ _ h => h) (.take 0 (.take 2 (.take 3 (.take 5 (.alt 1 (.alt 4 (.alt 6 (.alt 7 (.alt 8 (.take 9 .done) .stop) .stop) .stop) .stop) (.alt 4 (.alt 1 (.alt 6 (.alt 7 (.alt 8 (.take 9 .done) .stop) .stop) .stop) (.alt 6 (.alt 1 (.alt 7 (.alt 8 (.take 9 .done) .stop) .stop) .stop) .stop)) .stop)))))) ?_ ?_; focus (decide +kernel)) | (refine OpK.call c1 rfl rfl rfl rfl hE ?_ rfl rfl ?_; focus ((repeat' (first | exact PsA.lit _ | exact PsA.ref rfl rfl | constructor)); all_goals (fail "ps"))) | (refine OpK.call c2 rfl rfl rfl rfl hE ?_ rfl rfl ?_; focus ((repeat' (first | exact PsA.lit _ | exact PsA.ref rfl rfl | constructor)); all_goals (fail "ps"))) | (refine OpK.call c3 rfl rfl rfl rfl hE ?_ rfl rfl ?_; focus ((repeat' (first | exact PsA.lit _ | exact PsA.ref rfl rfl | constructor)); all_goals (fail "ps"))) | (refine OpK.call c4 rfl rfl rfl rfl hE ?_ rfl rfl ?_; focus ((repeat' (first | exact PsA.lit _ | exact PsA.ref rfl rfl | constructor)); all_goals (fail "ps"))) | (refine OpK.call c5 rfl rfl rfl rfl hE ?_ rfl rfl ?_; focus ((repeat' (first | exact PsA.lit _ | exact PsA.ref rfl rfl | constructor)); all_goals (fail "ps"))) | refine ListO.go gOk hE ?_)
          all_goals first
            | (exfalso; omega)
            | (refine Need.mk ?_; omega)
            | (refine ⟨i + 1, (by refine leT.of ?_ ?_ rfl <;> repeat' (first | exact trivial | refine And.intro rfl ?_ | refine And.intro (by simp) ?_)), ⟨by omega, fun j hj => (Nat.lt_or_ge j i).elim (hg j) (fun h9 => (show j = i by omega) ▸ hgg)⟩, by first | omega | (dsimp only; omega)⟩)
            | trace_state
        · rw [decide_eq_false hgg] at c5
          repeat' (first | exact trivial | refine BS.d (fun h => ?_) (fun h => ?_) | refine BS.e (fun h => ?_) (fun h => ?_) | refine BS.ne (fun h => ?_) (fun h => ?_) | refine BS.n ?_ | refine BS.s (fun h => ?_) (fun h => ?_) | refine And.intro ?_ ?_ | (refine Need.mk ?_; first | with_reducible rfl | (show @Eq TC _ _; rfl) | omega | (simp only [adN_zero]; omega)) | exact OutS.whole rfl rfl | (refine CodeK.draw gOk hE rfl (fun _ _ h => h) (.take 0 (.take 2 (.take 3 (.take 5 (.alt 1 (.alt 4 (.alt 6 (.alt 7 (.alt 8 (.take 9 .done) .stop) .stop) .stop) .stop) (.alt 4 (.alt 1 (.alt 6 (.alt 7 (.alt 8 (.take 9 .done) .stop) .stop) .stop) (.alt 6 (.alt 1 (.alt 7 (.alt 8 (.take 9 .done) .stop) .stop) .stop) .stop)) .stop)))))) ?_ ?_; focus (decide +kernel)) | (refine OpK.call c1 rfl rfl rfl rfl hE ?_ rfl rfl ?_; focus ((repeat' (first | exact PsA.lit _ | exact PsA.ref rfl rfl | constructor)); all_goals (fail "ps"))) | (refine OpK.call c2 rfl rfl rfl rfl hE ?_ rfl rfl ?_; focus ((repeat' (first | exact PsA.lit _ | exact PsA.ref rfl rfl | constructor)); all_goals (fail "ps"))) | (refine OpK.call c3 rfl rfl rfl rfl hE ?_ rfl rfl ?_; focus ((repeat' (first | exact PsA.lit _ | exact PsA.ref rfl rfl | constructor)); all_goals (fail "ps"))) | (refine OpK.call c4 rfl rfl rfl rfl hE ?_ rfl rfl ?_; focus ((repeat' (first | exact PsA.lit _ | exact PsA.ref rfl rfl | constructor)); all_goals (fail "ps"))) | (refine OpK.call c5 rfl rfl rfl rfl hE ?_ rfl rfl ?_; focus ((repeat' (first | exact PsA.lit _ | exact PsA.ref rfl rfl | constructor)); all_goals (fail "ps"))) | refine ListO.go gOk hE ?_)
          all_goals first
            | (exfalso; omega)
            | (refine Need.mk ?_; omega)
            | (refine Need.mk ?_; symm; apply dcB_false; rintro ⟨h5, h6⟩; exact hgg (h6 i hi2))
            | trace_state
      · repeat' (first | exact trivial | refine BS.d (fun h => ?_) (fun h => ?_) | refine BS.e (fun h => ?_) (fun h => ?_) | refine BS.ne (fun h => ?_) (fun h => ?_) | refine BS.n ?_ | refine BS.s (fun h => ?_) (fun h => ?_) | refine And.intro ?_ ?_ | (refine Need.mk ?_; first | with_reducible rfl | (show @Eq TC _ _; rfl) | omega | (simp only [adN_zero]; omega)) | exact OutS.whole rfl rfl | (refine OpK.call c1 rfl rfl rfl rfl hE ?_ rfl rfl ?_; focus ((repeat' (first | exact PsA.lit _ | exact PsA.ref rfl rfl | constructor)); all_goals (fail "ps"))) | refine ListO.go gOk hE ?_)
        all_goals first
          | (exfalso; omega)
          | (refine Need.mk ?_; symm; apply dcB_true; exact ⟨hhd, fun j hj => hg j (by omega)⟩)
          | trace_state)
end Go.Proofs.YtpmhkpmkmbkjbaaGreatDoor
end

section
namespace Go.Proofs.YtpmhkpmkmbkjbaaGreatDoor
open Go Go.Tr
set_option maxRecDepth 100000
set_option maxHeartbeats 4000000
set_option linter.unusedVariables false
set_option linter.unusedSimpArgs false
/-- What a heap must be. -/
def hpP (b c : List Int) : Prop := shP b c ∧ ∀ p, p < 6 → pgP b c p
theorem HeapOkS_run (b c : List Int) (hb : b.length ≤ 1048576) (hc : c.length ≤ 1048576) : RunT Tryz.prog 125 [aH2 b c] [] [ob (dcB (hpP b c))] [] := by
  have c1 := l7Shape_run b c hb hc
  by_cases hsh : shP b c
  · rw [decide_eq_true hsh] at c1
    refine RunT.of_vc gOk Tryz.func125 rfl rfl (Nat.le_of_ble_eq_true rfl) (by repeat' (first | exact trivial | exact ⟨_, rfl, Nat.le_refl _⟩ | exact Nat.le_of_ble_eq_true rfl | refine And.intro ?_ ?_)) (Nat.le_of_ble_eq_true rfl) rfl (fun F hE => ?_)
    repeat' (first | exact trivial | refine BS.d (fun h => ?_) (fun h => ?_) | refine BS.e (fun h => ?_) (fun h => ?_) | refine BS.ne (fun h => ?_) (fun h => ?_) | refine BS.n ?_ | refine BS.s (fun h => ?_) (fun h => ?_) | refine And.intro ?_ ?_ | (refine Need.mk ?_; first | with_reducible rfl | (show @Eq TC _ _; rfl) | omega | (simp only [adN_zero]; omega)) | exact OutS.whole rfl rfl | (refine OpK.call c1 rfl rfl rfl rfl hE ?_ rfl rfl ?_; focus ((repeat' (first | exact PsA.lit _ | exact PsA.ref rfl rfl | constructor)); all_goals (fail "ps"))) | refine ListO.go gOk hE ?_)
    refine CodeK.loop gOk hE (fun i : Nat => ⟨[(1, .ptr 1 0 0), (3, vi i)], [(1, bH b c), (1000000, rI .fro false b), (1000001, rI .fro false c)]⟩) (fun i => i ≤ 6 ∧ ∀ j, j < i → pgP b c j) (fun i => 6 - i) 0 (by refine leT.of ?_ ?_ rfl <;> repeat' (first | exact trivial | refine And.intro rfl ?_ | refine And.intro (by simp) ?_)) ⟨Nat.zero_le _, fun j hj => absurd hj (Nat.not_lt_zero _)⟩ ?_
    rintro i ⟨hi, hq⟩
    by_cases hi2 : i < 6
    · have c2 := l7Page_run b c i hi2 hsh
      by_cases hp : pgP b c i
      · rw [dcB_true hp] at c2
        repeat' (first | exact trivial | refine BS.d (fun h => ?_) (fun h => ?_) | refine BS.e (fun h => ?_) (fun h => ?_) | refine BS.ne (fun h => ?_) (fun h => ?_) | refine BS.n ?_ | refine BS.s (fun h => ?_) (fun h => ?_) | refine And.intro ?_ ?_ | (refine Need.mk ?_; first | with_reducible rfl | (show @Eq TC _ _; rfl) | omega | (simp only [adN_zero]; omega)) | exact OutS.whole rfl rfl | (refine OpK.call c2 rfl rfl rfl rfl hE ?_ rfl rfl ?_; focus ((repeat' (first | exact PsA.lit _ | exact PsA.ref rfl rfl | constructor)); all_goals (fail "ps"))) | refine ListO.go gOk hE ?_)
        all_goals first
          | (exfalso; omega)
          | (refine Need.mk ?_; omega)
          | (refine ⟨i + 1, (by refine leT.of ?_ ?_ rfl <;> repeat' (first | exact trivial | refine And.intro rfl ?_ | refine And.intro (by simp) ?_)), ⟨by omega, fun j hj => (Nat.lt_or_ge j i).elim (hq j) (fun h9 => (show j = i by omega) ▸ hp)⟩, by first | omega | (dsimp only; omega)⟩)
          | trace_state
      · rw [dcB_false hp] at c2
        repeat' (first | exact trivial | refine BS.d (fun h => ?_) (fun h => ?_) | refine BS.e (fun h => ?_) (fun h => ?_) | refine BS.ne (fun h => ?_) (fun h => ?_) | refine BS.n ?_ | refine BS.s (fun h => ?_) (fun h => ?_) | refine And.intro ?_ ?_ | (refine Need.mk ?_; first | with_reducible rfl | (show @Eq TC _ _; rfl) | omega | (simp only [adN_zero]; omega)) | exact OutS.whole rfl rfl | (refine OpK.call c2 rfl rfl rfl rfl hE ?_ rfl rfl ?_; focus ((repeat' (first | exact PsA.lit _ | exact PsA.ref rfl rfl | constructor)); all_goals (fail "ps"))) | refine ListO.go gOk hE ?_)
        all_goals first
          | (exfalso; omega)
          | (refine Need.mk ?_; symm; apply dcB_false; intro hh; exact hp (hh.2 i hi2))
          | trace_state
    · repeat' (first | exact trivial | refine BS.d (fun h => ?_) (fun h => ?_) | refine BS.e (fun h => ?_) (fun h => ?_) | refine BS.ne (fun h => ?_) (fun h => ?_) | refine BS.n ?_ | refine BS.s (fun h => ?_) (fun h => ?_) | refine And.intro ?_ ?_ | (refine Need.mk ?_; first | with_reducible rfl | (show @Eq TC _ _; rfl) | omega | (simp only [adN_zero]; omega)) | exact OutS.whole rfl rfl | refine ListO.go gOk hE ?_)
      all_goals first
        | (exfalso; omega)
        | (refine Need.mk ?_; symm; apply dcB_true; exact ⟨hsh, fun j hj => hq j (by omega)⟩)
        | trace_state
  · rw [decide_eq_false hsh] at c1
    rw [dcB_false (fun h => hsh h.1)]
    refine RunT.of_vc gOk Tryz.func125 rfl rfl (Nat.le_of_ble_eq_true rfl) (by repeat' (first | exact trivial | exact ⟨_, rfl, Nat.le_refl _⟩ | exact Nat.le_of_ble_eq_true rfl | refine And.intro ?_ ?_)) (Nat.le_of_ble_eq_true rfl) rfl (fun F hE => ?_)
    repeat' (first | exact trivial | refine BS.d (fun h => ?_) (fun h => ?_) | refine BS.e (fun h => ?_) (fun h => ?_) | refine BS.ne (fun h => ?_) (fun h => ?_) | refine BS.n ?_ | refine BS.s (fun h => ?_) (fun h => ?_) | refine And.intro ?_ ?_ | (refine Need.mk ?_; first | with_reducible rfl | (show @Eq TC _ _; rfl) | omega | (simp only [adN_zero]; omega)) | exact OutS.whole rfl rfl | (refine OpK.call c1 rfl rfl rfl rfl hE ?_ rfl rfl ?_; focus ((repeat' (first | exact PsA.lit _ | exact PsA.ref rfl rfl | constructor)); all_goals (fail "ps"))) | refine ListO.go gOk hE ?_)
theorem zero_seg {b : List Int} {p : Nat} (hp : p < 6) (hb : b.length = 384) : zeroP ((b.drop (p * 64)).take 64) ↔ zrP b (p * 64) 64 := by
  have hg : ∀ j, j < 64 → ((b.drop (p * 64)).take 64).getD j 0 = b.getD (p * 64 + j) 0 := fun j hj => by
    rw [List.getD_eq_getElem?_getD, List.getD_eq_getElem?_getD, List.getElem?_take, if_pos hj, List.getElem?_drop]
  have hl : ((b.drop (p * 64)).take 64).length = 64 := by simp; omega
  constructor
  · intro h j hj; rw [← hg j hj]; exact h j (by omega)
  · intro h j hj; rw [hl] at hj; rw [hg j hj]; exact h j hj
/-- A page's head. -/
def hdF (k : Int) (i : Nat) : Int := if i = 0 then 171 else if i = 1 then k else if i = 2 then perC k else 0
theorem hd_iff {b : List Int} {p : Nat} {k : Int} : (∀ i ∈ List.range 8, b.getD (p * 64 + i) 0 = hdF k i) ↔ hdP b (p * 64) k := by
  constructor
  · intro h
    refine ⟨h 0 (by simp), h 1 (by simp), h 2 (by simp), fun j hj => ?_⟩
    have h9 := h (3 + j) (by simp; omega)
    rw [show p * 64 + (3 + j) = p * 64 + 3 + j by omega] at h9
    rw [h9]; unfold hdF; rw [if_neg (by omega), if_neg (by omega), if_neg (by omega)]
  · rintro ⟨h0, h1, h2, h3⟩ i hi
    have hi := List.mem_range.1 hi
    match i, hi with
    | 0, _ => exact h0
    | 1, _ => exact h1
    | 2, _ => exact h2
    | 3, _ => exact h3 0 (by decide)
    | 4, _ => exact h3 1 (by decide)
    | 5, _ => exact h3 2 (by decide)
    | 6, _ => exact h3 3 (by decide)
    | 7, _ => exact h3 4 (by decide)
abbrev hdX (b : List Int) (p : Nat) : List Value := (List.range 8).map fun q => .int .i64 (b.getD (p * 64 + q) 0)
abbrev hdY (k : Int) : List Value := [.int .i64 171, .int .i64 k, .int .i64 (perC k), .int .i64 0, .int .i64 0, .int .i64 0, .int .i64 0, .int .i64 0]
theorem hd_run (b : List Int) (p : Nat) (k : Int) (w : World) : (Op.equalIn 10000 176 (.agg (hdX b p).toArray) (.agg (hdY k).toArray)).run Tryz.prog w = .ok (dcB (hdP b (p * 64) k)) w := by
  obtain ⟨inf, hi⟩ : ∃ inf, Tryz.prog.info? 3 = some inf := Option.isSome_iff_exists.1 (by kernel_rfl)
  rw [arr_eq (n := 8) (e := 3) Tryz.underlying176 Tryz.underlying3 hi (by kernel_rfl) (fun i => b.getD (p * 64 + i) 0) (hdF k) _ _ (fun i hi => ?_) (fun i hi => ?_)]
  · congr 1
    by_cases h : hdP b (p * 64) k
    · rw [dcB_true h]; exact decide_eq_true (hd_iff.2 h)
    · rw [dcB_false h]; exact decide_eq_false (fun hh => h (hd_iff.1 hh))
  · simp [hi]
  · match i, hi with
    | 0, _ => rfl
    | 1, _ => rfl
    | 2, _ => rfl
    | 3, _ => rfl
    | 4, _ => rfl
    | 5, _ => rfl
    | 6, _ => rfl
    | 7, _ => rfl
end Go.Proofs.YtpmhkpmkmbkjbaaGreatDoor
end

section
namespace Go.Proofs.YtpmhkpmkmbkjbaaGreatDoor
open Go Go.Tr
set_option maxRecDepth 100000
set_option maxHeartbeats 4000000
set_option linter.unusedVariables false
set_option linter.unusedSimpArgs false
theorem HeapOkI_run (b c : List Int) (hb : b.length ≤ 1048576) (hc : c.length ≤ 1048576) : RunH Tryz.prog hT 133 [aH2 b c] [] [ob (dcB (hpP b c))] [] := by
  have c1 := shapeOk_run b c hb hc
  by_cases hsh : shP b c
  · rw [decide_eq_true hsh] at c1
    have hl := hsh.1
    have hlc := hsh.2.1
    refine RunH.of_vc gOk Tryz.func133 rfl rfl (Nat.le_of_ble_eq_true rfl) (by repeat' (first | exact trivial | exact ⟨_, rfl, Nat.le_refl _⟩ | exact Nat.le_of_ble_eq_true rfl | refine And.intro ?_ ?_)) (Nat.le_of_ble_eq_true rfl) rfl (fun F hE hA => ?_)
    repeat' (first | exact trivial | refine BS.d (fun h => ?_) (fun h => ?_) | refine BS.e (fun h => ?_) (fun h => ?_) | refine BS.ne (fun h => ?_) (fun h => ?_) | refine BS.n ?_ | refine BS.s (fun h => ?_) (fun h => ?_) | refine And.intro ?_ ?_ | (refine Need.mk ?_; first | with_reducible rfl | (show @Eq TC _ _; rfl) | omega | (simp only [adN_zero]; omega)) | exact OutS.whole rfl rfl | (refine OpK.call c1 rfl rfl rfl rfl hE ?_ rfl rfl ?_; focus ((repeat' (first | exact PsA.lit _ | exact PsA.ref rfl rfl | constructor)); all_goals (fail "ps"))) | refine ListO.go gOk hE ?_)
    refine CodeK.loop gOk hE (fun i : Nat => ⟨[(1, .ptr 1 0 0), (10, vr 1000001 c.length), (11, vi c.length), (12, vi i)], [(1, bH b c), (1000000, rI .fro false b), (1000001, rI .fro false c)]⟩) (fun i => i ≤ 6 ∧ ∀ j, j < i → pgP b c j) (fun i => 6 - i) 0 (by refine leT.of ?_ ?_ rfl <;> repeat' (first | exact trivial | refine And.intro rfl ?_ | refine And.intro (by simp) ?_)) ⟨Nat.zero_le _, fun j hj => absurd hj (Nat.not_lt_zero _)⟩ ?_
    rintro i ⟨hi, hq⟩
    by_cases hi2 : i < 6
    · have hcp := hsh.2.2.2 i hi2
      unfold clP at hcp
      have a0 : adN 0 ((i : Int) * 64) = i * 64 := by rw [adN_eq]; omega
      have a1 : (((i : Int) + 1) * 64).toNat - ((i : Int) * 64).toNat = 64 := by omega
      have cz := allZero_run ((b.drop (i * 64)).take 64) (by simp; omega)
      have ch := pageHead_run (c.getD i 0)
      have cg := gensOk_run b c i hi2 hsh
      have hrun := hd_run b i (c.getD i 0)
      by_cases hk : c.getD i 0 = -1
      · have hq0 : pgP b c i = zrP b (i * 64) 64 := if_pos (by omega)
        have hzi := zero_seg (b := b) hi2 hl
        by_cases hz : zrP b (i * 64) 64
        · rw [decide_eq_true (hzi.2 hz)] at cz
          repeat' (first | exact trivial | refine BS.d (fun h => ?_) (fun h => ?_) | refine BS.e (fun h => ?_) (fun h => ?_) | refine BS.ne (fun h => ?_) (fun h => ?_) | refine BS.n ?_ | refine BS.s (fun h => ?_) (fun h => ?_) | refine And.intro ?_ ?_ | (refine Need.mk ?_; first | with_reducible rfl | (show @Eq TC _ _; rfl) | omega | (simp only [adN_zero]; omega)) | exact OutS.whole rfl rfl | refine ListO.go gOk hE ?_)
          all_goals (try simp only [adN_zero] at *)
          all_goals first | (exfalso; omega) | (refine Need.mk ?_; omega) | skip
          all_goals rw [a0, a1]
          all_goals (repeat' (first | exact trivial | refine BS.d (fun h => ?_) (fun h => ?_) | refine BS.e (fun h => ?_) (fun h => ?_) | refine BS.ne (fun h => ?_) (fun h => ?_) | refine BS.n ?_ | refine BS.s (fun h => ?_) (fun h => ?_) | refine And.intro ?_ ?_ | (refine Need.mk ?_; first | with_reducible rfl | (show @Eq TC _ _; rfl) | omega | (simp only [adN_zero]; omega)) | exact OutS.whole rfl rfl | (refine OpK.call cz rfl rfl rfl rfl hE ?_ rfl rfl ?_; focus (exact PsVs.cons (.one (.seg rfl (by omega) rfl)) .nil)) | (refine CodeK.draw gOk hE rfl (fun _ _ h => h) (.take 0 (.take 1 (.take 2 (.take 3 (.take 6 (.alt 4 (.alt 5 (.alt 7 (.take 8 (.take 9 (.take 11 (.alt 10 (.alt 12 (.take 13 (.take 14 (.take 15 .done))) .stop) .stop)))) .stop) (.alt 7 (.alt 5 (.take 8 (.take 9 (.take 11 (.alt 10 (.alt 12 (.take 13 (.take 14 (.take 15 .done))) .stop) .stop)))) .stop) .stop)) (.alt 7 (.alt 4 (.alt 5 (.take 8 (.take 9 (.take 11 (.alt 10 (.alt 12 (.take 13 (.take 14 (.take 15 .done))) .stop) .stop)))) .stop) .stop) .stop))))))) ?_ ?_; focus (decide +kernel)) | refine ListO.go gOk hE ?_))
          all_goals (try simp only [adN_zero] at *)
          all_goals first
            | (exfalso; omega)
            | (refine ⟨i + 1, (by refine leT.of ?_ ?_ rfl <;> repeat' (first | exact trivial | refine And.intro rfl ?_ | refine And.intro (by simp) ?_)), ⟨by omega, fun j hj => (Nat.lt_or_ge j i).elim (hq j) (fun h9 => (show j = i by omega) ▸ (hq0 ▸ hz))⟩, by first | omega | (dsimp only; omega)⟩)
            | trace_state
        · rw [decide_eq_false (fun h => hz (hzi.1 h))] at cz
          repeat' (first | exact trivial | refine BS.d (fun h => ?_) (fun h => ?_) | refine BS.e (fun h => ?_) (fun h => ?_) | refine BS.ne (fun h => ?_) (fun h => ?_) | refine BS.n ?_ | refine BS.s (fun h => ?_) (fun h => ?_) | refine And.intro ?_ ?_ | (refine Need.mk ?_; first | with_reducible rfl | (show @Eq TC _ _; rfl) | omega | (simp only [adN_zero]; omega)) | exact OutS.whole rfl rfl | refine ListO.go gOk hE ?_)
          all_goals (try simp only [adN_zero] at *)
          all_goals first | (exfalso; omega) | (refine Need.mk ?_; omega) | skip
          all_goals rw [a0, a1]
          all_goals (repeat' (first | exact trivial | refine BS.d (fun h => ?_) (fun h => ?_) | refine BS.e (fun h => ?_) (fun h => ?_) | refine BS.ne (fun h => ?_) (fun h => ?_) | refine BS.n ?_ | refine BS.s (fun h => ?_) (fun h => ?_) | refine And.intro ?_ ?_ | (refine Need.mk ?_; first | with_reducible rfl | (show @Eq TC _ _; rfl) | omega | (simp only [adN_zero]; omega)) | exact OutS.whole rfl rfl | (refine OpK.call cz rfl rfl rfl rfl hE ?_ rfl rfl ?_; focus (exact PsVs.cons (.one (.seg rfl (by omega) rfl)) .nil)) | (refine CodeK.draw gOk hE rfl (fun _ _ h => h) (.take 0 (.take 1 (.take 2 (.take 3 (.take 6 (.alt 4 (.alt 5 (.alt 7 (.take 8 (.take 9 (.take 11 (.alt 10 (.alt 12 (.take 13 (.take 14 (.take 15 .done))) .stop) .stop)))) .stop) (.alt 7 (.alt 5 (.take 8 (.take 9 (.take 11 (.alt 10 (.alt 12 (.take 13 (.take 14 (.take 15 .done))) .stop) .stop)))) .stop) .stop)) (.alt 7 (.alt 4 (.alt 5 (.take 8 (.take 9 (.take 11 (.alt 10 (.alt 12 (.take 13 (.take 14 (.take 15 .done))) .stop) .stop)))) .stop) .stop) .stop))))))) ?_ ?_; focus (decide +kernel)) | refine ListO.go gOk hE ?_))
          all_goals (try simp only [adN_zero] at *)
          all_goals first
            | (exfalso; omega)
            | (refine Need.mk ?_; symm; apply dcB_false; intro hh; exact hz (hq0 ▸ hh.2 i hi2))
            | trace_state
      · have hq0 : pgP b c i = (hdP b (i * 64) (c.getD i 0) ∧ gsP b c i) := if_neg (by omega)
        repeat' (first | exact trivial | refine BS.d (fun h => ?_) (fun h => ?_) | refine BS.e (fun h => ?_) (fun h => ?_) | refine BS.ne (fun h => ?_) (fun h => ?_) | refine BS.n ?_ | refine BS.s (fun h => ?_) (fun h => ?_) | refine And.intro ?_ ?_ | (refine Need.mk ?_; first | with_reducible rfl | (show @Eq TC _ _; rfl) | omega | (simp only [adN_zero]; omega)) | exact OutS.whole rfl rfl | refine ListO.go gOk hE ?_)
        all_goals (try simp only [adN_zero] at *)
        all_goals first | (exfalso; omega) | (refine Need.mk ?_; omega) | skip
        all_goals rw [a0, a1]
        by_cases hh : hdP b (i * 64) (c.getD i 0)
        · rw [dcB_true hh] at hrun
          by_cases hg : gsP b c i
          · rw [dcB_true hg] at cg
            all_goals (repeat' (first | exact trivial | refine BS.d (fun h => ?_) (fun h => ?_) | refine BS.e (fun h => ?_) (fun h => ?_) | refine BS.ne (fun h => ?_) (fun h => ?_) | refine BS.n ?_ | refine BS.s (fun h => ?_) (fun h => ?_) | refine And.intro ?_ ?_ | (refine Need.mk ?_; first | with_reducible rfl | (show @Eq TC _ _; rfl) | omega | (simp only [adN_zero]; omega)) | exact OutS.whole rfl rfl | (refine CodeK.draw gOk hE rfl (fun _ _ h => h) (.take 0 (.take 1 (.take 2 (.take 3 (.take 6 (.alt 4 (.alt 5 (.alt 7 (.take 8 (.take 9 (.take 11 (.alt 10 (.alt 12 (.take 13 (.take 14 (.take 15 .done))) .stop) .stop)))) .stop) (.alt 7 (.alt 5 (.take 8 (.take 9 (.take 11 (.alt 10 (.alt 12 (.take 13 (.take 14 (.take 15 .done))) .stop) .stop)))) .stop) .stop)) (.alt 7 (.alt 4 (.alt 5 (.take 8 (.take 9 (.take 11 (.alt 10 (.alt 12 (.take 13 (.take 14 (.take 15 .done))) .stop) .stop)))) .stop) .stop) .stop))))))) ?_ ?_; focus (decide +kernel)) | (refine OpK.toArr gOk rfl rfl rfl rfl rfl rfl (by omega) ?_) | (refine OpK.ldArr gOk (fun x => Value.int .i64 x) rfl rfl rfl rfl rfl rfl rfl (by omega) (fun x => rfl) ?_) | (refine OpK.callH ch hA rfl rfl rfl rfl hE ?_ rfl rfl ?_; focus ((repeat' (first | exact PsA.lit _ | exact PsA.ref rfl rfl | constructor)); all_goals (fail "ps"))) | (refine OpK.callH cg hA rfl rfl rfl rfl hE ?_ rfl rfl ?_; focus ((repeat' (first | exact PsA.lit _ | exact PsA.ref rfl rfl | constructor)); all_goals (fail "ps"))) | (refine PK.neA (hdX b i) (hdY (c.getD i 0)) rfl rfl rfl rfl rfl (by kernel_rfl) hrun ?_) | refine ListO.go gOk hE ?_))
            all_goals (try simp only [adN_zero] at *)
            all_goals first
              | (exfalso; omega)
              | (refine ⟨i + 1, (by refine leT.of ?_ ?_ rfl <;> repeat' (first | exact trivial | refine And.intro rfl ?_ | refine And.intro (by simp) ?_)), ⟨by omega, fun j hj => (Nat.lt_or_ge j i).elim (hq j) (fun h9 => (show j = i by omega) ▸ (hq0 ▸ ⟨hh, hg⟩))⟩, by first | omega | (dsimp only; omega)⟩)
              | trace_state
          · rw [dcB_false hg] at cg
            all_goals (repeat' (first | exact trivial | refine BS.d (fun h => ?_) (fun h => ?_) | refine BS.e (fun h => ?_) (fun h => ?_) | refine BS.ne (fun h => ?_) (fun h => ?_) | refine BS.n ?_ | refine BS.s (fun h => ?_) (fun h => ?_) | refine And.intro ?_ ?_ | (refine Need.mk ?_; first | with_reducible rfl | (show @Eq TC _ _; rfl) | omega | (simp only [adN_zero]; omega)) | exact OutS.whole rfl rfl | (refine CodeK.draw gOk hE rfl (fun _ _ h => h) (.take 0 (.take 1 (.take 2 (.take 3 (.take 6 (.alt 4 (.alt 5 (.alt 7 (.take 8 (.take 9 (.take 11 (.alt 10 (.alt 12 (.take 13 (.take 14 (.take 15 .done))) .stop) .stop)))) .stop) (.alt 7 (.alt 5 (.take 8 (.take 9 (.take 11 (.alt 10 (.alt 12 (.take 13 (.take 14 (.take 15 .done))) .stop) .stop)))) .stop) .stop)) (.alt 7 (.alt 4 (.alt 5 (.take 8 (.take 9 (.take 11 (.alt 10 (.alt 12 (.take 13 (.take 14 (.take 15 .done))) .stop) .stop)))) .stop) .stop) .stop))))))) ?_ ?_; focus (decide +kernel)) | (refine OpK.toArr gOk rfl rfl rfl rfl rfl rfl (by omega) ?_) | (refine OpK.ldArr gOk (fun x => Value.int .i64 x) rfl rfl rfl rfl rfl rfl rfl (by omega) (fun x => rfl) ?_) | (refine OpK.callH ch hA rfl rfl rfl rfl hE ?_ rfl rfl ?_; focus ((repeat' (first | exact PsA.lit _ | exact PsA.ref rfl rfl | constructor)); all_goals (fail "ps"))) | (refine OpK.callH cg hA rfl rfl rfl rfl hE ?_ rfl rfl ?_; focus ((repeat' (first | exact PsA.lit _ | exact PsA.ref rfl rfl | constructor)); all_goals (fail "ps"))) | (refine PK.neA (hdX b i) (hdY (c.getD i 0)) rfl rfl rfl rfl rfl (by kernel_rfl) hrun ?_) | refine ListO.go gOk hE ?_))
            all_goals (try simp only [adN_zero] at *)
            all_goals first
              | (exfalso; omega)
              | (refine Need.mk ?_; symm; apply dcB_false; intro h9; exact hg (hq0 ▸ h9.2 i hi2 : hdP b (i * 64) (c.getD i 0) ∧ gsP b c i).2)
              | trace_state
        · rw [dcB_false hh] at hrun
          all_goals (repeat' (first | exact trivial | refine BS.d (fun h => ?_) (fun h => ?_) | refine BS.e (fun h => ?_) (fun h => ?_) | refine BS.ne (fun h => ?_) (fun h => ?_) | refine BS.n ?_ | refine BS.s (fun h => ?_) (fun h => ?_) | refine And.intro ?_ ?_ | (refine Need.mk ?_; first | with_reducible rfl | (show @Eq TC _ _; rfl) | omega | (simp only [adN_zero]; omega)) | exact OutS.whole rfl rfl | (refine CodeK.draw gOk hE rfl (fun _ _ h => h) (.take 0 (.take 1 (.take 2 (.take 3 (.take 6 (.alt 4 (.alt 5 (.alt 7 (.take 8 (.take 9 (.take 11 (.alt 10 (.alt 12 (.take 13 (.take 14 (.take 15 .done))) .stop) .stop)))) .stop) (.alt 7 (.alt 5 (.take 8 (.take 9 (.take 11 (.alt 10 (.alt 12 (.take 13 (.take 14 (.take 15 .done))) .stop) .stop)))) .stop) .stop)) (.alt 7 (.alt 4 (.alt 5 (.take 8 (.take 9 (.take 11 (.alt 10 (.alt 12 (.take 13 (.take 14 (.take 15 .done))) .stop) .stop)))) .stop) .stop) .stop))))))) ?_ ?_; focus (decide +kernel)) | (refine OpK.toArr gOk rfl rfl rfl rfl rfl rfl (by omega) ?_) | (refine OpK.ldArr gOk (fun x => Value.int .i64 x) rfl rfl rfl rfl rfl rfl rfl (by omega) (fun x => rfl) ?_) | (refine OpK.callH ch hA rfl rfl rfl rfl hE ?_ rfl rfl ?_; focus ((repeat' (first | exact PsA.lit _ | exact PsA.ref rfl rfl | constructor)); all_goals (fail "ps"))) | (refine OpK.callH cg hA rfl rfl rfl rfl hE ?_ rfl rfl ?_; focus ((repeat' (first | exact PsA.lit _ | exact PsA.ref rfl rfl | constructor)); all_goals (fail "ps"))) | (refine PK.neA (hdX b i) (hdY (c.getD i 0)) rfl rfl rfl rfl rfl (by kernel_rfl) hrun ?_) | refine ListO.go gOk hE ?_))
          all_goals (try simp only [adN_zero] at *)
          all_goals first
            | (exfalso; omega)
            | (refine Need.mk ?_; symm; apply dcB_false; intro h9; exact hh (hq0 ▸ h9.2 i hi2 : hdP b (i * 64) (c.getD i 0) ∧ gsP b c i).1)
            | trace_state
    · repeat' (first | exact trivial | refine BS.d (fun h => ?_) (fun h => ?_) | refine BS.e (fun h => ?_) (fun h => ?_) | refine BS.ne (fun h => ?_) (fun h => ?_) | refine BS.n ?_ | refine BS.s (fun h => ?_) (fun h => ?_) | refine And.intro ?_ ?_ | (refine Need.mk ?_; first | with_reducible rfl | (show @Eq TC _ _; rfl) | omega | (simp only [adN_zero]; omega)) | exact OutS.whole rfl rfl | refine ListO.go gOk hE ?_)
      all_goals first
        | (exfalso; omega)
        | (refine Need.mk ?_; symm; apply dcB_true; exact ⟨hsh, fun j hj => hq j (by omega)⟩)
        | trace_state
  · rw [decide_eq_false hsh] at c1
    rw [dcB_false (fun h => hsh h.1)]
    refine RunH.of_vc gOk Tryz.func133 rfl rfl (Nat.le_of_ble_eq_true rfl) (by repeat' (first | exact trivial | exact ⟨_, rfl, Nat.le_refl _⟩ | exact Nat.le_of_ble_eq_true rfl | refine And.intro ?_ ?_)) (Nat.le_of_ble_eq_true rfl) rfl (fun F hE hA => ?_)
    repeat' (first | exact trivial | refine BS.d (fun h => ?_) (fun h => ?_) | refine BS.e (fun h => ?_) (fun h => ?_) | refine BS.ne (fun h => ?_) (fun h => ?_) | refine BS.n ?_ | refine BS.s (fun h => ?_) (fun h => ?_) | refine And.intro ?_ ?_ | (refine Need.mk ?_; first | with_reducible rfl | (show @Eq TC _ _; rfl) | omega | (simp only [adN_zero]; omega)) | exact OutS.whole rfl rfl | (refine OpK.call c1 rfl rfl rfl rfl hE ?_ rfl rfl ?_; focus ((repeat' (first | exact PsA.lit _ | exact PsA.ref rfl rfl | constructor)); all_goals (fail "ps"))) | refine ListO.go gOk hE ?_)
end Go.Proofs.YtpmhkpmkmbkjbaaGreatDoor
end
