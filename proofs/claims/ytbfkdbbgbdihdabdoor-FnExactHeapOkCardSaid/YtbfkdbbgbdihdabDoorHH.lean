/- HeapOk in both packages. -/
import Derived.Test.YtbfkdbbgbdihdabDoorHG
namespace Go.Proofs.YtbfkdbbgbdihdabDoor
open Go Go.Tr
set_option maxRecDepth 100000
set_option maxHeartbeats 4000000
set_option linter.unusedVariables false
set_option linter.unusedSimpArgs false
theorem l7Page_run (b c : List Int) (p : Nat) (hp : p < 6) (hsh : shP b c) : RunT Tryd.prog 11 [aH2 b c, ti p] [] [ob (dcB (pgP b c p))] [] := by
  have hc := hsh.2.1
  have hb := hsh.1
  have hcp := hsh.2.2.2 p hp
  have c1 := PerPageS_run (c.getD p 0)
  have hper : 0 ≤ perC (c.getD p 0) ∧ perC (c.getD p 0) ≤ 4 := by rcases cls4 (c.getD p 0) with ⟨h1, h2, h3, h4⟩ | ⟨h1, h2, h3, h4⟩ | ⟨h1, h2, h3, h4⟩ | ⟨h1, h2, h3, h4⟩ <;> omega
  by_cases hk : c.getD p 0 < 0
  · have hq0 : pgP b c p = zrP b (p * 64) 64 := if_pos hk
    rw [hq0]
    refine RunT.of_vc gOk Tryd.func11 rfl rfl (Nat.le_of_ble_eq_true rfl) (by repeat' (first | exact trivial | exact ⟨_, rfl, Nat.le_refl _⟩ | exact Nat.le_of_ble_eq_true rfl | refine And.intro ?_ ?_)) (Nat.le_of_ble_eq_true rfl) rfl (fun F hE => ?_)
    repeat' (first | exact trivial | refine BS.d (fun h => ?_) (fun h => ?_) | refine BS.e (fun h => ?_) (fun h => ?_) | refine BS.ne (fun h => ?_) (fun h => ?_) | refine BS.n ?_ | refine BS.s (fun h => ?_) (fun h => ?_) | refine And.intro ?_ ?_ | (refine Need.mk ?_; first | with_reducible rfl | (show @Eq TC _ _; rfl) | omega | (simp only [adN_zero]; omega)) | exact OutS.whole rfl rfl | refine ListO.go gOk hE ?_)
    all_goals (try simp only [adN_zero] at *)
    all_goals first | (exfalso; omega) | (refine Need.mk ?_; omega) | skip
    refine CodeK.loop gOk hE (fun j : Nat => ⟨[(2, .ptr 2 0 0), (5, vi ((p * 64 : Nat) : Int)), (7, vi ((p * 64 + j : Nat) : Int))], [(2, bH b c), (1000000, rI .fro false b), (1000001, rI .fro false c)]⟩) (fun j => j ≤ 64 ∧ ∀ i, i < j → b.getD (p * 64 + i) 0 = 0) (fun j => 64 - j) 0 (by refine leT.of ?_ ?_ rfl <;> repeat' (first | exact trivial | refine And.intro rfl ?_ | refine And.intro (by simp) ?_)) ⟨Nat.zero_le _, fun j hj => absurd hj (Nat.not_lt_zero _)⟩ ?_
    rintro j ⟨hj, hq⟩
    by_cases hz : b.getD (p * 64 + j) 0 = 0
    all_goals (repeat' (first | exact trivial | refine BS.d (fun h => ?_) (fun h => ?_) | refine BS.e (fun h => ?_) (fun h => ?_) | refine BS.ne (fun h => ?_) (fun h => ?_) | refine BS.n ?_ | refine BS.s (fun h => ?_) (fun h => ?_) | refine And.intro ?_ ?_ | (refine Need.mk ?_; first | with_reducible rfl | (show @Eq TC _ _; rfl) | omega | (simp only [adN_zero]; omega)) | exact OutS.whole rfl rfl | refine ListO.go gOk hE ?_))
    all_goals (try simp only [adN_zero] at *)
    all_goals first
      | (exfalso; omega)
      | (refine Need.mk ?_; omega)
      | (refine Need.mk ?_; symm; apply dcB_true; exact fun i hi => hq i (by omega))
      | (refine Need.mk ?_; symm; apply dcB_false; intro hh; exact hz (hh j (by omega)))
      | (refine ⟨j + 1, (by refine leT.of ?_ ?_ rfl <;> repeat' (first | exact trivial | refine And.intro rfl ?_ | refine And.intro (by simp) ?_)), ⟨by omega, fun i hi => (Nat.lt_or_ge i j).elim (hq i) (fun h9 => (show i = j by omega) ▸ hz)⟩, by first | omega | (dsimp only; omega)⟩)
      | trace_state
  · have hq0 : pgP b c p = (hdP b (p * 64) (c.getD p 0) ∧ gsP b c p) := if_neg hk
    rw [hq0]
    have a0 : adN 0 ((p : Int) * 64) = p * 64 := by rw [adN_eq]; omega
    have a1 : adN 0 ((p : Int) * 64 + 1) = p * 64 + 1 := by rw [adN_eq]; omega
    have a2 : adN 0 ((p : Int) * 64 + 2) = p * 64 + 2 := by rw [adN_eq]; omega
    refine RunT.of_vc gOk Tryd.func11 rfl rfl (Nat.le_of_ble_eq_true rfl) (by repeat' (first | exact trivial | exact ⟨_, rfl, Nat.le_refl _⟩ | exact Nat.le_of_ble_eq_true rfl | refine And.intro ?_ ?_)) (Nat.le_of_ble_eq_true rfl) rfl (fun F hE => ?_)
    repeat' (first | exact trivial | refine BS.d (fun h => ?_) (fun h => ?_) | refine BS.e (fun h => ?_) (fun h => ?_) | refine BS.ne (fun h => ?_) (fun h => ?_) | refine BS.n ?_ | refine BS.s (fun h => ?_) (fun h => ?_) | refine And.intro ?_ ?_ | (refine Need.mk ?_; first | with_reducible rfl | (show @Eq TC _ _; rfl) | omega | (simp only [adN_zero]; omega)) | exact OutS.whole rfl rfl | (refine CodeK.draw gOk hE rfl (fun _ _ h => h) (.take 0 (.take 2 (.alt 1 (.take 3 (.alt 4 (.take 5 (.take 6 (.take 7 (.take 9 (.take 10 (.take 13 (.alt 8 (.take 11 (.alt 12 (.take 14 (.take 15 (.take 16 (.take 17 (.take 19 (.take 20 (.take 23 (.alt 18 (.take 21 (.alt 22 (.alt 24 (.take 25 (.take 26 .done)) .stop) (.alt 24 (.alt 22 (.take 25 (.take 26 .done)) .stop) .stop))) (.alt 24 (.alt 18 (.take 21 (.alt 22 (.take 25 (.take 26 .done)) .stop)) .stop) .stop))))))))) .stop)) .stop))))))) .stop)) .stop))) ?_ ?_; focus (decide +kernel)) | (refine OpK.call c1 rfl rfl rfl rfl hE ?_ rfl rfl ?_; focus ((repeat' (first | exact PsA.lit _ | exact PsA.ref rfl rfl | constructor)); all_goals (fail "ps"))) | refine ListO.go gOk hE ?_)
    all_goals (try simp only [adN_zero, a0, a1, a2] at *)
    all_goals first
      | (exfalso; omega)
      | (refine Need.mk ?_; omega)
      | (refine Need.mk ?_; symm; apply dcB_false; rintro ⟨⟨h1, h2, h3, h4⟩, h5⟩; omega)
      | skip
    all_goals (
      refine CodeK.loop gOk hE (fun j : Nat => ⟨[(1, vi p), (2, .ptr 2 0 0), (5, vi ((p * 64 : Nat) : Int)), (6, vi (c.getD p 0)), (8, vi ((p * 64 + 3 + j : Nat) : Int))], [(2, bH b c), (1000000, rI .fro false b), (1000001, rI .fro false c)]⟩) (fun j => j ≤ 5 ∧ ∀ i, i < j → b.getD (p * 64 + 3 + i) 0 = 0) (fun j => 5 - j) 0 (by refine leT.of ?_ ?_ rfl <;> repeat' (first | exact trivial | refine And.intro rfl ?_ | refine And.intro (by simp) ?_)) ⟨Nat.zero_le _, fun j hj => absurd hj (Nat.not_lt_zero _)⟩ ?_
      rintro j ⟨hj, hq⟩
      by_cases hj2 : j < 5
      · by_cases hz : b.getD (p * 64 + 3 + j) 0 = 0
        all_goals (repeat' (first | exact trivial | refine BS.d (fun h => ?_) (fun h => ?_) | refine BS.e (fun h => ?_) (fun h => ?_) | refine BS.ne (fun h => ?_) (fun h => ?_) | refine BS.n ?_ | refine BS.s (fun h => ?_) (fun h => ?_) | refine And.intro ?_ ?_ | (refine Need.mk ?_; first | with_reducible rfl | (show @Eq TC _ _; rfl) | omega | (simp only [adN_zero]; omega)) | exact OutS.whole rfl rfl | refine ListO.go gOk hE ?_))
        all_goals (try simp only [adN_zero] at *)
        all_goals first
          | (exfalso; omega)
          | (refine Need.mk ?_; omega)
          | (refine Need.mk ?_; symm; apply dcB_false; rintro ⟨⟨h1, h2, h3, h4⟩, h5⟩; exact hz (h4 j (by omega)))
          | (refine ⟨j + 1, (by refine leT.of ?_ ?_ rfl <;> repeat' (first | exact trivial | refine And.intro rfl ?_ | refine And.intro (by simp) ?_)), ⟨by omega, fun i hi => (Nat.lt_or_ge i j).elim (hq i) (fun h9 => (show i = j by omega) ▸ hz)⟩, by first | omega | (dsimp only; omega)⟩)
          | trace_state
      repeat' (first | exact trivial | refine BS.d (fun h => ?_) (fun h => ?_) | refine BS.e (fun h => ?_) (fun h => ?_) | refine BS.ne (fun h => ?_) (fun h => ?_) | refine BS.n ?_ | refine BS.s (fun h => ?_) (fun h => ?_) | refine And.intro ?_ ?_ | (refine Need.mk ?_; first | with_reducible rfl | (show @Eq TC _ _; rfl) | omega | (simp only [adN_zero]; omega)) | exact OutS.whole rfl rfl | refine ListO.go gOk hE ?_)
      all_goals first | (exfalso; omega) | skip
      have hz5 : zrP b (p * 64 + 3) 5 := fun i hi => hq i (by omega)
      have hhd : hdP b (p * 64) (c.getD p 0) := ⟨by assumption, by assumption, by assumption, hz5⟩
      refine CodeK.loop gOk hE (fun i : Nat => ⟨[(1, vi p), (2, .ptr 2 0 0), (6, vi (c.getD p 0)), (9, vi i)], [(2, bH b c), (1000000, rI .fro false b), (1000001, rI .fro false c)]⟩) (fun i => (i : Int) ≤ perC (c.getD p 0) ∧ ∀ j : Nat, j < i → 1 ≤ gnIn b c (slA p j) ∧ gnIn b c (slA p j) ≤ 7) (fun i => (perC (c.getD p 0)).toNat - i) 0 (by refine leT.of ?_ ?_ rfl <;> repeat' (first | exact trivial | refine And.intro rfl ?_ | refine And.intro (by simp) ?_)) ⟨hper.1, fun j hj => absurd hj (Nat.not_lt_zero _)⟩ ?_
      rintro i ⟨hi, hg⟩
      by_cases hi2 : (i : Int) < perC (c.getD p 0)
      · obtain ⟨hcl, hi4⟩ := clIn_at (c := c) hp hi2
        have hne : clIn c (slA p i) ≠ -1 := by rw [hcl]; unfold clP at hcp; omega
        have hsm := clIn_some hne
        have hgn : gnIn b c (slA p i) = ldN b (genA (slA p i) (c.getD p 0)).toNat 4 := by unfold gnIn; rw [if_neg hne, hcl]
        rw [hcl] at hsm
        have c2 := SlotAtS_run p i
        have c3 := GenAtS_run (slA p i) (c.getD p 0)
        have c4 := l3Load_run b (genA (slA p i) (c.getD p 0)) 4 (by omega) hsh.2.2.1.2 hsm.2.2.2.2.2.1 (by omega) (by have := hsm.2.2.2.2.2; rcases cls4 (c.getD p 0) with h | h | h | h <;> omega)
        rw [← hgn] at c4
        have c5 := inH_run (gnIn b c (slA p i)) 1 7
        by_cases hgg : 1 ≤ gnIn b c (slA p i) ∧ gnIn b c (slA p i) ≤ 7
        · rw [decide_eq_true hgg] at c5
          repeat' (first | exact trivial | refine BS.d (fun h => ?_) (fun h => ?_) | refine BS.e (fun h => ?_) (fun h => ?_) | refine BS.ne (fun h => ?_) (fun h => ?_) | refine BS.n ?_ | refine BS.s (fun h => ?_) (fun h => ?_) | refine And.intro ?_ ?_ | (refine Need.mk ?_; first | with_reducible rfl | (show @Eq TC _ _; rfl) | omega | (simp only [adN_zero]; omega)) | exact OutS.whole rfl rfl | (refine CodeK.draw gOk hE rfl (fun _ _ h => h) (.take 0 (.take 2 (.take 3 (.take 5 (.alt 1 (.alt 4 (.alt 6 (.alt 7 (.alt 8 (.take 9 .done) .stop) .stop) .stop) .stop) (.alt 4 (.alt 1 (.alt 6 (.alt 7 (.alt 8 (.take 9 .done) .stop) .stop) .stop) (.alt 6 (.alt 1 (.alt 7 (.alt 8 (.take 9 .done) .stop) .stop) .stop) .stop)) .stop)))))) ?_ ?_; focus (decide +kernel)) | (refine OpK.call c1 rfl rfl rfl rfl hE ?_ rfl rfl ?_; focus ((repeat' (first | exact PsA.lit _ | exact PsA.ref rfl rfl | constructor)); all_goals (fail "ps"))) | (refine OpK.call c2 rfl rfl rfl rfl hE ?_ rfl rfl ?_; focus ((repeat' (first | exact PsA.lit _ | exact PsA.ref rfl rfl | constructor)); all_goals (fail "ps"))) | (refine OpK.call c3 rfl rfl rfl rfl hE ?_ rfl rfl ?_; focus ((repeat' (first | exact PsA.lit _ | exact PsA.ref rfl rfl | constructor)); all_goals (fail "ps"))) | (refine OpK.call c4 rfl rfl rfl rfl hE ?_ rfl rfl ?_; focus ((repeat' (first | exact PsA.lit _ | exact PsA.ref rfl rfl | constructor)); all_goals (fail "ps"))) | (refine OpK.call c5 rfl rfl rfl rfl hE ?_ rfl rfl ?_; focus ((repeat' (first | exact PsA.lit _ | exact PsA.ref rfl rfl | constructor)); all_goals (fail "ps"))) | refine ListO.go gOk hE ?_)
          all_goals first
            | (exfalso; omega)
            | (refine Need.mk ?_; omega)
            | (refine ⟨i + 1, (by refine leT.of ?_ ?_ rfl <;> repeat' (first | exact trivial | refine And.intro rfl ?_ | refine And.intro (by simp) ?_)), ⟨by omega, fun j hj => (Nat.lt_or_ge j i).elim (hg j) (fun h9 => (show j = i by omega) ▸ hgg)⟩, by first | omega | (dsimp only; omega)⟩)
            | trace_state
        · rw [decide_eq_false hgg] at c5
          repeat' (first | exact trivial | refine BS.d (fun h => ?_) (fun h => ?_) | refine BS.e (fun h => ?_) (fun h => ?_) | refine BS.ne (fun h => ?_) (fun h => ?_) | refine BS.n ?_ | refine BS.s (fun h => ?_) (fun h => ?_) | refine And.intro ?_ ?_ | (refine Need.mk ?_; first | with_reducible rfl | (show @Eq TC _ _; rfl) | omega | (simp only [adN_zero]; omega)) | exact OutS.whole rfl rfl | (refine CodeK.draw gOk hE rfl (fun _ _ h => h) (.take 0 (.take 2 (.take 3 (.take 5 (.alt 1 (.alt 4 (.alt 6 (.alt 7 (.alt 8 (.take 9 .done) .stop) .stop) .stop) .stop) (.alt 4 (.alt 1 (.alt 6 (.alt 7 (.alt 8 (.take 9 .done) .stop) .stop) .stop) (.alt 6 (.alt 1 (.alt 7 (.alt 8 (.take 9 .done) .stop) .stop) .stop) .stop)) .stop)))))) ?_ ?_; focus (decide +kernel)) | (refine OpK.call c1 rfl rfl rfl rfl hE ?_ rfl rfl ?_; focus ((repeat' (first | exact PsA.lit _ | exact PsA.ref rfl rfl | constructor)); all_goals (fail "ps"))) | (refine OpK.call c2 rfl rfl rfl rfl hE ?_ rfl rfl ?_; focus ((repeat' (first | exact PsA.lit _ | exact PsA.ref rfl rfl | constructor)); all_goals (fail "ps"))) | (refine OpK.call c3 rfl rfl rfl rfl hE ?_ rfl rfl ?_; focus ((repeat' (first | exact PsA.lit _ | exact PsA.ref rfl rfl | constructor)); all_goals (fail "ps"))) | (refine OpK.call c4 rfl rfl rfl rfl hE ?_ rfl rfl ?_; focus ((repeat' (first | exact PsA.lit _ | exact PsA.ref rfl rfl | constructor)); all_goals (fail "ps"))) | (refine OpK.call c5 rfl rfl rfl rfl hE ?_ rfl rfl ?_; focus ((repeat' (first | exact PsA.lit _ | exact PsA.ref rfl rfl | constructor)); all_goals (fail "ps"))) | refine ListO.go gOk hE ?_)
          all_goals first
            | (exfalso; omega)
            | (refine Need.mk ?_; omega)
            | (refine Need.mk ?_; symm; apply dcB_false; rintro ⟨h5, h6⟩; exact hgg (h6 i hi2))
            | trace_state
      · repeat' (first | exact trivial | refine BS.d (fun h => ?_) (fun h => ?_) | refine BS.e (fun h => ?_) (fun h => ?_) | refine BS.ne (fun h => ?_) (fun h => ?_) | refine BS.n ?_ | refine BS.s (fun h => ?_) (fun h => ?_) | refine And.intro ?_ ?_ | (refine Need.mk ?_; first | with_reducible rfl | (show @Eq TC _ _; rfl) | omega | (simp only [adN_zero]; omega)) | exact OutS.whole rfl rfl | (refine OpK.call c1 rfl rfl rfl rfl hE ?_ rfl rfl ?_; focus ((repeat' (first | exact PsA.lit _ | exact PsA.ref rfl rfl | constructor)); all_goals (fail "ps"))) | refine ListO.go gOk hE ?_)
        all_goals first
          | (exfalso; omega)
          | (refine Need.mk ?_; symm; apply dcB_true; exact ⟨hhd, fun j hj => hg j (by omega)⟩)
          | trace_state)
end Go.Proofs.YtbfkdbbgbdihdabDoor
