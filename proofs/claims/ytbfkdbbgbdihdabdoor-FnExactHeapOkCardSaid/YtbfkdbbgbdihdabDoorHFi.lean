import Derived.Test.YtbfkdbbgbdihdabDoorHE
namespace Go.Proofs.YtbfkdbbgbdihdabDoor
open Go Go.Tr
set_option maxRecDepth 100000
set_option maxHeartbeats 4000000
set_option linter.unusedVariables false
set_option linter.unusedSimpArgs false
/-- The class of a slot, out of the pages' classes. -/
def clIn (c : List Int) (s : Int) : Int := if (0 ≤ s ∧ s < 24) ∧ s % 4 < perC (c.getD (s / 4).toNat 0) then c.getD (s / 4).toNat 0 else -1
def gnIn (b c : List Int) (s : Int) : Int := if clIn c s = -1 then 0 else ldN b (genA s (clIn c s)).toNat 4
theorem clIn_yes {c : List Int} {s : Int} (h1 : 0 ≤ s ∧ s < 24) (h2 : s % 4 < perC (c.getD (s / 4).toNat 0)) : clIn c s = c.getD (s / 4).toNat 0 := if_pos ⟨h1, h2⟩
theorem clIn_no {c : List Int} {s : Int} (h : ¬ ((0 ≤ s ∧ s < 24) ∧ s % 4 < perC (c.getD (s / 4).toNat 0))) : clIn c s = -1 := if_neg h
theorem clIn_some {c : List Int} {s : Int} (h : clIn c s ≠ -1) : (0 ≤ s ∧ s < 24) ∧ s % 4 < perC (clIn c s) ∧ c.getD (s / 4).toNat 0 = clIn c s ∧ (0 ≤ clIn c s ∧ clIn c s ≤ 2) ∧ genA s (clIn c s) = s / 4 * 64 + 8 + s % 4 * strC (clIn c s) ∧ 0 ≤ genA s (clIn c s) ∧ genA s (clIn c s) + 4 + szC (clIn c s) ≤ 384 := by
  by_cases hh : (0 ≤ s ∧ s < 24) ∧ s % 4 < perC (c.getD (s / 4).toNat 0)
  · rw [clIn_yes hh.1 hh.2]
    rw [genA_yes hh.1 hh.2]
    refine ⟨hh.1, hh.2, rfl, ?_, rfl, ?_⟩ <;> rcases cls4 (c.getD (s / 4).toNat 0) with ⟨h1, h2, h3, h4⟩ | ⟨h1, h2, h3, h4⟩ | ⟨h1, h2, h3, h4⟩ | ⟨h1, h2, h3, h4⟩ <;> (try rw [h3]) <;> (try rw [h2]) <;> omega
  · exact absurd (clIn_no hh) h
theorem classIn_run (b c : List Int) (s : Int) (hc : c.length = 6) : RunH Tryd.prog hT 35 [aH2 b c, ti s] [] [oi (clIn c s)] [] := by
  have c0 := slotH_run s
  have c1 := PageOfI_run s
  have c3 := GenAtI_run s (c.getD (s / 4).toNat 0)
  by_cases hs : 0 ≤ s ∧ s < 24
  · rw [decide_eq_true hs] at c0
    rw [pg_yes hs] at c1
    by_cases h : s % 4 < perC (c.getD (s / 4).toNat 0)
    · rw [clIn_yes hs h]
      have hg := genA_yes hs h
      have h9 : 0 ≤ s % 4 * strC (c.getD (s / 4).toNat 0) := by rcases cls4 (c.getD (s / 4).toNat 0) with ⟨h1, h2, h3, h4⟩ | ⟨h1, h2, h3, h4⟩ | ⟨h1, h2, h3, h4⟩ | ⟨h1, h2, h3, h4⟩ <;> rw [h3] <;> omega
      obtain ⟨q, hd⟩ := Int.eq_ofNat_of_zero_le (show 0 ≤ s / 4 by omega)
      have hd2 : (s / 4).toNat = q := by omega
      rw [hd] at c1
      rw [hd2] at c3 hg h9 h
      rw [hd2]
      generalize genA s (c.getD q 0) = g at *
      refine RunH.of_vc gOk Tryd.func35 rfl rfl (Nat.le_of_ble_eq_true rfl) (by repeat' (first | exact trivial | exact ⟨_, rfl, Nat.le_refl _⟩ | exact Nat.le_of_ble_eq_true rfl | refine And.intro ?_ ?_)) (Nat.le_of_ble_eq_true rfl) rfl (fun F hE hA => ?_)
      repeat' (first | exact trivial | refine BS.d (fun h => ?_) (fun h => ?_) | refine BS.e (fun h => ?_) (fun h => ?_) | refine BS.ne (fun h => ?_) (fun h => ?_) | refine BS.n ?_ | refine BS.s (fun h => ?_) (fun h => ?_) | refine And.intro ?_ ?_ | (refine Need.mk ?_; first | with_reducible rfl | (show @Eq TC _ _; rfl) | omega | (simp only [adN_zero]; omega)) | exact OutS.whole rfl rfl | (refine CodeK.draw gOk hE rfl (fun _ _ h => h) (.take 0 (.take 2 (.alt 1 (.alt 3 (.take 4 (.alt 5 (.take 6 .done) .stop)) .stop) (.alt 3 (.alt 1 (.take 4 (.alt 5 (.take 6 .done) .stop)) .stop) .stop)))) ?_ ?_; focus (decide +kernel)) | (refine OpK.call c0 rfl rfl rfl rfl hE ?_ rfl rfl ?_; focus ((repeat' (first | exact PsA.lit _ | exact PsA.ref rfl rfl | constructor)); all_goals (fail "ps"))) | (refine OpK.call c1 rfl rfl rfl rfl hE ?_ rfl rfl ?_; focus ((repeat' (first | exact PsA.lit _ | exact PsA.ref rfl rfl | constructor)); all_goals (fail "ps"))) | (refine OpK.callH c3 hA rfl rfl rfl rfl hE ?_ rfl rfl ?_; focus ((repeat' (first | exact PsA.lit _ | exact PsA.ref rfl rfl | constructor)); all_goals (fail "ps"))) | refine ListO.go gOk hE ?_)
      all_goals (try simp only [adN_zero] at *)
      all_goals first | (exfalso; omega) | (refine Need.mk ?_; first | omega | rfl) | trace_state
    · rw [clIn_no (fun hh => h hh.2)]
      rw [genA_no (fun hh => h hh.2)] at c3
      obtain ⟨q, hd⟩ := Int.eq_ofNat_of_zero_le (show 0 ≤ s / 4 by omega)
      have hd2 : (s / 4).toNat = q := by omega
      rw [hd] at c1
      rw [hd2] at c3
      refine RunH.of_vc gOk Tryd.func35 rfl rfl (Nat.le_of_ble_eq_true rfl) (by repeat' (first | exact trivial | exact ⟨_, rfl, Nat.le_refl _⟩ | exact Nat.le_of_ble_eq_true rfl | refine And.intro ?_ ?_)) (Nat.le_of_ble_eq_true rfl) rfl (fun F hE hA => ?_)
      repeat' (first | exact trivial | refine BS.d (fun h => ?_) (fun h => ?_) | refine BS.e (fun h => ?_) (fun h => ?_) | refine BS.ne (fun h => ?_) (fun h => ?_) | refine BS.n ?_ | refine BS.s (fun h => ?_) (fun h => ?_) | refine And.intro ?_ ?_ | (refine Need.mk ?_; first | with_reducible rfl | (show @Eq TC _ _; rfl) | omega | (simp only [adN_zero]; omega)) | exact OutS.whole rfl rfl | (refine CodeK.draw gOk hE rfl (fun _ _ h => h) (.take 0 (.take 2 (.alt 1 (.alt 3 (.take 4 (.alt 5 (.take 6 .done) .stop)) .stop) (.alt 3 (.alt 1 (.take 4 (.alt 5 (.take 6 .done) .stop)) .stop) .stop)))) ?_ ?_; focus (decide +kernel)) | (refine OpK.call c0 rfl rfl rfl rfl hE ?_ rfl rfl ?_; focus ((repeat' (first | exact PsA.lit _ | exact PsA.ref rfl rfl | constructor)); all_goals (fail "ps"))) | (refine OpK.call c1 rfl rfl rfl rfl hE ?_ rfl rfl ?_; focus ((repeat' (first | exact PsA.lit _ | exact PsA.ref rfl rfl | constructor)); all_goals (fail "ps"))) | (refine OpK.callH c3 hA rfl rfl rfl rfl hE ?_ rfl rfl ?_; focus ((repeat' (first | exact PsA.lit _ | exact PsA.ref rfl rfl | constructor)); all_goals (fail "ps"))) | refine ListO.go gOk hE ?_)
      all_goals (try simp only [adN_zero] at *)
      all_goals first | (exfalso; omega) | (refine Need.mk ?_; first | omega | rfl) | trace_state
  · rw [decide_eq_false hs] at c0
    rw [clIn_no (fun hh => hs hh.1)]
    refine RunH.of_vc gOk Tryd.func35 rfl rfl (Nat.le_of_ble_eq_true rfl) (by repeat' (first | exact trivial | exact ⟨_, rfl, Nat.le_refl _⟩ | exact Nat.le_of_ble_eq_true rfl | refine And.intro ?_ ?_)) (Nat.le_of_ble_eq_true rfl) rfl (fun F hE hA => ?_)
    repeat' (first | exact trivial | refine BS.d (fun h => ?_) (fun h => ?_) | refine BS.e (fun h => ?_) (fun h => ?_) | refine BS.ne (fun h => ?_) (fun h => ?_) | refine BS.n ?_ | refine BS.s (fun h => ?_) (fun h => ?_) | refine And.intro ?_ ?_ | (refine Need.mk ?_; first | with_reducible rfl | (show @Eq TC _ _; rfl) | omega | (simp only [adN_zero]; omega)) | exact OutS.whole rfl rfl | (refine OpK.call c0 rfl rfl rfl rfl hE ?_ rfl rfl ?_; focus ((repeat' (first | exact PsA.lit _ | exact PsA.ref rfl rfl | constructor)); all_goals (fail "ps"))) | refine ListO.go gOk hE ?_)
    all_goals first | exact Need.mk rfl | (exfalso; omega) | trace_state
theorem genIn_run (b c : List Int) (s : Int) (h : shP b c) : RunH Tryd.prog hT 28 [aH2 b c, ti s] [] [oi (gnIn b c s)] [] := by
  obtain ⟨h1, h2, h3, h4⟩ := h
  have c1 := classIn_run b c s h2
  unfold gnIn
  by_cases hs : clIn c s = -1
  · rw [if_pos hs]
    refine RunH.of_vc gOk Tryd.func28 rfl rfl (Nat.le_of_ble_eq_true rfl) (by repeat' (first | exact trivial | exact ⟨_, rfl, Nat.le_refl _⟩ | exact Nat.le_of_ble_eq_true rfl | refine And.intro ?_ ?_)) (Nat.le_of_ble_eq_true rfl) rfl (fun F hE hA => ?_)
    repeat' (first | exact trivial | refine BS.d (fun h => ?_) (fun h => ?_) | refine BS.e (fun h => ?_) (fun h => ?_) | refine BS.ne (fun h => ?_) (fun h => ?_) | refine BS.n ?_ | refine BS.s (fun h => ?_) (fun h => ?_) | refine And.intro ?_ ?_ | (refine Need.mk ?_; first | with_reducible rfl | (show @Eq TC _ _; rfl) | omega | (simp only [adN_zero]; omega)) | exact OutS.whole rfl rfl | (refine OpK.callH c1 hA rfl rfl rfl rfl hE ?_ rfl rfl ?_; focus ((repeat' (first | exact PsA.lit _ | exact PsA.ref rfl rfl | constructor)); all_goals (fail "ps"))) | refine ListO.go gOk hE ?_)
    all_goals first | exact Need.mk rfl | (exfalso; omega) | trace_state
  · have hk := clIn_some hs
    have c2 := GenAtI_run s (clIn c s)
    have c3 := numAt_run b (genA s (clIn c s)) 4 (by omega) h3.2 hk.2.2.2.2.2.1 (by omega) (by have := hk.2.2.2.2.2; rcases cls4 (clIn c s) with h | h | h | h <;> omega)
    rw [if_neg hs]
    refine RunH.of_vc gOk Tryd.func28 rfl rfl (Nat.le_of_ble_eq_true rfl) (by repeat' (first | exact trivial | exact ⟨_, rfl, Nat.le_refl _⟩ | exact Nat.le_of_ble_eq_true rfl | refine And.intro ?_ ?_)) (Nat.le_of_ble_eq_true rfl) rfl (fun F hE hA => ?_)
    repeat' (first | exact trivial | refine BS.d (fun h => ?_) (fun h => ?_) | refine BS.e (fun h => ?_) (fun h => ?_) | refine BS.ne (fun h => ?_) (fun h => ?_) | refine BS.n ?_ | refine BS.s (fun h => ?_) (fun h => ?_) | refine And.intro ?_ ?_ | (refine Need.mk ?_; first | with_reducible rfl | (show @Eq TC _ _; rfl) | omega | (simp only [adN_zero]; omega)) | exact OutS.whole rfl rfl | (refine CodeK.draw gOk hE rfl (fun _ _ h => h) (.take 0 (.take 2 (.take 3 (.alt 1 (.alt 4 (.alt 5 (.take 6 .done) .stop) .stop) (.alt 4 (.alt 1 (.alt 5 (.take 6 .done) .stop) .stop) .stop))))) ?_ ?_; focus (decide +kernel)) | (refine OpK.callH c1 hA rfl rfl rfl rfl hE ?_ rfl rfl ?_; focus ((repeat' (first | exact PsA.lit _ | exact PsA.ref rfl rfl | constructor)); all_goals (fail "ps"))) | (refine OpK.callH c2 hA rfl rfl rfl rfl hE ?_ rfl rfl ?_; focus ((repeat' (first | exact PsA.lit _ | exact PsA.ref rfl rfl | constructor)); all_goals (fail "ps"))) | (refine OpK.call c3 rfl rfl rfl rfl hE ?_ rfl rfl ?_; focus ((repeat' (first | exact PsA.lit _ | exact PsA.ref rfl rfl | constructor)); all_goals (fail "ps"))) | refine ListO.go gOk hE ?_)
    all_goals first | exact Need.mk rfl | (exfalso; omega) | trace_state
end Go.Proofs.YtbfkdbbgbdihdabDoor
