import Derived.Test.YtfdbjiaghbeedaaGreatDoorZKDC
import Derived.Test.YtfdbjiaghbeedaaGreatDoorZKDB
import Derived.Test.YtfdbjiaghbeedaaGreatDoorZKDA
import Derived.Test.YtfdbjiaghbeedaaGreatDoorVZ
import Derived.Test.YtfdbjiaghbeedaaGreatDoorVRs
import Derived.Test.YtfdbjiaghbeedaaGreatDoorMkL
import Derived.Test.YtfdbjiaghbeedaaGreatDoorPB
section
/- The state of a slot. -/
namespace Go.Proofs.YtfdbjiaghbeedaaGreatDoor
open Go Go.Tr
set_option maxRecDepth 100000
set_option maxHeartbeats 4000000
set_option linter.unusedVariables false
set_option linter.unusedSimpArgs false
def stN (b c : List Int) (g o : List (List Int)) (s : Int) : Int := if clIn c s = -1 then 0 else if s ∈ (g ++ o).flatten then 1 else if gnIn b c s = 7 then 2 else 3
theorem gn_bd {b c : List Int} {s : Int} (h : hpP b c) (hs : clIn c s ≠ -1) : 1 ≤ gnIn b c s ∧ gnIn b c s ≤ 7 := by
  have hk := clIn_some hs
  obtain ⟨p, hp⟩ := Int.eq_ofNat_of_zero_le (show 0 ≤ s / 4 by omega)
  obtain ⟨i, hi⟩ := Int.eq_ofNat_of_zero_le (show 0 ≤ s % 4 by omega)
  have hp2 : (s / 4).toNat = p := by omega
  have h1 := h.2 p (by omega)
  have hcl : c.getD p 0 = clIn c s := by rw [← hk.2.2.1, hp2]
  unfold pgP at h1
  rw [hcl, if_neg (by omega)] at h1
  have h2 := h1.2 i (by rw [hcl]; omega)
  rw [slA_at (by omega) (by omega), show (p : Int) * 4 + i = s by omega] at h2
  exact h2
theorem gn_zero {b c : List Int} {s : Int} (hs : clIn c s = -1) : gnIn b c s = 0 := if_pos hs
theorem l9State_run (e : Nat) (b c : List Int) (g o : List (List Int)) (s : Int) (h : MmT b c g o) (hp : hpP b c) : RunT Tryz.prog 151 [aMm e b c g o, ti s] [] [oi (stN b c g o s)] [] := by
  have c1 := l7Class_run b c s hp.1.2.1
  have c2 := OnListS_run e e g o s h.ok.hg h.ok.ho h.f
  unfold stN
  by_cases h1 : clIn c s = -1
  · rw [if_pos h1]
    rw [h1] at c1
    refine RunT.of_vc gOk Tryz.func151 rfl rfl (Nat.le_of_ble_eq_true rfl) (by repeat' (first | exact trivial | exact ⟨_, rfl, Nat.le_refl _⟩ | exact Nat.le_of_ble_eq_true rfl | refine And.intro ?_ ?_)) (Nat.le_of_ble_eq_true rfl) rfl (fun F hE => ?_)
    repeat' (first | exact trivial | refine BS.d (fun h => ?_) (fun h => ?_) | refine BS.e (fun h => ?_) (fun h => ?_) | refine BS.ne (fun h => ?_) (fun h => ?_) | refine BS.n ?_ | refine BS.s (fun h => ?_) (fun h => ?_) | refine And.intro ?_ ?_ | (refine Need.mk ?_; first | with_reducible rfl | (show @Eq TC _ _; rfl) | omega | (simp only [adN_zero]; omega)) | exact OutS.whole rfl rfl | (refine OpK.call c1 rfl rfl rfl rfl hE ?_ rfl rfl ?_; focus ((repeat' (first | exact PsA.lit _ | exact PsA.ref rfl rfl | constructor)); all_goals (fail "ps"))) | refine ListO.go gOk hE ?_)
  · have hk := clIn_some h1
    have c3 := l7Gen_run b c s hp.1 h1
    have hb := gn_bd hp h1
    rw [if_neg h1]
    by_cases h2 : s ∈ (g ++ o).flatten
    · rw [decide_eq_true h2] at c2
      rw [if_pos h2]
      refine RunT.of_vc gOk Tryz.func151 rfl rfl (Nat.le_of_ble_eq_true rfl) (by repeat' (first | exact trivial | exact ⟨_, rfl, Nat.le_refl _⟩ | exact Nat.le_of_ble_eq_true rfl | refine And.intro ?_ ?_)) (Nat.le_of_ble_eq_true rfl) rfl (fun F hE => ?_)
      repeat' (first | exact trivial | refine BS.d (fun h => ?_) (fun h => ?_) | refine BS.e (fun h => ?_) (fun h => ?_) | refine BS.ne (fun h => ?_) (fun h => ?_) | refine BS.n ?_ | refine BS.s (fun h => ?_) (fun h => ?_) | refine And.intro ?_ ?_ | (refine Need.mk ?_; first | with_reducible rfl | (show @Eq TC _ _; rfl) | omega | (simp only [adN_zero]; omega)) | exact OutS.whole rfl rfl | (refine OpK.call c1 rfl rfl rfl rfl hE ?_ rfl rfl ?_; focus ((repeat' (first | exact PsA.lit _ | exact PsA.ref rfl rfl | constructor)); all_goals (fail "ps"))) | (refine OpK.call c2 rfl rfl rfl rfl hE ?_ rfl rfl ?_; focus ((repeat' (first | exact PsA.lit _ | exact PsA.ref rfl rfl | constructor)); all_goals (fail "ps"))) | refine ListO.go gOk hE ?_)
      all_goals first | exact Need.mk rfl | (exfalso; omega) | trace_state
    · rw [decide_eq_false h2] at c2
      rw [if_neg h2]
      refine RunT.of_vc gOk Tryz.func151 rfl rfl (Nat.le_of_ble_eq_true rfl) (by repeat' (first | exact trivial | exact ⟨_, rfl, Nat.le_refl _⟩ | exact Nat.le_of_ble_eq_true rfl | refine And.intro ?_ ?_)) (Nat.le_of_ble_eq_true rfl) rfl (fun F hE => ?_)
      repeat' (first | exact trivial | refine BS.d (fun h => ?_) (fun h => ?_) | refine BS.e (fun h => ?_) (fun h => ?_) | refine BS.ne (fun h => ?_) (fun h => ?_) | refine BS.n ?_ | refine BS.s (fun h => ?_) (fun h => ?_) | refine And.intro ?_ ?_ | (refine Need.mk ?_; first | with_reducible rfl | (show @Eq TC _ _; rfl) | omega | (simp only [adN_zero]; omega)) | exact OutS.whole rfl rfl | (refine OpK.call c1 rfl rfl rfl rfl hE ?_ rfl rfl ?_; focus ((repeat' (first | exact PsA.lit _ | exact PsA.ref rfl rfl | constructor)); all_goals (fail "ps"))) | (refine OpK.call c2 rfl rfl rfl rfl hE ?_ rfl rfl ?_; focus ((repeat' (first | exact PsA.lit _ | exact PsA.ref rfl rfl | constructor)); all_goals (fail "ps"))) | (refine OpK.call c3 rfl rfl rfl rfl hE ?_ rfl rfl ?_; focus ((repeat' (first | exact PsA.lit _ | exact PsA.ref rfl rfl | constructor)); all_goals (fail "ps"))) | refine ListO.go gOk hE ?_)
      all_goals first | (exfalso; omega) | (refine Need.mk ?_; first | (rw [if_pos (by omega)]; done) | (rw [if_neg (by omega)]; done)) | trace_state
theorem stateIn_run (e : Nat) (b c : List Int) (g o : List (List Int)) (s : Int) (h : MmT b c g o) (hp : hpP b c) : RunH Tryz.prog hT 163 [aMm e b c g o, ti s] [] [oi (stN b c g o s)] [] := by
  have c1 := classIn_run b c s hp.1.2.1
  have c2 := OnListI_run e e g o s h.n h.x
  have c3 := genIn_run b c s hp.1
  unfold stN
  by_cases h1 : clIn c s = -1
  · rw [if_pos h1]
    refine RunH.of_vc gOk Tryz.func163 rfl rfl (Nat.le_of_ble_eq_true rfl) (by repeat' (first | exact trivial | exact ⟨_, rfl, Nat.le_refl _⟩ | exact Nat.le_of_ble_eq_true rfl | refine And.intro ?_ ?_)) (Nat.le_of_ble_eq_true rfl) rfl (fun F hE hA => ?_)
    repeat' (first | exact trivial | refine BS.d (fun h => ?_) (fun h => ?_) | refine BS.e (fun h => ?_) (fun h => ?_) | refine BS.ne (fun h => ?_) (fun h => ?_) | refine BS.n ?_ | refine BS.s (fun h => ?_) (fun h => ?_) | refine And.intro ?_ ?_ | (refine Need.mk ?_; first | with_reducible rfl | (show @Eq TC _ _; rfl) | omega | (simp only [adN_zero]; omega)) | exact OutS.whole rfl rfl | (refine OpK.callH c1 hA rfl rfl rfl rfl hE ?_ rfl rfl ?_; focus ((repeat' (first | exact PsA.lit _ | exact PsA.ref rfl rfl | constructor)); all_goals (fail "ps"))) | refine ListO.go gOk hE ?_)
    all_goals first | exact Need.mk rfl | (exfalso; omega) | trace_state
  · have hk := clIn_some h1
    rw [if_neg h1]
    by_cases h2 : s ∈ (g ++ o).flatten
    · rw [decide_eq_true h2] at c2
      rw [if_pos h2]
      refine RunH.of_vc gOk Tryz.func163 rfl rfl (Nat.le_of_ble_eq_true rfl) (by repeat' (first | exact trivial | exact ⟨_, rfl, Nat.le_refl _⟩ | exact Nat.le_of_ble_eq_true rfl | refine And.intro ?_ ?_)) (Nat.le_of_ble_eq_true rfl) rfl (fun F hE hA => ?_)
      repeat' (first | exact trivial | refine BS.d (fun h => ?_) (fun h => ?_) | refine BS.e (fun h => ?_) (fun h => ?_) | refine BS.ne (fun h => ?_) (fun h => ?_) | refine BS.n ?_ | refine BS.s (fun h => ?_) (fun h => ?_) | refine And.intro ?_ ?_ | (refine Need.mk ?_; first | with_reducible rfl | (show @Eq TC _ _; rfl) | omega | (simp only [adN_zero]; omega)) | exact OutS.whole rfl rfl | (refine OpK.callH c1 hA rfl rfl rfl rfl hE ?_ rfl rfl ?_; focus ((repeat' (first | exact PsA.lit _ | exact PsA.ref rfl rfl | constructor)); all_goals (fail "ps"))) | (refine OpK.call c2 rfl rfl rfl rfl hE ?_ rfl rfl ?_; focus ((repeat' (first | exact PsA.lit _ | exact PsA.ref rfl rfl | constructor)); all_goals (fail "ps"))) | refine ListO.go gOk hE ?_)
      all_goals first | exact Need.mk rfl | (exfalso; omega) | trace_state
    · rw [decide_eq_false h2] at c2
      rw [if_neg h2]
      refine RunH.of_vc gOk Tryz.func163 rfl rfl (Nat.le_of_ble_eq_true rfl) (by repeat' (first | exact trivial | exact ⟨_, rfl, Nat.le_refl _⟩ | exact Nat.le_of_ble_eq_true rfl | refine And.intro ?_ ?_)) (Nat.le_of_ble_eq_true rfl) rfl (fun F hE hA => ?_)
      repeat' (first | exact trivial | refine BS.d (fun h => ?_) (fun h => ?_) | refine BS.e (fun h => ?_) (fun h => ?_) | refine BS.ne (fun h => ?_) (fun h => ?_) | refine BS.n ?_ | refine BS.s (fun h => ?_) (fun h => ?_) | refine And.intro ?_ ?_ | (refine Need.mk ?_; first | with_reducible rfl | (show @Eq TC _ _; rfl) | omega | (simp only [adN_zero]; omega)) | exact OutS.whole rfl rfl | (refine OpK.callH c1 hA rfl rfl rfl rfl hE ?_ rfl rfl ?_; focus ((repeat' (first | exact PsA.lit _ | exact PsA.ref rfl rfl | constructor)); all_goals (fail "ps"))) | (refine OpK.call c2 rfl rfl rfl rfl hE ?_ rfl rfl ?_; focus ((repeat' (first | exact PsA.lit _ | exact PsA.ref rfl rfl | constructor)); all_goals (fail "ps"))) | (refine OpK.callH c3 hA rfl rfl rfl rfl hE ?_ rfl rfl ?_; focus ((repeat' (first | exact PsA.lit _ | exact PsA.ref rfl rfl | constructor)); all_goals (fail "ps"))) | refine ListO.go gOk hE ?_)
      all_goals first | (exfalso; omega) | (refine Need.mk ?_; first | (rw [if_pos (by omega)]; done) | (rw [if_neg (by omega)]; done)) | trace_state
end Go.Proofs.YtfdbjiaghbeedaaGreatDoor
end

section
namespace Go.Proofs.YtfdbjiaghbeedaaGreatDoor
open Go Go.Tr
set_option maxRecDepth 100000
set_option maxHeartbeats 4000000
set_option linter.unusedVariables false
set_option linter.unusedSimpArgs false
theorem sHandleGen_run (x : Int) : RunT Tryz.prog 178 [ti x] [] [oi (hGen x)] [] := by
  have c1 := sHandleOk_run x
  unfold hGen
  cases hk : hOk x with
  | true =>
    have := hOk_iff.1 hk
    rw [hk] at c1
    refine RunT.of_vc gOk Tryz.func178 rfl rfl (Nat.le_of_ble_eq_true rfl) (by repeat' (first | exact trivial | exact ⟨_, rfl, Nat.le_refl _⟩ | exact Nat.le_of_ble_eq_true rfl | refine And.intro ?_ ?_)) (Nat.le_of_ble_eq_true rfl) rfl (fun F hE => ?_)
    repeat' (first | exact trivial | refine BS.d (fun h => ?_) (fun h => ?_) | refine BS.e (fun h => ?_) (fun h => ?_) | refine BS.ne (fun h => ?_) (fun h => ?_) | refine BS.n ?_ | refine BS.s (fun h => ?_) (fun h => ?_) | refine And.intro ?_ ?_ | (refine Need.mk ?_; first | with_reducible rfl | (show @Eq TC _ _; rfl) | omega | (simp only [adN_zero]; omega)) | exact OutS.whole rfl rfl | (refine OpK.call c1 rfl rfl rfl rfl hE ?_ rfl rfl ?_; focus ((repeat' (first | exact PsA.lit _ | exact PsA.ref rfl rfl | constructor)); all_goals (fail "ps"))) | refine ListO.go gOk hE ?_)
    all_goals (refine Need.mk ?_; rw [Int.tdiv_eq_ediv_of_nonneg (by omega), wr_in (by omega)]; rfl)
  | false =>
    rw [hk] at c1
    refine RunT.of_vc gOk Tryz.func178 rfl rfl (Nat.le_of_ble_eq_true rfl) (by repeat' (first | exact trivial | exact ⟨_, rfl, Nat.le_refl _⟩ | exact Nat.le_of_ble_eq_true rfl | refine And.intro ?_ ?_)) (Nat.le_of_ble_eq_true rfl) rfl (fun F hE => ?_)
    repeat' (first | exact trivial | refine BS.d (fun h => ?_) (fun h => ?_) | refine BS.e (fun h => ?_) (fun h => ?_) | refine BS.ne (fun h => ?_) (fun h => ?_) | refine BS.n ?_ | refine BS.s (fun h => ?_) (fun h => ?_) | refine And.intro ?_ ?_ | (refine Need.mk ?_; first | with_reducible rfl | (show @Eq TC _ _; rfl) | omega | (simp only [adN_zero]; omega)) | exact OutS.whole rfl rfl | (refine OpK.call c1 rfl rfl rfl rfl hE ?_ rfl rfl ?_; focus ((repeat' (first | exact PsA.lit _ | exact PsA.ref rfl rfl | constructor)); all_goals (fail "ps"))) | refine ListO.go gOk hE ?_)
    all_goals exact Need.mk rfl
theorem iHandleGen_run (x : Int) (hm : x ≤ 9223372036854775807) : RunT Tryz.prog 187 [ti x] [] [oi (hGen x)] [] := by
  have c1 := iHandleOk_run x hm
  unfold hGen
  cases hk : hOk x with
  | true =>
    have := hOk_iff.1 hk
    rw [hk] at c1
    refine RunT.of_vc gOk Tryz.func187 rfl rfl (Nat.le_of_ble_eq_true rfl) (by repeat' (first | exact trivial | exact ⟨_, rfl, Nat.le_refl _⟩ | exact Nat.le_of_ble_eq_true rfl | refine And.intro ?_ ?_)) (Nat.le_of_ble_eq_true rfl) rfl (fun F hE => ?_)
    repeat' (first | exact trivial | refine BS.d (fun h => ?_) (fun h => ?_) | refine BS.e (fun h => ?_) (fun h => ?_) | refine BS.ne (fun h => ?_) (fun h => ?_) | refine BS.n ?_ | refine BS.s (fun h => ?_) (fun h => ?_) | refine And.intro ?_ ?_ | (refine Need.mk ?_; first | with_reducible rfl | (show @Eq TC _ _; rfl) | omega | (simp only [adN_zero]; omega)) | exact OutS.whole rfl rfl | (refine OpK.call c1 rfl rfl rfl rfl hE ?_ rfl rfl ?_; focus ((repeat' (first | exact PsA.lit _ | exact PsA.ref rfl rfl | constructor)); all_goals (fail "ps"))) | refine ListO.go gOk hE ?_)
    all_goals (refine Need.mk ?_; rw [Int.tdiv_eq_ediv_of_nonneg (by omega), wr_in (by omega)]; rfl)
  | false =>
    rw [hk] at c1
    refine RunT.of_vc gOk Tryz.func187 rfl rfl (Nat.le_of_ble_eq_true rfl) (by repeat' (first | exact trivial | exact ⟨_, rfl, Nat.le_refl _⟩ | exact Nat.le_of_ble_eq_true rfl | refine And.intro ?_ ?_)) (Nat.le_of_ble_eq_true rfl) rfl (fun F hE => ?_)
    repeat' (first | exact trivial | refine BS.d (fun h => ?_) (fun h => ?_) | refine BS.e (fun h => ?_) (fun h => ?_) | refine BS.ne (fun h => ?_) (fun h => ?_) | refine BS.n ?_ | refine BS.s (fun h => ?_) (fun h => ?_) | refine And.intro ?_ ?_ | (refine Need.mk ?_; first | with_reducible rfl | (show @Eq TC _ _; rfl) | omega | (simp only [adN_zero]; omega)) | exact OutS.whole rfl rfl | (refine OpK.call c1 rfl rfl rfl rfl hE ?_ rfl rfl ?_; focus ((repeat' (first | exact PsA.lit _ | exact PsA.ref rfl rfl | constructor)); all_goals (fail "ps"))) | refine ListO.go gOk hE ?_)
    all_goals exact Need.mk rfl
end Go.Proofs.YtfdbjiaghbeedaaGreatDoor
end

section
/- Whether a handle is valid. -/
namespace Go.Proofs.YtfdbjiaghbeedaaGreatDoor
open Go Go.Tr
set_option maxRecDepth 100000
set_option maxHeartbeats 4000000
set_option linter.unusedVariables false
set_option linter.unusedSimpArgs false
def vlB (b c : List Int) (g o : List (List Int)) (x : Int) : Bool := hOk x && decide (stN b c g o (hSlot x) = 3) && decide (gnIn b c (hSlot x) = hGen x)
theorem stN_cl {b c : List Int} {g o : List (List Int)} {s : Int} (h : stN b c g o s = 3) : clIn c s ≠ -1 := by
  intro hh; unfold stN at h; rw [if_pos hh] at h; cases h
theorem l9Valid_run (e : Nat) (b c : List Int) (g o : List (List Int)) (x : Int) (h : MmT b c g o) (hp : hpP b c) : RunT Tryz.prog 109 [aMm e b c g o, ti x] [] [ob (vlB b c g o x)] [] := by
  have c1 := sHandleOk_run x
  have c2 := sHandleSlot_run x
  have c3 := l9State_run e b c g o (hSlot x) h hp
  have c5 := sHandleGen_run x
  unfold vlB
  cases hk : hOk x with
  | false =>
    rw [hk] at c1
    refine RunT.of_vc gOk Tryz.func109 rfl rfl (Nat.le_of_ble_eq_true rfl) (by repeat' (first | exact trivial | exact ⟨_, rfl, Nat.le_refl _⟩ | exact Nat.le_of_ble_eq_true rfl | refine And.intro ?_ ?_)) (Nat.le_of_ble_eq_true rfl) rfl (fun F hE => ?_)
    repeat' (first | exact trivial | refine BS.d (fun h => ?_) (fun h => ?_) | refine BS.e (fun h => ?_) (fun h => ?_) | refine BS.ne (fun h => ?_) (fun h => ?_) | refine BS.n ?_ | refine BS.s (fun h => ?_) (fun h => ?_) | refine And.intro ?_ ?_ | (refine Need.mk ?_; first | with_reducible rfl | (show @Eq TC _ _; rfl) | omega | (simp only [adN_zero]; omega)) | exact OutS.whole rfl rfl | (refine CodeK.draw gOk hE rfl (fun _ _ h => h) (.take 0 (.alt 1 (.take 2 (.take 4 (.alt 3 (.alt 5 (.alt 6 (.take 7 (.take 8 (.take 9 (.take 10 (.take 12 (.take 15 (.alt 11 (.alt 13 (.alt 14 (.alt 16 (.take 17 (.take 18 (.take 19 .done))) .stop) .stop) .stop) (.alt 13 (.alt 11 (.alt 14 (.alt 16 (.take 17 (.take 18 (.take 19 .done))) .stop) .stop) .stop) .stop)))))))) .stop) .stop) (.alt 5 (.alt 3 (.alt 6 (.take 7 (.take 8 (.take 9 (.take 10 (.take 12 (.take 15 (.alt 11 (.alt 13 (.alt 14 (.alt 16 (.take 17 (.take 18 (.take 19 .done))) .stop) .stop) .stop) (.alt 13 (.alt 11 (.alt 14 (.alt 16 (.take 17 (.take 18 (.take 19 .done))) .stop) .stop) .stop) .stop)))))))) .stop) .stop) .stop)))) .stop)) ?_ ?_; focus (decide +kernel)) | (refine OpK.call c1 rfl rfl rfl rfl hE ?_ rfl rfl ?_; focus ((repeat' (first | exact PsA.lit _ | exact PsA.ref rfl rfl | constructor)); all_goals (fail "ps"))) | refine ListO.go gOk hE ?_)
    all_goals first | exact Need.mk rfl | (exfalso; omega) | trace_state
  | true =>
    rw [hk] at c1
    by_cases h3 : stN b c g o (hSlot x) = 3
    · have c4 := l7Gen_run b c (hSlot x) hp.1 (stN_cl h3)
      rw [h3] at c3
      rw [decide_eq_true h3]
      refine RunT.of_vc gOk Tryz.func109 rfl rfl (Nat.le_of_ble_eq_true rfl) (by repeat' (first | exact trivial | exact ⟨_, rfl, Nat.le_refl _⟩ | exact Nat.le_of_ble_eq_true rfl | refine And.intro ?_ ?_)) (Nat.le_of_ble_eq_true rfl) rfl (fun F hE => ?_)
      repeat' (first | exact trivial | refine BS.d (fun h => ?_) (fun h => ?_) | refine BS.e (fun h => ?_) (fun h => ?_) | refine BS.ne (fun h => ?_) (fun h => ?_) | refine BS.n ?_ | refine BS.s (fun h => ?_) (fun h => ?_) | refine And.intro ?_ ?_ | (refine Need.mk ?_; first | with_reducible rfl | (show @Eq TC _ _; rfl) | omega | (simp only [adN_zero]; omega)) | exact OutS.whole rfl rfl | (refine CodeK.draw gOk hE rfl (fun _ _ h => h) (.take 0 (.alt 1 (.take 2 (.take 4 (.alt 3 (.alt 5 (.alt 6 (.take 7 (.take 8 (.take 9 (.take 10 (.take 12 (.take 15 (.alt 11 (.alt 13 (.alt 14 (.alt 16 (.take 17 (.take 18 (.take 19 .done))) .stop) .stop) .stop) (.alt 13 (.alt 11 (.alt 14 (.alt 16 (.take 17 (.take 18 (.take 19 .done))) .stop) .stop) .stop) .stop)))))))) .stop) .stop) (.alt 5 (.alt 3 (.alt 6 (.take 7 (.take 8 (.take 9 (.take 10 (.take 12 (.take 15 (.alt 11 (.alt 13 (.alt 14 (.alt 16 (.take 17 (.take 18 (.take 19 .done))) .stop) .stop) .stop) (.alt 13 (.alt 11 (.alt 14 (.alt 16 (.take 17 (.take 18 (.take 19 .done))) .stop) .stop) .stop) .stop)))))))) .stop) .stop) .stop)))) .stop)) ?_ ?_; focus (decide +kernel)) | (refine OpK.call c1 rfl rfl rfl rfl hE ?_ rfl rfl ?_; focus ((repeat' (first | exact PsA.lit _ | exact PsA.ref rfl rfl | constructor)); all_goals (fail "ps"))) | (refine OpK.call c2 rfl rfl rfl rfl hE ?_ rfl rfl ?_; focus ((repeat' (first | exact PsA.lit _ | exact PsA.ref rfl rfl | constructor)); all_goals (fail "ps"))) | (refine OpK.call c3 rfl rfl rfl rfl hE ?_ rfl rfl ?_; focus ((repeat' (first | exact PsA.lit _ | exact PsA.ref rfl rfl | constructor)); all_goals (fail "ps"))) | (refine OpK.call c4 rfl rfl rfl rfl hE ?_ rfl rfl ?_; focus ((repeat' (first | exact PsA.lit _ | exact PsA.ref rfl rfl | constructor)); all_goals (fail "ps"))) | (refine OpK.call c5 rfl rfl rfl rfl hE ?_ rfl rfl ?_; focus ((repeat' (first | exact PsA.lit _ | exact PsA.ref rfl rfl | constructor)); all_goals (fail "ps"))) | refine ListO.go gOk hE ?_)
      all_goals first | (refine Need.mk ?_; rw [Bool.beq_eq_decide_eq]; rfl) | exact Need.mk rfl | (exfalso; omega) | trace_state
    · rw [decide_eq_false h3]
      generalize stN b c g o (hSlot x) = z at *
      refine RunT.of_vc gOk Tryz.func109 rfl rfl (Nat.le_of_ble_eq_true rfl) (by repeat' (first | exact trivial | exact ⟨_, rfl, Nat.le_refl _⟩ | exact Nat.le_of_ble_eq_true rfl | refine And.intro ?_ ?_)) (Nat.le_of_ble_eq_true rfl) rfl (fun F hE => ?_)
      repeat' (first | exact trivial | refine BS.d (fun h => ?_) (fun h => ?_) | refine BS.e (fun h => ?_) (fun h => ?_) | refine BS.ne (fun h => ?_) (fun h => ?_) | refine BS.n ?_ | refine BS.s (fun h => ?_) (fun h => ?_) | refine And.intro ?_ ?_ | (refine Need.mk ?_; first | with_reducible rfl | (show @Eq TC _ _; rfl) | omega | (simp only [adN_zero]; omega)) | exact OutS.whole rfl rfl | (refine CodeK.draw gOk hE rfl (fun _ _ h => h) (.take 0 (.alt 1 (.take 2 (.take 4 (.alt 3 (.alt 5 (.alt 6 (.take 7 (.take 8 (.take 9 (.take 10 (.take 12 (.take 15 (.alt 11 (.alt 13 (.alt 14 (.alt 16 (.take 17 (.take 18 (.take 19 .done))) .stop) .stop) .stop) (.alt 13 (.alt 11 (.alt 14 (.alt 16 (.take 17 (.take 18 (.take 19 .done))) .stop) .stop) .stop) .stop)))))))) .stop) .stop) (.alt 5 (.alt 3 (.alt 6 (.take 7 (.take 8 (.take 9 (.take 10 (.take 12 (.take 15 (.alt 11 (.alt 13 (.alt 14 (.alt 16 (.take 17 (.take 18 (.take 19 .done))) .stop) .stop) .stop) (.alt 13 (.alt 11 (.alt 14 (.alt 16 (.take 17 (.take 18 (.take 19 .done))) .stop) .stop) .stop) .stop)))))))) .stop) .stop) .stop)))) .stop)) ?_ ?_; focus (decide +kernel)) | (refine OpK.call c1 rfl rfl rfl rfl hE ?_ rfl rfl ?_; focus ((repeat' (first | exact PsA.lit _ | exact PsA.ref rfl rfl | constructor)); all_goals (fail "ps"))) | (refine OpK.call c2 rfl rfl rfl rfl hE ?_ rfl rfl ?_; focus ((repeat' (first | exact PsA.lit _ | exact PsA.ref rfl rfl | constructor)); all_goals (fail "ps"))) | (refine OpK.call c3 rfl rfl rfl rfl hE ?_ rfl rfl ?_; focus ((repeat' (first | exact PsA.lit _ | exact PsA.ref rfl rfl | constructor)); all_goals (fail "ps"))) | (refine OpK.call c5 rfl rfl rfl rfl hE ?_ rfl rfl ?_; focus ((repeat' (first | exact PsA.lit _ | exact PsA.ref rfl rfl | constructor)); all_goals (fail "ps"))) | refine ListO.go gOk hE ?_)
      all_goals first | exact Need.mk rfl | (exfalso; omega) | trace_state
theorem validIn_run (e : Nat) (b c : List Int) (g o : List (List Int)) (x : Int) (h : MmT b c g o) (hp : hpP b c) (hx : x ≤ 9223372036854775807) : RunH Tryz.prog hT 116 [aMm e b c g o, ti x] [] [ob (vlB b c g o x)] [] := by
  have c2 := iHandleSlot_run x hx
  have c3 := stateIn_run e b c g o (hSlot x) h hp
  have c4 := genIn_run b c (hSlot x) hp.1
  have c5 := iHandleGen_run x hx
  have hq : vlB b c g o x = (decide (stN b c g o (hSlot x) = 3) && decide (gnIn b c (hSlot x) = hGen x)) := by
    unfold vlB
    cases hk : hOk x with
    | true => rfl
    | false =>
      have e1 : hSlot x = -1 := by unfold hSlot; rw [hk]; rfl
      have e2 : clIn c (-1) = -1 := clIn_no (by omega)
      have e3 : stN b c g o (-1) = 0 := by unfold stN; rw [if_pos e2]
      rw [e1, e3]; rfl
  rw [hq]
  by_cases h3 : stN b c g o (hSlot x) = 3
  · rw [h3] at c3
    rw [decide_eq_true h3]
    refine RunH.of_vc gOk Tryz.func116 rfl rfl (Nat.le_of_ble_eq_true rfl) (by repeat' (first | exact trivial | exact ⟨_, rfl, Nat.le_refl _⟩ | exact Nat.le_of_ble_eq_true rfl | refine And.intro ?_ ?_)) (Nat.le_of_ble_eq_true rfl) rfl (fun F hE hA => ?_)
    repeat' (first | exact trivial | refine BS.d (fun h => ?_) (fun h => ?_) | refine BS.e (fun h => ?_) (fun h => ?_) | refine BS.ne (fun h => ?_) (fun h => ?_) | refine BS.n ?_ | refine BS.s (fun h => ?_) (fun h => ?_) | refine And.intro ?_ ?_ | (refine Need.mk ?_; first | with_reducible rfl | (show @Eq TC _ _; rfl) | omega | (simp only [adN_zero]; omega)) | exact OutS.whole rfl rfl | (refine OpK.call c2 rfl rfl rfl rfl hE ?_ rfl rfl ?_; focus ((repeat' (first | exact PsA.lit _ | exact PsA.ref rfl rfl | constructor)); all_goals (fail "ps"))) | (refine OpK.callH c3 hA rfl rfl rfl rfl hE ?_ rfl rfl ?_; focus ((repeat' (first | exact PsA.lit _ | exact PsA.ref rfl rfl | constructor)); all_goals (fail "ps"))) | (refine OpK.callH c4 hA rfl rfl rfl rfl hE ?_ rfl rfl ?_; focus ((repeat' (first | exact PsA.lit _ | exact PsA.ref rfl rfl | constructor)); all_goals (fail "ps"))) | (refine OpK.call c5 rfl rfl rfl rfl hE ?_ rfl rfl ?_; focus ((repeat' (first | exact PsA.lit _ | exact PsA.ref rfl rfl | constructor)); all_goals (fail "ps"))) | refine ListO.go gOk hE ?_)
    all_goals first | (refine Need.mk ?_; rw [Bool.beq_eq_decide_eq]; rfl) | exact Need.mk rfl | (exfalso; omega) | trace_state
  · rw [decide_eq_false h3]
    generalize stN b c g o (hSlot x) = z at *
    refine RunH.of_vc gOk Tryz.func116 rfl rfl (Nat.le_of_ble_eq_true rfl) (by repeat' (first | exact trivial | exact ⟨_, rfl, Nat.le_refl _⟩ | exact Nat.le_of_ble_eq_true rfl | refine And.intro ?_ ?_)) (Nat.le_of_ble_eq_true rfl) rfl (fun F hE hA => ?_)
    repeat' (first | exact trivial | refine BS.d (fun h => ?_) (fun h => ?_) | refine BS.e (fun h => ?_) (fun h => ?_) | refine BS.ne (fun h => ?_) (fun h => ?_) | refine BS.n ?_ | refine BS.s (fun h => ?_) (fun h => ?_) | refine And.intro ?_ ?_ | (refine Need.mk ?_; first | with_reducible rfl | (show @Eq TC _ _; rfl) | omega | (simp only [adN_zero]; omega)) | exact OutS.whole rfl rfl | (refine OpK.call c2 rfl rfl rfl rfl hE ?_ rfl rfl ?_; focus ((repeat' (first | exact PsA.lit _ | exact PsA.ref rfl rfl | constructor)); all_goals (fail "ps"))) | (refine OpK.callH c3 hA rfl rfl rfl rfl hE ?_ rfl rfl ?_; focus ((repeat' (first | exact PsA.lit _ | exact PsA.ref rfl rfl | constructor)); all_goals (fail "ps"))) | (refine OpK.callH c4 hA rfl rfl rfl rfl hE ?_ rfl rfl ?_; focus ((repeat' (first | exact PsA.lit _ | exact PsA.ref rfl rfl | constructor)); all_goals (fail "ps"))) | (refine OpK.call c5 rfl rfl rfl rfl hE ?_ rfl rfl ?_; focus ((repeat' (first | exact PsA.lit _ | exact PsA.ref rfl rfl | constructor)); all_goals (fail "ps"))) | refine ListO.go gOk hE ?_)
    all_goals first | exact Need.mk rfl | (exfalso; omega) | trace_state
end Go.Proofs.YtfdbjiaghbeedaaGreatDoor
end

section
namespace Go.Proofs.YtfdbjiaghbeedaaGreatDoor
open Go Go.Tr
set_option maxRecDepth 100000
set_option maxHeartbeats 4000000
set_option linter.unusedVariables false
set_option linter.unusedSimpArgs false
/-- All of the first n have the property. -/
noncomputable def allP (n : Nat) (p : Nat → Prop) : Bool := @decide (∀ j, j < n → p j) (Classical.propDecidable _)
theorem allP_false {n i : Nat} {p : Nat → Prop} (hi : i < n) (h : ¬ p i) : allP n p = false := by
  unfold allP; exact @decide_eq_false _ (Classical.propDecidable _) (fun k => h (k i hi))
theorem allP_true {n : Nat} {p : Nat → Prop} (h : ∀ j, j < n → p j) : allP n p = true := by
  unfold allP; exact @decide_eq_true _ (Classical.propDecidable _) h
end Go.Proofs.YtfdbjiaghbeedaaGreatDoor
end

section
/- Hazard pointers: whether they are right. -/
namespace Go.Proofs.YtfdbjiaghbeedaaGreatDoor
open Go Go.Tr
set_option maxRecDepth 100000
set_option maxHeartbeats 4000000
set_option linter.unusedVariables false
set_option linter.unusedSimpArgs false
abbrev hzQ (z : List Int) (j : Nat) : Prop := z.getD j 0 = 0 ∨ hOk (z.getD j 0) = true
noncomputable def hzA (z : List Int) : Bool := allP z.length (hzQ z)
noncomputable def hzB (z : List Int) : Bool := decide (z.length = 3) && hzA z
theorem handleOrNone_run (x : Int) (hm : x ≤ 9223372036854775807) : RunT Tryz.prog 125 [ti x] [] [ob (decide (x = 0) || hOk x)] [] := by
  have c1 := iHandleOk_run x hm
  cases hk : hOk x
  all_goals (rw [hk] at c1)
  all_goals (refine RunT.of_vc gOk Tryz.func125 rfl rfl (Nat.le_of_ble_eq_true rfl) (by repeat' (first | exact trivial | exact ⟨_, rfl, Nat.le_refl _⟩ | exact Nat.le_of_ble_eq_true rfl | refine And.intro ?_ ?_)) (Nat.le_of_ble_eq_true rfl) rfl (fun F hE => ?_))
  all_goals (repeat' (first | exact trivial | refine BS.d (fun h => ?_) (fun h => ?_) | refine BS.e (fun h => ?_) (fun h => ?_) | refine BS.ne (fun h => ?_) (fun h => ?_) | refine BS.n ?_ | refine BS.s (fun h => ?_) (fun h => ?_) | refine And.intro ?_ ?_ | (refine Need.mk ?_; first | with_reducible rfl | (show @Eq TC _ _; rfl) | omega | (simp only [adN_zero]; omega)) | exact OutS.whole rfl rfl | (refine OpK.call c1 rfl rfl rfl rfl hE ?_ rfl rfl ?_; focus ((repeat' (first | exact PsA.lit _ | exact PsA.ref rfl rfl | constructor)); all_goals (fail "ps"))) | refine ListO.go gOk hE ?_))
  all_goals (refine Need.mk ?_; simp_all)
theorem hzNone_run (z : List Int) (hn : z.length ≤ 4000000) (hm : ∀ i, z.getD i 0 ≤ 9223372036854775807) : RunT Tryz.prog 209 [.one (.c (tI z))] [] [ob (hzA z)] [] := by
  refine RunT.of_vc gOk Tryz.func209 rfl rfl (Nat.le_of_ble_eq_true rfl) (by repeat' (first | exact trivial | exact ⟨_, rfl, Nat.le_refl _⟩ | exact Nat.le_of_ble_eq_true rfl | refine And.intro ?_ ?_)) (Nat.le_of_ble_eq_true rfl) rfl (fun F hE => ?_)
  repeat' (first | exact trivial | refine BS.d (fun h => ?_) (fun h => ?_) | refine BS.e (fun h => ?_) (fun h => ?_) | refine BS.ne (fun h => ?_) (fun h => ?_) | refine BS.n ?_ | refine BS.s (fun h => ?_) (fun h => ?_) | refine And.intro ?_ ?_ | (refine Need.mk ?_; first | with_reducible rfl | (show @Eq TC _ _; rfl) | omega | (simp only [adN_zero]; omega)) | exact OutS.whole rfl rfl | refine ListO.go gOk hE ?_)
  refine CodeK.loop gOk hE (fun i : Nat => ⟨[(5, vr 1000000 z.length), (6, vi z.length), (7, vi i)], [(1000000, rI .fro false z)]⟩) (fun i => i ≤ z.length ∧ ∀ j, j < i → hzQ z j) (fun i => z.length - i) 0 (by refine leT.of ?_ ?_ rfl <;> repeat' (first | exact trivial | refine And.intro rfl ?_ | refine And.intro (by simp) ?_)) ⟨Nat.zero_le _, fun j hj => absurd hj (Nat.not_lt_zero _)⟩ ?_
  rintro i ⟨hi, hs⟩
  have c1 := handleOrNone_run (z.getD i 0) (hm i)
  by_cases hp : hzQ z i
  · have hb : (decide (z.getD i 0 = 0) || hOk (z.getD i 0)) = true := by rw [Bool.or_eq_true, decide_eq_true_eq]; exact hp
    rw [hb] at c1
    repeat' (first | exact trivial | refine BS.d (fun h => ?_) (fun h => ?_) | refine BS.e (fun h => ?_) (fun h => ?_) | refine BS.ne (fun h => ?_) (fun h => ?_) | refine BS.n ?_ | refine BS.s (fun h => ?_) (fun h => ?_) | refine And.intro ?_ ?_ | (refine Need.mk ?_; first | with_reducible rfl | (show @Eq TC _ _; rfl) | omega | (simp only [adN_zero]; omega)) | exact OutS.whole rfl rfl | (refine OpK.call c1 rfl rfl rfl rfl hE ?_ rfl rfl ?_; focus ((repeat' (first | exact PsA.lit _ | exact PsA.ref rfl rfl | constructor)); all_goals (fail "ps"))) | refine ListO.go gOk hE ?_)
    all_goals (try simp only [adN_zero] at *)
    all_goals first
      | (exfalso; omega)
      | (refine Need.mk ?_; omega)
      | (refine Need.mk ?_; exact (allP_true (fun j hj => hs j (by omega))).symm)
      | (refine ⟨i + 1, (by refine leT.of ?_ ?_ rfl <;> repeat' (first | exact trivial | refine And.intro rfl ?_ | refine And.intro (by simp) ?_)), ⟨by omega, fun j hj => (Nat.lt_or_ge j i).elim (hs j) (fun h9 => (show j = i by omega) ▸ hp)⟩, by first | omega | (dsimp only; omega)⟩)
      | (exfalso; simp_all; done)
      | trace_state
  · have hb : (decide (z.getD i 0 = 0) || hOk (z.getD i 0)) = false := by
      cases hq : hOk (z.getD i 0) <;> by_cases h9 : z.getD i 0 = 0 <;> simp_all [hzQ]
    rw [hb] at c1
    repeat' (first | exact trivial | refine BS.d (fun h => ?_) (fun h => ?_) | refine BS.e (fun h => ?_) (fun h => ?_) | refine BS.ne (fun h => ?_) (fun h => ?_) | refine BS.n ?_ | refine BS.s (fun h => ?_) (fun h => ?_) | refine And.intro ?_ ?_ | (refine Need.mk ?_; first | with_reducible rfl | (show @Eq TC _ _; rfl) | omega | (simp only [adN_zero]; omega)) | exact OutS.whole rfl rfl | (refine OpK.call c1 rfl rfl rfl rfl hE ?_ rfl rfl ?_; focus ((repeat' (first | exact PsA.lit _ | exact PsA.ref rfl rfl | constructor)); all_goals (fail "ps"))) | refine ListO.go gOk hE ?_)
    all_goals (try simp only [adN_zero] at *)
    all_goals first
      | (exfalso; omega)
      | (refine Need.mk ?_; omega)
      | (refine Need.mk ?_; exact (allP_false (i := i) (by omega) hp).symm)
      | (refine Need.mk ?_; exact (allP_true (fun j hj => hs j (by omega))).symm)
      | (exfalso; simp_all; done)
      | trace_state
theorem HazOkI_run (z : List Int) (hn : z.length ≤ 4000000) (hm : ∀ i, z.getD i 0 ≤ 9223372036854775807) : RunT Tryz.prog 161 [.one (.c (tI z))] [] [ob (hzB z)] [] := by
  have c1 := hzNone_run z hn hm
  unfold hzB
  generalize hzA z = bb at *
  refine RunT.of_vc gOk Tryz.func161 rfl rfl (Nat.le_of_ble_eq_true rfl) (by repeat' (first | exact trivial | exact ⟨_, rfl, Nat.le_refl _⟩ | exact Nat.le_of_ble_eq_true rfl | refine And.intro ?_ ?_)) (Nat.le_of_ble_eq_true rfl) rfl (fun F hE => ?_)
  repeat' (first | exact trivial | refine BS.d (fun h => ?_) (fun h => ?_) | refine BS.e (fun h => ?_) (fun h => ?_) | refine BS.ne (fun h => ?_) (fun h => ?_) | refine BS.n ?_ | refine BS.s (fun h => ?_) (fun h => ?_) | refine And.intro ?_ ?_ | (refine Need.mk ?_; first | with_reducible rfl | (show @Eq TC _ _; rfl) | omega | (simp only [adN_zero]; omega)) | exact OutS.whole rfl rfl | (refine OpK.call c1 rfl rfl rfl rfl hE ?_ rfl rfl ?_; focus ((repeat' (first | exact PsA.lit _ | exact PsA.ref rfl rfl | constructor)); all_goals (fail "ps"))) | refine ListO.go gOk hE ?_)
  all_goals (refine Need.mk ?_; first | (rw [decide_eq_true (by omega)]; rfl) | (rw [decide_eq_false (by omega)]; rfl) | (simp_all; done))
theorem HazOkS_run (z : List Int) (hn : z.length ≤ 4000000) : RunT Tryz.prog 149 [.one (.c (tI z))] [] [ob (hzB z)] [] := by
  refine RunT.of_vc gOk Tryz.func149 rfl rfl (Nat.le_of_ble_eq_true rfl) (by repeat' (first | exact trivial | exact ⟨_, rfl, Nat.le_refl _⟩ | exact Nat.le_of_ble_eq_true rfl | refine And.intro ?_ ?_)) (Nat.le_of_ble_eq_true rfl) rfl (fun F hE => ?_)
  repeat' (first | exact trivial | refine BS.d (fun h => ?_) (fun h => ?_) | refine BS.e (fun h => ?_) (fun h => ?_) | refine BS.ne (fun h => ?_) (fun h => ?_) | refine BS.n ?_ | refine BS.s (fun h => ?_) (fun h => ?_) | refine And.intro ?_ ?_ | (refine Need.mk ?_; first | with_reducible rfl | (show @Eq TC _ _; rfl) | omega | (simp only [adN_zero]; omega)) | exact OutS.whole rfl rfl | refine ListO.go gOk hE ?_)
  refine CodeK.loop gOk hE (fun i : Nat => ⟨[(0, vr 1000000 z.length), (3, vi i)], [(1000000, rI .fro false z)]⟩) (fun i => i ≤ z.length ∧ ∀ j, j < i → hzQ z j) (fun i => z.length - i) 0 (by refine leT.of ?_ ?_ rfl <;> repeat' (first | exact trivial | refine And.intro rfl ?_ | refine And.intro (by simp) ?_)) ⟨Nat.zero_le _, fun j hj => absurd hj (Nat.not_lt_zero _)⟩ ?_
  rintro i ⟨hi, hs⟩
  have c1 := sHandleOk_run (z.getD i 0)
  by_cases hp : hzQ z i
  · cases hk : hOk (z.getD i 0)
    all_goals (rw [hk] at c1)
    all_goals (repeat' (first | exact trivial | refine BS.d (fun h => ?_) (fun h => ?_) | refine BS.e (fun h => ?_) (fun h => ?_) | refine BS.ne (fun h => ?_) (fun h => ?_) | refine BS.n ?_ | refine BS.s (fun h => ?_) (fun h => ?_) | refine And.intro ?_ ?_ | (refine Need.mk ?_; first | with_reducible rfl | (show @Eq TC _ _; rfl) | omega | (simp only [adN_zero]; omega)) | exact OutS.whole rfl rfl | (refine OpK.call c1 rfl rfl rfl rfl hE ?_ rfl rfl ?_; focus ((repeat' (first | exact PsA.lit _ | exact PsA.ref rfl rfl | constructor)); all_goals (fail "ps"))) | refine ListO.go gOk hE ?_))
    all_goals (try simp only [adN_zero] at *)
    all_goals first
      | (exfalso; omega)
      | (refine Need.mk ?_; omega)
      | (refine Need.mk ?_; unfold hzB hzA; rw [allP_true (fun j hj => hs j (by omega)), Bool.and_true, Bool.beq_eq_decide_eq]; apply decide_eq_decide.2; omega)
      | (refine ⟨i + 1, (by refine leT.of ?_ ?_ rfl <;> repeat' (first | exact trivial | refine And.intro rfl ?_ | refine And.intro (by simp) ?_)), ⟨by omega, fun j hj => (Nat.lt_or_ge j i).elim (hs j) (fun h9 => (show j = i by omega) ▸ hp)⟩, by first | omega | (dsimp only; omega)⟩)
      | (exfalso; rcases hp with h | h <;> simp_all; done)
      | trace_state
  · have hk : hOk (z.getD i 0) = false := by cases hk : hOk (z.getD i 0); rfl; exact absurd (Or.inr hk) hp
    have hz : z.getD i 0 ≠ 0 := fun h => hp (.inl h)
    rw [hk] at c1
    repeat' (first | exact trivial | refine BS.d (fun h => ?_) (fun h => ?_) | refine BS.e (fun h => ?_) (fun h => ?_) | refine BS.ne (fun h => ?_) (fun h => ?_) | refine BS.n ?_ | refine BS.s (fun h => ?_) (fun h => ?_) | refine And.intro ?_ ?_ | (refine Need.mk ?_; first | with_reducible rfl | (show @Eq TC _ _; rfl) | omega | (simp only [adN_zero]; omega)) | exact OutS.whole rfl rfl | (refine OpK.call c1 rfl rfl rfl rfl hE ?_ rfl rfl ?_; focus ((repeat' (first | exact PsA.lit _ | exact PsA.ref rfl rfl | constructor)); all_goals (fail "ps"))) | refine ListO.go gOk hE ?_)
    all_goals (try simp only [adN_zero] at *)
    all_goals first
      | (exfalso; omega)
      | (refine Need.mk ?_; omega)
      | (refine Need.mk ?_; unfold hzB hzA; rw [allP_false (i := i) (by omega) hp]; simp; done)
      | (refine Need.mk ?_; unfold hzB hzA; rw [allP_true (fun j hj => hs j (by omega)), Bool.and_true, Bool.beq_eq_decide_eq]; apply decide_eq_decide.2; omega)
      | (exfalso; simp_all; done)
      | trace_state
end Go.Proofs.YtfdbjiaghbeedaaGreatDoor
end

section
/- NextTo, both packages. -/
namespace Go.Proofs.YtfdbjiaghbeedaaGreatDoor
open Go Go.Tr
set_option maxRecDepth 100000
set_option maxHeartbeats 4000000
set_option linter.unusedVariables false
set_option linter.unusedSimpArgs false
theorem l15SomeN_run (x : Int) : RunT Tryz.prog 121 [ti x] [] [ob (decide (x = 0) || hOk x)] [] := by
  have c1 := sHandleOk_run x
  cases hk : hOk x
  all_goals (rw [hk] at c1)
  all_goals (refine RunT.of_vc gOk Tryz.func121 rfl rfl (Nat.le_of_ble_eq_true rfl) (by repeat' (first | exact trivial | exact ⟨_, rfl, Nat.le_refl _⟩ | exact Nat.le_of_ble_eq_true rfl | refine And.intro ?_ ?_)) (Nat.le_of_ble_eq_true rfl) rfl (fun F hE => ?_))
  all_goals (repeat' (first | exact trivial | refine BS.d (fun h => ?_) (fun h => ?_) | refine BS.e (fun h => ?_) (fun h => ?_) | refine BS.ne (fun h => ?_) (fun h => ?_) | refine BS.n ?_ | refine BS.s (fun h => ?_) (fun h => ?_) | refine And.intro ?_ ?_ | (refine Need.mk ?_; first | with_reducible rfl | (show @Eq TC _ _; rfl) | omega | (simp only [adN_zero]; omega)) | exact OutS.whole rfl rfl | (refine OpK.call c1 rfl rfl rfl rfl hE ?_ rfl rfl ?_; focus ((repeat' (first | exact PsA.lit _ | exact PsA.ref rfl rfl | constructor)); all_goals (fail "ps"))) | refine ListO.go gOk hE ?_))
  all_goals (refine Need.mk ?_; simp_all)
/-- The place of a node that may be written, and a code. -/
noncomputable def nsX (b c : List Int) (g o : List (List Int)) (x : Int) : Int × Int := if vlB b c g o x = true then ndX c x else (0, 4)
theorem nsX_ok {b c : List Int} {g o : List (List Int)} {x : Int} (h : (nsX b c g o x).2 = 0) : vlB b c g o x = true ∧ nsX b c g o x = ndX c x ∧ 0 ≤ (nsX b c g o x).1 ∧ (nsX b c g o x).1 + 10 ≤ 384 := by
  unfold nsX at h ⊢
  by_cases hv : vlB b c g o x = true
  · rw [if_pos hv] at h ⊢
    obtain ⟨_, _, _, h0, h1⟩ := ndX_ok h
    exact ⟨hv, rfl, h0, h1⟩
  · rw [if_neg hv] at h; cases h
theorem nodeToSet_run (e : Nat) (b c : List Int) (g o : List (List Int)) (x : Int) (h : MmT b c g o) (hp : hpP b c) (hx : x ≤ 9223372036854775807) : RunH Tryz.prog hT 128 [aMm e b c g o, ti x] [] [oi (nsX b c g o x).1, oi (nsX b c g o x).2] [] := by
  have c1 := validIn_run e b c g o x h hp hx
  have c2 := nodeStart_run e b c g o x hp.1.2.1 hx
  unfold nsX
  cases hv : vlB b c g o x with
  | true =>
    rw [hv] at c1
    rw [if_pos rfl]
    generalize ndX c x = r at *
    obtain ⟨r1, r2⟩ := r
    dsimp only at *
    refine RunH.of_vc gOk Tryz.func128 rfl rfl (Nat.le_of_ble_eq_true rfl) (by repeat' (first | exact trivial | exact ⟨_, rfl, Nat.le_refl _⟩ | exact Nat.le_of_ble_eq_true rfl | refine And.intro ?_ ?_)) (Nat.le_of_ble_eq_true rfl) rfl (fun F hE hA => ?_)
    repeat' (first | exact trivial | refine BS.d (fun h => ?_) (fun h => ?_) | refine BS.e (fun h => ?_) (fun h => ?_) | refine BS.ne (fun h => ?_) (fun h => ?_) | refine BS.n ?_ | refine BS.s (fun h => ?_) (fun h => ?_) | refine And.intro ?_ ?_ | (refine Need.mk ?_; first | with_reducible rfl | (show @Eq TC _ _; rfl) | omega | (simp only [adN_zero]; omega)) | exact OutS.whole rfl rfl | (refine OpK.callH c1 hA rfl rfl rfl rfl hE ?_ rfl rfl ?_; focus ((repeat' (first | exact PsA.lit _ | exact PsA.ref rfl rfl | constructor)); all_goals (fail "ps"))) | (refine OpK.callH c2 hA rfl rfl rfl rfl hE ?_ rfl rfl ?_; focus ((repeat' (first | exact PsA.lit _ | exact PsA.ref rfl rfl | constructor)); all_goals (fail "ps"))) | refine ListO.go gOk hE ?_)
    all_goals first | exact Need.mk rfl | (exfalso; omega) | trace_state
  | false =>
    rw [hv] at c1
    rw [if_neg (by decide)]
    refine RunH.of_vc gOk Tryz.func128 rfl rfl (Nat.le_of_ble_eq_true rfl) (by repeat' (first | exact trivial | exact ⟨_, rfl, Nat.le_refl _⟩ | exact Nat.le_of_ble_eq_true rfl | refine And.intro ?_ ?_)) (Nat.le_of_ble_eq_true rfl) rfl (fun F hE hA => ?_)
    repeat' (first | exact trivial | refine BS.d (fun h => ?_) (fun h => ?_) | refine BS.e (fun h => ?_) (fun h => ?_) | refine BS.ne (fun h => ?_) (fun h => ?_) | refine BS.n ?_ | refine BS.s (fun h => ?_) (fun h => ?_) | refine And.intro ?_ ?_ | (refine Need.mk ?_; first | with_reducible rfl | (show @Eq TC _ _; rfl) | omega | (simp only [adN_zero]; omega)) | exact OutS.whole rfl rfl | (refine OpK.callH c1 hA rfl rfl rfl rfl hE ?_ rfl rfl ?_; focus ((repeat' (first | exact PsA.lit _ | exact PsA.ref rfl rfl | constructor)); all_goals (fail "ps"))) | (refine OpK.callH c2 hA rfl rfl rfl rfl hE ?_ rfl rfl ?_; focus ((repeat' (first | exact PsA.lit _ | exact PsA.ref rfl rfl | constructor)); all_goals (fail "ps"))) | refine ListO.go gOk hE ?_)
    all_goals first | exact Need.mk rfl | (exfalso; omega) | trace_state
end Go.Proofs.YtfdbjiaghbeedaaGreatDoor
end

section
/- Marks of numbers. -/
namespace Go.Proofs.YtfdbjiaghbeedaaGreatDoor
open Go Go.Tr
set_option maxRecDepth 100000
set_option maxHeartbeats 4000000
set_option linter.unusedVariables false
set_option linter.unusedSimpArgs false
abbrev fI (m : Int) (j : Nat) : Int := m + j
abbrev bInt (e κ : Nat) (xs xs' : List Int) : Bt := ⟨κ, 0, true, .sl e 1 Int encI decI 0 xs, .sl e 1 Int encI decI 0 xs', .ty .own true e 1 Int encI decI 0 xs'⟩
abbrev bIntX (κ : Nat) (xs xs' : List Int) : Bt := ⟨κ, 0, true, .sl 0 1 Int encI decI 0 xs, .sl 0 1 Int encI decI 0 xs', .ty .own false 0 1 Int encI decI 0 xs'⟩
theorem markI_run (e : Nat) (xs : List Int) (m : Int) (h0 : 0 ≤ m) (h1 : m ≤ 33554432) (hn : xs.length ≤ 4000000) : RunT Tryz.prog 17 [.one (.h 0 xs.length), ti m] [.sl e 1 Int encI decI 0 xs] [oi (m + xs.length)] [.sl e 1 Int encI decI 0 (mkL 0 (fI m) xs xs.length)] := by
  refine RunT.of_vc gOk Tryz.func17 rfl rfl (Nat.le_of_ble_eq_true rfl) (by repeat' (first | exact trivial | exact ⟨_, rfl, Nat.le_refl _⟩ | exact Nat.le_of_ble_eq_true rfl | refine And.intro ?_ ?_)) (Nat.le_of_ble_eq_true rfl) rfl (fun F hE => ?_)
  repeat' (first | exact trivial | refine BS.d (fun h => ?_) (fun h => ?_) | refine BS.e (fun h => ?_) (fun h => ?_) | refine BS.ne (fun h => ?_) (fun h => ?_) | refine BS.n ?_ | refine BS.s (fun h => ?_) (fun h => ?_) | refine And.intro ?_ ?_ | (refine Need.mk ?_; first | with_reducible rfl | (show @Eq TC _ _; rfl) | omega | (simp only [adN_zero]; omega)) | exact OutS.whole rfl rfl | refine ListO.go gOk hE ?_)
  refine CodeK.loop gOk hE (fun i : Nat => ⟨[(0, vr 1000000 xs.length), (1, vi (m + i)), (5, vi i)], [(1000000, .ty .own false 0 1 Int encI decI 0 (mkL 0 (fI m) xs i))]⟩) (fun i => i ≤ xs.length) (fun i => xs.length - i) 0 (by refine leT.of ?_ ?_ rfl <;> repeat' (first | exact trivial | refine And.intro rfl ?_ | refine And.intro (by simp [mkL_zero] <;> rfl) ?_)) (Nat.zero_le _) ?_
  rintro i hi
  have hl := mkL_len 0 (fI m) xs i
  repeat' (first | exact trivial | refine BS.d (fun h => ?_) (fun h => ?_) | refine BS.e (fun h => ?_) (fun h => ?_) | refine BS.ne (fun h => ?_) (fun h => ?_) | refine BS.n ?_ | refine BS.s (fun h => ?_) (fun h => ?_) | refine And.intro ?_ ?_ | (refine Need.mk ?_; first | with_reducible rfl | (show @Eq TC _ _; rfl) | omega | (simp only [adN_zero]; omega)) | exact OutS.whole rfl rfl | refine ListO.go gOk hE ?_)
  all_goals (try simp only [adN_zero] at *)
  all_goals first
    | (refine Need.mk ?_; first | omega | (rw [List.length_set]; omega) | rw [show i = xs.length by omega])
    | (refine ⟨i + 1, (by refine leT.of ?_ ?_ rfl <;> repeat' (first | exact trivial | refine And.intro rfl ?_ | refine And.intro (by first | rfl | (refine litInt ?_; omega) | (refine congrArg (fun l => some (TRoot.ty .own false 0 1 Int encI decI 0 l)) ?_; exact mkL_set 0 (fI m) _ _ (by omega))) ?_)), by omega, by first | omega | (dsimp only; omega)⟩)
theorem heldI_run (xs : List Int) (m : Int) (h0 : 0 ≤ m) (h1 : m ≤ 33554432) (hn : xs.length ≤ 4000000) : RunT Tryz.prog 18 [.one (.c (tI (mkL 0 (fI m) xs xs.length))), ti m] [] [oi (m + xs.length)] [] := by
  have hl := mkL_len 0 (fI m) xs xs.length
  refine RunT.of_vc gOk Tryz.func18 rfl rfl (Nat.le_of_ble_eq_true rfl) (by repeat' (first | exact trivial | exact ⟨_, rfl, Nat.le_refl _⟩ | exact Nat.le_of_ble_eq_true rfl | refine And.intro ?_ ?_)) (Nat.le_of_ble_eq_true rfl) rfl (fun F hE => ?_)
  repeat' (first | exact trivial | refine BS.d (fun h => ?_) (fun h => ?_) | refine BS.e (fun h => ?_) (fun h => ?_) | refine BS.ne (fun h => ?_) (fun h => ?_) | refine BS.n ?_ | refine BS.s (fun h => ?_) (fun h => ?_) | refine And.intro ?_ ?_ | (refine Need.mk ?_; first | with_reducible rfl | (show @Eq TC _ _; rfl) | omega | (simp only [adN_zero]; omega)) | exact OutS.whole rfl rfl | refine ListO.go gOk hE ?_)
  refine CodeK.loop gOk hE (fun i : Nat => ⟨[(0, vr 1000000 (mkL 0 (fI m) xs xs.length).length), (1, vi (m + i)), (5, vi i)], [(1000000, rI .fro false (mkL 0 (fI m) xs xs.length))]⟩) (fun i => i ≤ xs.length) (fun i => xs.length - i) 0 (by refine leT.of ?_ ?_ rfl <;> repeat' (first | exact trivial | refine And.intro rfl ?_ | refine And.intro (by simp <;> rfl) ?_)) (Nat.zero_le _) ?_
  rintro i hi
  have hg : i < xs.length → (mkL 0 (fI m) xs xs.length).getD i 0 = fI m i := fun h => mkL_get _ _ _ _ _ h h
  repeat' (first | exact trivial | refine BS.d (fun h => ?_) (fun h => ?_) | refine BS.e (fun h => ?_) (fun h => ?_) | refine BS.ne (fun h => ?_) (fun h => ?_) | refine BS.n ?_ | refine BS.s (fun h => ?_) (fun h => ?_) | refine And.intro ?_ ?_ | (refine Need.mk ?_; first | with_reducible rfl | (show @Eq TC _ _; rfl) | omega | (simp only [adN_zero]; omega)) | exact OutS.whole rfl rfl | refine ListO.go gOk hE ?_)
  all_goals (try simp only [adN_zero] at *)
  all_goals first
    | (exfalso; have h9 := hg (by omega); rw [h9] at *; first | omega | (simp_all; done))
    | (refine Need.mk ?_; first | omega | rw [show i = xs.length by omega])
    | (refine ⟨i + 1, (by refine leT.of ?_ ?_ rfl <;> repeat' (first | exact trivial | refine And.intro rfl ?_ | refine And.intro (by first | rfl | (refine litInt ?_; omega)) ?_)), by omega, by first | omega | (dsimp only; omega)⟩)
end Go.Proofs.YtfdbjiaghbeedaaGreatDoor
end

section
/- NextTo, both packages. -/
namespace Go.Proofs.YtfdbjiaghbeedaaGreatDoor
open Go Go.Tr
set_option maxRecDepth 100000
set_option maxHeartbeats 4000000
set_option linter.unusedVariables false
set_option linter.unusedSimpArgs false
theorem fxOk_four {n : Int} (h : 0 ≤ n ∧ n < 4294967296) : fxOk n 4 = true := by
  unfold fxOk
  apply decide_eq_true
  refine ⟨by decide, by decide, h.1, ?_⟩
  show n < 256 ^ (4 : Int).toNat
  have : (256 : Int) ^ (4 : Int).toNat = 4294967296 := by decide
  omega
noncomputable def ntC (b c : List Int) (g o : List (List Int)) (x n : Int) : Int := if dcB (mmP b c g o) = true ∧ (decide (n = 0) || hOk n) = true then (nsX b c g o x).2 else 1
noncomputable def ntL (b c : List Int) (g o : List (List Int)) (x n : Int) : List Int := if ntC b c g o x n = 0 then putL b ((nsX b c g o x).1 + 6).toNat (fxd 4 n) 4 else b
theorem ntL_len (b c : List Int) (g o : List (List Int)) (x n : Int) : (ntL b c g o x n).length = b.length := by
  unfold ntL
  split
  · exact putL_len _ _ _ _
  · rfl
theorem hs_bd {n : Int} (h : (decide (n = 0) || hOk n) = true) : 0 ≤ n ∧ n < 4294967296 := by
  rcases Bool.or_eq_true _ _ ▸ h with h1 | h1
  · have := of_decide_eq_true h1; omega
  · have := hOk_iff.1 h1; omega
theorem NextToI_run (e : Nat) (b c : List Int) (g o : List (List Int)) (x n : Int) (h : MmT b c g o) (hx : x ≤ 9223372036854775807) (hn : n ≤ 9223372036854775807) : RunH Tryz.prog hT 67 [aMm e b c g o, ti x, ti n] [] [.agg [tI (ntL b c g o x n), tI c, tSL 135 g, tSL 135 o], oi (ntC b c g o x n)] [] := by
  have c1 := copyMem_run e b c g o h.ok
  have c2 := h.I e
  have c3 := handleOrNone_run n hn
  have hbd := @hs_bd n
  unfold ntL ntC
  generalize hs9 : (decide (n = 0) || hOk n) = hs at *
  by_cases hm : mmP b c g o
  · rw [dcB_true hm] at c2 ⊢
    have c4 := nodeToSet_run e b c g o x h hm.1 hx
    have hok := @nsX_ok b c g o x
    cases hs with
    | true =>
      simp only [true_and, if_true]
      by_cases hq : (nsX b c g o x).2 = 0
      · obtain ⟨_, _, h0, h1⟩ := hok hq
        rw [if_pos hq]
        rw [hq] at c4 ⊢
        have hbl := hm.1.1.1
        obtain ⟨p, hp⟩ := Int.eq_ofNat_of_zero_le h0
        rw [hp] at c4 h1 ⊢
        have hb9 := hbd rfl
        have c5 := putNum_run 3 b (p + 6) 4 n (by omega) (by omega) (by omega) (fxOk_four hb9) (by omega) hn
        have hpl := putL_len b (p + 6) (fxd 4 n) 4
        rw [show ((p : Int) + 6).toNat = p + 6 by omega]
        generalize putL b (p + 6) (fxd 4 n) 4 = nb at *
        rw [show (((p + 6 : Nat) : Int)) = (p : Int) + 6 by omega] at c5
        refine RunH.of_vc gOk Tryz.func67 rfl rfl (Nat.le_of_ble_eq_true rfl) (by repeat' (first | exact trivial | exact ⟨_, rfl, Nat.le_refl _⟩ | exact Nat.le_of_ble_eq_true rfl | refine And.intro ?_ ?_)) (Nat.le_of_ble_eq_true rfl) rfl (fun F hE hA => ?_)
        repeat' (first | exact trivial | refine BS.d (fun h => ?_) (fun h => ?_) | refine BS.e (fun h => ?_) (fun h => ?_) | refine BS.ne (fun h => ?_) (fun h => ?_) | refine BS.n ?_ | refine BS.s (fun h => ?_) (fun h => ?_) | refine And.intro ?_ ?_ | (refine Need.mk ?_; first | with_reducible rfl | (show @Eq TC _ _; rfl) | omega | (simp only [adN_zero]; omega)) | exact OutS.whole rfl rfl | (refine OpK.call c1 rfl rfl rfl rfl hE ?_ rfl rfl ?_; focus ((repeat' (first | exact PsA.lit _ | exact PsA.ref rfl rfl | constructor)); all_goals (fail "ps"))) | (refine OpK.callH c2 hA rfl rfl rfl rfl hE ?_ rfl rfl ?_; focus ((repeat' (first | exact PsA.lit _ | exact PsA.ref rfl rfl | constructor)); all_goals (fail "ps"))) | (refine OpK.call c3 rfl rfl rfl rfl hE ?_ rfl rfl ?_; focus ((repeat' (first | exact PsA.lit _ | exact PsA.ref rfl rfl | constructor)); all_goals (fail "ps"))) | (refine OpK.callH c4 hA rfl rfl rfl rfl hE ?_ rfl rfl ?_; focus ((repeat' (first | exact PsA.lit _ | exact PsA.ref rfl rfl | constructor)); all_goals (fail "ps"))) | (refine OpK.callB (bInt 3 2001536 b nb) c5 rfl rfl rfl rfl hE (BtOk.sl rfl hpl) rfl (QsVs.cons (.one (.h rfl rfl rfl)) (.cons (.one (.c (.lit _) rfl)) (.cons (.one (.c (.lit _) rfl)) (.cons (.one (.c (.lit _) rfl)) .nil)))) rfl rfl ?_) | refine ListO.go gOk hE ?_)
        all_goals first | exact Need.mk rfl | exact OutS.whole rfl rfl | exact OutS.whole hpl.symm rfl | (exfalso; omega) | trace_state
      · rw [if_neg hq]
        generalize nsX b c g o x = r at *
        obtain ⟨r1, r2⟩ := r
        dsimp only at *
        refine RunH.of_vc gOk Tryz.func67 rfl rfl (Nat.le_of_ble_eq_true rfl) (by repeat' (first | exact trivial | exact ⟨_, rfl, Nat.le_refl _⟩ | exact Nat.le_of_ble_eq_true rfl | refine And.intro ?_ ?_)) (Nat.le_of_ble_eq_true rfl) rfl (fun F hE hA => ?_)
        repeat' (first | exact trivial | refine BS.d (fun h => ?_) (fun h => ?_) | refine BS.e (fun h => ?_) (fun h => ?_) | refine BS.ne (fun h => ?_) (fun h => ?_) | refine BS.n ?_ | refine BS.s (fun h => ?_) (fun h => ?_) | refine And.intro ?_ ?_ | (refine Need.mk ?_; first | with_reducible rfl | (show @Eq TC _ _; rfl) | omega | (simp only [adN_zero]; omega)) | exact OutS.whole rfl rfl | (refine OpK.call c1 rfl rfl rfl rfl hE ?_ rfl rfl ?_; focus ((repeat' (first | exact PsA.lit _ | exact PsA.ref rfl rfl | constructor)); all_goals (fail "ps"))) | (refine OpK.callH c2 hA rfl rfl rfl rfl hE ?_ rfl rfl ?_; focus ((repeat' (first | exact PsA.lit _ | exact PsA.ref rfl rfl | constructor)); all_goals (fail "ps"))) | (refine OpK.call c3 rfl rfl rfl rfl hE ?_ rfl rfl ?_; focus ((repeat' (first | exact PsA.lit _ | exact PsA.ref rfl rfl | constructor)); all_goals (fail "ps"))) | (refine OpK.callH c4 hA rfl rfl rfl rfl hE ?_ rfl rfl ?_; focus ((repeat' (first | exact PsA.lit _ | exact PsA.ref rfl rfl | constructor)); all_goals (fail "ps"))) | refine ListO.go gOk hE ?_)
        all_goals first | exact Need.mk rfl | exact OutS.whole rfl rfl | (exfalso; omega) | (exfalso; simp_all; done) | trace_state
    | false =>
      simp only [Bool.false_eq_true, and_false, if_false]
      rw [if_neg (by decide)]
      refine RunH.of_vc gOk Tryz.func67 rfl rfl (Nat.le_of_ble_eq_true rfl) (by repeat' (first | exact trivial | exact ⟨_, rfl, Nat.le_refl _⟩ | exact Nat.le_of_ble_eq_true rfl | refine And.intro ?_ ?_)) (Nat.le_of_ble_eq_true rfl) rfl (fun F hE hA => ?_)
      repeat' (first | exact trivial | refine BS.d (fun h => ?_) (fun h => ?_) | refine BS.e (fun h => ?_) (fun h => ?_) | refine BS.ne (fun h => ?_) (fun h => ?_) | refine BS.n ?_ | refine BS.s (fun h => ?_) (fun h => ?_) | refine And.intro ?_ ?_ | (refine Need.mk ?_; first | with_reducible rfl | (show @Eq TC _ _; rfl) | omega | (simp only [adN_zero]; omega)) | exact OutS.whole rfl rfl | (refine OpK.call c1 rfl rfl rfl rfl hE ?_ rfl rfl ?_; focus ((repeat' (first | exact PsA.lit _ | exact PsA.ref rfl rfl | constructor)); all_goals (fail "ps"))) | (refine OpK.callH c2 hA rfl rfl rfl rfl hE ?_ rfl rfl ?_; focus ((repeat' (first | exact PsA.lit _ | exact PsA.ref rfl rfl | constructor)); all_goals (fail "ps"))) | (refine OpK.call c3 rfl rfl rfl rfl hE ?_ rfl rfl ?_; focus ((repeat' (first | exact PsA.lit _ | exact PsA.ref rfl rfl | constructor)); all_goals (fail "ps"))) | refine ListO.go gOk hE ?_)
      all_goals first | exact Need.mk rfl | exact OutS.whole rfl rfl | (exfalso; omega) | trace_state
  · rw [dcB_false hm] at c2 ⊢
    simp only [Bool.false_eq_true, false_and, if_false]
    rw [if_neg (by decide)]
    refine RunH.of_vc gOk Tryz.func67 rfl rfl (Nat.le_of_ble_eq_true rfl) (by repeat' (first | exact trivial | exact ⟨_, rfl, Nat.le_refl _⟩ | exact Nat.le_of_ble_eq_true rfl | refine And.intro ?_ ?_)) (Nat.le_of_ble_eq_true rfl) rfl (fun F hE hA => ?_)
    repeat' (first | exact trivial | refine BS.d (fun h => ?_) (fun h => ?_) | refine BS.e (fun h => ?_) (fun h => ?_) | refine BS.ne (fun h => ?_) (fun h => ?_) | refine BS.n ?_ | refine BS.s (fun h => ?_) (fun h => ?_) | refine And.intro ?_ ?_ | (refine Need.mk ?_; first | with_reducible rfl | (show @Eq TC _ _; rfl) | omega | (simp only [adN_zero]; omega)) | exact OutS.whole rfl rfl | (refine OpK.call c1 rfl rfl rfl rfl hE ?_ rfl rfl ?_; focus ((repeat' (first | exact PsA.lit _ | exact PsA.ref rfl rfl | constructor)); all_goals (fail "ps"))) | (refine OpK.callH c2 hA rfl rfl rfl rfl hE ?_ rfl rfl ?_; focus ((repeat' (first | exact PsA.lit _ | exact PsA.ref rfl rfl | constructor)); all_goals (fail "ps"))) | (refine OpK.call c3 rfl rfl rfl rfl hE ?_ rfl rfl ?_; focus ((repeat' (first | exact PsA.lit _ | exact PsA.ref rfl rfl | constructor)); all_goals (fail "ps"))) | refine ListO.go gOk hE ?_)
    all_goals first | exact Need.mk rfl | exact OutS.whole rfl rfl | (exfalso; omega) | trace_state
theorem NextToS_run (e : Nat) (b c : List Int) (g o : List (List Int)) (x n : Int) (h : MmT b c g o) (hn : n ≤ 9223372036854775807) : RunT Tryz.prog 62 [aMm e b c g o, ti x, ti n] [] [.agg [tI (ntL b c g o x n), tI c, tSL 135 g, tSL 135 o], oi (ntC b c g o x n)] [] := by
  have c1 := l9Copy_run e b c g o h.ok
  have c2 := h.S e
  have c3 := l15SomeN_run n
  have hbd := @hs_bd n
  unfold ntL ntC
  generalize hs9 : (decide (n = 0) || hOk n) = hs at *
  by_cases hm : mmP b c g o
  · rw [dcB_true hm] at c2 ⊢
    have c4 := l9Valid_run e b c g o x h hm.1
    have c6 := l19Spot_run e b c g o x hm.1.1.2.1
    have hok := @nsX_ok b c g o x
    cases hs with
    | true =>
      simp only [true_and, if_true]
      by_cases hq : (nsX b c g o x).2 = 0
      · obtain ⟨hv, he, h0, h1⟩ := hok hq
        rw [if_pos hq]
        rw [← he] at c6
        rw [hv] at c4
        rw [hq] at c6 ⊢
        have hbl := hm.1.1.1
        obtain ⟨p, hp⟩ := Int.eq_ofNat_of_zero_le h0
        rw [hp] at c6 h1 ⊢
        have hb9 := hbd rfl
        have c5 := l3Store_run b (p + 6) 4 n (by omega) (by omega) (by omega) hb9.1 hn
        have hpl := putL_len b (p + 6) (fxd 4 n) 4
        rw [show ((p : Int) + 6).toNat = p + 6 by omega]
        generalize putL b (p + 6) (fxd 4 n) 4 = nb at *
        rw [show (((p + 6 : Nat) : Int)) = (p : Int) + 6 by omega] at c5
        refine RunT.of_vc gOk Tryz.func62 rfl rfl (Nat.le_of_ble_eq_true rfl) (by repeat' (first | exact trivial | exact ⟨_, rfl, Nat.le_refl _⟩ | exact Nat.le_of_ble_eq_true rfl | refine And.intro ?_ ?_)) (Nat.le_of_ble_eq_true rfl) rfl (fun F hE => ?_)
        repeat' (first | exact trivial | refine BS.d (fun h => ?_) (fun h => ?_) | refine BS.e (fun h => ?_) (fun h => ?_) | refine BS.ne (fun h => ?_) (fun h => ?_) | refine BS.n ?_ | refine BS.s (fun h => ?_) (fun h => ?_) | refine And.intro ?_ ?_ | (refine Need.mk ?_; first | with_reducible rfl | (show @Eq TC _ _; rfl) | omega | (simp only [adN_zero]; omega)) | exact OutS.whole rfl rfl | (refine OpK.call c1 rfl rfl rfl rfl hE ?_ rfl rfl ?_; focus ((repeat' (first | exact PsA.lit _ | exact PsA.ref rfl rfl | constructor)); all_goals (fail "ps"))) | (refine OpK.call c2 rfl rfl rfl rfl hE ?_ rfl rfl ?_; focus ((repeat' (first | exact PsA.lit _ | exact PsA.ref rfl rfl | constructor)); all_goals (fail "ps"))) | (refine OpK.call c3 rfl rfl rfl rfl hE ?_ rfl rfl ?_; focus ((repeat' (first | exact PsA.lit _ | exact PsA.ref rfl rfl | constructor)); all_goals (fail "ps"))) | (refine OpK.call c4 rfl rfl rfl rfl hE ?_ rfl rfl ?_; focus ((repeat' (first | exact PsA.lit _ | exact PsA.ref rfl rfl | constructor)); all_goals (fail "ps"))) | (refine OpK.call c6 rfl rfl rfl rfl hE ?_ rfl rfl ?_; focus ((repeat' (first | exact PsA.lit _ | exact PsA.ref rfl rfl | constructor)); all_goals (fail "ps"))) | (refine OpK.callM 2001536 0 0 c5 rfl rfl rfl rfl hE rfl (QsVs.cons (.one (.m rfl rfl (.whole rfl rfl))) (.cons (.one (.c (.lit _) rfl)) (.cons (.one (.c (.lit _) rfl)) (.cons (.one (.c (.lit _) rfl)) .nil)))) rfl rfl ?_) | refine ListO.go gOk hE ?_)
        all_goals first | exact Need.mk rfl | exact OutS.whole rfl rfl | exact OutS.whole hpl.symm rfl | (exfalso; omega) | trace_state
      · rw [if_neg hq]
        unfold nsX at hq ⊢
        cases hv : vlB b c g o x with
        | true =>
          rw [hv] at c4 hq
          rw [if_pos rfl] at hq ⊢
          generalize ndX c x = r at *
          obtain ⟨r1, r2⟩ := r
          dsimp only at *
          refine RunT.of_vc gOk Tryz.func62 rfl rfl (Nat.le_of_ble_eq_true rfl) (by repeat' (first | exact trivial | exact ⟨_, rfl, Nat.le_refl _⟩ | exact Nat.le_of_ble_eq_true rfl | refine And.intro ?_ ?_)) (Nat.le_of_ble_eq_true rfl) rfl (fun F hE => ?_)
          repeat' (first | exact trivial | refine BS.d (fun h => ?_) (fun h => ?_) | refine BS.e (fun h => ?_) (fun h => ?_) | refine BS.ne (fun h => ?_) (fun h => ?_) | refine BS.n ?_ | refine BS.s (fun h => ?_) (fun h => ?_) | refine And.intro ?_ ?_ | (refine Need.mk ?_; first | with_reducible rfl | (show @Eq TC _ _; rfl) | omega | (simp only [adN_zero]; omega)) | exact OutS.whole rfl rfl | (refine OpK.call c1 rfl rfl rfl rfl hE ?_ rfl rfl ?_; focus ((repeat' (first | exact PsA.lit _ | exact PsA.ref rfl rfl | constructor)); all_goals (fail "ps"))) | (refine OpK.call c2 rfl rfl rfl rfl hE ?_ rfl rfl ?_; focus ((repeat' (first | exact PsA.lit _ | exact PsA.ref rfl rfl | constructor)); all_goals (fail "ps"))) | (refine OpK.call c3 rfl rfl rfl rfl hE ?_ rfl rfl ?_; focus ((repeat' (first | exact PsA.lit _ | exact PsA.ref rfl rfl | constructor)); all_goals (fail "ps"))) | (refine OpK.call c4 rfl rfl rfl rfl hE ?_ rfl rfl ?_; focus ((repeat' (first | exact PsA.lit _ | exact PsA.ref rfl rfl | constructor)); all_goals (fail "ps"))) | (refine OpK.call c6 rfl rfl rfl rfl hE ?_ rfl rfl ?_; focus ((repeat' (first | exact PsA.lit _ | exact PsA.ref rfl rfl | constructor)); all_goals (fail "ps"))) | refine ListO.go gOk hE ?_)
          all_goals first | exact Need.mk rfl | exact OutS.whole rfl rfl | (exfalso; omega) | (exfalso; simp_all; done) | trace_state
        | false =>
          rw [hv] at c4
          rw [if_neg (by decide)]
          refine RunT.of_vc gOk Tryz.func62 rfl rfl (Nat.le_of_ble_eq_true rfl) (by repeat' (first | exact trivial | exact ⟨_, rfl, Nat.le_refl _⟩ | exact Nat.le_of_ble_eq_true rfl | refine And.intro ?_ ?_)) (Nat.le_of_ble_eq_true rfl) rfl (fun F hE => ?_)
          repeat' (first | exact trivial | refine BS.d (fun h => ?_) (fun h => ?_) | refine BS.e (fun h => ?_) (fun h => ?_) | refine BS.ne (fun h => ?_) (fun h => ?_) | refine BS.n ?_ | refine BS.s (fun h => ?_) (fun h => ?_) | refine And.intro ?_ ?_ | (refine Need.mk ?_; first | with_reducible rfl | (show @Eq TC _ _; rfl) | omega | (simp only [adN_zero]; omega)) | exact OutS.whole rfl rfl | (refine OpK.call c1 rfl rfl rfl rfl hE ?_ rfl rfl ?_; focus ((repeat' (first | exact PsA.lit _ | exact PsA.ref rfl rfl | constructor)); all_goals (fail "ps"))) | (refine OpK.call c2 rfl rfl rfl rfl hE ?_ rfl rfl ?_; focus ((repeat' (first | exact PsA.lit _ | exact PsA.ref rfl rfl | constructor)); all_goals (fail "ps"))) | (refine OpK.call c3 rfl rfl rfl rfl hE ?_ rfl rfl ?_; focus ((repeat' (first | exact PsA.lit _ | exact PsA.ref rfl rfl | constructor)); all_goals (fail "ps"))) | (refine OpK.call c4 rfl rfl rfl rfl hE ?_ rfl rfl ?_; focus ((repeat' (first | exact PsA.lit _ | exact PsA.ref rfl rfl | constructor)); all_goals (fail "ps"))) | refine ListO.go gOk hE ?_)
          all_goals first | exact Need.mk rfl | exact OutS.whole rfl rfl | (exfalso; omega) | trace_state
    | false =>
      simp only [Bool.false_eq_true, and_false, if_false]
      rw [if_neg (by decide)]
      refine RunT.of_vc gOk Tryz.func62 rfl rfl (Nat.le_of_ble_eq_true rfl) (by repeat' (first | exact trivial | exact ⟨_, rfl, Nat.le_refl _⟩ | exact Nat.le_of_ble_eq_true rfl | refine And.intro ?_ ?_)) (Nat.le_of_ble_eq_true rfl) rfl (fun F hE => ?_)
      repeat' (first | exact trivial | refine BS.d (fun h => ?_) (fun h => ?_) | refine BS.e (fun h => ?_) (fun h => ?_) | refine BS.ne (fun h => ?_) (fun h => ?_) | refine BS.n ?_ | refine BS.s (fun h => ?_) (fun h => ?_) | refine And.intro ?_ ?_ | (refine Need.mk ?_; first | with_reducible rfl | (show @Eq TC _ _; rfl) | omega | (simp only [adN_zero]; omega)) | exact OutS.whole rfl rfl | (refine OpK.call c1 rfl rfl rfl rfl hE ?_ rfl rfl ?_; focus ((repeat' (first | exact PsA.lit _ | exact PsA.ref rfl rfl | constructor)); all_goals (fail "ps"))) | (refine OpK.call c2 rfl rfl rfl rfl hE ?_ rfl rfl ?_; focus ((repeat' (first | exact PsA.lit _ | exact PsA.ref rfl rfl | constructor)); all_goals (fail "ps"))) | (refine OpK.call c3 rfl rfl rfl rfl hE ?_ rfl rfl ?_; focus ((repeat' (first | exact PsA.lit _ | exact PsA.ref rfl rfl | constructor)); all_goals (fail "ps"))) | refine ListO.go gOk hE ?_)
      all_goals first | exact Need.mk rfl | exact OutS.whole rfl rfl | (exfalso; omega) | trace_state
  · rw [dcB_false hm] at c2 ⊢
    simp only [Bool.false_eq_true, false_and, if_false]
    rw [if_neg (by decide)]
    refine RunT.of_vc gOk Tryz.func62 rfl rfl (Nat.le_of_ble_eq_true rfl) (by repeat' (first | exact trivial | exact ⟨_, rfl, Nat.le_refl _⟩ | exact Nat.le_of_ble_eq_true rfl | refine And.intro ?_ ?_)) (Nat.le_of_ble_eq_true rfl) rfl (fun F hE => ?_)
    repeat' (first | exact trivial | refine BS.d (fun h => ?_) (fun h => ?_) | refine BS.e (fun h => ?_) (fun h => ?_) | refine BS.ne (fun h => ?_) (fun h => ?_) | refine BS.n ?_ | refine BS.s (fun h => ?_) (fun h => ?_) | refine And.intro ?_ ?_ | (refine Need.mk ?_; first | with_reducible rfl | (show @Eq TC _ _; rfl) | omega | (simp only [adN_zero]; omega)) | exact OutS.whole rfl rfl | (refine OpK.call c1 rfl rfl rfl rfl hE ?_ rfl rfl ?_; focus ((repeat' (first | exact PsA.lit _ | exact PsA.ref rfl rfl | constructor)); all_goals (fail "ps"))) | (refine OpK.call c2 rfl rfl rfl rfl hE ?_ rfl rfl ?_; focus ((repeat' (first | exact PsA.lit _ | exact PsA.ref rfl rfl | constructor)); all_goals (fail "ps"))) | (refine OpK.call c3 rfl rfl rfl rfl hE ?_ rfl rfl ?_; focus ((repeat' (first | exact PsA.lit _ | exact PsA.ref rfl rfl | constructor)); all_goals (fail "ps"))) | refine ListO.go gOk hE ?_)
    all_goals first | exact Need.mk rfl | exact OutS.whole rfl rfl | (exfalso; omega) | trace_state
end Go.Proofs.YtfdbjiaghbeedaaGreatDoor
end

section
/- NodePut, both packages. -/
namespace Go.Proofs.YtfdbjiaghbeedaaGreatDoor
open Go Go.Tr
set_option maxRecDepth 100000
set_option maxHeartbeats 4000000
set_option linter.unusedVariables false
set_option linter.unusedSimpArgs false
theorem keyOkN_run (x : Int) : RunT Tryz.prog 130 [ti x] [] [ob (decide (0 ≤ x ∧ x ≤ 99))] [] := by
  refine RunT.of_vc gOk Tryz.func130 rfl rfl (Nat.le_of_ble_eq_true rfl) (by repeat' (first | exact trivial | exact ⟨_, rfl, Nat.le_refl _⟩ | exact Nat.le_of_ble_eq_true rfl | refine And.intro ?_ ?_)) (Nat.le_of_ble_eq_true rfl) rfl (fun F hE => ?_)
  repeat' (first | exact trivial | refine BS.d (fun h => ?_) (fun h => ?_) | refine BS.e (fun h => ?_) (fun h => ?_) | refine BS.ne (fun h => ?_) (fun h => ?_) | refine BS.n ?_ | refine BS.s (fun h => ?_) (fun h => ?_) | refine And.intro ?_ ?_ | (refine Need.mk ?_; first | with_reducible rfl | (show @Eq TC _ _; rfl) | omega | (simp only [adN_zero]; omega)) | exact OutS.whole rfl rfl | refine ListO.go gOk hE ?_)
  all_goals (refine Need.mk ?_; first | rfl | (symm; apply decide_eq_true; omega) | (symm; apply decide_eq_false; omega) | (apply decide_eq_decide.2; omega) | (simp only [beq_iff_eq, Bool.beq_eq_decide_eq] at *; apply decide_eq_decide.2; omega) | (simp; omega))
theorem valOkN_run (x : Int) : RunT Tryz.prog 131 [ti x] [] [ob (decide (0 ≤ x ∧ x ≤ 65535))] [] := by
  refine RunT.of_vc gOk Tryz.func131 rfl rfl (Nat.le_of_ble_eq_true rfl) (by repeat' (first | exact trivial | exact ⟨_, rfl, Nat.le_refl _⟩ | exact Nat.le_of_ble_eq_true rfl | refine And.intro ?_ ?_)) (Nat.le_of_ble_eq_true rfl) rfl (fun F hE => ?_)
  repeat' (first | exact trivial | refine BS.d (fun h => ?_) (fun h => ?_) | refine BS.e (fun h => ?_) (fun h => ?_) | refine BS.ne (fun h => ?_) (fun h => ?_) | refine BS.n ?_ | refine BS.s (fun h => ?_) (fun h => ?_) | refine And.intro ?_ ?_ | (refine Need.mk ?_; first | with_reducible rfl | (show @Eq TC _ _; rfl) | omega | (simp only [adN_zero]; omega)) | exact OutS.whole rfl rfl | refine ListO.go gOk hE ?_)
  all_goals (refine Need.mk ?_; first | rfl | (symm; apply decide_eq_true; omega) | (symm; apply decide_eq_false; omega) | (apply decide_eq_decide.2; omega) | (simp only [beq_iff_eq, Bool.beq_eq_decide_eq] at *; apply decide_eq_decide.2; omega) | (simp; omega))
abbrev aN3 (k v x : Int) : TAg := .agg [.c (.lit (.int .i64 k)), .c (.lit (.int .i64 v)), .c (.lit (.int .i64 x))]
def ndK (k v x : Int) : Bool := (decide (0 ≤ k ∧ k ≤ 99) && decide (0 ≤ v ∧ v ≤ 65535)) && (decide (x = 0) || hOk x)
theorem ndK_bd {k v x : Int} (h : ndK k v x = true) : (0 ≤ k ∧ k ≤ 99) ∧ (0 ≤ v ∧ v ≤ 65535) ∧ 0 ≤ x ∧ x < 4294967296 := by
  unfold ndK at h
  rw [Bool.and_eq_true, Bool.and_eq_true] at h
  exact ⟨of_decide_eq_true h.1.1, of_decide_eq_true h.1.2, hs_bd h.2⟩
theorem NodeOkSN_run (k v x : Int) : RunT Tryz.prog 63 [aN3 k v x] [] [ob (ndK k v x)] [] := by
  have c1 := l1InB_run k 0 99
  have c2 := l1InB_run v 0 65535
  have c3 := l15SomeN_run x
  unfold ndK
  generalize (decide (x = 0) || hOk x) = q at *
  by_cases h1 : 0 ≤ k ∧ k ≤ 99
  all_goals by_cases h2 : 0 ≤ v ∧ v ≤ 65535
  all_goals (simp only [h1, h2, and_true, decide_true, decide_false, Bool.and_true, Bool.and_false, Bool.true_and, Bool.false_and] at *)
  all_goals (refine RunT.of_vc gOk Tryz.func63 rfl rfl (Nat.le_of_ble_eq_true rfl) (by repeat' (first | exact trivial | exact ⟨_, rfl, Nat.le_refl _⟩ | exact Nat.le_of_ble_eq_true rfl | refine And.intro ?_ ?_)) (Nat.le_of_ble_eq_true rfl) rfl (fun F hE => ?_))
  all_goals (repeat' (first | exact trivial | refine BS.d (fun h => ?_) (fun h => ?_) | refine BS.e (fun h => ?_) (fun h => ?_) | refine BS.ne (fun h => ?_) (fun h => ?_) | refine BS.n ?_ | refine BS.s (fun h => ?_) (fun h => ?_) | refine And.intro ?_ ?_ | (refine Need.mk ?_; first | with_reducible rfl | (show @Eq TC _ _; rfl) | omega | (simp only [adN_zero]; omega)) | exact OutS.whole rfl rfl | (refine OpK.call c1 rfl rfl rfl rfl hE ?_ rfl rfl ?_; focus ((repeat' (first | exact PsA.lit _ | exact PsA.ref rfl rfl | constructor)); all_goals (fail "ps"))) | (refine OpK.call c2 rfl rfl rfl rfl hE ?_ rfl rfl ?_; focus ((repeat' (first | exact PsA.lit _ | exact PsA.ref rfl rfl | constructor)); all_goals (fail "ps"))) | (refine OpK.call c3 rfl rfl rfl rfl hE ?_ rfl rfl ?_; focus ((repeat' (first | exact PsA.lit _ | exact PsA.ref rfl rfl | constructor)); all_goals (fail "ps"))) | refine ListO.go gOk hE ?_))
  all_goals first | exact Need.mk rfl | (exfalso; omega) | (exfalso; simp_all; done) | (refine Need.mk ?_; simp_all; done) | trace_state
theorem NodeOkIN_run (k v x : Int) (hx : x ≤ 9223372036854775807) : RunT Tryz.prog 68 [aN3 k v x] [] [ob (ndK k v x)] [] := by
  have c1 := keyOkN_run k
  have c2 := valOkN_run v
  have c3 := handleOrNone_run x hx
  unfold ndK
  generalize (decide (x = 0) || hOk x) = q at *
  by_cases h1 : 0 ≤ k ∧ k ≤ 99
  all_goals by_cases h2 : 0 ≤ v ∧ v ≤ 65535
  all_goals (simp only [h1, h2, and_true, decide_true, decide_false, Bool.and_true, Bool.and_false, Bool.true_and, Bool.false_and] at *)
  all_goals (refine RunT.of_vc gOk Tryz.func68 rfl rfl (Nat.le_of_ble_eq_true rfl) (by repeat' (first | exact trivial | exact ⟨_, rfl, Nat.le_refl _⟩ | exact Nat.le_of_ble_eq_true rfl | refine And.intro ?_ ?_)) (Nat.le_of_ble_eq_true rfl) rfl (fun F hE => ?_))
  all_goals (repeat' (first | exact trivial | refine BS.d (fun h => ?_) (fun h => ?_) | refine BS.e (fun h => ?_) (fun h => ?_) | refine BS.ne (fun h => ?_) (fun h => ?_) | refine BS.n ?_ | refine BS.s (fun h => ?_) (fun h => ?_) | refine And.intro ?_ ?_ | (refine Need.mk ?_; first | with_reducible rfl | (show @Eq TC _ _; rfl) | omega | (simp only [adN_zero]; omega)) | exact OutS.whole rfl rfl | (refine OpK.call c1 rfl rfl rfl rfl hE ?_ rfl rfl ?_; focus ((repeat' (first | exact PsA.lit _ | exact PsA.ref rfl rfl | constructor)); all_goals (fail "ps"))) | (refine OpK.call c2 rfl rfl rfl rfl hE ?_ rfl rfl ?_; focus ((repeat' (first | exact PsA.lit _ | exact PsA.ref rfl rfl | constructor)); all_goals (fail "ps"))) | (refine OpK.call c3 rfl rfl rfl rfl hE ?_ rfl rfl ?_; focus ((repeat' (first | exact PsA.lit _ | exact PsA.ref rfl rfl | constructor)); all_goals (fail "ps"))) | refine ListO.go gOk hE ?_))
  all_goals first | exact Need.mk rfl | (exfalso; omega) | (exfalso; simp_all; done) | (refine Need.mk ?_; simp_all; done) | trace_state
theorem fxOk_two {n : Int} (h : 0 ≤ n ∧ n < 65536) : fxOk n 2 = true := by
  unfold fxOk
  apply decide_eq_true
  refine ⟨by decide, by decide, h.1, ?_⟩
  show n < 256 ^ (2 : Int).toNat
  have : (256 : Int) ^ (2 : Int).toNat = 65536 := by decide
  omega
def pdL (b : List Int) (p : Nat) (k v x : Int) : List Int := putL (putL (putL b p (fxd 2 k) 2) (p + 2) (fxd 4 v) 4) (p + 6) (fxd 4 x) 4
theorem pdL_len (b : List Int) (p : Nat) (k v x : Int) : (pdL b p k v x).length = b.length := by unfold pdL; rw [putL_len, putL_len, putL_len]
end Go.Proofs.YtfdbjiaghbeedaaGreatDoor
end

section
/- A node that is read. -/
namespace Go.Proofs.YtfdbjiaghbeedaaGreatDoor
open Go Go.Tr
set_option maxRecDepth 100000
set_option maxHeartbeats 4000000
set_option linter.unusedVariables false
set_option linter.unusedSimpArgs false
def ndV (b : List Int) (p : Int) : Int × Int × Int := (ldN b p.toNat 2, ldN b (p + 2).toNat 4, ldN b (p + 6).toNat 4)
/-- The node and the code. -/
def ndR (b c : List Int) (x : Int) : (Int × Int × Int) × Int := if (ndX c x).2 = 0 then (ndV b (ndX c x).1, 0) else ((0, 0, 0), (ndX c x).2)
abbrev oNd (n : Int × Int × Int) : TAr := .agg [.lit (.int .i64 n.1), .lit (.int .i64 n.2.1), .lit (.int .i64 n.2.2)]
abbrev aNd (n : Int × Int × Int) : TAg := .agg [.c (.lit (.int .i64 n.1)), .c (.lit (.int .i64 n.2.1)), .c (.lit (.int .i64 n.2.2))]
theorem nodeIn_run (e : Nat) (b c : List Int) (g o : List (List Int)) (x : Int) (h : shP b c) (hx : x ≤ 9223372036854775807) : RunH Tryz.prog hT 57 [aMm e b c g o, ti x] [] [oNd (ndR b c x).1, oi (ndR b c x).2] [] := by
  have c1 := nodeStart_run e b c g o x h.2.1 hx
  have hok := @ndX_ok c x
  unfold ndR
  generalize ndX c x = p at *
  obtain ⟨p, q⟩ := p
  dsimp only at *
  by_cases hq : q = 0
  · subst hq
    obtain ⟨_, _, _, h0, h1⟩ := hok rfl
    have hbl := h.1
    have c2 := numAt_run b p 2 (by omega) h.2.2.1.2 (by omega) (by omega) (by omega)
    have c3 := numAt_run b (p + 2) 4 (by omega) h.2.2.1.2 (by omega) (by omega) (by omega)
    have c4 := numAt_run b (p + 6) 4 (by omega) h.2.2.1.2 (by omega) (by omega) (by omega)
    rw [if_pos rfl]
    unfold ndV
    generalize ldN b p.toNat 2 = v1 at *
    generalize ldN b (p + 2).toNat 4 = v2 at *
    generalize ldN b (p + 6).toNat 4 = v3 at *
    refine RunH.of_vc gOk Tryz.func57 rfl rfl (Nat.le_of_ble_eq_true rfl) (by repeat' (first | exact trivial | exact ⟨_, rfl, Nat.le_refl _⟩ | exact Nat.le_of_ble_eq_true rfl | refine And.intro ?_ ?_)) (Nat.le_of_ble_eq_true rfl) rfl (fun F hE hA => ?_)
    repeat' (first | exact trivial | refine BS.d (fun h => ?_) (fun h => ?_) | refine BS.e (fun h => ?_) (fun h => ?_) | refine BS.ne (fun h => ?_) (fun h => ?_) | refine BS.n ?_ | refine BS.s (fun h => ?_) (fun h => ?_) | refine And.intro ?_ ?_ | (refine Need.mk ?_; first | with_reducible rfl | (show @Eq TC _ _; rfl) | omega | (simp only [adN_zero]; omega)) | exact OutS.whole rfl rfl | (refine OpK.callH c1 hA rfl rfl rfl rfl hE ?_ rfl rfl ?_; focus ((repeat' (first | exact PsA.lit _ | exact PsA.ref rfl rfl | constructor)); all_goals (fail "ps"))) | (refine OpK.call c2 rfl rfl rfl rfl hE ?_ rfl rfl ?_; focus ((repeat' (first | exact PsA.lit _ | exact PsA.ref rfl rfl | constructor)); all_goals (fail "ps"))) | (refine OpK.call c3 rfl rfl rfl rfl hE ?_ rfl rfl ?_; focus ((repeat' (first | exact PsA.lit _ | exact PsA.ref rfl rfl | constructor)); all_goals (fail "ps"))) | (refine OpK.call c4 rfl rfl rfl rfl hE ?_ rfl rfl ?_; focus ((repeat' (first | exact PsA.lit _ | exact PsA.ref rfl rfl | constructor)); all_goals (fail "ps"))) | (refine CodeK.draw gOk hE rfl (fun _ _ h => h) (.take 0 (.take 1 (.take 3 (.take 5 (.take 6 (.take 8 (.take 9 (.take 11 (.take 12 (.take 14 (.take 15 (.alt 2 (.alt 4 (.alt 7 (.alt 10 (.alt 13 (.alt 16 (.alt 17 (.alt 18 (.take 19 .done) .stop) .stop) .stop) .stop) (.alt 13 (.alt 10 (.alt 16 (.alt 17 (.alt 18 (.take 19 .done) .stop) .stop) .stop) .stop) .stop)) (.alt 13 (.alt 7 (.alt 10 (.alt 16 (.alt 17 (.alt 18 (.take 19 .done) .stop) .stop) .stop) .stop) .stop) .stop)) (.alt 7 (.alt 4 (.alt 10 (.alt 13 (.alt 16 (.alt 17 (.alt 18 (.take 19 .done) .stop) .stop) .stop) .stop) (.alt 13 (.alt 10 (.alt 16 (.alt 17 (.alt 18 (.take 19 .done) .stop) .stop) .stop) .stop) .stop)) (.alt 13 (.alt 4 (.alt 10 (.alt 16 (.alt 17 (.alt 18 (.take 19 .done) .stop) .stop) .stop) .stop) .stop) .stop)) (.alt 13 (.alt 4 (.alt 7 (.alt 10 (.alt 16 (.alt 17 (.alt 18 (.take 19 .done) .stop) .stop) .stop) .stop) .stop) (.alt 7 (.alt 4 (.alt 10 (.alt 16 (.alt 17 (.alt 18 (.take 19 .done) .stop) .stop) .stop) .stop) .stop) .stop)) .stop))) (.alt 7 (.alt 2 (.alt 4 (.alt 10 (.alt 13 (.alt 16 (.alt 17 (.alt 18 (.take 19 .done) .stop) .stop) .stop) .stop) (.alt 13 (.alt 10 (.alt 16 (.alt 17 (.alt 18 (.take 19 .done) .stop) .stop) .stop) .stop) .stop)) (.alt 13 (.alt 4 (.alt 10 (.alt 16 (.alt 17 (.alt 18 (.take 19 .done) .stop) .stop) .stop) .stop) .stop) .stop)) (.alt 13 (.alt 2 (.alt 4 (.alt 10 (.alt 16 (.alt 17 (.alt 18 (.take 19 .done) .stop) .stop) .stop) .stop) .stop) .stop) .stop)) (.alt 13 (.alt 2 (.alt 4 (.alt 7 (.alt 10 (.alt 16 (.alt 17 (.alt 18 (.take 19 .done) .stop) .stop) .stop) .stop) .stop) (.alt 7 (.alt 4 (.alt 10 (.alt 16 (.alt 17 (.alt 18 (.take 19 .done) .stop) .stop) .stop) .stop) .stop) .stop)) (.alt 7 (.alt 2 (.alt 4 (.alt 10 (.alt 16 (.alt 17 (.alt 18 (.take 19 .done) .stop) .stop) .stop) .stop) .stop) .stop) .stop)) .stop)))))))))))))) ?_ ?_; focus (decide +kernel)) | refine ListO.go gOk hE ?_)
    all_goals first | exact Need.mk rfl | (exfalso; omega) | (refine Need.mk ?_; omega) | trace_state
  · rw [if_neg hq]
    refine RunH.of_vc gOk Tryz.func57 rfl rfl (Nat.le_of_ble_eq_true rfl) (by repeat' (first | exact trivial | exact ⟨_, rfl, Nat.le_refl _⟩ | exact Nat.le_of_ble_eq_true rfl | refine And.intro ?_ ?_)) (Nat.le_of_ble_eq_true rfl) rfl (fun F hE hA => ?_)
    repeat' (first | exact trivial | refine BS.d (fun h => ?_) (fun h => ?_) | refine BS.e (fun h => ?_) (fun h => ?_) | refine BS.ne (fun h => ?_) (fun h => ?_) | refine BS.n ?_ | refine BS.s (fun h => ?_) (fun h => ?_) | refine And.intro ?_ ?_ | (refine Need.mk ?_; first | with_reducible rfl | (show @Eq TC _ _; rfl) | omega | (simp only [adN_zero]; omega)) | exact OutS.whole rfl rfl | (refine OpK.callH c1 hA rfl rfl rfl rfl hE ?_ rfl rfl ?_; focus ((repeat' (first | exact PsA.lit _ | exact PsA.ref rfl rfl | constructor)); all_goals (fail "ps"))) | refine ListO.go gOk hE ?_)
    all_goals first | exact Need.mk rfl | (exfalso; omega) | trace_state
theorem l19Load_run (e : Nat) (b c : List Int) (g o : List (List Int)) (p : Int) (h : shP b c) (h0 : 0 ≤ p) (h1 : p + 10 ≤ 384) : RunT Tryz.prog 111 [aMm e b c g o, ti p] [] [oNd (ndV b p)] [] := by
  have hbl := h.1
  have c2 := l3Load_run b p 2 (by omega) h.2.2.1.2 (by omega) (by omega) (by omega)
  have c3 := l3Load_run b (p + 2) 4 (by omega) h.2.2.1.2 (by omega) (by omega) (by omega)
  have c4 := l3Load_run b (p + 6) 4 (by omega) h.2.2.1.2 (by omega) (by omega) (by omega)
  unfold ndV
  generalize ldN b p.toNat 2 = v1 at *
  generalize ldN b (p + 2).toNat 4 = v2 at *
  generalize ldN b (p + 6).toNat 4 = v3 at *
  refine RunT.of_vc gOk Tryz.func111 rfl rfl (Nat.le_of_ble_eq_true rfl) (by repeat' (first | exact trivial | exact ⟨_, rfl, Nat.le_refl _⟩ | exact Nat.le_of_ble_eq_true rfl | refine And.intro ?_ ?_)) (Nat.le_of_ble_eq_true rfl) rfl (fun F hE => ?_)
  repeat' (first | exact trivial | refine BS.d (fun h => ?_) (fun h => ?_) | refine BS.e (fun h => ?_) (fun h => ?_) | refine BS.ne (fun h => ?_) (fun h => ?_) | refine BS.n ?_ | refine BS.s (fun h => ?_) (fun h => ?_) | refine And.intro ?_ ?_ | (refine Need.mk ?_; first | with_reducible rfl | (show @Eq TC _ _; rfl) | omega | (simp only [adN_zero]; omega)) | exact OutS.whole rfl rfl | (refine OpK.call c2 rfl rfl rfl rfl hE ?_ rfl rfl ?_; focus ((repeat' (first | exact PsA.lit _ | exact PsA.ref rfl rfl | constructor)); all_goals (fail "ps"))) | (refine OpK.call c3 rfl rfl rfl rfl hE ?_ rfl rfl ?_; focus ((repeat' (first | exact PsA.lit _ | exact PsA.ref rfl rfl | constructor)); all_goals (fail "ps"))) | (refine OpK.call c4 rfl rfl rfl rfl hE ?_ rfl rfl ?_; focus ((repeat' (first | exact PsA.lit _ | exact PsA.ref rfl rfl | constructor)); all_goals (fail "ps"))) | (refine CodeK.draw gOk hE rfl (fun _ _ h => h) (.take 0 (.take 1 (.take 3 (.take 5 (.take 6 (.take 8 (.take 9 (.take 11 (.take 12 (.take 14 (.take 15 (.alt 2 (.alt 4 (.alt 7 (.alt 10 (.alt 13 (.alt 16 (.alt 17 (.alt 18 .done .stop) .stop) .stop) .stop) (.alt 13 (.alt 10 (.alt 16 (.alt 17 (.alt 18 .done .stop) .stop) .stop) .stop) .stop)) (.alt 13 (.alt 7 (.alt 10 (.alt 16 (.alt 17 (.alt 18 .done .stop) .stop) .stop) .stop) .stop) .stop)) (.alt 7 (.alt 4 (.alt 10 (.alt 13 (.alt 16 (.alt 17 (.alt 18 .done .stop) .stop) .stop) .stop) (.alt 13 (.alt 10 (.alt 16 (.alt 17 (.alt 18 .done .stop) .stop) .stop) .stop) .stop)) (.alt 13 (.alt 4 (.alt 10 (.alt 16 (.alt 17 (.alt 18 .done .stop) .stop) .stop) .stop) .stop) .stop)) (.alt 13 (.alt 4 (.alt 7 (.alt 10 (.alt 16 (.alt 17 (.alt 18 .done .stop) .stop) .stop) .stop) .stop) (.alt 7 (.alt 4 (.alt 10 (.alt 16 (.alt 17 (.alt 18 .done .stop) .stop) .stop) .stop) .stop) .stop)) .stop))) (.alt 7 (.alt 2 (.alt 4 (.alt 10 (.alt 13 (.alt 16 (.alt 17 (.alt 18 .done .stop) .stop) .stop) .stop) (.alt 13 (.alt 10 (.alt 16 (.alt 17 (.alt 18 .done .stop) .stop) .stop) .stop) .stop)) (.alt 13 (.alt 4 (.alt 10 (.alt 16 (.alt 17 (.alt 18 .done .stop) .stop) .stop) .stop) .stop) .stop)) (.alt 13 (.alt 2 (.alt 4 (.alt 10 (.alt 16 (.alt 17 (.alt 18 .done .stop) .stop) .stop) .stop) .stop) .stop) .stop)) (.alt 13 (.alt 2 (.alt 4 (.alt 7 (.alt 10 (.alt 16 (.alt 17 (.alt 18 .done .stop) .stop) .stop) .stop) .stop) (.alt 7 (.alt 4 (.alt 10 (.alt 16 (.alt 17 (.alt 18 .done .stop) .stop) .stop) .stop) .stop) .stop)) (.alt 7 (.alt 2 (.alt 4 (.alt 10 (.alt 16 (.alt 17 (.alt 18 .done .stop) .stop) .stop) .stop) .stop) .stop) .stop)) .stop)))))))))))))) ?_ ?_; focus (decide +kernel)) | refine ListO.go gOk hE ?_)
  all_goals first | exact Need.mk rfl | (exfalso; omega) | (refine Need.mk ?_; omega) | trace_state
end Go.Proofs.YtfdbjiaghbeedaaGreatDoor
end

section
/- Chains of nodes: what the handles of a chain are. -/
namespace Go.Proofs.YtfdbjiaghbeedaaGreatDoor
open Go Go.Tr
set_option maxRecDepth 100000
set_option maxHeartbeats 4000000
set_option linter.unusedVariables false
set_option linter.unusedSimpArgs false
theorem nat_pigeon : ∀ (n : Nat) (l : List Nat), l.Nodup → (∀ x ∈ l, x < n) → l.length ≤ n
  | 0, l, _, h => by
    cases l with
    | nil => exact Nat.le_refl _
    | cons a l => exact absurd (h a (List.mem_cons_self ..)) (by omega)
  | n + 1, l, hd, h => by
    have h1 := nat_pigeon n (l.erase n) (hd.erase n) (fun x hx => by
      have hm := (hd.mem_erase_iff).1 hx
      have := h x hm.2
      have := hm.1
      omega)
    rw [List.length_erase] at h1
    split at h1 <;> omega
def ckN (b c : List Int) (h : Int) : Bool := ndK (ndV b (ndX c h).1).1 (ndV b (ndX c h).1).2.1 (ndV b (ndX c h).1).2.2
def nxt (b c : List Int) (h : Int) : Int := (ndV b (ndX c h).1).2.2
/-- A handle that may stand in a chain. -/
def ckP (b c : List Int) (g o : List (List Int)) (h : Int) : Prop := vlB b c g o h = true ∧ (ndX c h).2 = 0 ∧ ckN b c h = true
theorem vl_inj {b c : List Int} {g o : List (List Int)} {x y : Int} (hx : vlB b c g o x = true) (hy : vlB b c g o y = true) (h : hSlot x = hSlot y) : x = y := by
  unfold vlB at hx hy
  simp only [Bool.and_eq_true, decide_eq_true_eq] at hx hy
  have e : hGen x = hGen y := by rw [← hx.2, ← hy.2, h]
  have h1 := hOk_iff.1 hx.1.1
  have h2 := hOk_iff.1 hy.1.1
  unfold hSlot at h
  unfold hGen at e
  rw [if_pos hx.1.1, if_pos hy.1.1] at h e
  omega
theorem vl_slot {b c : List Int} {g o : List (List Int)} {x : Int} (hx : vlB b c g o x = true) : 0 ≤ hSlot x ∧ hSlot x < 24 := by
  unfold vlB at hx
  simp only [Bool.and_eq_true, decide_eq_true_eq] at hx
  have h1 := hOk_iff.1 hx.1.1
  unfold hSlot
  rw [if_pos hx.1.1]
  omega
theorem vl_len {b c : List Int} {g o : List (List Int)} {l : List Int} (hd : l.Nodup) (h : ∀ x ∈ l, vlB b c g o x = true) : l.length ≤ 24 := by
  have h1 : (l.map fun x => (hSlot x).toNat).Nodup := by
    unfold List.Nodup at hd ⊢
    rw [List.pairwise_map]
    refine List.Pairwise.imp_of_mem (fun {x y} hx hy hne e => ?_) hd
    have a1 := vl_slot (h x hx)
    have a2 := vl_slot (h y hy)
    exact hne (vl_inj (h x hx) (h y hy) (by omega))
  have h2 := nat_pigeon 24 _ h1 (fun z hz => by
    obtain ⟨x, hx, rfl⟩ := List.mem_map.1 hz
    have a1 := vl_slot (h x hx)
    omega)
  rwa [List.length_map] at h2
open Classical in
noncomputable def chF (b c : List Int) (g o : List (List Int)) : Nat → List Int → Int → Option (List Int)
  | 0, _, _ => none
  | n + 1, out, h => if h = 0 then some out else if ckP b c g o h ∧ h ∉ out then chF b c g o n (out ++ [h]) (nxt b c h) else none
/-- The handles of the chain that begins with a handle. -/
noncomputable def chR (b c : List Int) (g o : List (List Int)) (h : Int) : Option (List Int) := chF b c g o 25 [] h
structure ChI (b c : List Int) (g o : List (List Int)) (h0 : Int) (out : List Int) (h : Int) : Prop where
  nd : out.Nodup
  vl : ∀ x ∈ out, ckP b c g o x
  eq : chR b c g o h0 = chF b c g o (25 - out.length) out h
  hm : h ≤ 9223372036854775807
theorem ChI.len {b c : List Int} {g o : List (List Int)} {h0 h : Int} {out : List Int} (k : ChI b c g o h0 out h) : out.length ≤ 24 := vl_len k.nd fun x hx => (k.vl x hx).1
theorem ChI.zero {b c : List Int} {g o : List (List Int)} {h0 : Int} (hm : h0 ≤ 9223372036854775807) : ChI b c g o h0 [] h0 := ⟨List.nodup_nil, fun x hx => (by cases hx), rfl, hm⟩
theorem ChI.stop {b c : List Int} {g o : List (List Int)} {h0 : Int} {out : List Int} (k : ChI b c g o h0 out 0) : chR b c g o h0 = some out := by
  have := k.len
  rw [k.eq, show 25 - out.length = 24 - out.length + 1 by omega]
  unfold chF
  rw [if_pos rfl]
theorem ChI.bad {b c : List Int} {g o : List (List Int)} {h0 h : Int} {out : List Int} (k : ChI b c g o h0 out h) (hz : h ≠ 0) (hn : ¬ (ckP b c g o h ∧ h ∉ out)) : chR b c g o h0 = none := by
  have := k.len
  rw [k.eq, show 25 - out.length = 24 - out.length + 1 by omega]
  unfold chF
  rw [if_neg hz, if_neg hn]
theorem ckN_bd {b c : List Int} {h : Int} (k : ckN b c h = true) : 0 ≤ nxt b c h ∧ nxt b c h ≤ 4294967295 := by
  have := (ndK_bd k).2.2
  show 0 ≤ (ndV b (ndX c h).1).2.2 ∧ (ndV b (ndX c h).1).2.2 ≤ 4294967295
  omega
theorem ChI.next {b c : List Int} {g o : List (List Int)} {h0 h : Int} {out : List Int} (k : ChI b c g o h0 out h) (hz : h ≠ 0) (hc : ckP b c g o h) (hn : h ∉ out) : ChI b c g o h0 (out ++ [h]) (nxt b c h) := by
  have := k.len
  refine ⟨?_, fun x hx => ?_, ?_, by have := ckN_bd hc.2.2; omega⟩
  · refine List.nodup_append.2 ⟨k.nd, by simp, fun a ha b hb e => ?_⟩
    simp only [List.mem_singleton] at hb
    exact hn (by rw [← hb, ← e]; exact ha)
  · rcases List.mem_append.1 hx with h1 | h1
    · exact k.vl x h1
    · simp only [List.mem_singleton] at h1; subst h1; exact hc
  · rw [k.eq, show 25 - out.length = 24 - out.length + 1 by omega]
    conv => lhs; unfold chF
    rw [if_neg hz, if_pos ⟨hc, hn⟩, List.length_append, List.length_singleton]
    congr 1
    omega
theorem chR_mem {b c : List Int} {g o : List (List Int)} {h0 : Int} {l : List Int} (hm : h0 ≤ 9223372036854775807) (h : chR b c g o h0 = some l) : l.Nodup ∧ (∀ x ∈ l, ckP b c g o x) ∧ l.length ≤ 24 := by
  have key : ∀ (n : Nat) (out : List Int) (x : Int), 25 - out.length = n → ChI b c g o h0 out x → l.Nodup ∧ (∀ x ∈ l, ckP b c g o x) ∧ l.length ≤ 24 := by
    intro n
    induction n with
    | zero => intro out x hn k; have := k.len; omega
    | succ n ih =>
      intro out x hn k
      by_cases hz : x = 0
      · subst hz
        have e := k.stop
        rw [h] at e; injection e with e; subst e
        exact ⟨k.nd, k.vl, k.len⟩
      · by_cases hc : ckP b c g o x ∧ x ∉ out
        · exact ih _ _ (by rw [List.length_append, List.length_singleton]; omega) (k.next hz hc.1 hc.2)
        · rw [k.bad hz hc] at h; cases h
  exact key 25 [] h0 rfl (ChI.zero hm)
theorem chR_len {b c : List Int} {g o : List (List Int)} {h0 : Int} (hm : h0 ≤ 9223372036854775807) : ((chR b c g o h0).getD []).length ≤ 24 := by
  cases h : chR b c g o h0 with
  | none => exact Nat.zero_le _
  | some l => exact (chR_mem hm h).2.2
end Go.Proofs.YtfdbjiaghbeedaaGreatDoor
end

section
/- The capacity of a row, whatever it is. -/
set_option linter.unusedVariables false
set_option linter.unusedSimpArgs false
universe u
namespace Go.Tr
open Go Go.RowKit
section
variable {P : Program} {F : Fm} {N : Nat} {G : Gt} {o : Oper} {ops : Array Oper} {l : List Oper} {σ : TS} {k : TS → Prop}
theorem OpK.cap (hG : GOk P G) {t e ke bs kt κ l0 n : Nat} {z : List ZC} {x : Operand} (hop : o.op = .call { callee := .builtin .cap, args := #[x], argTypes := #[t] }) (hg : o.guard = none) (hd : okD N o.dst = true) (ht : G.T t = some ⟨kt, .sl e ke bs, z⟩) (hx : evS σ x = .a (.ref κ l0 n))
    (h : ∀ c : Nat, n ≤ c → stO o σ (.a (.lit (.int .i64 c))) k) : OpK P F N o σ k := by
  refine ⟨fun ops Q rest kk => ?_⟩
  intro a w hr
  obtain ⟨ω, β, hrel⟩ := hr
  obtain ⟨h1, _⟩ := (hG.T t _ ht).kind
  have hx' := hrel.ev x
  rw [evS_eq, hx] at hx'
  obtain ⟨R1, e1, e2, A, c, e3, e4, e5, e6, e7, e8⟩ := hx'
  have hrun : ∀ w', (execOp a.eval o).run P w' = .ok (.value (.int .i64 c)) w' := fun w' => by
    generalize a.eval = ρ at e3 ⊢
    simp [execOp, hop, go_sem, e3, resolve, invoke, builtin, Builtin.cap_, underlying, h1, goInt]
  have hk := stO_ok hd kk (h c (by omega))
  have hv : VRel σ.er β w (.a (.lit (.int .i64 c))) (.int .i64 c) := VRel.lit rfl
  refine wpList_plain hg fun K hK => ?_
  unfold Oper.wp
  rw [hrun w, Oper.upon_value]
  exact hK _ _ (hk _ _ ⟨ω, β, hrel.putO hd hv⟩)
end
end Go.Tr
end

section
/- A field of a struct's value: an integer. -/
set_option linter.unusedVariables false
set_option linter.unusedSimpArgs false
universe u
namespace Go.Tr
open Go Go.RowKit
section
variable {P : Program} {F : Fm} {N : Nat} {G : Gt} {o : Oper} {σ : TS} {k : TS → Prop}
theorem OpK.fldL {s f off : Nat} {x : Operand} {l : List At} {v : Value} {fs : Array Field} {fd : Field} (hop : o.op = .field s x f) (hg : o.guard = none) (hd : okD N o.dst = true) (hx : evS σ x = .agg l)
    (hfd : P.underlying s = some (.struct fs)) (hfs : fs[f]? = some fd) (hi : P.underlying fd.type = some (.int .i64)) (ho : fd.offset = off) (hl : l[off]? = some (.lit v)) (h : stO o σ (.a (.lit v)) k) : OpK P F N o σ k :=
  ⟨fun ops Q rest kk => AL.val hg hd (fun a w ω β hr => by
    have hv := hr.ev x
    rw [evS_eq, hx] at hv
    obtain ⟨us, e1, e2, e3⟩ := hv
    obtain ⟨y, e4, e5, e6⟩ := e3 off (.lit v) (by rw [List.getElem?_map, hl]; rfl)
    subst e5
    refine ⟨y, ?_, rfl, e6⟩
    generalize a.eval = ρ at e1 ⊢
    simp [execOp, hop, go_sem, e1, Instr.field, underlying, hfd, hfs, part, isAgg, hi, ho, e4, asAgg]) (stO_ok hd kk h)⟩
end
end Go.Tr
end

section
/- Chains in the model. -/
namespace Go.Proofs.YtfdbjiaghbeedaaGreatDoor
open Go Go.Tr
set_option maxRecDepth 100000
set_option maxHeartbeats 4000000
set_option linter.unusedVariables false
set_option linter.unusedSimpArgs false
noncomputable abbrev oCh (b c : List Int) (g o : List (List Int)) (h : Int) : List TAr := [.one (tI ((chR b c g o h).getD [])), ob (chR b c g o h).isSome]
theorem l20Chain_run (e : Nat) (b c : List Int) (g o : List (List Int)) (h0 : Int) (ht : MmT b c g o) (hm : mmP b c g o) (h0m : h0 ≤ 9223372036854775807) : RunT Tryz.prog 47 [aMm e b c g o, ti h0] [] (oCh b c g o h0) [] := by
  unfold oCh
  refine RunT.of_vc gOk Tryz.func47 rfl rfl (Nat.le_of_ble_eq_true rfl) (by repeat' (first | exact trivial | exact ⟨_, rfl, Nat.le_refl _⟩ | exact Nat.le_of_ble_eq_true rfl | refine And.intro ?_ ?_)) (Nat.le_of_ble_eq_true rfl) rfl (fun F hE => ?_)
  repeat' (first | exact trivial | refine BS.d (fun h => ?_) (fun h => ?_) | refine BS.e (fun h => ?_) (fun h => ?_) | refine BS.ne (fun h => ?_) (fun h => ?_) | refine BS.n ?_ | refine BS.s (fun h => ?_) (fun h => ?_) | refine And.intro ?_ ?_ | (refine Need.mk ?_; first | with_reducible rfl | (show @Eq TC _ _; rfl) | omega | (simp only [adN_zero]; omega)) | exact OutS.whole rfl rfl | refine ListO.go gOk hE ?_)
  refine CodeK.loop gOk hE (fun x : List Int × Int => ⟨[(2, .ptr 2 0 0), (6, vr 10 x.1.length), (7, vi x.2)], [(10, rI .own true x.1), (2, .box 38 [.ref 1000000 0 b.length, .ref 1000001 0 c.length, .ref 1000002 0 g.length, .ref 1000003 0 o.length]), (1000000, rI .fro false b), (1000001, rI .fro false c), (1000002, rSL .fro false e g), (1000003, rSL .fro false e o)]⟩) (fun x => ChI b c g o h0 x.1 x.2) (fun x => 25 - x.1.length) ([], h0) (by refine leT.of ?_ ?_ rfl <;> repeat' (first | exact trivial | refine And.intro rfl ?_ | refine And.intro (by first | rfl | (simp; done)) ?_)) (ChI.zero h0m) ?_
  rintro ⟨out, hx9⟩ k
  have hlen := k.len
  have hmx := k.hm
  have c1 := l9Valid_run e b c g o hx9 ht hm.1
  have c2 := l8HasT_run out hx9 (by dsimp only at hlen; omega)
  have c3 := l19Spot_run e b c g o hx9 hm.1.1.2.1
  dsimp only at *
  by_cases hz : hx9 = 0
  · subst hz
    rw [k.stop]
    repeat' (first | exact trivial | refine BS.d (fun h => ?_) (fun h => ?_) | refine BS.e (fun h => ?_) (fun h => ?_) | refine BS.ne (fun h => ?_) (fun h => ?_) | refine BS.n ?_ | refine BS.s (fun h => ?_) (fun h => ?_) | refine And.intro ?_ ?_ | (refine Need.mk ?_; first | with_reducible rfl | (show @Eq TC _ _; rfl) | omega | (simp only [adN_zero]; omega)) | exact OutS.whole rfl rfl | refine ListO.go gOk hE ?_)
    all_goals (try simp only [adN_zero] at *)
    all_goals first
      | exact Need.mk rfl
      | (exfalso; omega)
      | exact Need.mk ⟨rfl, rfl, rfl⟩
      | exact OutS.whole rfl rfl
      | (refine Need.mk ?_; first | rfl | omega | (simp_all; done) | (refine ⟨?_, ?_⟩ <;> (try unfold maxLen) <;> omega))
      | trace_state
  have bad := k.bad hz
  cases hv : vlB b c g o hx9 with
  | false =>
    rw [bad (fun hh => by have := hh.1.1; rw [hv] at this; cases this)]
    rw [hv] at c1
    repeat' (first | exact trivial | refine BS.d (fun h => ?_) (fun h => ?_) | refine BS.e (fun h => ?_) (fun h => ?_) | refine BS.ne (fun h => ?_) (fun h => ?_) | refine BS.n ?_ | refine BS.s (fun h => ?_) (fun h => ?_) | refine And.intro ?_ ?_ | (refine Need.mk ?_; first | with_reducible rfl | (show @Eq TC _ _; rfl) | omega | (simp only [adN_zero]; omega)) | exact OutS.whole rfl rfl | (refine OpK.call c1 rfl rfl rfl rfl hE ?_ rfl rfl ?_; focus ((repeat' (first | exact PsA.lit _ | exact PsA.ref rfl rfl | constructor)); all_goals (fail "ps"))) | refine ListO.go gOk hE ?_)
    all_goals (try simp only [adN_zero] at *)
    all_goals first
      | exact Need.mk rfl
      | (exfalso; omega)
      | exact Need.mk ⟨rfl, rfl, rfl⟩
      | exact OutS.whole rfl rfl
      | (refine Need.mk ?_; first | rfl | omega | (simp_all; done) | (refine ⟨?_, ?_⟩ <;> (try unfold maxLen) <;> omega))
      | trace_state
  | true =>
  rw [hv] at c1
  by_cases hin : hx9 ∈ out
  · rw [bad (fun hh => hh.2 hin)]
    rw [decide_eq_true hin] at c2
    repeat' (first | exact trivial | refine BS.d (fun h => ?_) (fun h => ?_) | refine BS.e (fun h => ?_) (fun h => ?_) | refine BS.ne (fun h => ?_) (fun h => ?_) | refine BS.n ?_ | refine BS.s (fun h => ?_) (fun h => ?_) | refine And.intro ?_ ?_ | (refine Need.mk ?_; first | with_reducible rfl | (show @Eq TC _ _; rfl) | omega | (simp only [adN_zero]; omega)) | exact OutS.whole rfl rfl | (refine OpK.call c1 rfl rfl rfl rfl hE ?_ rfl rfl ?_; focus ((repeat' (first | exact PsA.lit _ | exact PsA.ref rfl rfl | constructor)); all_goals (fail "ps"))) | (refine OpK.call c2 rfl rfl rfl rfl hE ?_ rfl rfl ?_; focus ((repeat' (first | exact PsA.lit _ | exact PsA.ref rfl rfl | constructor)); all_goals (fail "ps"))) | refine ListO.go gOk hE ?_)
    all_goals (try simp only [adN_zero] at *)
    all_goals first
      | exact Need.mk rfl
      | (exfalso; omega)
      | exact Need.mk ⟨rfl, rfl, rfl⟩
      | exact OutS.whole rfl rfl
      | (refine Need.mk ?_; first | rfl | omega | (simp_all; done) | (refine ⟨?_, ?_⟩ <;> (try unfold maxLen) <;> omega))
      | trace_state
  rw [decide_eq_false hin] at c2
  by_cases hq : (ndX c hx9).2 = 0
  · have hok := ndX_ok hq
    have c4 := l19Load_run e b c g o (ndX c hx9).1 hm.1.1 hok.2.2.2.1 hok.2.2.2.2
    have c5 := NodeOkSN_run (ndV b (ndX c hx9).1).1 (ndV b (ndX c hx9).1).2.1 (ndV b (ndX c hx9).1).2.2
    have hck : ckN b c hx9 = ndK (ndV b (ndX c hx9).1).1 (ndV b (ndX c hx9).1).2.1 (ndV b (ndX c hx9).1).2.2 := rfl
    have hnx : nxt b c hx9 = (ndV b (ndX c hx9).1).2.2 := rfl
    rw [hq] at c3
    rw [← hck] at c5
    generalize (ndX c hx9).1 = p0 at *
    generalize ndV b p0 = nv at *
    obtain ⟨n1, n2, n3⟩ := nv
    dsimp only at *
    cases hk : ckN b c hx9 with
    | false =>
      rw [bad (fun hh => by have := hh.1.2.2; rw [hk] at this; cases this)]
      rw [hk] at c5
      repeat' (first | exact trivial | refine BS.d (fun h => ?_) (fun h => ?_) | refine BS.e (fun h => ?_) (fun h => ?_) | refine BS.ne (fun h => ?_) (fun h => ?_) | refine BS.n ?_ | refine BS.s (fun h => ?_) (fun h => ?_) | refine And.intro ?_ ?_ | (refine Need.mk ?_; first | with_reducible rfl | (show @Eq TC _ _; rfl) | omega | (simp only [adN_zero]; omega)) | exact OutS.whole rfl rfl | (refine OpK.call c1 rfl rfl rfl rfl hE ?_ rfl rfl ?_; focus ((repeat' (first | exact PsA.lit _ | exact PsA.ref rfl rfl | constructor)); all_goals (fail "ps"))) | (refine OpK.call c2 rfl rfl rfl rfl hE ?_ rfl rfl ?_; focus ((repeat' (first | exact PsA.lit _ | exact PsA.ref rfl rfl | constructor)); all_goals (fail "ps"))) | (refine OpK.call c3 rfl rfl rfl rfl hE ?_ rfl rfl ?_; focus ((repeat' (first | exact PsA.lit _ | exact PsA.ref rfl rfl | constructor)); all_goals (fail "ps"))) | (refine OpK.call c4 rfl rfl rfl rfl hE ?_ rfl rfl ?_; focus ((repeat' (first | exact PsA.lit _ | exact PsA.ref rfl rfl | constructor)); all_goals (fail "ps"))) | (refine OpK.call c5 rfl rfl rfl rfl hE ?_ rfl rfl ?_; focus ((repeat' (first | exact PsA.lit _ | exact PsA.ref rfl rfl | constructor)); all_goals (fail "ps"))) | refine ListO.go gOk hE ?_)
      all_goals (try simp only [adN_zero] at *)
      all_goals first
        | exact Need.mk rfl
        | (exfalso; omega)
        | exact Need.mk ⟨rfl, rfl, rfl⟩
        | exact OutS.whole rfl rfl
        | (refine Need.mk ?_; first | rfl | omega | (simp_all; done) | (refine ⟨?_, ?_⟩ <;> (try unfold maxLen) <;> omega))
        | trace_state
    | true =>
      have kn := k.next hz ⟨hv, hq, hk⟩ hin
      rw [hk] at c5
      rw [hnx] at kn
      clear bad
      repeat' (first | exact trivial | refine BS.d (fun h => ?_) (fun h => ?_) | refine BS.e (fun h => ?_) (fun h => ?_) | refine BS.ne (fun h => ?_) (fun h => ?_) | refine BS.n ?_ | refine BS.s (fun h => ?_) (fun h => ?_) | refine And.intro ?_ ?_ | (refine Need.mk ?_; first | with_reducible rfl | (show @Eq TC _ _; rfl) | omega | (simp only [adN_zero]; omega)) | exact OutS.whole rfl rfl | (refine OpK.call c1 rfl rfl rfl rfl hE ?_ rfl rfl ?_; focus ((repeat' (first | exact PsA.lit _ | exact PsA.ref rfl rfl | constructor)); all_goals (fail "ps"))) | (refine OpK.call c2 rfl rfl rfl rfl hE ?_ rfl rfl ?_; focus ((repeat' (first | exact PsA.lit _ | exact PsA.ref rfl rfl | constructor)); all_goals (fail "ps"))) | (refine OpK.call c3 rfl rfl rfl rfl hE ?_ rfl rfl ?_; focus ((repeat' (first | exact PsA.lit _ | exact PsA.ref rfl rfl | constructor)); all_goals (fail "ps"))) | (refine OpK.call c4 rfl rfl rfl rfl hE ?_ rfl rfl ?_; focus ((repeat' (first | exact PsA.lit _ | exact PsA.ref rfl rfl | constructor)); all_goals (fail "ps"))) | (refine OpK.call c5 rfl rfl rfl rfl hE ?_ rfl rfl ?_; focus ((repeat' (first | exact PsA.lit _ | exact PsA.ref rfl rfl | constructor)); all_goals (fail "ps"))) | (refine OpK.fldL rfl rfl rfl rfl Tryz.underlying93 rfl Tryz.underlying3 rfl rfl ?_) | refine ListO.go gOk hE ?_)
      all_goals (try simp only [adN_zero] at *)
      all_goals first
        | exact Need.mk rfl
        | (exfalso; omega)
        | (refine ⟨(out ++ [hx9], n3), (by refine leT.of ?_ ?_ rfl <;> repeat' (first | exact trivial | refine And.intro rfl ?_ | refine And.intro (by first | rfl | (simp; done)) ?_)), kn, ?_⟩; show 25 - (out ++ [hx9]).length < 25 - out.length; rw [List.length_append, List.length_singleton]; omega)
        | (refine Need.mk ?_; first | rfl | omega | (simp_all; done) | (refine ⟨?_, ?_⟩ <;> (try unfold maxLen) <;> omega))
        | trace_state
  · rw [bad (fun hh => hq hh.1.2.1)]
    generalize ndX c hx9 = r at *
    obtain ⟨r1, r2⟩ := r
    dsimp only at *
    repeat' (first | exact trivial | refine BS.d (fun h => ?_) (fun h => ?_) | refine BS.e (fun h => ?_) (fun h => ?_) | refine BS.ne (fun h => ?_) (fun h => ?_) | refine BS.n ?_ | refine BS.s (fun h => ?_) (fun h => ?_) | refine And.intro ?_ ?_ | (refine Need.mk ?_; first | with_reducible rfl | (show @Eq TC _ _; rfl) | omega | (simp only [adN_zero]; omega)) | exact OutS.whole rfl rfl | (refine OpK.call c1 rfl rfl rfl rfl hE ?_ rfl rfl ?_; focus ((repeat' (first | exact PsA.lit _ | exact PsA.ref rfl rfl | constructor)); all_goals (fail "ps"))) | (refine OpK.call c2 rfl rfl rfl rfl hE ?_ rfl rfl ?_; focus ((repeat' (first | exact PsA.lit _ | exact PsA.ref rfl rfl | constructor)); all_goals (fail "ps"))) | (refine OpK.call c3 rfl rfl rfl rfl hE ?_ rfl rfl ?_; focus ((repeat' (first | exact PsA.lit _ | exact PsA.ref rfl rfl | constructor)); all_goals (fail "ps"))) | refine ListO.go gOk hE ?_)
    all_goals (try simp only [adN_zero] at *)
    all_goals first
      | exact Need.mk rfl
      | (exfalso; omega)
      | exact Need.mk ⟨rfl, rfl, rfl⟩
      | exact OutS.whole rfl rfl
      | (refine Need.mk ?_; first | rfl | omega | (simp_all; done) | (refine ⟨?_, ?_⟩ <;> (try unfold maxLen) <;> omega))
      | trace_state
end Go.Proofs.YtfdbjiaghbeedaaGreatDoor
end

section
/- Chains in the program. -/
namespace Go.Proofs.YtfdbjiaghbeedaaGreatDoor
open Go Go.Tr
set_option maxRecDepth 100000
set_option maxHeartbeats 4000000
set_option linter.unusedVariables false
set_option linter.unusedSimpArgs false
theorem ndV_bd {b c : List Int} (h : shP b c) {x : Int} (hq : (ndX c x).2 = 0) : (ndV b (ndX c x).1).2.2 ≤ 9223372036854775807 := by
  obtain ⟨_, _, _, h0, h1⟩ := ndX_ok hq
  have hb := h.1
  have := ldN_bd (xs := b) ((ndX c x).1 + 6).toNat 4 h.2.2.1.2 (by omega) (by omega)
  have h256 : (256 : Int) ^ 4 = 4294967296 := by decide
  show ldN b ((ndX c x).1 + 6).toNat 4 ≤ _
  omega
theorem chainIn_run (e : Nat) (b c : List Int) (g o : List (List Int)) (h0 : Int) (ht : MmT b c g o) (hm : mmP b c g o) (h0m : h0 ≤ 9223372036854775807) : RunH Tryz.prog hT 51 [aMm e b c g o, ti h0] [] (oCh b c g o h0) [] := by
  unfold oCh
  refine RunH.of_vc gOk Tryz.func51 rfl rfl (Nat.le_of_ble_eq_true rfl) (by repeat' (first | exact trivial | exact ⟨_, rfl, Nat.le_refl _⟩ | exact Nat.le_of_ble_eq_true rfl | refine And.intro ?_ ?_)) (Nat.le_of_ble_eq_true rfl) rfl (fun F hE hA => ?_)
  repeat' (first | exact trivial | refine BS.d (fun h => ?_) (fun h => ?_) | refine BS.e (fun h => ?_) (fun h => ?_) | refine BS.ne (fun h => ?_) (fun h => ?_) | refine BS.n ?_ | refine BS.s (fun h => ?_) (fun h => ?_) | refine And.intro ?_ ?_ | (refine Need.mk ?_; first | with_reducible rfl | (show @Eq TC _ _; rfl) | omega | (simp only [adN_zero]; omega)) | exact OutS.whole rfl rfl | refine ListO.go gOk hE ?_)
  refine CodeK.nilT gOk hE 6 900000 3 1 Int encI decI 0 (by rfl) (by rfl) (by decide) ?_
  refine CodeK.loop gOk hE (fun x : List Int × Int => ⟨[(2, .ptr 2 0 0), (6, vr 900000 x.1.length), (7, vi x.2)], [(900000, rI .own true x.1), (2, .box 38 [.ref 1000000 0 b.length, .ref 1000001 0 c.length, .ref 1000002 0 g.length, .ref 1000003 0 o.length]), (1000000, rI .fro false b), (1000001, rI .fro false c), (1000002, rSL .fro false e g), (1000003, rSL .fro false e o)]⟩) (fun x => ChI b c g o h0 x.1 x.2) (fun x => 25 - x.1.length) ([], h0) (by refine leT.of ?_ ?_ rfl <;> repeat' (first | exact trivial | refine And.intro rfl ?_ | refine And.intro (by first | rfl | (simp; done)) ?_)) (ChI.zero h0m) ?_
  rintro ⟨out, hx9⟩ k
  have hlen := k.len
  have hmx := k.hm
  dsimp only at *
  have c1 := validIn_run e b c g o hx9 ht hm.1 hmx
  have c2 := ContainsI_run out hx9 (by omega)
  have c3 := nodeIn_run e b c g o hx9 hm.1.1 hmx
  by_cases hz : hx9 = 0
  · subst hz
    rw [k.stop]
    repeat' (first | exact trivial | refine BS.d (fun h => ?_) (fun h => ?_) | refine BS.e (fun h => ?_) (fun h => ?_) | refine BS.ne (fun h => ?_) (fun h => ?_) | refine BS.n ?_ | refine BS.s (fun h => ?_) (fun h => ?_) | refine And.intro ?_ ?_ | (refine Need.mk ?_; first | with_reducible rfl | (show @Eq TC _ _; rfl) | omega | (simp only [adN_zero]; omega)) | exact OutS.whole rfl rfl | refine ListO.go gOk hE ?_)
    all_goals (try simp only [adN_zero] at *)
    all_goals first
      | exact Need.mk rfl
      | (exfalso; omega)
      | exact Need.mk ⟨rfl, rfl, rfl⟩
      | exact OutS.whole rfl rfl
      | (refine Need.mk ?_; first | rfl | omega | (simp_all; done) | (refine ⟨?_, ?_⟩ <;> (try unfold maxLen) <;> omega))
      | trace_state
  have bad := k.bad hz
  unfold ndR at c3
  by_cases hq : (ndX c hx9).2 = 0
  · rw [if_pos hq] at c3
    have hck : ckN b c hx9 = ndK (ndV b (ndX c hx9).1).1 (ndV b (ndX c hx9).1).2.1 (ndV b (ndX c hx9).1).2.2 := rfl
    have hnx : nxt b c hx9 = (ndV b (ndX c hx9).1).2.2 := rfl
    have hnb : (ndV b (ndX c hx9).1).2.2 ≤ 9223372036854775807 := ndV_bd hm.1.1 hq
    have c5 := NodeOkIN_run (ndV b (ndX c hx9).1).1 (ndV b (ndX c hx9).1).2.1 (ndV b (ndX c hx9).1).2.2 hnb
    rw [← hck] at c5
    generalize (ndX c hx9).1 = p0 at *
    generalize ndV b p0 = nv at *
    obtain ⟨n1, n2, n3⟩ := nv
    dsimp only at *
    cases hv : vlB b c g o hx9 with
    | false =>
      rw [bad (fun hh => by have := hh.1.1; rw [hv] at this; cases this)]
      rw [hv] at c1
      repeat' (first | exact trivial | refine BS.d (fun h => ?_) (fun h => ?_) | refine BS.e (fun h => ?_) (fun h => ?_) | refine BS.ne (fun h => ?_) (fun h => ?_) | refine BS.n ?_ | refine BS.s (fun h => ?_) (fun h => ?_) | refine And.intro ?_ ?_ | (refine Need.mk ?_; first | with_reducible rfl | (show @Eq TC _ _; rfl) | omega | (simp only [adN_zero]; omega)) | exact OutS.whole rfl rfl | (refine OpK.callH c1 hA rfl rfl rfl rfl hE ?_ rfl rfl ?_; focus ((repeat' (first | exact PsA.lit _ | exact PsA.ref rfl rfl | constructor)); all_goals (fail "ps"))) | (refine OpK.call c2 rfl rfl rfl rfl hE ?_ rfl rfl ?_; focus ((repeat' (first | exact PsA.lit _ | exact PsA.ref rfl rfl | constructor)); all_goals (fail "ps"))) | (refine OpK.callH c3 hA rfl rfl rfl rfl hE ?_ rfl rfl ?_; focus ((repeat' (first | exact PsA.lit _ | exact PsA.ref rfl rfl | constructor)); all_goals (fail "ps"))) | (refine OpK.call c5 rfl rfl rfl rfl hE ?_ rfl rfl ?_; focus ((repeat' (first | exact PsA.lit _ | exact PsA.ref rfl rfl | constructor)); all_goals (fail "ps"))) | refine ListO.go gOk hE ?_)
      all_goals (try simp only [adN_zero] at *)
      all_goals first
        | exact Need.mk rfl
        | (exfalso; omega)
        | exact Need.mk ⟨rfl, rfl, rfl⟩
        | exact OutS.whole rfl rfl
        | (refine Need.mk ?_; first | rfl | omega | (simp_all; done) | (refine ⟨?_, ?_⟩ <;> (try unfold maxLen) <;> omega))
        | trace_state
    | true =>
    rw [hv] at c1
    cases hk : ckN b c hx9 with
    | false =>
      rw [bad (fun hh => by have := hh.1.2.2; rw [hk] at this; cases this)]
      rw [hk] at c5
      repeat' (first | exact trivial | refine BS.d (fun h => ?_) (fun h => ?_) | refine BS.e (fun h => ?_) (fun h => ?_) | refine BS.ne (fun h => ?_) (fun h => ?_) | refine BS.n ?_ | refine BS.s (fun h => ?_) (fun h => ?_) | refine And.intro ?_ ?_ | (refine Need.mk ?_; first | with_reducible rfl | (show @Eq TC _ _; rfl) | omega | (simp only [adN_zero]; omega)) | exact OutS.whole rfl rfl | (refine OpK.callH c1 hA rfl rfl rfl rfl hE ?_ rfl rfl ?_; focus ((repeat' (first | exact PsA.lit _ | exact PsA.ref rfl rfl | constructor)); all_goals (fail "ps"))) | (refine OpK.call c2 rfl rfl rfl rfl hE ?_ rfl rfl ?_; focus ((repeat' (first | exact PsA.lit _ | exact PsA.ref rfl rfl | constructor)); all_goals (fail "ps"))) | (refine OpK.callH c3 hA rfl rfl rfl rfl hE ?_ rfl rfl ?_; focus ((repeat' (first | exact PsA.lit _ | exact PsA.ref rfl rfl | constructor)); all_goals (fail "ps"))) | (refine OpK.call c5 rfl rfl rfl rfl hE ?_ rfl rfl ?_; focus ((repeat' (first | exact PsA.lit _ | exact PsA.ref rfl rfl | constructor)); all_goals (fail "ps"))) | refine ListO.go gOk hE ?_)
      all_goals (try simp only [adN_zero] at *)
      all_goals first
        | exact Need.mk rfl
        | (exfalso; omega)
        | exact Need.mk ⟨rfl, rfl, rfl⟩
        | exact OutS.whole rfl rfl
        | (refine Need.mk ?_; first | rfl | omega | (simp_all; done) | (refine ⟨?_, ?_⟩ <;> (try unfold maxLen) <;> omega))
        | trace_state
    | true =>
    rw [hk] at c5
    by_cases hin : hx9 ∈ out
    · rw [bad (fun hh => hh.2 hin)]
      rw [decide_eq_true hin] at c2
      repeat' (first | exact trivial | refine BS.d (fun h => ?_) (fun h => ?_) | refine BS.e (fun h => ?_) (fun h => ?_) | refine BS.ne (fun h => ?_) (fun h => ?_) | refine BS.n ?_ | refine BS.s (fun h => ?_) (fun h => ?_) | refine And.intro ?_ ?_ | (refine Need.mk ?_; first | with_reducible rfl | (show @Eq TC _ _; rfl) | omega | (simp only [adN_zero]; omega)) | exact OutS.whole rfl rfl | (refine OpK.callH c1 hA rfl rfl rfl rfl hE ?_ rfl rfl ?_; focus ((repeat' (first | exact PsA.lit _ | exact PsA.ref rfl rfl | constructor)); all_goals (fail "ps"))) | (refine OpK.call c2 rfl rfl rfl rfl hE ?_ rfl rfl ?_; focus ((repeat' (first | exact PsA.lit _ | exact PsA.ref rfl rfl | constructor)); all_goals (fail "ps"))) | (refine OpK.callH c3 hA rfl rfl rfl rfl hE ?_ rfl rfl ?_; focus ((repeat' (first | exact PsA.lit _ | exact PsA.ref rfl rfl | constructor)); all_goals (fail "ps"))) | (refine OpK.call c5 rfl rfl rfl rfl hE ?_ rfl rfl ?_; focus ((repeat' (first | exact PsA.lit _ | exact PsA.ref rfl rfl | constructor)); all_goals (fail "ps"))) | refine ListO.go gOk hE ?_)
      all_goals (try simp only [adN_zero] at *)
      all_goals first
        | exact Need.mk rfl
        | (exfalso; omega)
        | exact Need.mk ⟨rfl, rfl, rfl⟩
        | exact OutS.whole rfl rfl
        | (refine Need.mk ?_; first | rfl | omega | (simp_all; done) | (refine ⟨?_, ?_⟩ <;> (try unfold maxLen) <;> omega))
        | trace_state
    · rw [decide_eq_false hin] at c2
      have kn := k.next hz ⟨hv, hq, hk⟩ hin
      rw [hnx] at kn
      clear bad
      repeat' (first | exact trivial | refine BS.d (fun h => ?_) (fun h => ?_) | refine BS.e (fun h => ?_) (fun h => ?_) | refine BS.ne (fun h => ?_) (fun h => ?_) | refine BS.n ?_ | refine BS.s (fun h => ?_) (fun h => ?_) | refine And.intro ?_ ?_ | (refine Need.mk ?_; first | with_reducible rfl | (show @Eq TC _ _; rfl) | omega | (simp only [adN_zero]; omega)) | exact OutS.whole rfl rfl | (refine OpK.callH c1 hA rfl rfl rfl rfl hE ?_ rfl rfl ?_; focus ((repeat' (first | exact PsA.lit _ | exact PsA.ref rfl rfl | constructor)); all_goals (fail "ps"))) | (refine OpK.call c2 rfl rfl rfl rfl hE ?_ rfl rfl ?_; focus ((repeat' (first | exact PsA.lit _ | exact PsA.ref rfl rfl | constructor)); all_goals (fail "ps"))) | (refine OpK.callH c3 hA rfl rfl rfl rfl hE ?_ rfl rfl ?_; focus ((repeat' (first | exact PsA.lit _ | exact PsA.ref rfl rfl | constructor)); all_goals (fail "ps"))) | (refine OpK.call c5 rfl rfl rfl rfl hE ?_ rfl rfl ?_; focus ((repeat' (first | exact PsA.lit _ | exact PsA.ref rfl rfl | constructor)); all_goals (fail "ps"))) | refine ListO.go gOk hE ?_)
      all_goals (try simp only [adN_zero] at *)
      all_goals first
        | exact Need.mk rfl
        | (exfalso; omega)
        | (refine ⟨(out ++ [hx9], n3), (by refine leT.of ?_ ?_ rfl <;> repeat' (first | exact trivial | refine And.intro rfl ?_ | refine And.intro (by first | rfl | (simp; done)) ?_)), kn, ?_⟩; show 25 - (out ++ [hx9]).length < 25 - out.length; rw [List.length_append, List.length_singleton]; omega)
        | (refine Need.mk ?_; first | rfl | omega | (simp_all; done) | (refine ⟨?_, ?_⟩ <;> (try unfold maxLen) <;> omega))
        | trace_state
  · rw [if_neg hq] at c3
    rw [bad (fun hh => hq hh.1.2.1)]
    generalize ndX c hx9 = r at *
    obtain ⟨r1, r2⟩ := r
    dsimp only at *
    repeat' (first | exact trivial | refine BS.d (fun h => ?_) (fun h => ?_) | refine BS.e (fun h => ?_) (fun h => ?_) | refine BS.ne (fun h => ?_) (fun h => ?_) | refine BS.n ?_ | refine BS.s (fun h => ?_) (fun h => ?_) | refine And.intro ?_ ?_ | (refine Need.mk ?_; first | with_reducible rfl | (show @Eq TC _ _; rfl) | omega | (simp only [adN_zero]; omega)) | exact OutS.whole rfl rfl | (refine OpK.callH c1 hA rfl rfl rfl rfl hE ?_ rfl rfl ?_; focus ((repeat' (first | exact PsA.lit _ | exact PsA.ref rfl rfl | constructor)); all_goals (fail "ps"))) | (refine OpK.call c2 rfl rfl rfl rfl hE ?_ rfl rfl ?_; focus ((repeat' (first | exact PsA.lit _ | exact PsA.ref rfl rfl | constructor)); all_goals (fail "ps"))) | (refine OpK.callH c3 hA rfl rfl rfl rfl hE ?_ rfl rfl ?_; focus ((repeat' (first | exact PsA.lit _ | exact PsA.ref rfl rfl | constructor)); all_goals (fail "ps"))) | refine ListO.go gOk hE ?_)
    all_goals (try simp only [adN_zero] at *)
    all_goals first
      | exact Need.mk rfl
      | (exfalso; omega)
      | exact Need.mk ⟨rfl, rfl, rfl⟩
      | exact OutS.whole rfl rfl
      | (refine Need.mk ?_; first | rfl | omega | (simp_all; done) | (refine ⟨?_, ?_⟩ <;> (try unfold maxLen) <;> omega))
      | trace_state
end Go.Proofs.YtfdbjiaghbeedaaGreatDoor
end

section
/- ChainOf. -/
namespace Go.Proofs.YtfdbjiaghbeedaaGreatDoor
open Go Go.Tr
set_option maxRecDepth 100000
set_option maxHeartbeats 4000000
set_option linter.unusedVariables false
set_option linter.unusedSimpArgs false
/-- The handles of a chain of a memory, right or not. -/
noncomputable def chO (b c : List Int) (g o : List (List Int)) (h : Int) : Option (List Int) := if dcB (mmP b c g o) = true then chR b c g o h else none
noncomputable abbrev oCo (b c : List Int) (g o : List (List Int)) (h : Int) : List TAr := [.one (tI ((chO b c g o h).getD [])), ob (chO b c g o h).isSome]
theorem chO_len {b c : List Int} {g o : List (List Int)} {h0 : Int} (hm : h0 ≤ 9223372036854775807) : ((chO b c g o h0).getD []).length ≤ 24 := by
  unfold chO
  split
  · exact chR_len hm
  · exact Nat.zero_le _
theorem ChainOfS_run (e : Nat) (b c : List Int) (g o : List (List Int)) (h0 : Int) (ht : MmT b c g o) (h0m : h0 ≤ 9223372036854775807) : RunT Tryz.prog 11 [aMm e b c g o, ti h0] [] (oCo b c g o h0) [] := by
  have c1 := ht.S e
  unfold oCo chO
  by_cases hm : mmP b c g o
  · have c2 := l20Chain_run e b c g o h0 ht hm h0m
    rw [dcB_true hm] at c1
    rw [dcB_true hm, if_pos rfl]
    unfold oCh at c2
    generalize chR b c g o h0 = r at *
    refine RunT.of_vc gOk Tryz.func11 rfl rfl (Nat.le_of_ble_eq_true rfl) (by repeat' (first | exact trivial | exact ⟨_, rfl, Nat.le_refl _⟩ | exact Nat.le_of_ble_eq_true rfl | refine And.intro ?_ ?_)) (Nat.le_of_ble_eq_true rfl) rfl (fun F hE => ?_)
    repeat' (first | exact trivial | refine BS.d (fun h => ?_) (fun h => ?_) | refine BS.e (fun h => ?_) (fun h => ?_) | refine BS.ne (fun h => ?_) (fun h => ?_) | refine BS.n ?_ | refine BS.s (fun h => ?_) (fun h => ?_) | refine And.intro ?_ ?_ | (refine Need.mk ?_; first | with_reducible rfl | (show @Eq TC _ _; rfl) | omega | (simp only [adN_zero]; omega)) | exact OutS.whole rfl rfl | (refine OpK.call c1 rfl rfl rfl rfl hE ?_ rfl rfl ?_; focus ((repeat' (first | exact PsA.lit _ | exact PsA.ref rfl rfl | constructor)); all_goals (fail "ps"))) | (refine OpK.call c2 rfl rfl rfl rfl hE ?_ rfl rfl ?_; focus ((repeat' (first | exact PsA.lit _ | exact PsA.ref rfl rfl | constructor)); all_goals (fail "ps"))) | refine ListO.go gOk hE ?_)
    all_goals first | exact Need.mk rfl | exact Need.mk ⟨rfl, rfl, rfl⟩ | exact OutS.whole rfl rfl | (exfalso; omega) | trace_state
  · rw [dcB_false hm] at c1
    rw [dcB_false hm, if_neg (by decide)]
    refine RunT.of_vc gOk Tryz.func11 rfl rfl (Nat.le_of_ble_eq_true rfl) (by repeat' (first | exact trivial | exact ⟨_, rfl, Nat.le_refl _⟩ | exact Nat.le_of_ble_eq_true rfl | refine And.intro ?_ ?_)) (Nat.le_of_ble_eq_true rfl) rfl (fun F hE => ?_)
    repeat' (first | exact trivial | refine BS.d (fun h => ?_) (fun h => ?_) | refine BS.e (fun h => ?_) (fun h => ?_) | refine BS.ne (fun h => ?_) (fun h => ?_) | refine BS.n ?_ | refine BS.s (fun h => ?_) (fun h => ?_) | refine And.intro ?_ ?_ | (refine Need.mk ?_; first | with_reducible rfl | (show @Eq TC _ _; rfl) | omega | (simp only [adN_zero]; omega)) | exact OutS.whole rfl rfl | (refine OpK.call c1 rfl rfl rfl rfl hE ?_ rfl rfl ?_; focus ((repeat' (first | exact PsA.lit _ | exact PsA.ref rfl rfl | constructor)); all_goals (fail "ps"))) | refine ListO.go gOk hE ?_)
    all_goals first | exact Need.mk rfl | exact Need.mk ⟨rfl, rfl, rfl⟩ | exact OutS.whole rfl rfl | (exfalso; omega) | trace_state
theorem ChainOfI_run (e : Nat) (b c : List Int) (g o : List (List Int)) (h0 : Int) (ht : MmT b c g o) (h0m : h0 ≤ 9223372036854775807) : RunH Tryz.prog hT 13 [aMm e b c g o, ti h0] [] (oCo b c g o h0) [] := by
  have c1 := ht.I e
  unfold oCo chO
  by_cases hm : mmP b c g o
  · have c2 := chainIn_run e b c g o h0 ht hm h0m
    rw [dcB_true hm] at c1
    rw [dcB_true hm, if_pos rfl]
    unfold oCh at c2
    generalize chR b c g o h0 = r at *
    refine RunH.of_vc gOk Tryz.func13 rfl rfl (Nat.le_of_ble_eq_true rfl) (by repeat' (first | exact trivial | exact ⟨_, rfl, Nat.le_refl _⟩ | exact Nat.le_of_ble_eq_true rfl | refine And.intro ?_ ?_)) (Nat.le_of_ble_eq_true rfl) rfl (fun F hE hA => ?_)
    repeat' (first | exact trivial | refine BS.d (fun h => ?_) (fun h => ?_) | refine BS.e (fun h => ?_) (fun h => ?_) | refine BS.ne (fun h => ?_) (fun h => ?_) | refine BS.n ?_ | refine BS.s (fun h => ?_) (fun h => ?_) | refine And.intro ?_ ?_ | (refine Need.mk ?_; first | with_reducible rfl | (show @Eq TC _ _; rfl) | omega | (simp only [adN_zero]; omega)) | exact OutS.whole rfl rfl | (refine OpK.callH c1 hA rfl rfl rfl rfl hE ?_ rfl rfl ?_; focus ((repeat' (first | exact PsA.lit _ | exact PsA.ref rfl rfl | constructor)); all_goals (fail "ps"))) | (refine OpK.callH c2 hA rfl rfl rfl rfl hE ?_ rfl rfl ?_; focus ((repeat' (first | exact PsA.lit _ | exact PsA.ref rfl rfl | constructor)); all_goals (fail "ps"))) | refine ListO.go gOk hE ?_)
    all_goals first | exact Need.mk rfl | exact Need.mk ⟨rfl, rfl, rfl⟩ | exact OutS.whole rfl rfl | (exfalso; omega) | trace_state
  · rw [dcB_false hm] at c1
    rw [dcB_false hm, if_neg (by decide)]
    refine RunH.of_vc gOk Tryz.func13 rfl rfl (Nat.le_of_ble_eq_true rfl) (by repeat' (first | exact trivial | exact ⟨_, rfl, Nat.le_refl _⟩ | exact Nat.le_of_ble_eq_true rfl | refine And.intro ?_ ?_)) (Nat.le_of_ble_eq_true rfl) rfl (fun F hE hA => ?_)
    repeat' (first | exact trivial | refine BS.d (fun h => ?_) (fun h => ?_) | refine BS.e (fun h => ?_) (fun h => ?_) | refine BS.ne (fun h => ?_) (fun h => ?_) | refine BS.n ?_ | refine BS.s (fun h => ?_) (fun h => ?_) | refine And.intro ?_ ?_ | (refine Need.mk ?_; first | with_reducible rfl | (show @Eq TC _ _; rfl) | omega | (simp only [adN_zero]; omega)) | exact OutS.whole rfl rfl | (refine OpK.callH c1 hA rfl rfl rfl rfl hE ?_ rfl rfl ?_; focus ((repeat' (first | exact PsA.lit _ | exact PsA.ref rfl rfl | constructor)); all_goals (fail "ps"))) | refine ListO.go gOk hE ?_)
    all_goals first | exact Need.mk rfl | exact Need.mk ⟨rfl, rfl, rfl⟩ | exact OutS.whole rfl rfl | (exfalso; omega) | trace_state
end Go.Proofs.YtfdbjiaghbeedaaGreatDoor
end

section
/- Marks of a heap. -/
namespace Go.Proofs.YtfdbjiaghbeedaaGreatDoor
open Go Go.Tr
set_option maxRecDepth 100000
set_option maxHeartbeats 4000000
set_option linter.unusedVariables false
set_option linter.unusedSimpArgs false
theorem markH_run (e : Nat) (b c : List Int) (m : Int) (h0 : 0 ≤ m) (h1 : m ≤ 1048577) (hb : b.length ≤ 1048576) (hc : c.length ≤ 1048576) : RunT Tryz.prog 54 [.agg [.h 0 b.length, .h 1 c.length], ti m] [.sl e 1 Int encI decI 0 b, .sl e 1 Int encI decI 0 c] [oi (m + b.length + c.length)]
    [.sl e 1 Int encI decI 0 (mkL 0 (fI m) b b.length), .sl e 1 Int encI decI 0 (mkL 0 (fI (m + b.length)) c c.length)] := by
  have c1 := markI_run 0 b m h0 (by omega) (by omega)
  have c2 := markI_run 0 c (m + b.length) (by omega) (by omega) (by omega)
  refine RunT.of_vc gOk Tryz.func54 rfl rfl (Nat.le_of_ble_eq_true rfl) (by repeat' (first | exact trivial | exact ⟨_, rfl, Nat.le_refl _⟩ | exact Nat.le_of_ble_eq_true rfl | refine And.intro ?_ ?_)) (Nat.le_of_ble_eq_true rfl) rfl (fun F hE => ?_)
  repeat' (first | exact trivial | refine BS.d (fun h => ?_) (fun h => ?_) | refine BS.e (fun h => ?_) (fun h => ?_) | refine BS.ne (fun h => ?_) (fun h => ?_) | refine BS.n ?_ | refine BS.s (fun h => ?_) (fun h => ?_) | refine And.intro ?_ ?_ | (refine Need.mk ?_; first | with_reducible rfl | (show @Eq TC _ _; rfl) | omega | (simp only [adN_zero]; omega)) | exact OutS.whole rfl rfl | (refine OpK.callB (bIntX 1000000 b (mkL 0 (fI m) b b.length)) c1 rfl rfl rfl rfl hE (BtOk.sl rfl (mkL_len _ _ _ _)) rfl (QsVs.cons (.one (.h rfl rfl rfl)) (.cons (.one (.c (.lit _) rfl)) .nil)) rfl rfl ?_) | (refine OpK.callB (bIntX 1000001 c (mkL 0 (fI (m + b.length)) c c.length)) c2 rfl rfl rfl rfl hE (BtOk.sl rfl (mkL_len _ _ _ _)) rfl (QsVs.cons (.one (.h rfl rfl rfl)) (.cons (.one (.c (.lit _) rfl)) .nil)) rfl rfl ?_) | refine ListO.go gOk hE ?_)
  all_goals first | exact Need.mk rfl | trace_state
theorem heldH_run (b c : List Int) (m : Int) (h0 : 0 ≤ m) (h1 : m ≤ 1048577) (hb : b.length ≤ 1048576) (hc : c.length ≤ 1048576) : RunT Tryz.prog 69 [.agg [.c (tI (mkL 0 (fI m) b b.length)), .c (tI (mkL 0 (fI (m + b.length)) c c.length))], ti m] [] [oi (m + b.length + c.length)] [] := by
  have c1 := heldI_run b m h0 (by omega) (by omega)
  have c2 := heldI_run c (m + b.length) (by omega) (by omega) (by omega)
  refine RunT.of_vc gOk Tryz.func69 rfl rfl (Nat.le_of_ble_eq_true rfl) (by repeat' (first | exact trivial | exact ⟨_, rfl, Nat.le_refl _⟩ | exact Nat.le_of_ble_eq_true rfl | refine And.intro ?_ ?_)) (Nat.le_of_ble_eq_true rfl) rfl (fun F hE => ?_)
  repeat' (first | exact trivial | refine BS.d (fun h => ?_) (fun h => ?_) | refine BS.e (fun h => ?_) (fun h => ?_) | refine BS.ne (fun h => ?_) (fun h => ?_) | refine BS.n ?_ | refine BS.s (fun h => ?_) (fun h => ?_) | refine And.intro ?_ ?_ | (refine Need.mk ?_; first | with_reducible rfl | (show @Eq TC _ _; rfl) | omega | (simp only [adN_zero]; omega)) | exact OutS.whole rfl rfl | (refine OpK.call c1 rfl rfl rfl rfl hE ?_ rfl rfl ?_; focus ((repeat' (first | exact PsA.lit _ | exact PsA.ref rfl rfl | exact PsA.ref rfl (mkL_len _ _ _ _).symm | constructor)); all_goals (fail "ps"))) | (refine OpK.call c2 rfl rfl rfl rfl hE ?_ rfl rfl ?_; focus ((repeat' (first | exact PsA.lit _ | exact PsA.ref rfl rfl | exact PsA.ref rfl (mkL_len _ _ _ _).symm | constructor)); all_goals (fail "ps"))) | refine ListO.go gOk hE ?_)
  all_goals first | exact Need.mk rfl | (exfalso; omega) | trace_state
end Go.Proofs.YtfdbjiaghbeedaaGreatDoor
end

section
/- Marks of lists. -/
namespace Go.Proofs.YtfdbjiaghbeedaaGreatDoor
open Go Go.Tr
set_option maxRecDepth 100000
set_option maxHeartbeats 4000000
set_option linter.unusedVariables false
set_option linter.unusedSimpArgs false
abbrev bSL (e κ : Nat) (xs xs' : List (List Int)) : Bt := ⟨κ, 0, true, .sl e 1 (List Int) encL decL [] xs, .sl e 1 (List Int) encL decL [] xs', .ty .own true e 1 (List Int) encL decL [] xs'⟩
abbrev bSLX (κ : Nat) (xs xs' : List (List Int)) : Bt := ⟨κ, 0, true, .sl 0 1 (List Int) encL decL [] xs, .sl 0 1 (List Int) encL decL [] xs', .ty .own false 0 1 (List Int) encL decL [] xs'⟩
/-- The number that a list begins with. -/
def offI (m : Int) (xs : List (List Int)) : Nat → Int
  | 0 => m
  | i + 1 => offI m xs i + (xs.getD i []).length
theorem offI_eq (m : Int) (xs : List (List Int)) : ∀ i, i ≤ xs.length → offI m xs i = m + (xs.take i).flatten.length
  | 0, _ => by simp [offI]
  | i + 1, h => by
    have e : (xs.take (i + 1)).flatten = (xs.take i).flatten ++ xs.getD i [] := by
      rw [List.take_succ_eq_append_getElem (show i < xs.length by omega), List.flatten_append]
      simp [List.getD, show i < xs.length by omega]
    rw [offI, offI_eq m xs i (by omega), e, List.length_append]; omega
theorem offI_bd {m : Int} {xs : List (List Int)} {i : Nat} (hi : i ≤ xs.length) : m ≤ offI m xs i ∧ offI m xs i ≤ m + xs.flatten.length := by
  rw [offI_eq m xs i hi]
  have : (xs.take i).flatten.length ≤ xs.flatten.length := by
    conv => rhs; rw [← List.take_append_drop i xs, List.flatten_append, List.length_append]
    omega
  omega
abbrev gSL (m : Int) (xs : List (List Int)) (j : Nat) : List Int := mkL 0 (fI (offI m xs j)) (xs.getD j []) (xs.getD j []).length
theorem markSL_run (e : Nat) (xs : List (List Int)) (m : Int) (h0 : 0 ≤ m) (h1 : m ≤ 3145728) (hn : xs.length ≤ 1048576) (hc : xs.flatten.length ≤ 1048576) (hx : ∀ i, (xs.getD i []).length ≤ 1048576) : RunT Tryz.prog 118 [.one (.h 0 xs.length), ti m] [.sl e 1 (List Int) encL decL [] xs] [oi (offI m xs xs.length)] [.sl e 1 (List Int) encL decL [] (mkL [] (gSL m xs) xs xs.length)] := by
  refine RunT.of_vc gOk Tryz.func118 rfl rfl (Nat.le_of_ble_eq_true rfl) (by repeat' (first | exact trivial | exact ⟨_, rfl, Nat.le_refl _⟩ | exact Nat.le_of_ble_eq_true rfl | refine And.intro ?_ ?_)) (Nat.le_of_ble_eq_true rfl) rfl (fun F hE => ?_)
  repeat' (first | exact trivial | refine BS.d (fun h => ?_) (fun h => ?_) | refine BS.e (fun h => ?_) (fun h => ?_) | refine BS.ne (fun h => ?_) (fun h => ?_) | refine BS.n ?_ | refine BS.s (fun h => ?_) (fun h => ?_) | refine And.intro ?_ ?_ | (refine Need.mk ?_; first | with_reducible rfl | (show @Eq TC _ _; rfl) | omega | (simp only [adN_zero]; omega)) | exact OutS.whole rfl rfl | refine ListO.go gOk hE ?_)
  refine CodeK.loop gOk hE (fun i : Nat => ⟨[(0, vr 1000000 xs.length), (1, vi (offI m xs i)), (5, vi i)], [(1000000, rSL .own false 0 (mkL [] (gSL m xs) xs i))]⟩) (fun i => i ≤ xs.length) (fun i => xs.length - i) 0 (by refine leT.of ?_ ?_ rfl <;> repeat' (first | exact trivial | refine And.intro rfl ?_ | refine And.intro (by first | rfl | (simp [mkL_zero] <;> rfl)) ?_)) (Nat.zero_le _) ?_
  rintro i hi
  have hl := mkL_len [] (gSL m xs) xs i
  have hb := offI_bd (m := m) hi
  by_cases hi2 : i < xs.length
  · have hgi := mkL_ge [] (gSL m xs) xs i i (Nat.le_refl _)
    have hxi := hx i
    have c1 := markI_run 3 ((mkL [] (gSL m xs) xs i).getD i []) (offI m xs i) (by omega) (by omega) (by rw [hgi]; omega)
    repeat' (first | exact trivial | refine BS.d (fun h => ?_) (fun h => ?_) | refine BS.e (fun h => ?_) (fun h => ?_) | refine BS.ne (fun h => ?_) (fun h => ?_) | refine BS.n ?_ | refine BS.s (fun h => ?_) (fun h => ?_) | refine And.intro ?_ ?_ | (refine Need.mk ?_; first | with_reducible rfl | (show @Eq TC _ _; rfl) | omega | (simp only [adN_zero]; omega)) | exact OutS.whole rfl rfl | (refine ListO.open_ gOk hE 5000 rfl rfl rfl rfl rfl rfl rfl rfl (by (try simp only [adN_zero]); omega) (by decide) rfl rfl rfl rfl ?_) | (refine OpK.callB (bInt 3 5000 ((mkL [] (gSL m xs) xs i).getD i []) (mkL 0 (fI (offI m xs i)) ((mkL [] (gSL m xs) xs i).getD i []) ((mkL [] (gSL m xs) xs i).getD i []).length)) c1 rfl rfl rfl rfl hE (BtOk.sl rfl (mkL_len _ _ _ _)) rfl (QsVs.cons (.one (.h rfl rfl rfl)) (.cons (.one (.c (.lit _) rfl)) .nil)) rfl rfl ?_) | refine ListO.go gOk hE ?_)
    all_goals (try simp only [adN_zero] at *)
    all_goals first
      | (exfalso; omega)
      | (refine Need.mk ?_; omega)
      | (refine ⟨i + 1, ?_, by omega, by first | omega | (dsimp only; omega)⟩
         refine St.le.trans (close_le (κ := 1000000) (key := 5000) (mkL 0 (fI (offI m xs i)) ((mkL [] (gSL m xs) xs i).getD i []) ((mkL [] (gSL m xs) xs i).getD i []).length) (by rfl) (by rfl) (by exact (mkL_len _ _ _ _).symm) (by rfl) (by rfl) (by omega) (by decide) (by rfl) (fun r' h8 h9 => absurd (Nat.lt_one_iff.1 h8) h9)) ?_
         exact (by refine leT.of ?_ ?_ rfl <;> repeat' (first | exact trivial | refine And.intro rfl ?_ | refine And.intro (by first | rfl | (rw [hgi]; rfl) | (refine congrArg (fun l => some (rSL .own false 0 l)) ?_; rw [hgi]; exact mkL_set [] (gSL m xs) _ _ (by omega))) ?_)))
  · repeat' (first | exact trivial | refine BS.d (fun h => ?_) (fun h => ?_) | refine BS.e (fun h => ?_) (fun h => ?_) | refine BS.ne (fun h => ?_) (fun h => ?_) | refine BS.n ?_ | refine BS.s (fun h => ?_) (fun h => ?_) | refine And.intro ?_ ?_ | (refine Need.mk ?_; first | with_reducible rfl | (show @Eq TC _ _; rfl) | omega | (simp only [adN_zero]; omega)) | exact OutS.whole rfl rfl | refine ListO.go gOk hE ?_)
    all_goals (try simp only [adN_zero] at *)
    all_goals first
      | (exfalso; omega)
      | (refine Need.mk ?_; first | omega | rw [show i = xs.length by omega])
      | (refine Need.mk ?_; (try rw [show i = xs.length by omega]); rfl)
theorem markLs_run (e e' : Nat) (g o : List (List Int)) (m : Int) (h0 : 0 ≤ m) (h1 : m ≤ 1048577) (hg : g.length ≤ 1048576) (hcg : g.flatten.length ≤ 1048576) (hxg : ∀ i, (g.getD i []).length ≤ 1048576) (ho : o.length ≤ 1048576) (hco : o.flatten.length ≤ 1048576) (hxo : ∀ i, (o.getD i []).length ≤ 1048576) (hs : m + g.flatten.length ≤ 3145728) :
    RunT Tryz.prog 55 [.agg [.h 0 g.length, .h 1 o.length], ti m] [.sl e 1 (List Int) encL decL [] g, .sl e' 1 (List Int) encL decL [] o] [oi (offI (offI m g g.length) o o.length)]
      [.sl e 1 (List Int) encL decL [] (mkL [] (gSL m g) g g.length), .sl e' 1 (List Int) encL decL [] (mkL [] (gSL (offI m g g.length) o) o o.length)] := by
  have hb := offI_bd (m := m) (Nat.le_refl g.length)
  have c1 := markSL_run 0 g m h0 (by omega) hg hcg hxg
  have c2 := markSL_run 0 o (offI m g g.length) (by omega) (by omega) ho hco hxo
  generalize hq : offI m g g.length = m2 at *
  refine RunT.of_vc gOk Tryz.func55 rfl rfl (Nat.le_of_ble_eq_true rfl) (by repeat' (first | exact trivial | exact ⟨_, rfl, Nat.le_refl _⟩ | exact Nat.le_of_ble_eq_true rfl | refine And.intro ?_ ?_)) (Nat.le_of_ble_eq_true rfl) rfl (fun F hE => ?_)
  repeat' (first | exact trivial | refine BS.d (fun h => ?_) (fun h => ?_) | refine BS.e (fun h => ?_) (fun h => ?_) | refine BS.ne (fun h => ?_) (fun h => ?_) | refine BS.n ?_ | refine BS.s (fun h => ?_) (fun h => ?_) | refine And.intro ?_ ?_ | (refine Need.mk ?_; first | with_reducible rfl | (show @Eq TC _ _; rfl) | omega | (simp only [adN_zero]; omega)) | exact OutS.whole rfl rfl | (refine OpK.callB (bSLX 1000000 g (mkL [] (gSL m g) g g.length)) c1 rfl rfl rfl rfl hE (BtOk.sl rfl (mkL_len _ _ _ _)) rfl (QsVs.cons (.one (.h rfl rfl rfl)) (.cons (.one (.c (.lit _) rfl)) .nil)) rfl rfl ?_) | (refine OpK.callB (bSLX 1000001 o (mkL [] (gSL m2 o) o o.length)) c2 rfl rfl rfl rfl hE (BtOk.sl rfl (mkL_len _ _ _ _)) rfl (QsVs.cons (.one (.h rfl rfl rfl)) (.cons (.one (.c (.lit _) rfl)) .nil)) rfl rfl ?_) | refine ListO.go gOk hE ?_)
  all_goals first | exact Need.mk rfl | trace_state
end Go.Proofs.YtfdbjiaghbeedaaGreatDoor
end

section
/- The marks of a row of lists, read. -/
namespace Go.Proofs.YtfdbjiaghbeedaaGreatDoor
open Go Go.Tr
set_option maxRecDepth 100000
set_option maxHeartbeats 4000000
set_option linter.unusedVariables false
set_option linter.unusedSimpArgs false
theorem heldSL_run (e : Nat) (xs : List (List Int)) (m : Int) (h0 : 0 ≤ m) (h1 : m ≤ 3145728) (hn : xs.length ≤ 1048576) (hc : xs.flatten.length ≤ 1048576) (hx : ∀ i, (xs.getD i []).length ≤ 1048576) : RunT Tryz.prog 132 [.one (.c (tSL e (mkL [] (gSL m xs) xs xs.length))), ti m] [] [oi (offI m xs xs.length)] [] := by
  have hl := mkL_len [] (gSL m xs) xs xs.length
  refine RunT.of_vc gOk Tryz.func132 rfl rfl (Nat.le_of_ble_eq_true rfl) (by repeat' (first | exact trivial | exact ⟨_, rfl, Nat.le_refl _⟩ | exact Nat.le_of_ble_eq_true rfl | refine And.intro ?_ ?_)) (Nat.le_of_ble_eq_true rfl) rfl (fun F hE => ?_)
  repeat' (first | exact trivial | refine BS.d (fun h => ?_) (fun h => ?_) | refine BS.e (fun h => ?_) (fun h => ?_) | refine BS.ne (fun h => ?_) (fun h => ?_) | refine BS.n ?_ | refine BS.s (fun h => ?_) (fun h => ?_) | refine And.intro ?_ ?_ | (refine Need.mk ?_; first | with_reducible rfl | (show @Eq TC _ _; rfl) | omega | (simp only [adN_zero]; omega)) | exact OutS.whole rfl rfl | refine ListO.go gOk hE ?_)
  refine CodeK.loop gOk hE (fun i : Nat => ⟨[(0, vr 1000000 (mkL [] (gSL m xs) xs xs.length).length), (1, vi (offI m xs i)), (5, vi i)], [(1000000, rSL .fro false e (mkL [] (gSL m xs) xs xs.length))]⟩) (fun i => i ≤ xs.length) (fun i => xs.length - i) 0 (by refine leT.of ?_ ?_ rfl <;> repeat' (first | exact trivial | refine And.intro rfl ?_ | refine And.intro (by first | rfl | (simp [offI] <;> rfl)) ?_)) (Nat.zero_le _) ?_
  rintro i hi
  have hb := offI_bd (m := m) hi
  by_cases hi2 : i < xs.length
  · have hg : (mkL [] (gSL m xs) xs xs.length).getD i [] = gSL m xs i := mkL_get _ _ _ _ _ hi2 hi2
    have hxi := hx i
    have c1 := heldI_run (xs.getD i []) (offI m xs i) (by omega) (by omega) (by omega)
    have hb2 := offI_bd (m := m) (xs := xs) (i := i + 1) (by omega)
    have hofs : offI m xs (i + 1) = offI m xs i + (xs.getD i []).length := rfl
    rw [show mkL 0 (fI (offI m xs i)) (xs.getD i []) (xs.getD i []).length = (mkL [] (gSL m xs) xs xs.length).getD i [] from hg.symm, ← hofs] at c1
    repeat' (first | exact trivial | refine BS.d (fun h => ?_) (fun h => ?_) | refine BS.e (fun h => ?_) (fun h => ?_) | refine BS.ne (fun h => ?_) (fun h => ?_) | refine BS.n ?_ | refine BS.s (fun h => ?_) (fun h => ?_) | refine And.intro ?_ ?_ | (refine Need.mk ?_; first | with_reducible rfl | (show @Eq TC _ _; rfl) | omega | (simp only [adN_zero]; omega)) | exact OutS.whole rfl rfl | (refine OpK.call c1 rfl rfl rfl rfl hE ?_ rfl rfl ?_; focus ((repeat' (first | exact PsA.lit _ | exact PsA.ref rfl rfl | constructor)); all_goals (fail "ps"))) | refine ListO.go gOk hE ?_)
    all_goals (try simp only [adN_zero] at *)
    all_goals first
      | (exfalso; omega)
      | (refine Need.mk ?_; omega)
      | (refine ⟨i + 1, (by refine leT.of ?_ ?_ rfl <;> repeat' (first | exact trivial | refine And.intro rfl ?_ | refine And.intro (by first | rfl | (simp; done)) ?_)), by omega, by first | omega | (dsimp only; omega)⟩)
      | trace_state
  · repeat' (first | exact trivial | refine BS.d (fun h => ?_) (fun h => ?_) | refine BS.e (fun h => ?_) (fun h => ?_) | refine BS.ne (fun h => ?_) (fun h => ?_) | refine BS.n ?_ | refine BS.s (fun h => ?_) (fun h => ?_) | refine And.intro ?_ ?_ | (refine Need.mk ?_; first | with_reducible rfl | (show @Eq TC _ _; rfl) | omega | (simp only [adN_zero]; omega)) | exact OutS.whole rfl rfl | refine ListO.go gOk hE ?_)
    all_goals (try simp only [adN_zero] at *)
    all_goals first
      | (exfalso; omega)
      | (refine Need.mk ?_; first | omega | rw [show i = xs.length by omega])
      | (refine Need.mk ?_; (try rw [show i = xs.length by omega]); rfl)
      | trace_state
end Go.Proofs.YtfdbjiaghbeedaaGreatDoor
end

section
/- Marks of a memory, told, and read. -/
namespace Go.Proofs.YtfdbjiaghbeedaaGreatDoor
open Go Go.Tr
set_option maxRecDepth 100000
set_option maxHeartbeats 4000000
set_option linter.unusedVariables false
set_option linter.unusedSimpArgs false
abbrev mB (b : List Int) : List Int := mkL 0 (fI 1) b b.length
abbrev mC (b c : List Int) : List Int := mkL 0 (fI (1 + b.length)) c c.length
abbrev mG (b c : List Int) (g : List (List Int)) : List (List Int) := mkL [] (gSL (1 + b.length + c.length) g) g g.length
abbrev mO (b c : List Int) (g o : List (List Int)) : List (List Int) := mkL [] (gSL (offI (1 + b.length + c.length) g g.length) o) o o.length
def mZ (b c : List Int) (g o : List (List Int)) : Int := offI (offI (1 + b.length + c.length) g g.length) o o.length
theorem mZ_bd {b c : List Int} {g o : List (List Int)} : 1 ≤ mZ b c g o ∧ mZ b c g o ≤ 1 + b.length + c.length + g.flatten.length + o.flatten.length := by
  have q1 := offI_bd (m := 1 + b.length + c.length) (Nat.le_refl g.length)
  have q2 := offI_bd (m := offI (1 + b.length + c.length) g g.length) (Nat.le_refl o.length)
  unfold mZ; omega
structure MkOk (b c : List Int) (g o : List (List Int)) : Prop where
  ok : MmOk 1048576 b c g o
  bc : b.length + c.length ≤ 1048576
  fg : g.flatten.length + o.flatten.length ≤ 1048576
theorem markMemX_run (ei e e' : Nat) (b c : List Int) (g o : List (List Int)) (h : MkOk b c g o) : RunT Tryz.prog 16 [.agg [.h 0 b.length, .h 1 c.length, .h 2 g.length, .h 3 o.length], ti 1] [.sl ei 1 Int encI decI 0 b, .sl ei 1 Int encI decI 0 c, .sl e 1 (List Int) encL decL [] g, .sl e' 1 (List Int) encL decL [] o] [oi (mZ b c g o)]
      [.sl ei 1 Int encI decI 0 (mB b), .sl ei 1 Int encI decI 0 (mC b c), .sl e 1 (List Int) encL decL [] (mG b c g), .sl e' 1 (List Int) encL decL [] (mO b c g o)] := by
  have hb := h.ok.hb
  have hc := h.ok.hc
  have hg := h.ok.hg
  have ho := h.ok.ho
  have hfg := h.fg
  have hbc := h.bc
  have hxg := h.ok.hg'
  have hxo := h.ok.ho'
  have c1 := markH_run 0 b c 1 (by omega) (by omega) hb hc
  have c2 := markLs_run 0 0 g o (1 + b.length + c.length) (by omega) (by omega) (by omega) (by omega) hxg (by omega) (by omega) hxo (by omega)
  have q1 := offI_bd (m := 1 + b.length + c.length) (Nat.le_refl g.length)
  have q2 := offI_bd (m := offI (1 + b.length + c.length) g g.length) (Nat.le_refl o.length)
  unfold mZ
  generalize offI (offI (1 + b.length + c.length) g g.length) o o.length = z at *
  refine RunT.of_vc gOk Tryz.func16 rfl rfl (Nat.le_of_ble_eq_true rfl) (by repeat' (first | exact trivial | exact ⟨_, rfl, Nat.le_refl _⟩ | exact Nat.le_of_ble_eq_true rfl | refine And.intro ?_ ?_)) (Nat.le_of_ble_eq_true rfl) rfl (fun F hE => ?_)
  repeat' (first | exact trivial | refine BS.d (fun h => ?_) (fun h => ?_) | refine BS.e (fun h => ?_) (fun h => ?_) | refine BS.ne (fun h => ?_) (fun h => ?_) | refine BS.n ?_ | refine BS.s (fun h => ?_) (fun h => ?_) | refine And.intro ?_ ?_ | (refine Need.mk ?_; first | with_reducible rfl | (show @Eq TC _ _; rfl) | omega | (simp only [adN_zero]; omega)) | exact OutS.whole rfl rfl | (refine OpK.callBs [bIntX 1000000 b (mkL 0 (fI 1) b b.length), bIntX 1000001 c (mkL 0 (fI (1 + b.length)) c c.length)] c1 rfl rfl rfl rfl hE (List.forall_mem_cons.2 ⟨BtOk.sl rfl (mkL_len _ _ _ _), List.forall_mem_cons.2 ⟨BtOk.sl rfl (mkL_len _ _ _ _), fun _ h => nomatch h⟩⟩) (List.forall_mem_cons.2 ⟨rfl, List.forall_mem_cons.2 ⟨rfl, fun _ h => nomatch h⟩⟩) (show List.Nodup [1000000, 1000001] by decide) (QsVs.cons (.agg (.cons (.h rfl rfl rfl) (.cons (.h rfl rfl rfl) .nil))) (.cons (.one (.c (.lit _) rfl)) .nil)) rfl rfl ?_) | (refine OpK.callBs [bSLX 1000002 g (mkL [] (gSL (1 + b.length + c.length) g) g g.length), bSLX 1000003 o (mkL [] (gSL (offI (1 + b.length + c.length) g g.length) o) o o.length)] c2 rfl rfl rfl rfl hE (List.forall_mem_cons.2 ⟨BtOk.sl rfl (mkL_len _ _ _ _), List.forall_mem_cons.2 ⟨BtOk.sl rfl (mkL_len _ _ _ _), fun _ h => nomatch h⟩⟩) (List.forall_mem_cons.2 ⟨rfl, List.forall_mem_cons.2 ⟨rfl, fun _ h => nomatch h⟩⟩) (show List.Nodup [1000002, 1000003] by decide) (QsVs.cons (.agg (.cons (.h rfl rfl rfl) (.cons (.h rfl rfl rfl) .nil))) (.cons (.one (.c (.lit _) rfl)) .nil)) rfl rfl ?_) | refine ListO.go gOk hE ?_)
  all_goals first | exact Need.mk rfl | trace_state
theorem heldMem_run (e e' : Nat) (b c : List Int) (g o : List (List Int)) (h : MkOk b c g o) : RunT Tryz.prog 30 [.agg [.c (tI (mB b)), .c (tI (mC b c)), .c (tSL e (mG b c g)), .c (tSL e' (mO b c g o))], ti 1] [] [oi (mZ b c g o)] [] := by
  have hb := h.ok.hb
  have hc := h.ok.hc
  have hg := h.ok.hg
  have ho := h.ok.ho
  have hfg := h.fg
  have hbc := h.bc
  have q1 := offI_bd (m := 1 + b.length + c.length) (Nat.le_refl g.length)
  have q2 := offI_bd (m := offI (1 + b.length + c.length) g g.length) (Nat.le_refl o.length)
  have c1 := heldH_run b c 1 (by omega) (by omega) hb hc
  have c2 := heldSL_run e g (1 + b.length + c.length) (by omega) (by omega) hg (by omega) h.ok.hg'
  have c3 := heldSL_run e' o (offI (1 + b.length + c.length) g g.length) (by omega) (by omega) ho (by omega) h.ok.ho'
  have c4 : RunT Tryz.prog 70 [.agg [.c (tSL e (mG b c g)), .c (tSL e' (mO b c g o))], ti (1 + b.length + c.length)] [] [oi (mZ b c g o)] [] := by
    unfold mZ
    refine RunT.of_vc gOk Tryz.func70 rfl rfl (Nat.le_of_ble_eq_true rfl) (by repeat' (first | exact trivial | exact ⟨_, rfl, Nat.le_refl _⟩ | exact Nat.le_of_ble_eq_true rfl | refine And.intro ?_ ?_)) (Nat.le_of_ble_eq_true rfl) rfl (fun F hE => ?_)
    repeat' (first | exact trivial | refine BS.d (fun h => ?_) (fun h => ?_) | refine BS.e (fun h => ?_) (fun h => ?_) | refine BS.ne (fun h => ?_) (fun h => ?_) | refine BS.n ?_ | refine BS.s (fun h => ?_) (fun h => ?_) | refine And.intro ?_ ?_ | (refine Need.mk ?_; first | with_reducible rfl | (show @Eq TC _ _; rfl) | omega | (simp only [adN_zero]; omega)) | exact OutS.whole rfl rfl | (refine OpK.call c2 rfl rfl rfl rfl hE ?_ rfl rfl ?_; focus ((repeat' (first | exact PsA.lit _ | exact PsA.ref rfl rfl | exact PsA.ref rfl (mkL_len _ _ _ _).symm | constructor)); all_goals (fail "ps"))) | (refine OpK.call c3 rfl rfl rfl rfl hE ?_ rfl rfl ?_; focus ((repeat' (first | exact PsA.lit _ | exact PsA.ref rfl rfl | exact PsA.ref rfl (mkL_len _ _ _ _).symm | constructor)); all_goals (fail "ps"))) | refine ListO.go gOk hE ?_)
    all_goals first | exact Need.mk rfl | (exfalso; omega) | trace_state
  have q3 : 0 ≤ mZ b c g o := by unfold mZ; omega
  refine RunT.of_vc gOk Tryz.func30 rfl rfl (Nat.le_of_ble_eq_true rfl) (by repeat' (first | exact trivial | exact ⟨_, rfl, Nat.le_refl _⟩ | exact Nat.le_of_ble_eq_true rfl | refine And.intro ?_ ?_)) (Nat.le_of_ble_eq_true rfl) rfl (fun F hE => ?_)
  repeat' (first | exact trivial | refine BS.d (fun h => ?_) (fun h => ?_) | refine BS.e (fun h => ?_) (fun h => ?_) | refine BS.ne (fun h => ?_) (fun h => ?_) | refine BS.n ?_ | refine BS.s (fun h => ?_) (fun h => ?_) | refine And.intro ?_ ?_ | (refine Need.mk ?_; first | with_reducible rfl | (show @Eq TC _ _; rfl) | omega | (simp only [adN_zero]; omega)) | exact OutS.whole rfl rfl | (refine OpK.call c1 rfl rfl rfl rfl hE ?_ rfl rfl ?_; focus ((repeat' (first | exact PsA.lit _ | exact PsA.ref rfl rfl | exact PsA.ref rfl (mkL_len _ _ _ _).symm | constructor)); all_goals (fail "ps"))) | (refine OpK.call c4 rfl rfl rfl rfl hE ?_ rfl rfl ?_; focus ((repeat' (first | exact PsA.lit _ | exact PsA.ref rfl rfl | exact PsA.ref rfl (mkL_len _ _ _ _).symm | constructor)); all_goals (fail "ps"))) | refine ListO.go gOk hE ?_)
  all_goals first | exact Need.mk rfl | (exfalso; omega) | trace_state
end Go.Proofs.YtfdbjiaghbeedaaGreatDoor
end

section
/- How long a memory's bytes and classes are. -/
namespace Go.Proofs.YtfdbjiaghbeedaaGreatDoor
open Go Go.Tr
set_option maxRecDepth 100000
set_option maxHeartbeats 4000000
set_option linter.unusedVariables false
set_option linter.unusedSimpArgs false
theorem szM_bcC {b c : List Int} {g o : List (List Int)} {m : Int} (h0 : 0 ≤ m) (h : ¬ szM b c g o m < 0) : b.length + c.length ≤ m := by
  unfold szM at h
  split at h
  · omega
  · rename_i hh
    unfold szH at hh
    unfold szI at hh
    split at hh <;> (try split at hh) <;> omega
end Go.Proofs.YtfdbjiaghbeedaaGreatDoor
end

section
/- A node read out of a chain. -/
namespace Go.Proofs.YtfdbjiaghbeedaaGreatDoor
open Go Go.Tr
set_option maxRecDepth 100000
set_option maxHeartbeats 4000000
set_option linter.unusedVariables false
set_option linter.unusedSimpArgs false
/-- The node that a handle names, whatever it is. -/
def rwN (b c : List Int) (x : Int) : Int × Int × Int := (ndR b c x).1
theorem l19Raw_run (e : Nat) (b c : List Int) (g o : List (List Int)) (x : Int) (h : shP b c) : RunT Tryz.prog 56 [aMm e b c g o, ti x] [] [oNd (rwN b c x)] [] := by
  have c1 := l19Spot_run e b c g o x h.2.1
  unfold rwN ndR
  by_cases hq : (ndX c x).2 = 0
  · obtain ⟨_, _, _, h0, h1⟩ := ndX_ok hq
    have c2 := l19Load_run e b c g o (ndX c x).1 h h0 h1
    rw [if_pos hq]
    rw [hq] at c1
    generalize (ndX c x).1 = p at *
    generalize ndV b p = r at *
    obtain ⟨r1, r2, r3⟩ := r
    dsimp only at *
    refine RunT.of_vc gOk Tryz.func56 rfl rfl (Nat.le_of_ble_eq_true rfl) (by repeat' (first | exact trivial | exact ⟨_, rfl, Nat.le_refl _⟩ | exact Nat.le_of_ble_eq_true rfl | refine And.intro ?_ ?_)) (Nat.le_of_ble_eq_true rfl) rfl (fun F hE => ?_)
    repeat' (first | exact trivial | refine BS.d (fun h => ?_) (fun h => ?_) | refine BS.e (fun h => ?_) (fun h => ?_) | refine BS.ne (fun h => ?_) (fun h => ?_) | refine BS.n ?_ | refine BS.s (fun h => ?_) (fun h => ?_) | refine And.intro ?_ ?_ | (refine Need.mk ?_; first | with_reducible rfl | (show @Eq TC _ _; rfl) | omega | (simp only [adN_zero]; omega)) | exact OutS.whole rfl rfl | (refine OpK.call c1 rfl rfl rfl rfl hE ?_ rfl rfl ?_; focus ((repeat' (first | exact PsA.lit _ | exact PsA.ref rfl rfl | constructor)); all_goals (fail "ps"))) | (refine OpK.call c2 rfl rfl rfl rfl hE ?_ rfl rfl ?_; focus ((repeat' (first | exact PsA.lit _ | exact PsA.ref rfl rfl | constructor)); all_goals (fail "ps"))) | refine ListO.go gOk hE ?_)
    all_goals first | exact Need.mk rfl | (exfalso; omega) | trace_state
  · rw [if_neg hq]
    generalize ndX c x = r at *
    obtain ⟨r1, r2⟩ := r
    dsimp only at *
    refine RunT.of_vc gOk Tryz.func56 rfl rfl (Nat.le_of_ble_eq_true rfl) (by repeat' (first | exact trivial | exact ⟨_, rfl, Nat.le_refl _⟩ | exact Nat.le_of_ble_eq_true rfl | refine And.intro ?_ ?_)) (Nat.le_of_ble_eq_true rfl) rfl (fun F hE => ?_)
    repeat' (first | exact trivial | refine BS.d (fun h => ?_) (fun h => ?_) | refine BS.e (fun h => ?_) (fun h => ?_) | refine BS.ne (fun h => ?_) (fun h => ?_) | refine BS.n ?_ | refine BS.s (fun h => ?_) (fun h => ?_) | refine And.intro ?_ ?_ | (refine Need.mk ?_; first | with_reducible rfl | (show @Eq TC _ _; rfl) | omega | (simp only [adN_zero]; omega)) | exact OutS.whole rfl rfl | (refine OpK.call c1 rfl rfl rfl rfl hE ?_ rfl rfl ?_; focus ((repeat' (first | exact PsA.lit _ | exact PsA.ref rfl rfl | constructor)); all_goals (fail "ps"))) | refine ListO.go gOk hE ?_)
    all_goals first | exact Need.mk rfl | (exfalso; omega) | trace_state
theorem chO_mm {b c : List Int} {g o : List (List Int)} {h : Int} (hn : (chO b c g o h).getD [] ≠ []) : mmP b c g o := by
  by_cases hm : mmP b c g o
  · exact hm
  · exfalso; apply hn; unfold chO; rw [dcB_false hm]; rfl
theorem chO_mem {b c : List Int} {g o : List (List Int)} {h : Int} (h0m : h ≤ 9223372036854775807) {x : Int} (hx : x ∈ (chO b c g o h).getD []) : ckP b c g o x := by
  unfold chO at hx
  split at hx
  · cases hr : chR b c g o h with
    | none => rw [hr] at hx; cases hx
    | some l => rw [hr] at hx; exact (chR_mem h0m hr).2.1 x hx
  · cases hx
theorem chO_bd {b c : List Int} {g o : List (List Int)} {h : Int} (h0m : h ≤ 9223372036854775807) {x : Int} (hx : x ∈ (chO b c g o h).getD []) : x ≤ 9223372036854775807 := by
  have := (chO_mem h0m hx).1
  unfold vlB at this
  simp only [Bool.and_eq_true] at this
  have := hOk_iff.1 this.1.1
  omega
end Go.Proofs.YtfdbjiaghbeedaaGreatDoor
end
