import Derived.Test.YtpmhkpmkmbkjbaaDoorZB
import Derived.Test.YtpmhkpmkmbkjbaaDoorZO
import Derived.Test.YtpmhkpmkmbkjbaaDoorZA
/- Where a node lies. -/
namespace Go.Proofs.YtpmhkpmkmbkjbaaDoor
open Go Go.Tr
set_option maxRecDepth 100000
set_option maxHeartbeats 4000000
set_option linter.unusedVariables false
set_option linter.unusedSimpArgs false
def ndX (c : List Int) (x : Int) : Int × Int := if clIn c (hSlot x) = -1 then (0, 4) else if szC (clIn c (hSlot x)) < 10 then (0, 2) else (genA (hSlot x) (clIn c (hSlot x)) + 4, 0)
theorem ndX_ok {c : List Int} {x : Int} (h : (ndX c x).2 = 0) : clIn c (hSlot x) ≠ -1 ∧ 10 ≤ szC (clIn c (hSlot x)) ∧ (ndX c x).1 = genA (hSlot x) (clIn c (hSlot x)) + 4 ∧ 0 ≤ (ndX c x).1 ∧ (ndX c x).1 + 10 ≤ 384 := by
  by_cases h1 : clIn c (hSlot x) = -1
  · unfold ndX at h; rw [if_pos h1] at h; cases h
  · by_cases h2 : szC (clIn c (hSlot x)) < 10
    · unfold ndX at h; rw [if_neg h1, if_pos h2] at h; cases h
    · have e : ndX c x = (genA (hSlot x) (clIn c (hSlot x)) + 4, 0) := by unfold ndX; rw [if_neg h1, if_neg h2]
      have hs := clIn_some h1
      rw [e]
      exact ⟨h1, by omega, rfl, by dsimp only; omega, by dsimp only; omega⟩
theorem ndX_cd (c : List Int) (x : Int) : (ndX c x).2 = 0 ∨ ndX c x = (0, 4) ∨ ndX c x = (0, 2) := by
  unfold ndX
  split
  · exact .inr (.inl rfl)
  · split
    · exact .inr (.inr rfl)
    · exact .inl rfl
theorem nodeStart_run (e : Nat) (b c : List Int) (g o : List (List Int)) (x : Int) (hc : c.length = 6) (hx : x ≤ 9223372036854775807) : RunH Tryd.prog hT 102 [aMm e b c g o, ti x] [] [oi (ndX c x).1, oi (ndX c x).2] [] := by
  have c1 := iHandleSlot_run x hx
  have c2 := classIn_run b c (hSlot x) hc
  unfold ndX
  by_cases h1 : clIn c (hSlot x) = -1
  · rw [if_pos h1]
    rw [h1] at c2
    refine RunH.of_vc gOk Tryd.func102 rfl rfl (Nat.le_of_ble_eq_true rfl) (by repeat' (first | exact trivial | exact ⟨_, rfl, Nat.le_refl _⟩ | exact Nat.le_of_ble_eq_true rfl | refine And.intro ?_ ?_)) (Nat.le_of_ble_eq_true rfl) rfl (fun F hE hA => ?_)
    repeat' (first | exact trivial | refine BS.d (fun h => ?_) (fun h => ?_) | refine BS.e (fun h => ?_) (fun h => ?_) | refine BS.ne (fun h => ?_) (fun h => ?_) | refine BS.n ?_ | refine BS.s (fun h => ?_) (fun h => ?_) | refine And.intro ?_ ?_ | (refine Need.mk ?_; first | with_reducible rfl | (show @Eq TC _ _; rfl) | omega | (simp only [adN_zero]; omega)) | exact OutS.whole rfl rfl | (refine OpK.call c1 rfl rfl rfl rfl hE ?_ rfl rfl ?_; focus ((repeat' (first | exact PsA.lit _ | exact PsA.ref rfl rfl | constructor)); all_goals (fail "ps"))) | (refine OpK.callH c2 hA rfl rfl rfl rfl hE ?_ rfl rfl ?_; focus ((repeat' (first | exact PsA.lit _ | exact PsA.ref rfl rfl | constructor)); all_goals (fail "ps"))) | refine ListO.go gOk hE ?_)
    all_goals first | exact Need.mk rfl | (exfalso; omega) | trace_state
  · rw [if_neg h1]
    have c3 := SizeOfI_run (clIn c (hSlot x))
    have c4 := StartOfI_run (hSlot x) (clIn c (hSlot x))
    have hs := clIn_some h1
    rw [if_neg (by omega)] at c4
    generalize genA (hSlot x) (clIn c (hSlot x)) = gg at *
    generalize szC (clIn c (hSlot x)) = z at *
    generalize clIn c (hSlot x) = cl at *
    by_cases h2 : z < 10
    · rw [if_pos h2]
      refine RunH.of_vc gOk Tryd.func102 rfl rfl (Nat.le_of_ble_eq_true rfl) (by repeat' (first | exact trivial | exact ⟨_, rfl, Nat.le_refl _⟩ | exact Nat.le_of_ble_eq_true rfl | refine And.intro ?_ ?_)) (Nat.le_of_ble_eq_true rfl) rfl (fun F hE hA => ?_)
      repeat' (first | exact trivial | refine BS.d (fun h => ?_) (fun h => ?_) | refine BS.e (fun h => ?_) (fun h => ?_) | refine BS.ne (fun h => ?_) (fun h => ?_) | refine BS.n ?_ | refine BS.s (fun h => ?_) (fun h => ?_) | refine And.intro ?_ ?_ | (refine Need.mk ?_; first | with_reducible rfl | (show @Eq TC _ _; rfl) | omega | (simp only [adN_zero]; omega)) | exact OutS.whole rfl rfl | (refine OpK.call c1 rfl rfl rfl rfl hE ?_ rfl rfl ?_; focus ((repeat' (first | exact PsA.lit _ | exact PsA.ref rfl rfl | constructor)); all_goals (fail "ps"))) | (refine OpK.callH c2 hA rfl rfl rfl rfl hE ?_ rfl rfl ?_; focus ((repeat' (first | exact PsA.lit _ | exact PsA.ref rfl rfl | constructor)); all_goals (fail "ps"))) | (refine OpK.callH c3 hA rfl rfl rfl rfl hE ?_ rfl rfl ?_; focus ((repeat' (first | exact PsA.lit _ | exact PsA.ref rfl rfl | constructor)); all_goals (fail "ps"))) | refine ListO.go gOk hE ?_)
      all_goals first | exact Need.mk rfl | (exfalso; omega) | trace_state
    · rw [if_neg h2]
      refine RunH.of_vc gOk Tryd.func102 rfl rfl (Nat.le_of_ble_eq_true rfl) (by repeat' (first | exact trivial | exact ⟨_, rfl, Nat.le_refl _⟩ | exact Nat.le_of_ble_eq_true rfl | refine And.intro ?_ ?_)) (Nat.le_of_ble_eq_true rfl) rfl (fun F hE hA => ?_)
      repeat' (first | exact trivial | refine BS.d (fun h => ?_) (fun h => ?_) | refine BS.e (fun h => ?_) (fun h => ?_) | refine BS.ne (fun h => ?_) (fun h => ?_) | refine BS.n ?_ | refine BS.s (fun h => ?_) (fun h => ?_) | refine And.intro ?_ ?_ | (refine Need.mk ?_; first | with_reducible rfl | (show @Eq TC _ _; rfl) | omega | (simp only [adN_zero]; omega)) | exact OutS.whole rfl rfl | (refine OpK.call c1 rfl rfl rfl rfl hE ?_ rfl rfl ?_; focus ((repeat' (first | exact PsA.lit _ | exact PsA.ref rfl rfl | constructor)); all_goals (fail "ps"))) | (refine OpK.callH c2 hA rfl rfl rfl rfl hE ?_ rfl rfl ?_; focus ((repeat' (first | exact PsA.lit _ | exact PsA.ref rfl rfl | constructor)); all_goals (fail "ps"))) | (refine OpK.callH c3 hA rfl rfl rfl rfl hE ?_ rfl rfl ?_; focus ((repeat' (first | exact PsA.lit _ | exact PsA.ref rfl rfl | constructor)); all_goals (fail "ps"))) | (refine OpK.callH c4 hA rfl rfl rfl rfl hE ?_ rfl rfl ?_; focus ((repeat' (first | exact PsA.lit _ | exact PsA.ref rfl rfl | constructor)); all_goals (fail "ps"))) | refine ListO.go gOk hE ?_)
      all_goals first | exact Need.mk rfl | (exfalso; omega) | trace_state
theorem l19Spot_run (e : Nat) (b c : List Int) (g o : List (List Int)) (x : Int) (hc : c.length = 6) : RunT Tryd.prog 53 [aMm e b c g o, ti x] [] [oi (ndX c x).1, oi (ndX c x).2] [] := by
  have c0 := sHandleOk_run x
  have c1 := sHandleSlot_run x
  have c2 := l7Class_run b c (hSlot x) hc
  unfold ndX
  cases hk : hOk x with
  | false =>
    have hs : hSlot x = -1 := by unfold hSlot; rw [hk]; rfl
    have h1 : clIn c (hSlot x) = -1 := by rw [hs]; exact clIn_no (by omega)
    rw [if_pos h1]
    rw [hk] at c0
    refine RunT.of_vc gOk Tryd.func53 rfl rfl (Nat.le_of_ble_eq_true rfl) (by repeat' (first | exact trivial | exact ⟨_, rfl, Nat.le_refl _⟩ | exact Nat.le_of_ble_eq_true rfl | refine And.intro ?_ ?_)) (Nat.le_of_ble_eq_true rfl) rfl (fun F hE => ?_)
    repeat' (first | exact trivial | refine BS.d (fun h => ?_) (fun h => ?_) | refine BS.e (fun h => ?_) (fun h => ?_) | refine BS.ne (fun h => ?_) (fun h => ?_) | refine BS.n ?_ | refine BS.s (fun h => ?_) (fun h => ?_) | refine And.intro ?_ ?_ | (refine Need.mk ?_; first | with_reducible rfl | (show @Eq TC _ _; rfl) | omega | (simp only [adN_zero]; omega)) | exact OutS.whole rfl rfl | (refine OpK.call c0 rfl rfl rfl rfl hE ?_ rfl rfl ?_; focus ((repeat' (first | exact PsA.lit _ | exact PsA.ref rfl rfl | constructor)); all_goals (fail "ps"))) | (refine CodeK.draw gOk hE rfl (fun _ _ h => h) (.take 0 (.alt 1 (.take 2 (.take 3 (.take 4 (.take 6 (.alt 5 (.alt 7 (.alt 8 (.take 9 (.take 10 .done)) .stop) .stop) (.alt 7 (.alt 5 (.alt 8 (.take 9 (.take 10 .done)) .stop) .stop) .stop)))))) .stop)) ?_ ?_; focus (decide +kernel)) | refine ListO.go gOk hE ?_)
    all_goals first | exact Need.mk rfl | (exfalso; omega) | trace_state
  | true =>
    rw [hk] at c0
    by_cases h1 : clIn c (hSlot x) = -1
    · rw [if_pos h1]
      rw [h1] at c2
      refine RunT.of_vc gOk Tryd.func53 rfl rfl (Nat.le_of_ble_eq_true rfl) (by repeat' (first | exact trivial | exact ⟨_, rfl, Nat.le_refl _⟩ | exact Nat.le_of_ble_eq_true rfl | refine And.intro ?_ ?_)) (Nat.le_of_ble_eq_true rfl) rfl (fun F hE => ?_)
      repeat' (first | exact trivial | refine BS.d (fun h => ?_) (fun h => ?_) | refine BS.e (fun h => ?_) (fun h => ?_) | refine BS.ne (fun h => ?_) (fun h => ?_) | refine BS.n ?_ | refine BS.s (fun h => ?_) (fun h => ?_) | refine And.intro ?_ ?_ | (refine Need.mk ?_; first | with_reducible rfl | (show @Eq TC _ _; rfl) | omega | (simp only [adN_zero]; omega)) | exact OutS.whole rfl rfl | (refine OpK.call c0 rfl rfl rfl rfl hE ?_ rfl rfl ?_; focus ((repeat' (first | exact PsA.lit _ | exact PsA.ref rfl rfl | constructor)); all_goals (fail "ps"))) | (refine OpK.call c1 rfl rfl rfl rfl hE ?_ rfl rfl ?_; focus ((repeat' (first | exact PsA.lit _ | exact PsA.ref rfl rfl | constructor)); all_goals (fail "ps"))) | (refine OpK.call c2 rfl rfl rfl rfl hE ?_ rfl rfl ?_; focus ((repeat' (first | exact PsA.lit _ | exact PsA.ref rfl rfl | constructor)); all_goals (fail "ps"))) | (refine CodeK.draw gOk hE rfl (fun _ _ h => h) (.take 0 (.alt 1 (.take 2 (.take 3 (.take 4 (.take 6 (.alt 5 (.alt 7 (.alt 8 (.take 9 (.take 10 .done)) .stop) .stop) (.alt 7 (.alt 5 (.alt 8 (.take 9 (.take 10 .done)) .stop) .stop) .stop)))))) .stop)) ?_ ?_; focus (decide +kernel)) | (refine CodeK.draw gOk hE rfl (fun _ _ h => h) (.take 0 (.take 2 (.alt 1 (.alt 3 (.alt 4 (.take 5 .done) .stop) .stop) (.alt 3 (.alt 1 (.alt 4 (.take 5 .done) .stop) .stop) .stop)))) ?_ ?_; focus (decide +kernel)) | refine ListO.go gOk hE ?_)
      all_goals first | exact Need.mk rfl | (exfalso; omega) | trace_state
    · rw [if_neg h1]
      have c3 := SizeOfS_run (clIn c (hSlot x))
      have c4 := StartOfS_run (hSlot x) (clIn c (hSlot x))
      have hs := clIn_some h1
      rw [if_neg (by omega)] at c4
      generalize genA (hSlot x) (clIn c (hSlot x)) = gg at *
      generalize szC (clIn c (hSlot x)) = z at *
      generalize clIn c (hSlot x) = cl at *
      by_cases h2 : z < 10
      · rw [if_pos h2]
        refine RunT.of_vc gOk Tryd.func53 rfl rfl (Nat.le_of_ble_eq_true rfl) (by repeat' (first | exact trivial | exact ⟨_, rfl, Nat.le_refl _⟩ | exact Nat.le_of_ble_eq_true rfl | refine And.intro ?_ ?_)) (Nat.le_of_ble_eq_true rfl) rfl (fun F hE => ?_)
        repeat' (first | exact trivial | refine BS.d (fun h => ?_) (fun h => ?_) | refine BS.e (fun h => ?_) (fun h => ?_) | refine BS.ne (fun h => ?_) (fun h => ?_) | refine BS.n ?_ | refine BS.s (fun h => ?_) (fun h => ?_) | refine And.intro ?_ ?_ | (refine Need.mk ?_; first | with_reducible rfl | (show @Eq TC _ _; rfl) | omega | (simp only [adN_zero]; omega)) | exact OutS.whole rfl rfl | (refine OpK.call c0 rfl rfl rfl rfl hE ?_ rfl rfl ?_; focus ((repeat' (first | exact PsA.lit _ | exact PsA.ref rfl rfl | constructor)); all_goals (fail "ps"))) | (refine OpK.call c1 rfl rfl rfl rfl hE ?_ rfl rfl ?_; focus ((repeat' (first | exact PsA.lit _ | exact PsA.ref rfl rfl | constructor)); all_goals (fail "ps"))) | (refine OpK.call c2 rfl rfl rfl rfl hE ?_ rfl rfl ?_; focus ((repeat' (first | exact PsA.lit _ | exact PsA.ref rfl rfl | constructor)); all_goals (fail "ps"))) | (refine OpK.call c3 rfl rfl rfl rfl hE ?_ rfl rfl ?_; focus ((repeat' (first | exact PsA.lit _ | exact PsA.ref rfl rfl | constructor)); all_goals (fail "ps"))) | (refine CodeK.draw gOk hE rfl (fun _ _ h => h) (.take 0 (.alt 1 (.take 2 (.take 3 (.take 4 (.take 6 (.alt 5 (.alt 7 (.alt 8 (.take 9 (.take 10 .done)) .stop) .stop) (.alt 7 (.alt 5 (.alt 8 (.take 9 (.take 10 .done)) .stop) .stop) .stop)))))) .stop)) ?_ ?_; focus (decide +kernel)) | (refine CodeK.draw gOk hE rfl (fun _ _ h => h) (.take 0 (.take 2 (.alt 1 (.alt 3 (.alt 4 (.take 5 .done) .stop) .stop) (.alt 3 (.alt 1 (.alt 4 (.take 5 .done) .stop) .stop) .stop)))) ?_ ?_; focus (decide +kernel)) | refine ListO.go gOk hE ?_)
        all_goals first | exact Need.mk rfl | (exfalso; omega) | trace_state
      · rw [if_neg h2]
        refine RunT.of_vc gOk Tryd.func53 rfl rfl (Nat.le_of_ble_eq_true rfl) (by repeat' (first | exact trivial | exact ⟨_, rfl, Nat.le_refl _⟩ | exact Nat.le_of_ble_eq_true rfl | refine And.intro ?_ ?_)) (Nat.le_of_ble_eq_true rfl) rfl (fun F hE => ?_)
        repeat' (first | exact trivial | refine BS.d (fun h => ?_) (fun h => ?_) | refine BS.e (fun h => ?_) (fun h => ?_) | refine BS.ne (fun h => ?_) (fun h => ?_) | refine BS.n ?_ | refine BS.s (fun h => ?_) (fun h => ?_) | refine And.intro ?_ ?_ | (refine Need.mk ?_; first | with_reducible rfl | (show @Eq TC _ _; rfl) | omega | (simp only [adN_zero]; omega)) | exact OutS.whole rfl rfl | (refine OpK.call c0 rfl rfl rfl rfl hE ?_ rfl rfl ?_; focus ((repeat' (first | exact PsA.lit _ | exact PsA.ref rfl rfl | constructor)); all_goals (fail "ps"))) | (refine OpK.call c1 rfl rfl rfl rfl hE ?_ rfl rfl ?_; focus ((repeat' (first | exact PsA.lit _ | exact PsA.ref rfl rfl | constructor)); all_goals (fail "ps"))) | (refine OpK.call c2 rfl rfl rfl rfl hE ?_ rfl rfl ?_; focus ((repeat' (first | exact PsA.lit _ | exact PsA.ref rfl rfl | constructor)); all_goals (fail "ps"))) | (refine OpK.call c3 rfl rfl rfl rfl hE ?_ rfl rfl ?_; focus ((repeat' (first | exact PsA.lit _ | exact PsA.ref rfl rfl | constructor)); all_goals (fail "ps"))) | (refine OpK.call c4 rfl rfl rfl rfl hE ?_ rfl rfl ?_; focus ((repeat' (first | exact PsA.lit _ | exact PsA.ref rfl rfl | constructor)); all_goals (fail "ps"))) | (refine CodeK.draw gOk hE rfl (fun _ _ h => h) (.take 0 (.alt 1 (.take 2 (.take 3 (.take 4 (.take 6 (.alt 5 (.alt 7 (.alt 8 (.take 9 (.take 10 .done)) .stop) .stop) (.alt 7 (.alt 5 (.alt 8 (.take 9 (.take 10 .done)) .stop) .stop) .stop)))))) .stop)) ?_ ?_; focus (decide +kernel)) | (refine CodeK.draw gOk hE rfl (fun _ _ h => h) (.take 0 (.take 2 (.alt 1 (.alt 3 (.alt 4 (.take 5 .done) .stop) .stop) (.alt 3 (.alt 1 (.alt 4 (.take 5 .done) .stop) .stop) .stop)))) ?_ ?_; focus (decide +kernel)) | refine ListO.go gOk hE ?_)
        all_goals first | exact Need.mk rfl | (exfalso; omega) | trace_state
end Go.Proofs.YtpmhkpmkmbkjbaaDoor
