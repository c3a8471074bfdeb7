import Derived.Test.YtbfkdbbgbdihdabDoorHJ
import Derived.Test.YtbfkdbbgbdihdabDoorMDh
namespace Go.Proofs.YtbfkdbbgbdihdabDoor
open Go Go.Tr
set_option maxRecDepth 100000
set_option maxHeartbeats 4000000
set_option linter.unusedVariables false
set_option linter.unusedSimpArgs false
theorem HeapOk_law (b c : List Int) (hb : b.length ≤ 9223372036854775807) (hc : c.length ≤ 9223372036854775807) : RunH Tryd.prog hT 3 [aHp b c] [] [ob true] [] := by
  have c0 := szHeap_run b c 1048576 (by omega) (by omega) hb hc
  have hq := szH_le b c 1048576 (by omega)
  by_cases hz : szH b c 1048576 < 0
  · generalize szH b c 1048576 = z at *
    refine RunH.of_vc gOk Tryd.func3 rfl rfl (Nat.le_of_ble_eq_true rfl) (by repeat' (first | exact trivial | exact ⟨_, rfl, Nat.le_refl _⟩ | exact Nat.le_of_ble_eq_true rfl | refine And.intro ?_ ?_)) (Nat.le_of_ble_eq_true rfl) rfl (fun F hE hA => ?_)
    repeat' (first | exact trivial | refine BS.d (fun h => ?_) (fun h => ?_) | refine BS.e (fun h => ?_) (fun h => ?_) | refine BS.ne (fun h => ?_) (fun h => ?_) | refine BS.n ?_ | refine BS.s (fun h => ?_) (fun h => ?_) | refine And.intro ?_ ?_ | (refine Need.mk ?_; first | with_reducible rfl | (show @Eq TC _ _; rfl) | omega | (simp only [adN_zero]; omega)) | exact OutS.whole rfl rfl | (refine OpK.call c0 rfl rfl rfl rfl hE ?_ rfl rfl ?_; focus ((repeat' (first | exact PsA.lit _ | exact PsA.ref rfl rfl | constructor)); all_goals (fail "ps"))) | refine ListO.go gOk hE ?_)
    all_goals first | exact Need.mk rfl | (exfalso; omega) | trace_state
  · obtain ⟨h1, h2⟩ := hq.2.2 (by omega)
    have c1 := toHeap_run b c (by omega) (by omega)
    have c2 := HeapOkS_run b c (by omega) (by omega)
    have c3 := HeapOkI_run b c (by omega) (by omega)
    have c4 := eqHeap_run b c (by omega) (by omega)
    generalize szH b c 1048576 = z at *
    refine RunH.of_vc gOk Tryd.func3 rfl rfl (Nat.le_of_ble_eq_true rfl) (by repeat' (first | exact trivial | exact ⟨_, rfl, Nat.le_refl _⟩ | exact Nat.le_of_ble_eq_true rfl | refine And.intro ?_ ?_)) (Nat.le_of_ble_eq_true rfl) rfl (fun F hE hA => ?_)
    repeat' (first | exact trivial | refine BS.d (fun h => ?_) (fun h => ?_) | refine BS.e (fun h => ?_) (fun h => ?_) | refine BS.ne (fun h => ?_) (fun h => ?_) | refine BS.n ?_ | refine BS.s (fun h => ?_) (fun h => ?_) | refine And.intro ?_ ?_ | (refine Need.mk ?_; first | with_reducible rfl | (show @Eq TC _ _; rfl) | omega | (simp only [adN_zero]; omega)) | exact OutS.whole rfl rfl | (refine OpK.call c0 rfl rfl rfl rfl hE ?_ rfl rfl ?_; focus ((repeat' (first | exact PsA.lit _ | exact PsA.ref rfl rfl | constructor)); all_goals (fail "ps"))) | (refine OpK.call c1 rfl rfl rfl rfl hE ?_ rfl rfl ?_; focus ((repeat' (first | exact PsA.lit _ | exact PsA.ref rfl rfl | constructor)); all_goals (fail "ps"))) | (refine OpK.call c2 rfl rfl rfl rfl hE ?_ rfl rfl ?_; focus ((repeat' (first | exact PsA.lit _ | exact PsA.ref rfl rfl | constructor)); all_goals (fail "ps"))) | (refine OpK.callH c3 hA rfl rfl rfl rfl hE ?_ rfl rfl ?_; focus ((repeat' (first | exact PsA.lit _ | exact PsA.ref rfl rfl | constructor)); all_goals (fail "ps"))) | (refine OpK.call c4 rfl rfl rfl rfl hE ?_ rfl rfl ?_; focus ((repeat' (first | exact PsA.lit _ | exact PsA.ref rfl rfl | constructor)); all_goals (fail "ps"))) | (refine CodeK.draw gOk hE rfl (fun _ _ h => h) (.alt 0 (.alt 1 (.alt 2 (.alt 3 (.take 4 .done) .stop) .stop) .stop) (.alt 1 (.alt 0 (.alt 2 (.alt 3 (.take 4 .done) .stop) .stop) (.alt 2 (.alt 0 (.alt 3 (.take 4 .done) .stop) .stop) .stop)) .stop)) ?_ ?_; focus (decide +kernel)) | refine ListO.go gOk hE ?_)
    all_goals first | exact Need.mk rfl | (exfalso; omega) | exact absurd rfl h | (simp_all; done) | trace_state
end Go.Proofs.YtbfkdbbgbdihdabDoor
