import Derived.Test.YtofdaaajbkjocaaMD
namespace Go.Proofs.Ytofdaaajbkjocaa
open Go Go.Tr
set_option maxRecDepth 100000
set_option maxHeartbeats 4000000
set_option linter.unusedVariables false
set_option linter.unusedSimpArgs false
theorem SameMem_law (b c : List Int) (g o : List (List Int)) (b' c' : List Int) (g' o' : List (List Int)) (h1 : MmOk 9223372036854775807 b c g o) (h2 : MmOk 9223372036854775807 b' c' g' o') : RunT Try.prog 3 [aMm 0 b c g o, aMm 0 b' c' g' o'] [] [ob true] [] := by
  refine RunT.of_vc gOk Try.func3 rfl rfl (Nat.le_of_ble_eq_true rfl) (by repeat' (first | exact trivial | exact ⟨_, rfl, Nat.le_refl _⟩ | exact Nat.le_of_ble_eq_true rfl | refine And.intro ?_ ?_)) (Nat.le_of_ble_eq_true rfl) rfl (fun F hE => ?_)
  repeat' (first | exact trivial | refine BS.d (fun h => ?_) (fun h => ?_) | refine BS.e (fun h => ?_) (fun h => ?_) | refine BS.ne (fun h => ?_) (fun h => ?_) | refine BS.n ?_ | refine BS.s (fun h => ?_) (fun h => ?_) | refine And.intro ?_ ?_ | (refine Need.mk ?_; first | with_reducible rfl | (show @Eq TC _ _; rfl) | omega | (simp only [adN_zero]; omega)) | exact OutS.whole rfl rfl)
  refine OpK.call (szMem_run 0 0 b c g o 1048576 (by decide) (by decide) h1.hb h1.hc h1.hg h1.hg' h1.ho h1.ho') rfl rfl rfl rfl hE (by repeat' (first | exact PsA.lit _ | exact PsA.ref rfl rfl | constructor)) rfl rfl ?_
  repeat' (first | exact trivial | refine BS.d (fun h => ?_) (fun h => ?_) | refine BS.e (fun h => ?_) (fun h => ?_) | refine BS.ne (fun h => ?_) (fun h => ?_) | refine BS.n ?_ | refine BS.s (fun h => ?_) (fun h => ?_) | refine And.intro ?_ ?_ | (refine Need.mk ?_; first | with_reducible rfl | (show @Eq TC _ _; rfl) | omega | (simp only [adN_zero]; omega)) | exact OutS.whole rfl rfl)
  have q1 := szM_le b c g o 1048576 (by decide)
  have k1 := MmOk.of_sz (m := 1048576) (by decide) (by decide) (by assumption : ¬ szM b c g o 1048576 < 0)
  have hz : 0 ≤ szM b c g o 1048576 := by omega
  have hz' : szM b c g o 1048576 ≤ 1048576 := by omega
  refine OpK.call (szMem_run 0 0 b' c' g' o' (szM b c g o 1048576) hz hz' h2.hb h2.hc h2.hg h2.hg' h2.ho h2.ho') rfl rfl rfl rfl hE (by repeat' (first | exact PsA.lit _ | exact PsA.ref rfl rfl | constructor)) rfl rfl ?_
  repeat' (first | exact trivial | refine BS.d (fun h => ?_) (fun h => ?_) | refine BS.e (fun h => ?_) (fun h => ?_) | refine BS.ne (fun h => ?_) (fun h => ?_) | refine BS.n ?_ | refine BS.s (fun h => ?_) (fun h => ?_) | refine And.intro ?_ ?_ | (refine Need.mk ?_; first | with_reducible rfl | (show @Eq TC _ _; rfl) | omega | (simp only [adN_zero]; omega)) | exact OutS.whole rfl rfl)
  have k2 := MmOk.of_sz (m := szM b c g o 1048576) hz hz' (by assumption : ¬ szM b' c' g' o' (szM b c g o 1048576) < 0)
  have k3 := k1.le (m' := 4000000) (by decide)
  have k4 := k2.le (m' := 4000000) (by decide)
  clear q1 hz hz'
  have c1 := toMem_run 0 b c g o k1.hb k1.hc k1.hg k1.hg' k1.ho k1.ho'
  have c2 := toMem_run 0 b' c' g' o' k2.hb k2.hc k2.hg k2.hg' k2.ho k2.ho'
  have c3 := SameMemS_run 84 84 b c g o b' c' g' o' k1 k2
  have c4 := SameMemI_run 84 84 b c g o b' c' g' o' k1 k2
  have c5 := eqMem_run 84 b c g o k3.hb k3.hc k3.hg k3.hg' k3.ho k3.ho'
  have c6 := eqMem_run 84 b' c' g' o' k4.hb k4.hc k4.hg k4.hg' k4.ho k4.ho'
  repeat' (first | exact trivial | refine BS.d (fun h => ?_) (fun h => ?_) | refine BS.e (fun h => ?_) (fun h => ?_) | refine BS.ne (fun h => ?_) (fun h => ?_) | refine BS.n ?_ | refine BS.s (fun h => ?_) (fun h => ?_) | refine And.intro ?_ ?_ | (refine Need.mk ?_; first | with_reducible rfl | (show @Eq TC _ _; rfl) | omega | (simp only [adN_zero]; omega)) | exact OutS.whole rfl rfl | (refine OpK.call c1 rfl rfl rfl rfl hE ?_ rfl rfl ?_; focus ((repeat' (first | exact PsA.lit _ | exact PsA.ref rfl rfl | constructor)); all_goals (fail "ps"))) | (refine OpK.call c2 rfl rfl rfl rfl hE ?_ rfl rfl ?_; focus ((repeat' (first | exact PsA.lit _ | exact PsA.ref rfl rfl | constructor)); all_goals (fail "ps"))) | (refine OpK.call c3 rfl rfl rfl rfl hE ?_ rfl rfl ?_; focus ((repeat' (first | exact PsA.lit _ | exact PsA.ref rfl rfl | constructor)); all_goals (fail "ps"))) | (refine OpK.call c4 rfl rfl rfl rfl hE ?_ rfl rfl ?_; focus ((repeat' (first | exact PsA.lit _ | exact PsA.ref rfl rfl | constructor)); all_goals (fail "ps"))) | (refine OpK.call c5 rfl rfl rfl rfl hE ?_ rfl rfl ?_; focus ((repeat' (first | exact PsA.lit _ | exact PsA.ref rfl rfl | constructor)); all_goals (fail "ps"))) | (refine OpK.call c6 rfl rfl rfl rfl hE ?_ rfl rfl ?_; focus ((repeat' (first | exact PsA.lit _ | exact PsA.ref rfl rfl | constructor)); all_goals (fail "ps"))) | (refine CodeK.draw gOk hE rfl (fun _ _ h => h) (.alt 0 (.alt 1 (.alt 2 (.alt 3 (.alt 4 (.take 5 .done) .stop) .stop) .stop) (.alt 2 (.alt 1 (.alt 3 (.alt 4 (.take 5 .done) .stop) .stop) .stop) .stop)) (.alt 2 (.alt 0 (.alt 1 (.alt 3 (.alt 4 (.take 5 .done) .stop) .stop) .stop) .stop) .stop)) ?_ ?_; focus (decide +kernel)) | (refine CodeK.draw gOk hE rfl (fun _ _ h => h) (.alt 0 (.alt 1 (.alt 2 (.alt 3 (.take 4 .done) .stop) .stop) .stop) (.alt 1 (.alt 0 (.alt 2 (.alt 3 (.take 4 .done) .stop) .stop) (.alt 2 (.alt 0 (.alt 3 (.take 4 .done) .stop) .stop) .stop)) .stop)) ?_ ?_; focus (decide +kernel)) | (refine CodeK.draw gOk hE rfl (fun _ _ h => h) (.alt 0 (.alt 1 (.alt 2 (.alt 3 (.take 4 .done) .stop) .stop) .stop) (.alt 1 (.alt 0 (.alt 2 (.alt 3 (.take 4 .done) .stop) .stop) (.alt 2 (.alt 0 (.alt 3 (.take 4 .done) .stop) .stop) .stop)) .stop)) ?_ ?_; focus (decide +kernel)))
  all_goals first | exact absurd rfl h | trace_state
end Go.Proofs.Ytofdaaajbkjocaa
