import Derived.Test.YtkafibaoikmccaaWSub
namespace Go.Proofs.Ytkafibaoikmccaa
open Go Go.Tr
set_option maxRecDepth 100000
set_option maxHeartbeats 4000000
set_option linter.unusedVariables false
set_option linter.unusedSimpArgs false
theorem SubNewS_run (k a : Int) : RunT Try.prog 20 [ti k, ti a] [] [oSub (k, a, 0, 0, 0, 0, 0, 0, 0, false)] [] := by
  refine RunT.of_vc gOk Try.func20 rfl rfl (Nat.le_of_ble_eq_true rfl) (by repeat' (first | exact trivial | exact ⟨_, rfl, Nat.le_refl _⟩ | exact Nat.le_of_ble_eq_true rfl | refine And.intro ?_ ?_)) (Nat.le_of_ble_eq_true rfl) rfl (fun F hE => ?_)
  repeat' (first | exact trivial | refine BS.d (fun h => ?_) (fun h => ?_) | refine BS.e (fun h => ?_) (fun h => ?_) | refine BS.ne (fun h => ?_) (fun h => ?_) | refine BS.n ?_ | refine BS.s (fun h => ?_) (fun h => ?_) | refine And.intro ?_ ?_ | (refine Need.mk ?_; first | with_reducible rfl | (show @Eq TC _ _; rfl) | omega | (simp only [adN_zero]; omega)) | exact OutS.whole rfl rfl)
theorem SubNewI_run (k a : Int) : RunT Try.prog 21 [ti k, ti a] [] [oSub (k, a, 0, 0, 0, 0, 0, 0, 0, false)] [] := by
  refine RunT.of_vc gOk Try.func21 rfl rfl (Nat.le_of_ble_eq_true rfl) (by repeat' (first | exact trivial | exact ⟨_, rfl, Nat.le_refl _⟩ | exact Nat.le_of_ble_eq_true rfl | refine And.intro ?_ ?_)) (Nat.le_of_ble_eq_true rfl) rfl (fun F hE => ?_)
  repeat' (first | exact trivial | refine BS.d (fun h => ?_) (fun h => ?_) | refine BS.e (fun h => ?_) (fun h => ?_) | refine BS.ne (fun h => ?_) (fun h => ?_) | refine BS.n ?_ | refine BS.s (fun h => ?_) (fun h => ?_) | refine And.intro ?_ ?_ | (refine Need.mk ?_; first | with_reducible rfl | (show @Eq TC _ _; rfl) | omega | (simp only [adN_zero]; omega)) | exact OutS.whole rfl rfl)
theorem SubNew_law (k a : Int) : RunT Try.prog 4 [ti k, ti a] [] [ob true] [] := by
  refine RunT.of_vc gOk Try.func4 rfl rfl (Nat.le_of_ble_eq_true rfl) (by repeat' (first | exact trivial | exact ⟨_, rfl, Nat.le_refl _⟩ | exact Nat.le_of_ble_eq_true rfl | refine And.intro ?_ ?_)) (Nat.le_of_ble_eq_true rfl) rfl (fun F hE => ?_)
  repeat' (first | exact trivial | refine BS.d (fun h => ?_) (fun h => ?_) | refine BS.e (fun h => ?_) (fun h => ?_) | refine BS.ne (fun h => ?_) (fun h => ?_) | refine BS.n ?_ | refine BS.s (fun h => ?_) (fun h => ?_) | refine And.intro ?_ ?_ | (refine Need.mk ?_; first | with_reducible rfl | (show @Eq TC _ _; rfl) | omega | (simp only [adN_zero]; omega)) | exact OutS.whole rfl rfl | (refine OpK.call (SubNewS_run k a) rfl rfl rfl rfl hE ?_ rfl rfl ?_; focus ((repeat' (first | exact PsA.lit _ | exact PsA.ref rfl rfl | constructor)); all_goals (fail "ps"))) | (refine OpK.call (SubNewI_run k a) rfl rfl rfl rfl hE ?_ rfl rfl ?_; focus ((repeat' (first | exact PsA.lit _ | exact PsA.ref rfl rfl | constructor)); all_goals (fail "ps"))) | (refine OpK.call (eqSub_run (k, a, 0, 0, 0, 0, 0, 0, 0, false)) rfl rfl rfl rfl hE ?_ rfl rfl ?_; focus ((repeat' (first | exact PsA.lit _ | exact PsA.ref rfl rfl | constructor)); all_goals (fail "ps"))))
  all_goals (first | exact absurd rfl ‹_› | simp_all)
end Go.Proofs.Ytkafibaoikmccaa
