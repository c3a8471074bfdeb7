import Derived.Test.YtnclkdpocjhphaaZNA
/- The law HeapNew. -/
namespace Go.Proofs.Ytnclkdpocjhphaa
open Go Go.Tr
set_option maxRecDepth 100000
set_option maxHeartbeats 40000000
set_option linter.unusedVariables false
set_option linter.unusedSimpArgs false
theorem HeapNew_aux (b c : List Int) (hb : b.length ≤ 1000) (hc : c.length ≤ 1000) (c1 : RunT Try.prog 24 [] [] [.agg [tI b, tI c]] []) (c2 : RunT Try.prog 25 [] [] [.agg [tI b, tI c]] []) : RunT Try.prog 6 [] [] [ob true] [] := by
  have c3 := eqHeap_run b c (by omega) (by omega)
  have m0 := markH_run 3 b c 1 (by omega) (by omega) (by omega) (by omega)
  have d0 := heldH_run b c 1 (by omega) (by omega) (by omega) (by omega)
  have hzz : 0 ≤ 1 + (b.length : Int) + c.length := by omega
  generalize 1 + (b.length : Int) + c.length = zz at *
  refine RunT.of_vc gOk Try.func6 rfl rfl (Nat.le_of_ble_eq_true rfl) (by repeat' (first | exact trivial | exact ⟨_, rfl, Nat.le_refl _⟩ | exact Nat.le_of_ble_eq_true rfl | refine And.intro ?_ ?_)) (Nat.le_of_ble_eq_true rfl) rfl (fun F hE => ?_)
  repeat' (first | exact trivial | refine BS.d (fun h => ?_) (fun h => ?_) | refine BS.e (fun h => ?_) (fun h => ?_) | refine BS.ne (fun h => ?_) (fun h => ?_) | refine BS.n ?_ | refine BS.s (fun h => ?_) (fun h => ?_) | refine And.intro ?_ ?_ | (refine Need.mk ?_; first | with_reducible rfl | (show @Eq TC _ _; rfl) | omega | (simp only [adN_zero]; omega)) | exact OutS.whole rfl rfl | (refine OpK.call c1 rfl rfl rfl rfl hE ?_ rfl rfl ?_; focus ((repeat' (first | exact PsA.lit _ | exact PsA.ref rfl rfl | constructor)); all_goals (fail "ps"))) | (refine OpK.call c2 rfl rfl rfl rfl hE ?_ rfl rfl ?_; focus ((repeat' (first | exact PsA.lit _ | exact PsA.ref rfl rfl | constructor)); all_goals (fail "ps"))) | (refine OpK.call c3 rfl rfl rfl rfl hE ?_ rfl rfl ?_; focus ((repeat' (first | exact PsA.lit _ | exact PsA.ref rfl rfl | constructor)); all_goals (fail "ps"))) | (refine OpK.call d0 rfl rfl rfl rfl hE ?_ rfl rfl ?_; focus ((repeat' (first | exact PsA.lit _ | exact PsA.ref rfl rfl | exact PsA.ref rfl (mkL_len _ _ _ _).symm | constructor)); all_goals (fail "ps"))) | (refine OpK.callBs [bInt 3 2000896 b (mkL 0 (fI 1) b b.length), bInt 3 2000897 c (mkL 0 (fI (1 + b.length)) c c.length)] m0 rfl rfl rfl rfl hE (List.forall_mem_cons.2 ⟨BtOk.sl rfl (mkL_len _ _ _ _), List.forall_mem_cons.2 ⟨BtOk.sl rfl (mkL_len _ _ _ _), fun _ h => nomatch h⟩⟩) (List.forall_mem_cons.2 ⟨rfl, List.forall_mem_cons.2 ⟨rfl, fun _ h => nomatch h⟩⟩) (show List.Nodup [2000896, 2000897] by decide) (QsVs.cons (.agg (.cons (.h rfl rfl rfl) (.cons (.h rfl rfl rfl) .nil))) (.cons (.one (.c (.lit _) rfl)) .nil)) rfl rfl ?_) | refine ListO.go gOk hE ?_)
  all_goals first | exact Need.mk rfl | exact absurd rfl h | (exfalso; omega) | (refine Need.mk ?_; omega) | (simp_all; done) | trace_state
theorem HeapNew_law : RunT Try.prog 6 [] [] [ob true] [] := HeapNew_aux hnB hnC (by decide) (by decide) HeapNewS_run HeapNewI_run
end Go.Proofs.Ytnclkdpocjhphaa
