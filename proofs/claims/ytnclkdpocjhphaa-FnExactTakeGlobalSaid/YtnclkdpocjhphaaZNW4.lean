import Derived.Test.YtnclkdpocjhphaaZLA
/- Two equal answers of TakeGlobal, in fresh memory: the law. -/
namespace Go.Proofs.Ytnclkdpocjhphaa
open Go Go.Tr
set_option maxRecDepth 100000
set_option maxHeartbeats 40000000
set_option linter.unusedVariables false
set_option linter.unusedSimpArgs false
theorem TakeGlobal_law (g o : List (List Int)) (c : Int) (hg : g.length ≤ 9223372036854775807) (ho : o.length ≤ 9223372036854775807) (ig : ∀ i, (g.getD i []).length ≤ 9223372036854775807) (io : ∀ i, (o.getD i []).length ≤ 9223372036854775807) : RunT Try.prog 4 [.agg [.c (tSL 0 g), .c (tSL 0 o)], ti c] [] [ob true] [] := by
  have c0 := szLists_run 0 g o 1048576 (by decide) (by decide) hg ig ho io
  by_cases hz : (if szSLs g 1048576 < 0 then (-1 : Int) else szSLs o (szSLs g 1048576)) < 0
  · generalize (if szSLs g 1048576 < 0 then (-1 : Int) else szSLs o (szSLs g 1048576)) = b at *
    refine RunT.of_vc gOk Try.func4 rfl rfl (Nat.le_of_ble_eq_true rfl) (by repeat' (first | exact trivial | exact ⟨_, rfl, Nat.le_refl _⟩ | exact Nat.le_of_ble_eq_true rfl | refine And.intro ?_ ?_)) (Nat.le_of_ble_eq_true rfl) rfl (fun F hE => ?_)
    repeat' (first | exact trivial | refine BS.d (fun h => ?_) (fun h => ?_) | refine BS.e (fun h => ?_) (fun h => ?_) | refine BS.ne (fun h => ?_) (fun h => ?_) | refine BS.n ?_ | refine BS.s (fun h => ?_) (fun h => ?_) | refine And.intro ?_ ?_ | (refine Need.mk ?_; first | with_reducible rfl | (show @Eq TC _ _; rfl) | omega | (simp only [adN_zero]; omega)) | exact OutS.whole rfl rfl | (refine OpK.call c0 rfl rfl rfl rfl hE ?_ rfl rfl ?_; focus ((repeat' (first | exact PsA.lit _ | exact PsA.ref rfl rfl | constructor)); all_goals (fail "ps"))) | refine ListO.go gOk hE ?_)
    all_goals first | exact absurd (by assumption) (by assumption) | (exfalso; omega) | trace_state
  · obtain ⟨hb, kg, ko, kgo⟩ := szL_ok (by decide) (by decide) hz
    generalize (if szSLs g 1048576 < 0 then (-1 : Int) else szSLs o (szSLs g 1048576)) = b at *
    have c1 := toLists_run 0 g o (by omega) kg (by omega) ko
    have c3 := TakeGlobalS_run 115 g o c (by omega) (by omega) kg ko (by omega)
    have c4 := TakeGlobalI_run 115 g o c (by omega) (by omega) kg ko (by omega) kgo
    have c5 := eqLists_run 115 g o (by omega) (fun i => by have := kg i; omega) (by omega) (fun i => by have := ko i; omega)
    have hk : LkOk g o := LkOk.of (by omega) (by omega) (by omega)
    have hk2 : LkOk (tgG g o c) (o) := by
      unfold tgG tkL
      split
      · refine LkOk.of (by rw [List.length_set]; omega) (by omega) ?_
        have := lset_flat g c.toNat 0 ((g.getD c.toNat []).take ((g.getD c.toNat []).length - 1)) (by rw [List.length_take]; omega)
        omega
      · exact hk
    generalize tgG g o c = ng at *
    generalize tgS g o c = cc at *
    have c6 := eqLists_run 115 ng o (Nat.le_trans hk2.hg (by decide)) (fun i => Nat.le_trans (hk2.hg' i) (by decide)) (Nat.le_trans hk2.ho (by decide)) (fun i => Nat.le_trans (hk2.ho' i) (by decide))
    have m0 := markLk_run 115 115 g o hk
    have m1 := markLk_run 115 115 ng o hk2
    have d1 := heldLk_run 115 115 ng o hk2
    have z0 := lZ_bd (g := g) (o := o)
    have z1 := lZ_bd (g := ng) (o := o)
    generalize lZ g o = zz0 at *
    generalize lZ ng o = zz1 at *
    refine RunT.of_vc gOk Try.func4 rfl rfl (Nat.le_of_ble_eq_true rfl) (by repeat' (first | exact trivial | exact ⟨_, rfl, Nat.le_refl _⟩ | exact Nat.le_of_ble_eq_true rfl | refine And.intro ?_ ?_)) (Nat.le_of_ble_eq_true rfl) rfl (fun F hE => ?_)
    repeat' (first | exact trivial | refine BS.d (fun h => ?_) (fun h => ?_) | refine BS.e (fun h => ?_) (fun h => ?_) | refine BS.ne (fun h => ?_) (fun h => ?_) | refine BS.n ?_ | refine BS.s (fun h => ?_) (fun h => ?_) | refine And.intro ?_ ?_ | (refine Need.mk ?_; first | with_reducible rfl | (show @Eq TC _ _; rfl) | omega | (simp only [adN_zero]; omega)) | exact OutS.whole rfl rfl | (refine OpK.call c0 rfl rfl rfl rfl hE ?_ rfl rfl ?_; focus ((repeat' (first | exact PsA.lit _ | exact PsA.ref rfl rfl | constructor)); all_goals (fail "ps"))) | (refine OpK.call c1 rfl rfl rfl rfl hE ?_ rfl rfl ?_; focus ((repeat' (first | exact PsA.lit _ | exact PsA.ref rfl rfl | constructor)); all_goals (fail "ps"))) | (refine OpK.call c3 rfl rfl rfl rfl hE ?_ rfl rfl ?_; focus ((repeat' (first | exact PsA.lit _ | exact PsA.ref rfl rfl | constructor)); all_goals (fail "ps"))) | (refine OpK.call c4 rfl rfl rfl rfl hE ?_ rfl rfl ?_; focus ((repeat' (first | exact PsA.lit _ | exact PsA.ref rfl rfl | constructor)); all_goals (fail "ps"))) | (refine OpK.call c5 rfl rfl rfl rfl hE ?_ rfl rfl ?_; focus ((repeat' (first | exact PsA.lit _ | exact PsA.ref rfl rfl | constructor)); all_goals (fail "ps"))) | (refine OpK.call c6 rfl rfl rfl rfl hE ?_ rfl rfl ?_; focus ((repeat' (first | exact PsA.lit _ | exact PsA.ref rfl rfl | constructor)); all_goals (fail "ps"))) | (refine OpK.call d1 rfl rfl rfl rfl hE ?_ rfl rfl ?_; focus ((repeat' (first | exact PsA.lit _ | exact PsA.ref rfl rfl | exact PsA.ref rfl (mkL_len _ _ _ _).symm | constructor)); all_goals (fail "ps"))) | (refine CodeK.draw gOk hE rfl (fun _ _ h => h) (.alt 0 (.alt 1 (.alt 2 (.alt 3 (.take 4 .done) .stop) .stop) .stop) (.alt 1 (.alt 0 (.alt 2 (.alt 3 (.take 4 .done) .stop) .stop) (.alt 2 (.alt 0 (.alt 3 (.take 4 .done) .stop) .stop) .stop)) .stop)) ?_ ?_; focus (decide +kernel)) | (refine OpK.callBs [bSL 115 2003712 g (lG g), bSL 115 2003713 o (lO g o)] m0 rfl rfl rfl rfl hE (List.forall_mem_cons.2 ⟨BtOk.sl rfl (mkL_len _ _ _ _), List.forall_mem_cons.2 ⟨BtOk.sl rfl (mkL_len _ _ _ _), fun _ h => nomatch h⟩⟩) (List.forall_mem_cons.2 ⟨rfl, List.forall_mem_cons.2 ⟨rfl, fun _ h => nomatch h⟩⟩) (show List.Nodup [2003712, 2003713] by decide) (QsVs.cons (.agg (.cons (.h rfl rfl rfl) (.cons (.h rfl rfl rfl) .nil))) (.cons (.one (.c (.lit _) rfl)) .nil)) rfl rfl ?_) | (refine OpK.callBs [bSL 115 2004224 ng (lG ng), bSL 115 2004225 o (lO ng o)] m1 rfl rfl rfl rfl hE (List.forall_mem_cons.2 ⟨BtOk.sl rfl (mkL_len _ _ _ _), List.forall_mem_cons.2 ⟨BtOk.sl rfl (mkL_len _ _ _ _), fun _ h => nomatch h⟩⟩) (List.forall_mem_cons.2 ⟨rfl, List.forall_mem_cons.2 ⟨rfl, fun _ h => nomatch h⟩⟩) (show List.Nodup [2004224, 2004225] by decide) (QsVs.cons (.agg (.cons (.h rfl rfl rfl) (.cons (.h rfl rfl rfl) .nil))) (.cons (.one (.c (.lit _) rfl)) .nil)) rfl rfl ?_) | refine ListO.go gOk hE ?_)
    all_goals first | exact Need.mk rfl | (exfalso; omega) | exact absurd rfl h | (fail "") | (simp_all; done) | trace_state
end Go.Proofs.Ytnclkdpocjhphaa
