import Derived.Test.YtnclkdpocjhphaaZLA
/- Two equal answers of TakeOwn, in fresh memory: the law. -/
namespace Go.Proofs.Ytnclkdpocjhphaa
open Go Go.Tr
set_option maxRecDepth 100000
set_option maxHeartbeats 40000000
set_option linter.unusedVariables false
set_option linter.unusedSimpArgs false
theorem TakeOwn_law (g o : List (List Int)) (w c : Int) (hg : g.length ≤ 9223372036854775807) (ho : o.length ≤ 9223372036854775807) (ig : ∀ i, (g.getD i []).length ≤ 9223372036854775807) (io : ∀ i, (o.getD i []).length ≤ 9223372036854775807) : RunT Try.prog 3 [.agg [.c (tSL 0 g), .c (tSL 0 o)], ti w, ti c] [] [ob true] [] := by
  have c0 := szLists_run 0 g o 1048576 (by decide) (by decide) hg ig ho io
  by_cases hz : (if szSLs g 1048576 < 0 then (-1 : Int) else szSLs o (szSLs g 1048576)) < 0
  · generalize (if szSLs g 1048576 < 0 then (-1 : Int) else szSLs o (szSLs g 1048576)) = b at *
    refine RunT.of_vc gOk Try.func3 rfl rfl (Nat.le_of_ble_eq_true rfl) (by repeat' (first | exact trivial | exact ⟨_, rfl, Nat.le_refl _⟩ | exact Nat.le_of_ble_eq_true rfl | refine And.intro ?_ ?_)) (Nat.le_of_ble_eq_true rfl) rfl (fun F hE => ?_)
    repeat' (first | exact trivial | refine BS.d (fun h => ?_) (fun h => ?_) | refine BS.e (fun h => ?_) (fun h => ?_) | refine BS.ne (fun h => ?_) (fun h => ?_) | refine BS.n ?_ | refine BS.s (fun h => ?_) (fun h => ?_) | refine And.intro ?_ ?_ | (refine Need.mk ?_; first | with_reducible rfl | (show @Eq TC _ _; rfl) | omega | (simp only [adN_zero]; omega)) | exact OutS.whole rfl rfl | (refine OpK.call c0 rfl rfl rfl rfl hE ?_ rfl rfl ?_; focus ((repeat' (first | exact PsA.lit _ | exact PsA.ref rfl rfl | constructor)); all_goals (fail "ps"))) | refine ListO.go gOk hE ?_)
    all_goals first | exact absurd (by assumption) (by assumption) | (exfalso; omega) | trace_state
  · obtain ⟨hb, kg, ko, kgo⟩ := szL_ok (by decide) (by decide) hz
    generalize (if szSLs g 1048576 < 0 then (-1 : Int) else szSLs o (szSLs g 1048576)) = b at *
    have c1 := toLists_run 0 g o (by omega) kg (by omega) ko
    have c3 := TakeOwnS_run 115 g o w c (by omega) (by omega) kg ko (by omega)
    have c4 := TakeOwnI_run 115 g o w c (by omega) (by omega) kg ko (by omega) kgo
    have c5 := eqLists_run 115 g o (by omega) (fun i => by have := kg i; omega) (by omega) (fun i => by have := ko i; omega)
    have hk : LkOk g o := LkOk.of (by omega) (by omega) (by omega)
    have hk2 : LkOk (g) (toO g o w c) := by
      unfold toO tkL
      split
      · refine LkOk.of (by omega) (by rw [List.length_set]; omega) ?_
        have := lset_flat o (owX w c).toNat 0 ((o.getD (owX w c).toNat []).take ((o.getD (owX w c).toNat []).length - 1)) (by rw [List.length_take]; omega)
        omega
      · exact hk
    generalize toO g o w c = no at *
    generalize toS g o w c = cc at *
    have c6 := eqLists_run 115 g no (Nat.le_trans hk2.hg (by decide)) (fun i => Nat.le_trans (hk2.hg' i) (by decide)) (Nat.le_trans hk2.ho (by decide)) (fun i => Nat.le_trans (hk2.ho' i) (by decide))
    have m0 := markLk_run 115 115 g o hk
    have m1 := markLk_run 115 115 g no hk2
    have d1 := heldLk_run 115 115 g no hk2
    have z0 := lZ_bd (g := g) (o := o)
    have z1 := lZ_bd (g := g) (o := no)
    generalize lZ g o = zz0 at *
    generalize lZ g no = zz1 at *
    refine RunT.of_vc gOk Try.func3 rfl rfl (Nat.le_of_ble_eq_true rfl) (by repeat' (first | exact trivial | exact ⟨_, rfl, Nat.le_refl _⟩ | exact Nat.le_of_ble_eq_true rfl | refine And.intro ?_ ?_)) (Nat.le_of_ble_eq_true rfl) rfl (fun F hE => ?_)
    repeat' (first | exact trivial | refine BS.d (fun h => ?_) (fun h => ?_) | refine BS.e (fun h => ?_) (fun h => ?_) | refine BS.ne (fun h => ?_) (fun h => ?_) | refine BS.n ?_ | refine BS.s (fun h => ?_) (fun h => ?_) | refine And.intro ?_ ?_ | (refine Need.mk ?_; first | with_reducible rfl | (show @Eq TC _ _; rfl) | omega | (simp only [adN_zero]; omega)) | exact OutS.whole rfl rfl | (refine OpK.call c0 rfl rfl rfl rfl hE ?_ rfl rfl ?_; focus ((repeat' (first | exact PsA.lit _ | exact PsA.ref rfl rfl | constructor)); all_goals (fail "ps"))) | (refine OpK.call c1 rfl rfl rfl rfl hE ?_ rfl rfl ?_; focus ((repeat' (first | exact PsA.lit _ | exact PsA.ref rfl rfl | constructor)); all_goals (fail "ps"))) | (refine OpK.call c3 rfl rfl rfl rfl hE ?_ rfl rfl ?_; focus ((repeat' (first | exact PsA.lit _ | exact PsA.ref rfl rfl | constructor)); all_goals (fail "ps"))) | (refine OpK.call c4 rfl rfl rfl rfl hE ?_ rfl rfl ?_; focus ((repeat' (first | exact PsA.lit _ | exact PsA.ref rfl rfl | constructor)); all_goals (fail "ps"))) | (refine OpK.call c5 rfl rfl rfl rfl hE ?_ rfl rfl ?_; focus ((repeat' (first | exact PsA.lit _ | exact PsA.ref rfl rfl | constructor)); all_goals (fail "ps"))) | (refine OpK.call c6 rfl rfl rfl rfl hE ?_ rfl rfl ?_; focus ((repeat' (first | exact PsA.lit _ | exact PsA.ref rfl rfl | constructor)); all_goals (fail "ps"))) | (refine OpK.call d1 rfl rfl rfl rfl hE ?_ rfl rfl ?_; focus ((repeat' (first | exact PsA.lit _ | exact PsA.ref rfl rfl | exact PsA.ref rfl (mkL_len _ _ _ _).symm | constructor)); all_goals (fail "ps"))) | (refine CodeK.draw gOk hE rfl (fun _ _ h => h) (.alt 0 (.alt 1 (.alt 2 (.alt 3 (.take 4 .done) .stop) .stop) .stop) (.alt 1 (.alt 0 (.alt 2 (.alt 3 (.take 4 .done) .stop) .stop) (.alt 2 (.alt 0 (.alt 3 (.take 4 .done) .stop) .stop) .stop)) .stop)) ?_ ?_; focus (decide +kernel)) | (refine OpK.callBs [bSL 115 2004096 g (lG g), bSL 115 2004097 o (lO g o)] m0 rfl rfl rfl rfl hE (List.forall_mem_cons.2 ⟨BtOk.sl rfl (mkL_len _ _ _ _), List.forall_mem_cons.2 ⟨BtOk.sl rfl (mkL_len _ _ _ _), fun _ h => nomatch h⟩⟩) (List.forall_mem_cons.2 ⟨rfl, List.forall_mem_cons.2 ⟨rfl, fun _ h => nomatch h⟩⟩) (show List.Nodup [2004096, 2004097] by decide) (QsVs.cons (.agg (.cons (.h rfl rfl rfl) (.cons (.h rfl rfl rfl) .nil))) (.cons (.one (.c (.lit _) rfl)) .nil)) rfl rfl ?_) | (refine OpK.callBs [bSL 115 2004736 g (lG g), bSL 115 2004737 no (lO g no)] m1 rfl rfl rfl rfl hE (List.forall_mem_cons.2 ⟨BtOk.sl rfl (mkL_len _ _ _ _), List.forall_mem_cons.2 ⟨BtOk.sl rfl (mkL_len _ _ _ _), fun _ h => nomatch h⟩⟩) (List.forall_mem_cons.2 ⟨rfl, List.forall_mem_cons.2 ⟨rfl, fun _ h => nomatch h⟩⟩) (show List.Nodup [2004736, 2004737] by decide) (QsVs.cons (.agg (.cons (.h rfl rfl rfl) (.cons (.h rfl rfl rfl) .nil))) (.cons (.one (.c (.lit _) rfl)) .nil)) rfl rfl ?_) | refine ListO.go gOk hE ?_)
    all_goals first | exact Need.mk rfl | (exfalso; omega) | exact absurd rfl h | (fail "") | (simp_all; done) | trace_state
end Go.Proofs.Ytnclkdpocjhphaa
