import Derived.Test.YtpmhkpmkmbkjbaaDoorZNS2
import Derived.Test.YtpmhkpmkmbkjbaaDoorZM
import Derived.Test.YtpmhkpmkmbkjbaaDoorZP
namespace Go.Proofs.YtpmhkpmkmbkjbaaDoor
open Go Go.Tr
set_option maxRecDepth 100000
set_option maxHeartbeats 4000000
set_option linter.unusedVariables false
set_option linter.unusedSimpArgs false
theorem SetGen_law (b c : List Int) (s gen : Int) (hb : b.length ≤ 9223372036854775807) (hc : c.length ≤ 9223372036854775807) : RunH Tryd.prog hT 3 [aHp b c, ti s, ti gen] [] [ob true] [] := by
  have c0 := szHeap_run b c 1048576 (by decide) (by decide) hb hc
  have q := szH_le b c 1048576 (by decide)
  by_cases hz : szH b c 1048576 < 0
  · generalize szH b c 1048576 = z at *
    refine RunH.of_vc gOk Tryd.func3 rfl rfl (Nat.le_of_ble_eq_true rfl) (by repeat' (first | exact trivial | exact ⟨_, rfl, Nat.le_refl _⟩ | exact Nat.le_of_ble_eq_true rfl | refine And.intro ?_ ?_)) (Nat.le_of_ble_eq_true rfl) rfl (fun F hE hA => ?_)
    repeat' (first | exact trivial | refine BS.d (fun h => ?_) (fun h => ?_) | refine BS.e (fun h => ?_) (fun h => ?_) | refine BS.ne (fun h => ?_) (fun h => ?_) | refine BS.n ?_ | refine BS.s (fun h => ?_) (fun h => ?_) | refine And.intro ?_ ?_ | (refine Need.mk ?_; first | with_reducible rfl | (show @Eq TC _ _; rfl) | omega | (simp only [adN_zero]; omega)) | exact OutS.whole rfl rfl | (refine OpK.call c0 rfl rfl rfl rfl hE ?_ rfl rfl ?_; focus ((repeat' (first | exact PsA.lit _ | exact PsA.ref rfl rfl | constructor)); all_goals (fail "ps"))) | refine ListO.go gOk hE ?_)
    all_goals first | exact Need.mk rfl | (exfalso; omega) | trace_state
  · obtain ⟨hb1, hc1⟩ := q.2.2 (by omega)
    generalize szH b c 1048576 = z at *
    have c1 := toHeap_run b c (by omega) (by omega)
    have c2 := eqHeap_run b c (by omega) (by omega)
    have c3 := SetGenS_run b c s gen (by omega) (by omega)
    have c4 := SetGenI_run b c s gen (by omega) (by omega)
    have hl := sgL_len b c s gen
    generalize sgL b c s gen = g at *
    generalize sgB b c s gen = bb at *
    have c5 := eqHeap_run g c (by omega) (by omega)
    have m0 := markH_run 3 b c 1 (by omega) (by omega) (by omega) (by omega)
    have m1 := markH_run 3 g c 1 (by omega) (by omega) (by omega) (by omega)
    have k1 := heldH_run g c 1 (by omega) (by omega) (by omega) (by omega)
    refine RunH.of_vc gOk Tryd.func3 rfl rfl (Nat.le_of_ble_eq_true rfl) (by repeat' (first | exact trivial | exact ⟨_, rfl, Nat.le_refl _⟩ | exact Nat.le_of_ble_eq_true rfl | refine And.intro ?_ ?_)) (Nat.le_of_ble_eq_true rfl) rfl (fun F hE hA => ?_)
    repeat' (first | exact trivial | refine BS.d (fun h => ?_) (fun h => ?_) | refine BS.e (fun h => ?_) (fun h => ?_) | refine BS.ne (fun h => ?_) (fun h => ?_) | refine BS.n ?_ | refine BS.s (fun h => ?_) (fun h => ?_) | refine And.intro ?_ ?_ | (refine Need.mk ?_; first | with_reducible rfl | (show @Eq TC _ _; rfl) | omega | (simp only [adN_zero]; omega)) | exact OutS.whole rfl rfl | (refine OpK.call c0 rfl rfl rfl rfl hE ?_ rfl rfl ?_; focus ((repeat' (first | exact PsA.lit _ | exact PsA.ref rfl rfl | constructor)); all_goals (fail "ps"))) | (refine OpK.call c1 rfl rfl rfl rfl hE ?_ rfl rfl ?_; focus ((repeat' (first | exact PsA.lit _ | exact PsA.ref rfl rfl | constructor)); all_goals (fail "ps"))) | (refine OpK.call c2 rfl rfl rfl rfl hE ?_ rfl rfl ?_; focus ((repeat' (first | exact PsA.lit _ | exact PsA.ref rfl rfl | constructor)); all_goals (fail "ps"))) | (refine OpK.call c3 rfl rfl rfl rfl hE ?_ rfl rfl ?_; focus ((repeat' (first | exact PsA.lit _ | exact PsA.ref rfl rfl | constructor)); all_goals (fail "ps"))) | (refine OpK.callH c4 hA rfl rfl rfl rfl hE ?_ rfl rfl ?_; focus ((repeat' (first | exact PsA.lit _ | exact PsA.ref rfl rfl | constructor)); all_goals (fail "ps"))) | (refine OpK.call c5 rfl rfl rfl rfl hE ?_ rfl rfl ?_; focus ((repeat' (first | exact PsA.lit _ | exact PsA.ref rfl rfl | constructor)); all_goals (fail "ps"))) | (refine OpK.call k1 rfl rfl rfl rfl hE ?_ rfl rfl ?_; focus ((repeat' (first | exact PsA.lit _ | exact PsA.ref rfl rfl | exact PsA.ref rfl (mkL_len _ _ _ _).symm | constructor)); all_goals (fail "ps"))) | (refine CodeK.draw gOk hE rfl (fun _ _ h => h) (.alt 0 (.alt 1 (.alt 2 (.alt 3 (.take 4 .done) .stop) .stop) .stop) (.alt 1 (.alt 0 (.alt 2 (.alt 3 (.take 4 .done) .stop) .stop) (.alt 2 (.alt 0 (.alt 3 (.take 4 .done) .stop) .stop) .stop)) .stop)) ?_ ?_; focus (decide +kernel)) | (refine OpK.callBs [bInt 3 2004096 b (mkL 0 (fI 1) b b.length), bInt 3 2004097 c (mkL 0 (fI (1 + b.length)) c c.length)] m0 rfl rfl rfl rfl hE (List.forall_mem_cons.2 ⟨BtOk.sl rfl (mkL_len _ _ _ _), List.forall_mem_cons.2 ⟨BtOk.sl rfl (mkL_len _ _ _ _), fun _ h => nomatch h⟩⟩) (List.forall_mem_cons.2 ⟨rfl, List.forall_mem_cons.2 ⟨rfl, fun _ h => nomatch h⟩⟩) (show List.Nodup [2004096, 2004097] by decide) (QsVs.cons (.agg (.cons (.h rfl rfl rfl) (.cons (.h rfl rfl rfl) .nil))) (.cons (.one (.c (.lit _) rfl)) .nil)) rfl rfl ?_) | (refine OpK.callBs [bInt 3 2004736 g (mkL 0 (fI 1) g g.length), bInt 3 2004737 c (mkL 0 (fI (1 + g.length)) c c.length)] m1 rfl rfl rfl rfl hE (List.forall_mem_cons.2 ⟨BtOk.sl rfl (mkL_len _ _ _ _), List.forall_mem_cons.2 ⟨BtOk.sl rfl (mkL_len _ _ _ _), fun _ h => nomatch h⟩⟩) (List.forall_mem_cons.2 ⟨rfl, List.forall_mem_cons.2 ⟨rfl, fun _ h => nomatch h⟩⟩) (show List.Nodup [2004736, 2004737] by decide) (QsVs.cons (.agg (.cons (.h rfl rfl rfl) (.cons (.h rfl rfl rfl) .nil))) (.cons (.one (.c (.lit _) rfl)) .nil)) rfl rfl ?_) | refine ListO.go gOk hE ?_)
    all_goals first | exact Need.mk rfl | (exfalso; omega) | exact absurd rfl h | (cases bb <;> simp_all; done) | (simp_all; done) | trace_state
end Go.Proofs.YtpmhkpmkmbkjbaaDoor
