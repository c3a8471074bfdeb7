import Derived.Test.YtfdbjiaghbeedaaGreatDoorZKDD
import Derived.Test.YtfdbjiaghbeedaaGreatDoorZKDC
/- The law ChainOf. -/
namespace Go.Proofs.YtfdbjiaghbeedaaGreatDoor
open Go Go.Tr
set_option maxRecDepth 100000
set_option maxHeartbeats 40000000
set_option linter.unusedVariables false
set_option linter.unusedSimpArgs false
theorem ChainOf_law (b c : List Int) (g o : List (List Int)) (x : Int) (h1 : MmOk 9223372036854775807 b c g o) (hx : x ≤ 9223372036854775807) : RunH Tryz.prog hT 3 [aMm 0 b c g o, ti x] [] [ob true] [] := by
  have c0 := szMem_run 0 0 b c g o 1048576 (by decide) (by decide) h1.hb h1.hc h1.hg h1.hg' h1.ho h1.ho'
  by_cases hz : szM b c g o 1048576 < 0
  · generalize szM b c g o 1048576 = z at *
    refine RunH.of_vc gOk Tryz.func3 rfl rfl (Nat.le_of_ble_eq_true rfl) (by repeat' (first | exact trivial | exact ⟨_, rfl, Nat.le_refl _⟩ | exact Nat.le_of_ble_eq_true rfl | refine And.intro ?_ ?_)) (Nat.le_of_ble_eq_true rfl) rfl (fun F hE hA => ?_)
    repeat' (first | exact trivial | refine BS.d (fun h => ?_) (fun h => ?_) | refine BS.e (fun h => ?_) (fun h => ?_) | refine BS.ne (fun h => ?_) (fun h => ?_) | refine BS.n ?_ | refine BS.s (fun h => ?_) (fun h => ?_) | refine And.intro ?_ ?_ | (refine Need.mk ?_; first | with_reducible rfl | (show @Eq TC _ _; rfl) | omega | (simp only [adN_zero]; omega)) | exact OutS.whole rfl rfl | (refine OpK.call c0 rfl rfl rfl rfl hE ?_ rfl rfl ?_; focus ((repeat' (first | exact PsA.lit _ | exact PsA.ref rfl rfl | constructor)); all_goals (fail "ps"))) | refine ListO.go gOk hE ?_)
    all_goals first | exact Need.mk rfl | (exfalso; omega) | trace_state
  · have ht := MmT.of_sz (m := 1048576) (by decide) (by decide) hz
    have hbc := szM_bcC (m := 1048576) (by decide) hz
    generalize szM b c g o 1048576 = z at *
    have k := ht.ok
    have k3 := k.le (m' := 4000000) (by decide)
    have c1 := toMem_run 0 b c g o k.hb k.hc k.hg k.hg' k.ho k.ho'
    have c5 := eqMem_run 135 b c g o k3.hb k3.hc k3.hg k3.hg' k3.ho k3.ho'
    have c3 := ChainOfS_run 135 b c g o x ht hx
    have c4 := ChainOfI_run 135 b c g o x ht hx
    have hg := chO_len (b := b) (c := c) (g := g) (o := o) hx
    unfold oCo at c3 c4
    generalize (chO b c g o x).getD [] = gg at *
    generalize (chO b c g o x).isSome = bb at *
    have hk : MkOk b c g o := ⟨k, by omega, ht.f⟩
    have m0 := markMemX_run 3 135 135 b c g o hk
    have z0 := mZ_bd (b := b) (c := c) (g := g) (o := o)
    generalize mZ b c g o = zz0 at *
    have d1 := eqIntS_run gg (by omega)
    have m1 := markI_run 3 gg 1 (by omega) (by omega) (by omega)
    have d2 := heldI_run gg 1 (by omega) (by omega) (by omega)
    refine RunH.of_vc gOk Tryz.func3 rfl rfl (Nat.le_of_ble_eq_true rfl) (by repeat' (first | exact trivial | exact ⟨_, rfl, Nat.le_refl _⟩ | exact Nat.le_of_ble_eq_true rfl | refine And.intro ?_ ?_)) (Nat.le_of_ble_eq_true rfl) rfl (fun F hE hA => ?_)
    repeat' (first | exact trivial | refine BS.d (fun h => ?_) (fun h => ?_) | refine BS.e (fun h => ?_) (fun h => ?_) | refine BS.ne (fun h => ?_) (fun h => ?_) | refine BS.n ?_ | refine BS.s (fun h => ?_) (fun h => ?_) | refine And.intro ?_ ?_ | (refine Need.mk ?_; first | with_reducible rfl | (show @Eq TC _ _; rfl) | omega | (simp only [adN_zero]; omega)) | exact OutS.whole rfl rfl | (refine OpK.call c0 rfl rfl rfl rfl hE ?_ rfl rfl ?_; focus ((repeat' (first | exact PsA.lit _ | exact PsA.ref rfl rfl | constructor)); all_goals (fail "ps"))) | (refine OpK.call c1 rfl rfl rfl rfl hE ?_ rfl rfl ?_; focus ((repeat' (first | exact PsA.lit _ | exact PsA.ref rfl rfl | constructor)); all_goals (fail "ps"))) | (refine OpK.call c5 rfl rfl rfl rfl hE ?_ rfl rfl ?_; focus ((repeat' (first | exact PsA.lit _ | exact PsA.ref rfl rfl | constructor)); all_goals (fail "ps"))) | (refine OpK.call c3 rfl rfl rfl rfl hE ?_ rfl rfl ?_; focus ((repeat' (first | exact PsA.lit _ | exact PsA.ref rfl rfl | constructor)); all_goals (fail "ps"))) | (refine OpK.callH c4 hA rfl rfl rfl rfl hE ?_ rfl rfl ?_; focus ((repeat' (first | exact PsA.lit _ | exact PsA.ref rfl rfl | constructor)); all_goals (fail "ps"))) | (refine OpK.call d1 rfl rfl rfl rfl hE ?_ rfl rfl ?_; focus ((repeat' (first | exact PsA.lit _ | exact PsA.ref rfl rfl | constructor)); all_goals (fail "ps"))) | (refine OpK.call d2 rfl rfl rfl rfl hE ?_ rfl rfl ?_; focus ((repeat' (first | exact PsA.lit _ | exact PsA.ref rfl rfl | exact PsA.ref rfl (mkL_len _ _ _ _).symm | constructor)); all_goals (fail "ps"))) | (refine CodeK.draw gOk hE rfl (fun _ _ h => h) (.alt 0 (.alt 1 (.alt 2 (.alt 3 (.take 4 .done) .stop) .stop) .stop) (.alt 1 (.alt 0 (.alt 2 (.alt 3 (.take 4 .done) .stop) .stop) (.alt 2 (.alt 0 (.alt 3 (.take 4 .done) .stop) .stop) .stop)) .stop)) ?_ ?_; focus (decide +kernel)) | (refine OpK.callBs [bInt 3 2003712 b (mB b), bInt 3 2003713 c (mC b c), bSL 135 2003714 g (mG b c g), bSL 135 2003715 o (mO b c g o)] m0 rfl rfl rfl rfl hE (List.forall_mem_cons.2 ⟨BtOk.sl rfl (mkL_len _ _ _ _), List.forall_mem_cons.2 ⟨BtOk.sl rfl (mkL_len _ _ _ _), List.forall_mem_cons.2 ⟨BtOk.sl rfl (mkL_len _ _ _ _), List.forall_mem_cons.2 ⟨BtOk.sl rfl (mkL_len _ _ _ _), fun _ h => nomatch h⟩⟩⟩⟩) (List.forall_mem_cons.2 ⟨rfl, List.forall_mem_cons.2 ⟨rfl, List.forall_mem_cons.2 ⟨rfl, List.forall_mem_cons.2 ⟨rfl, fun _ h => nomatch h⟩⟩⟩⟩) (show List.Nodup [2003712, 2003713, 2003714, 2003715] by decide) (QsVs.cons (.agg (.cons (.h rfl rfl rfl) (.cons (.h rfl rfl rfl) (.cons (.h rfl rfl rfl) (.cons (.h rfl rfl rfl) .nil))))) (.cons (.one (.c (.lit _) rfl)) .nil)) rfl rfl ?_) | (refine OpK.callB (bInt _ 2004224 gg (mkL 0 (fI 1) gg gg.length)) m1 rfl rfl rfl rfl hE (BtOk.sl rfl (mkL_len _ _ _ _)) rfl (QsVs.cons (.one (.h rfl rfl rfl)) (.cons (.one (.c (.lit _) rfl)) .nil)) rfl rfl ?_) | refine ListO.go gOk hE ?_)
    all_goals first | exact Need.mk rfl | (exfalso; omega) | exact absurd rfl h | (simp_all; done) | trace_state
end Go.Proofs.YtfdbjiaghbeedaaGreatDoor
