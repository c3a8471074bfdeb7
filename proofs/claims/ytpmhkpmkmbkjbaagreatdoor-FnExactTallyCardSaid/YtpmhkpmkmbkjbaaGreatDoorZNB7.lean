import Derived.Test.YtpmhkpmkmbkjbaaGreatDoorZI
import Derived.Test.YtpmhkpmkmbkjbaaGreatDoorZM
import Derived.Test.YtpmhkpmkmbkjbaaGreatDoorZP
/- Two equal answers of Tally, in fresh memory: the law. -/
namespace Go.Proofs.YtpmhkpmkmbkjbaaGreatDoor
open Go Go.Tr
set_option maxRecDepth 100000
set_option maxHeartbeats 40000000
set_option linter.unusedVariables false
set_option linter.unusedSimpArgs false
abbrev bPin (e κ : Nat) (xs xs' : List PinT) : Bt := ⟨κ, 0, true, .sl e 4 PinT encPin decPin zPin xs, .sl e 4 PinT encPin decPin zPin xs', .ty .own true e 4 PinT encPin decPin zPin xs'⟩
theorem szB_bc {b c : List Int} {g o : List (List Int)} {ps : List PinT} {l : List (List Row)} {z : List Int} {m : Int} (h0 : 0 ≤ m) (h : ¬ szB b c g o ps l z m < 0) : b.length + c.length ≤ m := by
  unfold szB ch at h
  dsimp only at h
  split at h
  · omega
  · rename_i hm
    unfold szM at hm
    split at hm
    · omega
    · rename_i hh
      unfold szH at hh
      unfold szI at hh
      split at hh <;> (try split at hh) <;> omega
theorem Tally_law (b c : List Int) (g o : List (List Int)) (E : Int) (ps : List PinT) (l : List (List Row)) (z : List Int) (h1 : BsOk 9223372036854775807 b c g o ps l z) (mx : ∀ i, (l.flatten.getD i (0, 0)).1 ≤ 9223372036854775807) (zx : ∀ i, z.getD i 0 ≤ 9223372036854775807) : RunH Tryz.prog hT 8 [aBs 0 0 0 0 b c g o E ps l z] [] [ob true] [] := by
  have c0 := szBase_run b c g o E ps l z 1048576 (by decide) (by decide) h1
  by_cases hz : szB b c g o ps l z 1048576 < 0
  · generalize szB b c g o ps l z 1048576 = zz at *
    refine RunH.of_vc gOk Tryz.func8 rfl rfl (Nat.le_of_ble_eq_true rfl) (by repeat' (first | exact trivial | exact ⟨_, rfl, Nat.le_refl _⟩ | exact Nat.le_of_ble_eq_true rfl | refine And.intro ?_ ?_)) (Nat.le_of_ble_eq_true rfl) rfl (fun F hE hA => ?_)
    repeat' (first | exact trivial | refine BS.d (fun h => ?_) (fun h => ?_) | refine BS.e (fun h => ?_) (fun h => ?_) | refine BS.ne (fun h => ?_) (fun h => ?_) | refine BS.n ?_ | refine BS.s (fun h => ?_) (fun h => ?_) | refine And.intro ?_ ?_ | (refine Need.mk ?_; first | with_reducible rfl | (show @Eq TC _ _; rfl) | omega | (simp only [adN_zero]; omega)) | exact OutS.whole rfl rfl | (refine OpK.call c0 rfl rfl rfl rfl hE ?_ rfl rfl ?_; focus ((repeat' (first | exact PsA.lit _ | exact PsA.ref rfl rfl | constructor)); all_goals (fail "ps"))) | refine ListO.go gOk hE ?_)
    all_goals first | exact Need.mk rfl | (exfalso; omega) | trace_state
  · have h := BsT.of_sz (m := 1048576) (by decide) (by decide) hz mx zx
    have hbc := szB_bc (m := 1048576) (by decide) hz
    generalize szB b c g o ps l z 1048576 = zz at *
    have k := h.ok
    have k3 := k.le (m' := 4000000) (by decide)
    have c1 := toBase_run b c g o E ps l z k
    have c5 := eqBase_run b c g o E ps l z k3
    have c3 := TallyS_run 136 144 103 147 b c g o E ps l z h
    have c4 := TallyI_run 136 144 103 147 b c g o E ps l z h
    have hgl := tlT_len b c g o E ps l z
    generalize tlT b c g o E ps l z = gg at *
    obtain ⟨k1, p1, b', c', g', o', ps', l', z', q1, q2, q3, q4, q5, q6, q7, m0⟩ := markBase_run 3 136 136 144 103 147 b c g o E ps l z k h.mt.f (by omega) h.cn
    have d1 := eqIntS_run gg (by omega)
    have m1 := markI_run 3 gg 1 (by omega) (by omega) (by omega)
    have d2 := heldI_run gg 1 (by omega) (by omega) (by omega)
    refine RunH.of_vc gOk Tryz.func8 rfl rfl (Nat.le_of_ble_eq_true rfl) (by repeat' (first | exact trivial | exact ⟨_, rfl, Nat.le_refl _⟩ | exact Nat.le_of_ble_eq_true rfl | refine And.intro ?_ ?_)) (Nat.le_of_ble_eq_true rfl) rfl (fun F hE hA => ?_)
    repeat' (first | exact trivial | refine BS.d (fun h => ?_) (fun h => ?_) | refine BS.e (fun h => ?_) (fun h => ?_) | refine BS.ne (fun h => ?_) (fun h => ?_) | refine BS.n ?_ | refine BS.s (fun h => ?_) (fun h => ?_) | refine And.intro ?_ ?_ | (refine Need.mk ?_; first | with_reducible rfl | (show @Eq TC _ _; rfl) | omega | (simp only [adN_zero]; omega)) | exact OutS.whole rfl rfl | (refine OpK.call c0 rfl rfl rfl rfl hE ?_ rfl rfl ?_; focus ((repeat' (first | exact PsA.lit _ | exact PsA.ref rfl rfl | constructor)); all_goals (fail "ps"))) | (refine OpK.call c1 rfl rfl rfl rfl hE ?_ rfl rfl ?_; focus ((repeat' (first | exact PsA.lit _ | exact PsA.ref rfl rfl | constructor)); all_goals (fail "ps"))) | (refine OpK.call c5 rfl rfl rfl rfl hE ?_ rfl rfl ?_; focus ((repeat' (first | exact PsA.lit _ | exact PsA.ref rfl rfl | constructor)); all_goals (fail "ps"))) | (refine OpK.call c3 rfl rfl rfl rfl hE ?_ rfl rfl ?_; focus ((repeat' (first | exact PsA.lit _ | exact PsA.ref rfl rfl | constructor)); all_goals (fail "ps"))) | (refine OpK.callH c4 hA rfl rfl rfl rfl hE ?_ rfl rfl ?_; focus ((repeat' (first | exact PsA.lit _ | exact PsA.ref rfl rfl | constructor)); all_goals (fail "ps"))) | (refine OpK.call d1 rfl rfl rfl rfl hE ?_ rfl rfl ?_; focus ((repeat' (first | exact PsA.lit _ | exact PsA.ref rfl rfl | constructor)); all_goals (fail "ps"))) | (refine OpK.call d2 rfl rfl rfl rfl hE ?_ rfl rfl ?_; focus ((repeat' (first | exact PsA.lit _ | exact PsA.ref rfl rfl | exact PsA.ref rfl (mkL_len _ _ _ _).symm | constructor)); all_goals (fail "ps"))) | (refine CodeK.draw gOk hE rfl (fun _ _ h => h) (.alt 0 (.alt 1 (.alt 2 (.alt 3 (.take 4 .done) .stop) .stop) .stop) (.alt 1 (.alt 0 (.alt 2 (.alt 3 (.take 4 .done) .stop) .stop) (.alt 2 (.alt 0 (.alt 3 (.take 4 .done) .stop) .stop) .stop)) .stop)) ?_ ?_; focus (decide +kernel)) | (refine OpK.callBs [bInt 3 2002560 b b', bInt 3 2002561 c c', bSL 136 2002562 g g', bSL 136 2002563 o o', bPin 144 2002564 ps ps', bLL 103 147 2002565 l l', bInt 3 2002566 z z'] m0 rfl rfl rfl rfl hE (List.forall_mem_cons.2 ⟨BtOk.sl rfl q1, List.forall_mem_cons.2 ⟨BtOk.sl rfl q2, List.forall_mem_cons.2 ⟨BtOk.sl rfl q3, List.forall_mem_cons.2 ⟨BtOk.sl rfl q4, List.forall_mem_cons.2 ⟨BtOk.sl rfl q5, List.forall_mem_cons.2 ⟨BtOk.sl rfl q6, List.forall_mem_cons.2 ⟨BtOk.sl rfl q7, fun _ h => nomatch h⟩⟩⟩⟩⟩⟩⟩) (List.forall_mem_cons.2 ⟨rfl, List.forall_mem_cons.2 ⟨rfl, List.forall_mem_cons.2 ⟨rfl, List.forall_mem_cons.2 ⟨rfl, List.forall_mem_cons.2 ⟨rfl, List.forall_mem_cons.2 ⟨rfl, List.forall_mem_cons.2 ⟨rfl, fun _ h => nomatch h⟩⟩⟩⟩⟩⟩⟩) (show List.Nodup [2002560, 2002561, 2002562, 2002563, 2002564, 2002565, 2002566] by decide) (QsVs.cons (.agg (.cons (.h rfl rfl rfl) (.cons (.h rfl rfl rfl) (.cons (.h rfl rfl rfl) (.cons (.h rfl rfl rfl) (.cons (.c (.lit _) rfl) (.cons (.h rfl rfl rfl) (.cons (.h rfl rfl rfl) (.cons (.h rfl rfl rfl) .nil))))))))) (.cons (.one (.c (.lit _) rfl)) .nil)) rfl rfl ?_) | (refine OpK.callB (bInt _ 2002816 gg (mkL 0 (fI 1) gg gg.length)) m1 rfl rfl rfl rfl hE (BtOk.sl rfl (mkL_len _ _ _ _)) rfl (QsVs.cons (.one (.h rfl rfl rfl)) (.cons (.one (.c (.lit _) rfl)) .nil)) rfl rfl ?_) | refine ListO.go gOk hE ?_)
    all_goals first | exact Need.mk rfl | (exfalso; omega) | exact absurd rfl h | (simp_all; done) | (exfalso; simp_all; done) | trace_state
end Go.Proofs.YtpmhkpmkmbkjbaaGreatDoor
