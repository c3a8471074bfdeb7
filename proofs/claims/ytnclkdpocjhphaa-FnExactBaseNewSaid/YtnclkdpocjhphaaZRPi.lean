import Derived.Test.YtnclkdpocjhphaaZBA
/- The law BaseNew. -/
namespace Go.Proofs.Ytnclkdpocjhphaa
open Go Go.Tr
set_option maxRecDepth 100000
set_option maxHeartbeats 40000000
set_option linter.unusedVariables false
set_option linter.unusedSimpArgs false
abbrev bPin (e κ : Nat) (xs xs' : List PinT) : Bt := ⟨κ, 0, true, .sl e 4 PinT encPin decPin zPin xs, .sl e 4 PinT encPin decPin zPin xs', .ty .own true e 4 PinT encPin decPin zPin xs'⟩
theorem BaseNew_aux (b c : List Int) (g o : List (List Int)) (E : Int) (ps : List PinT) (l : List (List Row)) (z : List Int) (h : BsOk 1048576 b c g o ps l z) (hm : MkOk b c g o) (hcn : cnt l ≤ 1048576) (c1 : RunT Try.prog 34 [] [] [.agg [tI b, tI c, tSL 115 g, tSL 115 o, .lit (.int .i64 E), tPin 274 ps, tLL 277 210 l, tI z]] []) (c2 : RunT Try.prog 35 [] [] [.agg [tI b, tI c, tSL 115 g, tSL 115 o, .lit (.int .i64 E), tPin 274 ps, tLL 277 210 l, tI z]] []) : RunT Try.prog 8 [] [] [ob true] [] := by
  have k3 := h.le (m' := 4000000) (by decide)
  have c3 := eqBase_run b c g o E ps l z k3
  have m0 := markBaseX_run 3 115 115 274 277 210 b c g o E ps l z h hm hcn
  have d1 := heldBase_run 115 115 274 277 210 b c g o E ps l z h hm hcn
  have z0 := bZ_bd (ps := ps) (z := z) hm hcn
  generalize bZ b c g o ps l z = zz0 at *
  refine RunT.of_vc gOk Try.func8 rfl rfl (Nat.le_of_ble_eq_true rfl) (by repeat' (first | exact trivial | exact ⟨_, rfl, Nat.le_refl _⟩ | exact Nat.le_of_ble_eq_true rfl | refine And.intro ?_ ?_)) (Nat.le_of_ble_eq_true rfl) rfl (fun F hE => ?_)
  repeat' (first | exact trivial | refine BS.d (fun h => ?_) (fun h => ?_) | refine BS.e (fun h => ?_) (fun h => ?_) | refine BS.ne (fun h => ?_) (fun h => ?_) | refine BS.n ?_ | refine BS.s (fun h => ?_) (fun h => ?_) | refine And.intro ?_ ?_ | (refine Need.mk ?_; first | with_reducible rfl | (show @Eq TC _ _; rfl) | omega | (simp only [adN_zero]; omega)) | exact OutS.whole rfl rfl | (refine OpK.call c1 rfl rfl rfl rfl hE ?_ rfl rfl ?_; focus ((repeat' (first | exact PsA.lit _ | exact PsA.ref rfl rfl | constructor)); all_goals (fail "ps"))) | (refine OpK.call c2 rfl rfl rfl rfl hE ?_ rfl rfl ?_; focus ((repeat' (first | exact PsA.lit _ | exact PsA.ref rfl rfl | constructor)); all_goals (fail "ps"))) | (refine OpK.call c3 rfl rfl rfl rfl hE ?_ rfl rfl ?_; focus ((repeat' (first | exact PsA.lit _ | exact PsA.ref rfl rfl | constructor)); all_goals (fail "ps"))) | (refine OpK.call d1 rfl rfl rfl rfl hE ?_ rfl rfl ?_; focus ((repeat' (first | exact PsA.lit _ | exact PsA.ref rfl rfl | exact PsA.ref rfl (mkL_len _ _ _ _).symm | constructor)); all_goals (fail "ps"))) | (refine OpK.callBs [bInt 3 2000896 b (mB b), bInt 3 2000897 c (mC b c), bSL 115 2000898 g (mG b c g), bSL 115 2000899 o (mO b c g o), bPin 274 2000900 ps (bP b c g o ps), bLL 277 210 2000901 l (bL b c g o ps l), bInt 3 2000902 z (bH b c g o ps l z)] m0 rfl rfl rfl rfl hE (List.forall_mem_cons.2 ⟨BtOk.sl rfl (mkL_len _ _ _ _), List.forall_mem_cons.2 ⟨BtOk.sl rfl (mkL_len _ _ _ _), List.forall_mem_cons.2 ⟨BtOk.sl rfl (mkL_len _ _ _ _), List.forall_mem_cons.2 ⟨BtOk.sl rfl (mkL_len _ _ _ _), List.forall_mem_cons.2 ⟨BtOk.sl rfl (mkL_len _ _ _ _), List.forall_mem_cons.2 ⟨BtOk.sl rfl (mkL_len _ _ _ _), List.forall_mem_cons.2 ⟨BtOk.sl rfl (mkL_len _ _ _ _), fun _ h => nomatch h⟩⟩⟩⟩⟩⟩⟩) (List.forall_mem_cons.2 ⟨rfl, List.forall_mem_cons.2 ⟨rfl, List.forall_mem_cons.2 ⟨rfl, List.forall_mem_cons.2 ⟨rfl, List.forall_mem_cons.2 ⟨rfl, List.forall_mem_cons.2 ⟨rfl, List.forall_mem_cons.2 ⟨rfl, fun _ h => nomatch h⟩⟩⟩⟩⟩⟩⟩) (show List.Nodup [2000896, 2000897, 2000898, 2000899, 2000900, 2000901, 2000902] by decide) (QsVs.cons (.agg (.cons (.h rfl rfl rfl) (.cons (.h rfl rfl rfl) (.cons (.h rfl rfl rfl) (.cons (.h rfl rfl rfl) (.cons (.c (.lit _) rfl) (.cons (.h rfl rfl rfl) (.cons (.h rfl rfl rfl) (.cons (.h rfl rfl rfl) .nil))))))))) (.cons (.one (.c (.lit _) rfl)) .nil)) rfl rfl ?_) | refine ListO.go gOk hE ?_)
  all_goals first | exact Need.mk rfl | exact absurd rfl h | (exfalso; omega) | (refine Need.mk ?_; omega) | (simp_all; done) | trace_state
theorem repl_nil {α : Type} (n i : Nat) : ((List.replicate n ([] : List α)).getD i []).length ≤ 1048576 := by
  simp only [List.getD]; rw [List.getElem?_replicate]; split <;> simp
theorem BaseNew_law : RunT Try.prog 8 [] [] [ob true] [] := by
  refine BaseNew_aux hnB hnC (List.replicate 3 []) (List.replicate 9 []) 0 (List.replicate 3 zPin) (List.replicate 3 []) (List.replicate 3 0) ⟨⟨?_, ?_, ?_, ?_, repl_nil 3, repl_nil 9⟩, ?_, ?_, repl_nil 3, ?_⟩ ⟨⟨?_, ?_, ?_, ?_, repl_nil 3, repl_nil 9⟩, ?_, ?_⟩ ?_ BaseNewS_run BaseNewI_run
  all_goals decide
end Go.Proofs.Ytnclkdpocjhphaa
