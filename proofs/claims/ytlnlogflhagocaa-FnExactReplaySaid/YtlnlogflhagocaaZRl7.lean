import Derived.Test.YtlnlogflhagocaaZRLB
import Derived.Test.YtlnlogflhagocaaZRLA
/- The law Replay. -/
namespace Go.Proofs.Ytlnlogflhagocaa
open Go Go.Tr
set_option maxRecDepth 100000
set_option maxHeartbeats 40000000
set_option linter.unusedVariables false
set_option linter.unusedSimpArgs false
theorem Replay_law (xs : List TEvT) (hn : xs.length ≤ 9223372036854775807) (hx : ∀ i, (xs.getD i zTEv).2.2.2.2.1.length ≤ 9223372036854775807 ∧ (xs.getD i zTEv).2.2.2.2.2.length ≤ 9223372036854775807) : RunT Try.prog 9 [.one (.c (tTEv 0 0 0 xs))] [] [ob true] [] := by
  have z0 := szTEvS_run 0 0 0 xs 1048576 (by omega) (by omega) hn hx
  by_cases hz : szTL xs 1048576 < 0
  · generalize szTL xs 1048576 = zz0 at *
    refine RunT.of_vc gOk Try.func9 rfl rfl (Nat.le_of_ble_eq_true rfl) (by repeat' (first | exact trivial | exact ⟨_, rfl, Nat.le_refl _⟩ | exact Nat.le_of_ble_eq_true rfl | refine And.intro ?_ ?_)) (Nat.le_of_ble_eq_true rfl) rfl (fun F hE => ?_)
    repeat' (first | exact trivial | refine BS.d (fun h => ?_) (fun h => ?_) | refine BS.e (fun h => ?_) (fun h => ?_) | refine BS.ne (fun h => ?_) (fun h => ?_) | refine BS.n ?_ | refine BS.s (fun h => ?_) (fun h => ?_) | refine And.intro ?_ ?_ | (refine Need.mk ?_; first | with_reducible rfl | (show @Eq TC _ _; rfl) | omega | (simp only [adN_zero]; omega)) | exact OutS.whole rfl rfl | (refine OpK.call z0 rfl rfl rfl rfl hE ?_ rfl rfl ?_; focus ((repeat' (first | exact PsA.lit _ | exact PsA.ref rfl rfl | constructor)); all_goals (fail "ps"))) | refine ListO.go gOk hE ?_)
    all_goals first | exact Need.mk rfl | (exfalso; omega) | trace_state
  have htot := szTL_tot hz
  obtain ⟨hm, hy⟩ := szTL_ok hz
  generalize szTL xs 1048576 = zz0 at *
  have c1 := toTEvS_run 0 0 0 xs hm hy
  have c2 := ReplayS_run 174 247 249 xs hm hy htot
  have c3 := ReplayI_run 174 247 249 xs hm hy htot
  have c4 := eqTEvS_run 174 247 249 xs (by omega) (fun i => by have := hy i; omega)
  have m0 := markTE_run 174 247 249 xs 1 (by omega) (by omega) hm hy
  have ho := offT_bd (m := 1) (xs := xs) (by omega) hy xs.length
  have hg := rpN_all xs (ordN_nd xs xs.length) (Nat.le_refl (ordN xs xs.length).length)
  generalize rpN xs (ordN xs xs.length) (ordN xs xs.length).length = st at *
  obtain ⟨g, bb⟩ := st
  dsimp only at *
  have d1 := eqKVS_run 179 g (by omega)
  have m1 := markKVG_run g 1 (by omega) (by omega) (by omega)
  have k1 := heldKVG_run 179 g 1 (by omega) (by omega) (by omega)
  refine RunT.of_vc gOk Try.func9 rfl rfl (Nat.le_of_ble_eq_true rfl) (by repeat' (first | exact trivial | exact ⟨_, rfl, Nat.le_refl _⟩ | exact Nat.le_of_ble_eq_true rfl | refine And.intro ?_ ?_)) (Nat.le_of_ble_eq_true rfl) rfl (fun F hE => ?_)
  repeat' (first | exact trivial | refine BS.d (fun h => ?_) (fun h => ?_) | refine BS.e (fun h => ?_) (fun h => ?_) | refine BS.ne (fun h => ?_) (fun h => ?_) | refine BS.n ?_ | refine BS.s (fun h => ?_) (fun h => ?_) | refine And.intro ?_ ?_ | (refine Need.mk ?_; first | with_reducible rfl | (show @Eq TC _ _; rfl) | omega | (simp only [adN_zero]; omega)) | exact OutS.whole rfl rfl | (refine OpK.call z0 rfl rfl rfl rfl hE ?_ rfl rfl ?_; focus ((repeat' (first | exact PsA.lit _ | exact PsA.ref rfl rfl | constructor)); all_goals (fail "ps"))) | (refine OpK.call c1 rfl rfl rfl rfl hE ?_ rfl rfl ?_; focus ((repeat' (first | exact PsA.lit _ | exact PsA.ref rfl rfl | constructor)); all_goals (fail "ps"))) | (refine OpK.call c2 rfl rfl rfl rfl hE ?_ rfl rfl ?_; focus ((repeat' (first | exact PsA.lit _ | exact PsA.ref rfl rfl | constructor)); all_goals (fail "ps"))) | (refine OpK.call c3 rfl rfl rfl rfl hE ?_ rfl rfl ?_; focus ((repeat' (first | exact PsA.lit _ | exact PsA.ref rfl rfl | constructor)); all_goals (fail "ps"))) | (refine OpK.call c4 rfl rfl rfl rfl hE ?_ rfl rfl ?_; focus ((repeat' (first | exact PsA.lit _ | exact PsA.ref rfl rfl | constructor)); all_goals (fail "ps"))) | (refine OpK.call d1 rfl rfl rfl rfl hE ?_ rfl rfl ?_; focus ((repeat' (first | exact PsA.lit _ | exact PsA.ref rfl rfl | constructor)); all_goals (fail "ps"))) | (refine OpK.call k1 rfl rfl rfl rfl hE ?_ rfl rfl ?_; focus ((repeat' (first | exact PsA.lit _ | exact PsA.ref rfl rfl | exact PsA.ref rfl (mkL_len _ _ _ _).symm | constructor)); all_goals (fail "ps"))) | (refine OpK.callB (bTEv _ _ _ 2003328 xs (mkL zTEv (gTE 1 xs) xs xs.length)) m0 rfl rfl rfl rfl hE (BtOk.sl rfl (mkL_len _ _ _ _)) rfl (QsVs.cons (.one (.h rfl rfl rfl)) (.cons (.one (.c (.lit _) rfl)) .nil)) rfl rfl ?_) | (refine OpK.callB (bKV 2003712 g (mkL zKV (fKV 1) g g.length)) m1 rfl rfl rfl rfl hE (BtOk.sl rfl (mkL_len _ _ _ _)) rfl (QsVs.cons (.one (.h rfl rfl rfl)) (.cons (.one (.c (.lit _) rfl)) .nil)) rfl rfl ?_) | refine ListO.go gOk hE ?_)
  all_goals first | exact Need.mk rfl | exact absurd rfl h | (exfalso; omega) | (refine Need.mk ?_; omega) | (simp_all; done) | trace_state
end Go.Proofs.Ytlnlogflhagocaa
