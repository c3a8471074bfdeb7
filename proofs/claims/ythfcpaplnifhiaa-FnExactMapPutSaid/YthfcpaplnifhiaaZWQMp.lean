import Derived.Test.YthfcpaplnifhiaaZJA
/- The law MapPut. -/
namespace Go.Proofs.Ythfcpaplnifhiaa
open Go Go.Tr
set_option maxRecDepth 100000
set_option maxHeartbeats 40000000
set_option linter.unusedVariables false
set_option linter.unusedSimpArgs false
theorem MapPut_law (xs : List KVT) (b : Int) (v : Int) (hnxs : xs.length ≤ 9223372036854775807) : RunT Try.prog 3 [.one (.c (tKV 0 xs)), ti b, ti v] [] [ob true] [] := by
  have z0 := szKVS_run 0 xs (1048576) (by omega) (by omega) hnxs
  by_cases hz0 : szI xs (1048576) < 0
  · generalize szI xs (1048576) = zz0 at *
    refine RunT.of_vc gOk Try.func3 rfl rfl (Nat.le_of_ble_eq_true rfl) (by repeat' (first | exact trivial | exact ⟨_, rfl, Nat.le_refl _⟩ | exact Nat.le_of_ble_eq_true rfl | refine And.intro ?_ ?_)) (Nat.le_of_ble_eq_true rfl) rfl (fun F hE => ?_)
    repeat' (first | exact trivial | refine BS.d (fun h => ?_) (fun h => ?_) | refine BS.e (fun h => ?_) (fun h => ?_) | refine BS.ne (fun h => ?_) (fun h => ?_) | refine BS.n ?_ | refine BS.s (fun h => ?_) (fun h => ?_) | refine And.intro ?_ ?_ | (refine Need.mk ?_; first | with_reducible rfl | (show @Eq TC _ _; rfl) | omega | (simp only [adN_zero]; omega)) | exact OutS.whole rfl rfl | (refine OpK.call z0 rfl rfl rfl rfl hE ?_ rfl rfl ?_; focus ((repeat' (first | exact PsA.lit _ | exact PsA.ref rfl rfl | constructor)); all_goals (fail "ps"))) | refine ListO.go gOk hE ?_)
    all_goals first | exact Need.mk rfl | (exfalso; omega) | trace_state
  have b0 := szI_le (xs := xs) (m := 1048576) (by omega)
  have hm0 : xs.length ≤ 1048576 := by omega
  generalize szI xs (1048576) = zz0 at *
  have t0 := toKVS_run 0 xs (by omega)
  have d0 := eqKVS_run 120 xs (by omega)
  have e1 := MapPutS_run 120 xs b v (by omega)
  have e2 := MapPutI_run 120 xs b v hm0
  have hg0 : (mput xs b v).length ≤ 2097152 := Nat.le_trans (mput_le xs b v) (by omega)
  generalize mput xs b v = g0 at *
  have m0 := markKVG_run xs (1) (by omega) (by omega) (by omega)
  have n0 := markKVG_run g0 (1) (by omega) (by omega) (by omega)
  have k0 := heldKVG_run 120 g0 (1) (by omega) (by omega) (by omega)
  have q0 := eqKVS_run 120 g0 (by omega)
  refine RunT.of_vc gOk Try.func3 rfl rfl (Nat.le_of_ble_eq_true rfl) (by repeat' (first | exact trivial | exact ⟨_, rfl, Nat.le_refl _⟩ | exact Nat.le_of_ble_eq_true rfl | refine And.intro ?_ ?_)) (Nat.le_of_ble_eq_true rfl) rfl (fun F hE => ?_)
  repeat' (first | exact trivial | refine BS.d (fun h => ?_) (fun h => ?_) | refine BS.e (fun h => ?_) (fun h => ?_) | refine BS.ne (fun h => ?_) (fun h => ?_) | refine BS.n ?_ | refine BS.s (fun h => ?_) (fun h => ?_) | refine And.intro ?_ ?_ | (refine Need.mk ?_; first | with_reducible rfl | (show @Eq TC _ _; rfl) | omega | (simp only [adN_zero]; omega)) | exact OutS.whole rfl rfl | (refine OpK.call z0 rfl rfl rfl rfl hE ?_ rfl rfl ?_; focus ((repeat' (first | exact PsA.lit _ | exact PsA.ref rfl rfl | constructor)); all_goals (fail "ps"))) | (refine OpK.call t0 rfl rfl rfl rfl hE ?_ rfl rfl ?_; focus ((repeat' (first | exact PsA.lit _ | exact PsA.ref rfl rfl | constructor)); all_goals (fail "ps"))) | (refine OpK.call d0 rfl rfl rfl rfl hE ?_ rfl rfl ?_; focus ((repeat' (first | exact PsA.lit _ | exact PsA.ref rfl rfl | constructor)); all_goals (fail "ps"))) | (refine OpK.call e1 rfl rfl rfl rfl hE ?_ rfl rfl ?_; focus ((repeat' (first | exact PsA.lit _ | exact PsA.ref rfl rfl | constructor)); all_goals (fail "ps"))) | (refine OpK.call e2 rfl rfl rfl rfl hE ?_ rfl rfl ?_; focus ((repeat' (first | exact PsA.lit _ | exact PsA.ref rfl rfl | constructor)); all_goals (fail "ps"))) | (refine OpK.callB (bKV 2003328 xs (mkL zKV (fKV (1)) xs xs.length)) m0 rfl rfl rfl rfl hE (BtOk.sl rfl (mkL_len _ _ _ _)) rfl (QsVs.cons (.one (.h rfl rfl rfl)) (.cons (.one (.c (.lit _) rfl)) .nil)) rfl rfl ?_) | (refine OpK.call q0 rfl rfl rfl rfl hE ?_ rfl rfl ?_; focus ((repeat' (first | exact PsA.lit _ | exact PsA.ref rfl rfl | constructor)); all_goals (fail "ps"))) | (refine OpK.call k0 rfl rfl rfl rfl hE ?_ rfl rfl ?_; focus ((repeat' (first | exact PsA.lit _ | exact PsA.ref rfl rfl | exact PsA.ref rfl (mkL_len _ _ _ _).symm | constructor)); all_goals (fail "ps"))) | (refine OpK.callB (bKV 2003840 g0 (mkL zKV (fKV (1)) g0 g0.length)) n0 rfl rfl rfl rfl hE (BtOk.sl rfl (mkL_len _ _ _ _)) rfl (QsVs.cons (.one (.h rfl rfl rfl)) (.cons (.one (.c (.lit _) rfl)) .nil)) rfl rfl ?_) | refine ListO.go gOk hE ?_)
  all_goals first | exact Need.mk rfl | exact absurd rfl h | (exfalso; omega) | (refine Need.mk ?_; omega) | (simp_all; done) | trace_state
end Go.Proofs.Ythfcpaplnifhiaa
