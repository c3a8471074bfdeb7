import Derived.Test.YtkafibaoikmccabWSr
namespace Go.Proofs.Ytkafibaoikmccab
open Go Go.Tr
set_option maxRecDepth 100000
set_option linter.unusedVariables false
set_option linter.unusedSimpArgs false
abbrev bSeen (κ : Nat) (xs xs' : List SeenT) : Bt := ⟨κ, 0, true, .sl 73 2 SeenT encSeen decSeen zSeen xs, .sl 73 2 SeenT encSeen decSeen zSeen xs', .ty .own true 73 2 SeenT encSeen decSeen zSeen xs'⟩
set_option maxHeartbeats 4000000 in
theorem SeenPut_law (xs : List SeenT) (b v : Int) (hnxs : xs.length ≤ 9223372036854775807) : RunT Try.prog 7 [.one (.c (tSeen 0 xs)), ti b, ti v] [] [ob true] [] := by
  refine RunT.of_vc gOk Try.func7 rfl rfl (Nat.le_of_ble_eq_true rfl) (by repeat' (first | exact trivial | exact ⟨_, rfl, Nat.le_refl _⟩ | exact Nat.le_of_ble_eq_true rfl | refine And.intro ?_ ?_)) (Nat.le_of_ble_eq_true rfl) rfl (fun F hE => ?_)
  repeat' (first | exact trivial | refine BS.d (fun h => ?_) (fun h => ?_) | refine BS.e (fun h => ?_) (fun h => ?_) | refine BS.ne (fun h => ?_) (fun h => ?_) | refine BS.n ?_ | refine BS.s (fun h => ?_) (fun h => ?_) | refine And.intro ?_ ?_ | (refine Need.mk ?_; first | with_reducible rfl | (show @Eq TC _ _; rfl) | omega | (simp only [adN_zero]; omega)) | exact OutS.whole rfl rfl)
  refine OpK.call (szSeenS_run 0 xs (1048576) (by omega) (by omega) hnxs) rfl rfl rfl rfl hE (by repeat' (first | exact PsA.lit _ | exact PsA.ref rfl rfl | constructor)) rfl rfl ?_
  repeat' (first | exact trivial | refine BS.d (fun h => ?_) (fun h => ?_) | refine BS.e (fun h => ?_) (fun h => ?_) | refine BS.ne (fun h => ?_) (fun h => ?_) | refine BS.n ?_ | refine BS.s (fun h => ?_) (fun h => ?_) | refine And.intro ?_ ?_ | (refine Need.mk ?_; first | with_reducible rfl | (show @Eq TC _ _; rfl) | omega | (simp only [adN_zero]; omega)) | exact OutS.whole rfl rfl)
  have b0 := szI_le (xs := xs) (m := 1048576) (by omega)
  have hm : xs.length ≤ 1048576 := by omega
  obtain ⟨g, hg⟩ : ∃ g, (spt xs b v).1 = g := ⟨_, rfl⟩
  have hgl : g.length ≤ 1048577 := by
    rw [← hg]; unfold spt
    cases firstP (ps xs b) 0 xs.length with
    | none => show (xs ++ [(b, v)]).length ≤ _; simp; omega
    | some j => show xs.length ≤ _; omega
  have c0 := toSeenS_run 0 xs hm
  have d0 := eqSeenS_run 73 xs (by omega)
  have d1 := eqSeenS_run 73 g (by omega)
  have e1 := SeenPutS_run 73 xs b v hm
  have e2 := SeenPutI_run 73 xs b v hm
  rw [hg] at e1 e2
  have m0 := markSeenS_run xs 1 (by omega) (by omega) (by omega)
  have m1 := markSeenS_run g 1 (by omega) (by omega) (by omega)
  have k1 := heldSeenS_run 73 g 1 (by omega) (by omega) (by omega)
  repeat' (first | exact trivial | refine BS.d (fun h => ?_) (fun h => ?_) | refine BS.e (fun h => ?_) (fun h => ?_) | refine BS.ne (fun h => ?_) (fun h => ?_) | refine BS.n ?_ | refine BS.s (fun h => ?_) (fun h => ?_) | refine And.intro ?_ ?_ | (refine Need.mk ?_; first | with_reducible rfl | (show @Eq TC _ _; rfl) | omega | (simp only [adN_zero]; omega)) | exact OutS.whole rfl rfl | (refine OpK.call c0 rfl rfl rfl rfl hE ?_ rfl rfl ?_; focus ((repeat' (first | exact PsA.lit _ | exact PsA.ref rfl rfl | constructor)); all_goals (fail "ps"))) | (refine OpK.call d0 rfl rfl rfl rfl hE ?_ rfl rfl ?_; focus ((repeat' (first | exact PsA.lit _ | exact PsA.ref rfl rfl | constructor)); all_goals (fail "ps"))) | (refine OpK.call d1 rfl rfl rfl rfl hE ?_ rfl rfl ?_; focus ((repeat' (first | exact PsA.lit _ | exact PsA.ref rfl rfl | constructor)); all_goals (fail "ps"))) | (refine OpK.call e1 rfl rfl rfl rfl hE ?_ rfl rfl ?_; focus ((repeat' (first | exact PsA.lit _ | exact PsA.ref rfl rfl | constructor)); all_goals (fail "ps"))) | (refine OpK.call e2 rfl rfl rfl rfl hE ?_ rfl rfl ?_; focus ((repeat' (first | exact PsA.lit _ | exact PsA.ref rfl rfl | constructor)); all_goals (fail "ps"))) | (refine OpK.call k1 rfl rfl rfl rfl hE ?_ rfl rfl ?_; focus ((repeat' (first | exact PsA.lit _ | exact PsA.ref rfl rfl | exact PsA.ref rfl (mkL_len _ _ _ _).symm | constructor)); all_goals (fail "ps"))) | (refine OpK.callB (bSeen 2004096 xs (mkL zSeen (fS2 1) xs xs.length)) m0 rfl rfl rfl rfl hE (BtOk.sl rfl (mkL_len _ _ _ _)) rfl (QsVs.cons (.one (.h rfl rfl rfl)) (.cons (.one (.c (.lit _) rfl)) .nil)) rfl rfl ?_) | (refine OpK.callB (bSeen 2004736 g (mkL zSeen (fS2 1) g g.length)) m1 rfl rfl rfl rfl hE (BtOk.sl rfl (mkL_len _ _ _ _)) rfl (QsVs.cons (.one (.h rfl rfl rfl)) (.cons (.one (.c (.lit _) rfl)) .nil)) rfl rfl ?_))
  all_goals first | exact absurd rfl h | (exfalso; omega) | trace_state
end Go.Proofs.Ytkafibaoikmccab
