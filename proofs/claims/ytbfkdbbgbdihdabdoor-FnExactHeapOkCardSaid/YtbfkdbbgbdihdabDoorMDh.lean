import Derived.Test.YtbfkdbbgbdihdabDoorMCi
namespace Go.Proofs.YtbfkdbbgbdihdabDoor
open Go Go.Tr
set_option maxRecDepth 100000
set_option maxHeartbeats 4000000
set_option linter.unusedVariables false
set_option linter.unusedSimpArgs false
abbrev aHp (b c : List Int) : TAg := .agg [.c (tI b), .c (tI c)]
def szH (b c : List Int) (m : Int) : Int := if szI b m < 0 then -1 else szI c (szI b m)
theorem szH_le (b c : List Int) (m : Int) (h : 0 ≤ m) : szH b c m ≤ m ∧ -1 ≤ szH b c m ∧ (0 ≤ szH b c m → b.length ≤ m ∧ c.length ≤ m) := by
  unfold szH
  have h1 := szI_le b m h
  split
  · omega
  · have h2 := szI_le c (szI b m) (by omega)
    omega
theorem szHeap_run (b c : List Int) (m : Int) (h0 : 0 ≤ m) (h1 : m ≤ 1048576) (hb : b.length ≤ 9223372036854775807) (hc : c.length ≤ 9223372036854775807) : RunT Tryd.prog 4 [aHp b c, ti m] [] [oi (szH b c m)] [] := by
  have q1 := szI_le b m h0
  have c1 := szIntS_run b m h0 h1 hb
  refine RunT.of_vc gOk Tryd.func4 rfl rfl (Nat.le_of_ble_eq_true rfl) (by repeat' (first | exact trivial | exact ⟨_, rfl, Nat.le_refl _⟩ | exact Nat.le_of_ble_eq_true rfl | refine And.intro ?_ ?_)) (Nat.le_of_ble_eq_true rfl) rfl (fun F hE => ?_)
  repeat' (first | exact trivial | refine BS.d (fun h => ?_) (fun h => ?_) | refine BS.e (fun h => ?_) (fun h => ?_) | refine BS.ne (fun h => ?_) (fun h => ?_) | refine BS.n ?_ | refine BS.s (fun h => ?_) (fun h => ?_) | refine And.intro ?_ ?_ | (refine Need.mk ?_; first | with_reducible rfl | (show @Eq TC _ _; rfl) | omega | (simp only [adN_zero]; omega)) | exact OutS.whole rfl rfl | (refine OpK.call c1 rfl rfl rfl rfl hE ?_ rfl rfl ?_; focus ((repeat' (first | exact PsA.lit _ | exact PsA.ref rfl rfl | constructor)); all_goals (fail "ps"))) | refine ListO.go gOk hE ?_)
  all_goals first | (refine Need.mk ?_; unfold szH; rw [if_pos (by assumption)]) | skip
  all_goals have c2 := szIntS_run c (szI b m) (by omega) (by omega) hc
  all_goals (repeat' (first | exact trivial | refine BS.d (fun h => ?_) (fun h => ?_) | refine BS.e (fun h => ?_) (fun h => ?_) | refine BS.ne (fun h => ?_) (fun h => ?_) | refine BS.n ?_ | refine BS.s (fun h => ?_) (fun h => ?_) | refine And.intro ?_ ?_ | (refine Need.mk ?_; first | with_reducible rfl | (show @Eq TC _ _; rfl) | omega | (simp only [adN_zero]; omega)) | exact OutS.whole rfl rfl | (refine OpK.call c2 rfl rfl rfl rfl hE ?_ rfl rfl ?_; focus ((repeat' (first | exact PsA.lit _ | exact PsA.ref rfl rfl | constructor)); all_goals (fail "ps"))) | refine ListO.go gOk hE ?_))
  all_goals (refine Need.mk ?_; unfold szH; rw [if_neg (by assumption)])
  all_goals (have q2 := szI_le c (szI b m) (by omega); omega)
theorem toHeap_run (b c : List Int) (hb : b.length ≤ 1048576) (hc : c.length ≤ 1048576) : RunT Tryd.prog 6 [aHp b c] [] [.agg [tI b, tI c]] [] := by
  have c1 := toIntS_run b hb
  have c2 := toIntS_run c hc
  refine RunT.of_vc gOk Tryd.func6 rfl rfl (Nat.le_of_ble_eq_true rfl) (by repeat' (first | exact trivial | exact ⟨_, rfl, Nat.le_refl _⟩ | exact Nat.le_of_ble_eq_true rfl | refine And.intro ?_ ?_)) (Nat.le_of_ble_eq_true rfl) rfl (fun F hE => ?_)
  repeat' (first | exact trivial | refine BS.d (fun h => ?_) (fun h => ?_) | refine BS.e (fun h => ?_) (fun h => ?_) | refine BS.ne (fun h => ?_) (fun h => ?_) | refine BS.n ?_ | refine BS.s (fun h => ?_) (fun h => ?_) | refine And.intro ?_ ?_ | (refine Need.mk ?_; first | with_reducible rfl | (show @Eq TC _ _; rfl) | omega | (simp only [adN_zero]; omega)) | exact OutS.whole rfl rfl | (refine OpK.call c1 rfl rfl rfl rfl hE ?_ rfl rfl ?_; focus ((repeat' (first | exact PsA.lit _ | exact PsA.ref rfl rfl | constructor)); all_goals (fail "ps"))) | (refine OpK.call c2 rfl rfl rfl rfl hE ?_ rfl rfl ?_; focus ((repeat' (first | exact PsA.lit _ | exact PsA.ref rfl rfl | constructor)); all_goals (fail "ps"))) | refine ListO.go gOk hE ?_)
theorem eqHeap_run (b c : List Int) (hb : b.length ≤ 4000000) (hc : c.length ≤ 4000000) : RunT Tryd.prog 8 [aHp b c, aHp b c] [] [ob true] [] := by
  have c1 := eqIntS_run b hb
  have c2 := eqIntS_run c hc
  refine RunT.of_vc gOk Tryd.func8 rfl rfl (Nat.le_of_ble_eq_true rfl) (by repeat' (first | exact trivial | exact ⟨_, rfl, Nat.le_refl _⟩ | exact Nat.le_of_ble_eq_true rfl | refine And.intro ?_ ?_)) (Nat.le_of_ble_eq_true rfl) rfl (fun F hE => ?_)
  repeat' (first | exact trivial | refine BS.d (fun h => ?_) (fun h => ?_) | refine BS.e (fun h => ?_) (fun h => ?_) | refine BS.ne (fun h => ?_) (fun h => ?_) | refine BS.n ?_ | refine BS.s (fun h => ?_) (fun h => ?_) | refine And.intro ?_ ?_ | (refine Need.mk ?_; first | with_reducible rfl | (show @Eq TC _ _; rfl) | omega | (simp only [adN_zero]; omega)) | exact OutS.whole rfl rfl | (refine OpK.call c1 rfl rfl rfl rfl hE ?_ rfl rfl ?_; focus ((repeat' (first | exact PsA.lit _ | exact PsA.ref rfl rfl | constructor)); all_goals (fail "ps"))) | (refine OpK.call c2 rfl rfl rfl rfl hE ?_ rfl rfl ?_; focus ((repeat' (first | exact PsA.lit _ | exact PsA.ref rfl rfl | constructor)); all_goals (fail "ps"))) | refine ListO.go gOk hE ?_)
end Go.Proofs.YtbfkdbbgbdihdabDoor
