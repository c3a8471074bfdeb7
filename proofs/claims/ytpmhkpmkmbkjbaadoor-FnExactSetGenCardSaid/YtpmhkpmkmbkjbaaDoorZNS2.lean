import Derived.Test.YtpmhkpmkmbkjbaaDoorZNS1
import Derived.Test.YtpmhkpmkmbkjbaaDoorZR
import Derived.Test.YtpmhkpmkmbkjbaaDoorZK
import Derived.Test.YtpmhkpmkmbkjbaaDoorZC
import Derived.Test.YtpmhkpmkmbkjbaaDoorZM
/- SetGen in both packages. -/
namespace Go.Proofs.YtpmhkpmkmbkjbaaDoor
open Go Go.Tr
set_option maxRecDepth 100000
set_option maxHeartbeats 4000000
set_option linter.unusedVariables false
set_option linter.unusedSimpArgs false
noncomputable def sgB (b c : List Int) (s gen : Int) : Bool := dcB (clA b c s ≠ -1 ∧ 1 ≤ gen ∧ gen ≤ 7)
noncomputable def sgL (b c : List Int) (s gen : Int) : List Int := if sgB b c s gen = true then putL b (genA s (clA b c s)).toNat (fxd 4 gen) 4 else b
theorem sgL_len (b c : List Int) (s gen : Int) : (sgL b c s gen).length = b.length := by
  unfold sgL
  split
  · exact putL_len _ _ _ _
  · rfl
theorem szC_nn (c : Int) : 0 ≤ szC c := by
  rcases cls4 c with ⟨_, h, _⟩ | ⟨_, h, _⟩ | ⟨_, h, _⟩ | ⟨_, h, _⟩ <;> rw [h] <;> omega
theorem fxOk_small {n : Int} (h : 0 ≤ n ∧ n < 4294967296) : fxOk n 4 = true := by
  unfold fxOk
  apply decide_eq_true
  refine ⟨by decide, by decide, h.1, ?_⟩
  show n < 256 ^ (4 : Int).toNat
  have : (256 : Int) ^ (4 : Int).toNat = 4294967296 := by decide
  omega
theorem SetGenI_run (b c : List Int) (s gen : Int) (hb : b.length ≤ 1048576) (hc : c.length ≤ 1048576) : RunH Tryd.prog hT 10 [aHp b c, ti s, ti gen] [] [.agg [tI (sgL b c s gen), tI c], ob (sgB b c s gen)] [] := by
  have c1 := copyHeap_run b c hb hc
  have c2 := ClassAtI_run b c s hb hc
  have c3 := genMaySet_run gen
  by_cases h0 : clA b c s = -1
  · have h1 : sgB b c s gen = false := dcB_false (fun h => h.1 h0)
    have h2 : sgL b c s gen = b := by unfold sgL; rw [h1]; rfl
    rw [h1, h2]
    rw [h0] at c2
    refine RunH.of_vc gOk Tryd.func10 rfl rfl (Nat.le_of_ble_eq_true rfl) (by repeat' (first | exact trivial | exact ⟨_, rfl, Nat.le_refl _⟩ | exact Nat.le_of_ble_eq_true rfl | refine And.intro ?_ ?_)) (Nat.le_of_ble_eq_true rfl) rfl (fun F hE hA => ?_)
    repeat' (first | exact trivial | refine BS.d (fun h => ?_) (fun h => ?_) | refine BS.e (fun h => ?_) (fun h => ?_) | refine BS.ne (fun h => ?_) (fun h => ?_) | refine BS.n ?_ | refine BS.s (fun h => ?_) (fun h => ?_) | refine And.intro ?_ ?_ | (refine Need.mk ?_; first | with_reducible rfl | (show @Eq TC _ _; rfl) | omega | (simp only [adN_zero]; omega)) | exact OutS.whole rfl rfl | (refine OpK.call c1 rfl rfl rfl rfl hE ?_ rfl rfl ?_; focus ((repeat' (first | exact PsA.lit _ | exact PsA.ref rfl rfl | constructor)); all_goals (fail "ps"))) | (refine OpK.callH c2 hA rfl rfl rfl rfl hE ?_ rfl rfl ?_; focus ((repeat' (first | exact PsA.lit _ | exact PsA.ref rfl rfl | constructor)); all_goals (fail "ps"))) | (refine OpK.call c3 rfl rfl rfl rfl hE ?_ rfl rfl ?_; focus ((repeat' (first | exact PsA.lit _ | exact PsA.ref rfl rfl | constructor)); all_goals (fail "ps"))) | refine ListO.go gOk hE ?_)
    all_goals first | exact Need.mk rfl | exact OutS.whole rfl rfl | (exfalso; omega) | trace_state
  · by_cases hg : 1 ≤ gen ∧ gen ≤ 7
    · have h1 : sgB b c s gen = true := dcB_true ⟨h0, hg⟩
      have h2 : sgL b c s gen = putL b (genA s (clA b c s)).toNat (fxd 4 gen) 4 := by unfold sgL; rw [h1]; rfl
      obtain ⟨hsh, hcc, hce⟩ := clA_some h0
      have hcs := clIn_some hcc
      have hsz := szC_nn (clIn c s)
      have hbl := hsh.1
      rw [decide_eq_true hg] at c3
      have c4 := GenAtI_run s (clA b c s)
      rw [hce] at c2 c4 h2
      obtain ⟨q, hq⟩ := Int.eq_ofNat_of_zero_le hcs.2.2.2.2.2.1
      rw [hq] at c4 h2 hcs
      have c5 := putNum_run 3 b q 4 gen (by omega) (by omega) (by omega) (fxOk_small (by omega)) (by omega) (by omega)
      have hpl := putL_len b q (fxd 4 gen) 4
      rw [h1, h2]
      simp only [Int.toNat_natCast]
      generalize clIn c s = cl at *
      generalize putL b q (fxd 4 gen) 4 = nb at *
      refine RunH.of_vc gOk Tryd.func10 rfl rfl (Nat.le_of_ble_eq_true rfl) (by repeat' (first | exact trivial | exact ⟨_, rfl, Nat.le_refl _⟩ | exact Nat.le_of_ble_eq_true rfl | refine And.intro ?_ ?_)) (Nat.le_of_ble_eq_true rfl) rfl (fun F hE hA => ?_)
      repeat' (first | exact trivial | refine BS.d (fun h => ?_) (fun h => ?_) | refine BS.e (fun h => ?_) (fun h => ?_) | refine BS.ne (fun h => ?_) (fun h => ?_) | refine BS.n ?_ | refine BS.s (fun h => ?_) (fun h => ?_) | refine And.intro ?_ ?_ | (refine Need.mk ?_; first | with_reducible rfl | (show @Eq TC _ _; rfl) | omega | (simp only [adN_zero]; omega)) | exact OutS.whole rfl rfl | (refine OpK.call c1 rfl rfl rfl rfl hE ?_ rfl rfl ?_; focus ((repeat' (first | exact PsA.lit _ | exact PsA.ref rfl rfl | constructor)); all_goals (fail "ps"))) | (refine OpK.callH c2 hA rfl rfl rfl rfl hE ?_ rfl rfl ?_; focus ((repeat' (first | exact PsA.lit _ | exact PsA.ref rfl rfl | constructor)); all_goals (fail "ps"))) | (refine OpK.call c3 rfl rfl rfl rfl hE ?_ rfl rfl ?_; focus ((repeat' (first | exact PsA.lit _ | exact PsA.ref rfl rfl | constructor)); all_goals (fail "ps"))) | (refine OpK.callH c4 hA rfl rfl rfl rfl hE ?_ rfl rfl ?_; focus ((repeat' (first | exact PsA.lit _ | exact PsA.ref rfl rfl | constructor)); all_goals (fail "ps"))) | (refine CodeK.draw gOk hE rfl (fun _ _ h => h) (.take 1 (.take 3 (.take 4 (.take 6 (.alt 0 (.alt 2 (.alt 5 (.alt 7 (.alt 8 (.take 9 .done) .stop) .stop) .stop) (.alt 5 (.alt 2 (.alt 7 (.alt 8 (.take 9 .done) .stop) .stop) .stop) .stop)) (.alt 2 (.alt 0 (.alt 5 (.alt 7 (.alt 8 (.take 9 .done) .stop) .stop) .stop) (.alt 5 (.alt 0 (.alt 7 (.alt 8 (.take 9 .done) .stop) .stop) (.alt 7 (.alt 0 (.alt 8 (.take 9 .done) .stop) .stop) .stop)) .stop)) (.alt 5 (.alt 0 (.alt 2 (.alt 7 (.alt 8 (.take 9 .done) .stop) .stop) .stop) (.alt 2 (.alt 0 (.alt 7 (.alt 8 (.take 9 .done) .stop) .stop) (.alt 7 (.alt 0 (.alt 8 (.take 9 .done) .stop) .stop) .stop)) .stop)) .stop))))))) ?_ ?_; focus (decide +kernel)) | (refine OpK.callB (bInt 3 2001408 b nb) c5 rfl rfl rfl rfl hE (BtOk.sl rfl hpl) rfl (QsVs.cons (.one (.h rfl rfl rfl)) (.cons (.one (.c (.lit _) rfl)) (.cons (.one (.c (.lit _) rfl)) (.cons (.one (.c (.lit _) rfl)) .nil)))) rfl rfl ?_) | refine ListO.go gOk hE ?_)
      all_goals first | exact Need.mk rfl | exact OutS.whole rfl rfl | exact OutS.whole hpl.symm rfl | (exfalso; omega) | trace_state
    · have h1 : sgB b c s gen = false := dcB_false (fun h => hg h.2)
      have h2 : sgL b c s gen = b := by unfold sgL; rw [h1]; rfl
      rw [h1, h2]
      rw [decide_eq_false hg] at c3
      generalize clA b c s = cl at *
      refine RunH.of_vc gOk Tryd.func10 rfl rfl (Nat.le_of_ble_eq_true rfl) (by repeat' (first | exact trivial | exact ⟨_, rfl, Nat.le_refl _⟩ | exact Nat.le_of_ble_eq_true rfl | refine And.intro ?_ ?_)) (Nat.le_of_ble_eq_true rfl) rfl (fun F hE hA => ?_)
      repeat' (first | exact trivial | refine BS.d (fun h => ?_) (fun h => ?_) | refine BS.e (fun h => ?_) (fun h => ?_) | refine BS.ne (fun h => ?_) (fun h => ?_) | refine BS.n ?_ | refine BS.s (fun h => ?_) (fun h => ?_) | refine And.intro ?_ ?_ | (refine Need.mk ?_; first | with_reducible rfl | (show @Eq TC _ _; rfl) | omega | (simp only [adN_zero]; omega)) | exact OutS.whole rfl rfl | (refine OpK.call c1 rfl rfl rfl rfl hE ?_ rfl rfl ?_; focus ((repeat' (first | exact PsA.lit _ | exact PsA.ref rfl rfl | constructor)); all_goals (fail "ps"))) | (refine OpK.callH c2 hA rfl rfl rfl rfl hE ?_ rfl rfl ?_; focus ((repeat' (first | exact PsA.lit _ | exact PsA.ref rfl rfl | constructor)); all_goals (fail "ps"))) | (refine OpK.call c3 rfl rfl rfl rfl hE ?_ rfl rfl ?_; focus ((repeat' (first | exact PsA.lit _ | exact PsA.ref rfl rfl | constructor)); all_goals (fail "ps"))) | refine ListO.go gOk hE ?_)
      all_goals first | exact Need.mk rfl | exact OutS.whole rfl rfl | (exfalso; omega) | trace_state
theorem SetGenS_run (b c : List Int) (s gen : Int) (hb : b.length ≤ 1048576) (hc : c.length ≤ 1048576) : RunT Tryd.prog 8 [aHp b c, ti s, ti gen] [] [.agg [tI (sgL b c s gen), tI c], ob (sgB b c s gen)] [] := by
  have c1 := l7Copy_run b c hb hc
  have c2 := ClassAtS_run b c s hb hc
  have c3 := inH_run gen 1 7
  by_cases h0 : clA b c s = -1
  · have h1 : sgB b c s gen = false := dcB_false (fun h => h.1 h0)
    have h2 : sgL b c s gen = b := by unfold sgL; rw [h1]; rfl
    rw [h1, h2]
    rw [h0] at c2
    refine RunT.of_vc gOk Tryd.func8 rfl rfl (Nat.le_of_ble_eq_true rfl) (by repeat' (first | exact trivial | exact ⟨_, rfl, Nat.le_refl _⟩ | exact Nat.le_of_ble_eq_true rfl | refine And.intro ?_ ?_)) (Nat.le_of_ble_eq_true rfl) rfl (fun F hE => ?_)
    repeat' (first | exact trivial | refine BS.d (fun h => ?_) (fun h => ?_) | refine BS.e (fun h => ?_) (fun h => ?_) | refine BS.ne (fun h => ?_) (fun h => ?_) | refine BS.n ?_ | refine BS.s (fun h => ?_) (fun h => ?_) | refine And.intro ?_ ?_ | (refine Need.mk ?_; first | with_reducible rfl | (show @Eq TC _ _; rfl) | omega | (simp only [adN_zero]; omega)) | exact OutS.whole rfl rfl | (refine OpK.call c1 rfl rfl rfl rfl hE ?_ rfl rfl ?_; focus ((repeat' (first | exact PsA.lit _ | exact PsA.ref rfl rfl | constructor)); all_goals (fail "ps"))) | (refine OpK.call c2 rfl rfl rfl rfl hE ?_ rfl rfl ?_; focus ((repeat' (first | exact PsA.lit _ | exact PsA.ref rfl rfl | constructor)); all_goals (fail "ps"))) | (refine OpK.call c3 rfl rfl rfl rfl hE ?_ rfl rfl ?_; focus ((repeat' (first | exact PsA.lit _ | exact PsA.ref rfl rfl | constructor)); all_goals (fail "ps"))) | refine ListO.go gOk hE ?_)
    all_goals first | exact Need.mk rfl | exact OutS.whole rfl rfl | (exfalso; omega) | trace_state
  · obtain ⟨hsh, hcc, hce⟩ := clA_some h0
    have hcs := clIn_some hcc
    have hsz := szC_nn (clIn c s)
    have hbl := hsh.1
    rw [hce] at c2
    by_cases hg : 1 ≤ gen ∧ gen ≤ 7
    · have h1 : sgB b c s gen = true := dcB_true ⟨h0, hg⟩
      have h2 : sgL b c s gen = putL b (genA s (clA b c s)).toNat (fxd 4 gen) 4 := by unfold sgL; rw [h1]; rfl
      rw [decide_eq_true hg] at c3
      have c4 := GenAtS_run s (clIn c s)
      have c6 := l7Class_run b c s hsh.2.1
      rw [hce] at h2
      obtain ⟨q, hq⟩ := Int.eq_ofNat_of_zero_le hcs.2.2.2.2.2.1
      rw [hq] at c4 h2 hcs
      have c5 := l3Store_run b q 4 gen (by omega) (by omega) (by omega) (by omega) (by omega)
      have hpl := putL_len b q (fxd 4 gen) 4
      rw [h1, h2]
      simp only [Int.toNat_natCast]
      generalize clIn c s = cl at *
      generalize putL b q (fxd 4 gen) 4 = nb at *
      refine RunT.of_vc gOk Tryd.func8 rfl rfl (Nat.le_of_ble_eq_true rfl) (by repeat' (first | exact trivial | exact ⟨_, rfl, Nat.le_refl _⟩ | exact Nat.le_of_ble_eq_true rfl | refine And.intro ?_ ?_)) (Nat.le_of_ble_eq_true rfl) rfl (fun F hE => ?_)
      repeat' (first | exact trivial | refine BS.d (fun h => ?_) (fun h => ?_) | refine BS.e (fun h => ?_) (fun h => ?_) | refine BS.ne (fun h => ?_) (fun h => ?_) | refine BS.n ?_ | refine BS.s (fun h => ?_) (fun h => ?_) | refine And.intro ?_ ?_ | (refine Need.mk ?_; first | with_reducible rfl | (show @Eq TC _ _; rfl) | omega | (simp only [adN_zero]; omega)) | exact OutS.whole rfl rfl | (refine OpK.call c1 rfl rfl rfl rfl hE ?_ rfl rfl ?_; focus ((repeat' (first | exact PsA.lit _ | exact PsA.ref rfl rfl | constructor)); all_goals (fail "ps"))) | (refine OpK.call c2 rfl rfl rfl rfl hE ?_ rfl rfl ?_; focus ((repeat' (first | exact PsA.lit _ | exact PsA.ref rfl rfl | constructor)); all_goals (fail "ps"))) | (refine OpK.call c3 rfl rfl rfl rfl hE ?_ rfl rfl ?_; focus ((repeat' (first | exact PsA.lit _ | exact PsA.ref rfl rfl | constructor)); all_goals (fail "ps"))) | (refine OpK.call c4 rfl rfl rfl rfl hE ?_ rfl rfl ?_; focus ((repeat' (first | exact PsA.lit _ | exact PsA.ref rfl rfl | constructor)); all_goals (fail "ps"))) | (refine OpK.call c6 rfl rfl rfl rfl hE ?_ rfl rfl ?_; focus ((repeat' (first | exact PsA.lit _ | exact PsA.ref rfl rfl | constructor)); all_goals (fail "ps"))) | (refine CodeK.draw gOk hE rfl (fun _ _ h => h) (.take 0 (.take 2 (.take 4 (.take 7 (.alt 1 (.alt 3 (.alt 5 (.alt 6 (.alt 8 (.take 9 (.alt 10 .done .stop)) .stop) .stop) .stop) .stop) (.alt 3 (.alt 1 (.alt 5 (.alt 6 (.alt 8 (.take 9 (.alt 10 .done .stop)) .stop) .stop) .stop) (.alt 5 (.alt 1 (.alt 6 (.alt 8 (.take 9 (.alt 10 .done .stop)) .stop) .stop) (.alt 6 (.alt 1 (.alt 8 (.take 9 (.alt 10 .done .stop)) .stop) .stop) .stop)) .stop)) .stop)))))) ?_ ?_; focus (decide +kernel)) | (refine OpK.callM 2001280 0 0 c5 rfl rfl rfl rfl hE rfl (QsVs.cons (.one (.m rfl rfl (.whole rfl rfl))) (.cons (.one (.c (.lit _) rfl)) (.cons (.one (.c (.lit _) rfl)) (.cons (.one (.c (.lit _) rfl)) .nil)))) rfl rfl ?_) | refine ListO.go gOk hE ?_)
      all_goals first | exact Need.mk rfl | exact OutS.whole rfl rfl | exact OutS.whole hpl.symm rfl | (exfalso; omega) | trace_state
    · have h1 : sgB b c s gen = false := dcB_false (fun h => hg h.2)
      have h2 : sgL b c s gen = b := by unfold sgL; rw [h1]; rfl
      rw [h1, h2]
      rw [decide_eq_false hg] at c3
      generalize clIn c s = cl at *
      refine RunT.of_vc gOk Tryd.func8 rfl rfl (Nat.le_of_ble_eq_true rfl) (by repeat' (first | exact trivial | exact ⟨_, rfl, Nat.le_refl _⟩ | exact Nat.le_of_ble_eq_true rfl | refine And.intro ?_ ?_)) (Nat.le_of_ble_eq_true rfl) rfl (fun F hE => ?_)
      repeat' (first | exact trivial | refine BS.d (fun h => ?_) (fun h => ?_) | refine BS.e (fun h => ?_) (fun h => ?_) | refine BS.ne (fun h => ?_) (fun h => ?_) | refine BS.n ?_ | refine BS.s (fun h => ?_) (fun h => ?_) | refine And.intro ?_ ?_ | (refine Need.mk ?_; first | with_reducible rfl | (show @Eq TC _ _; rfl) | omega | (simp only [adN_zero]; omega)) | exact OutS.whole rfl rfl | (refine OpK.call c1 rfl rfl rfl rfl hE ?_ rfl rfl ?_; focus ((repeat' (first | exact PsA.lit _ | exact PsA.ref rfl rfl | constructor)); all_goals (fail "ps"))) | (refine OpK.call c2 rfl rfl rfl rfl hE ?_ rfl rfl ?_; focus ((repeat' (first | exact PsA.lit _ | exact PsA.ref rfl rfl | constructor)); all_goals (fail "ps"))) | (refine OpK.call c3 rfl rfl rfl rfl hE ?_ rfl rfl ?_; focus ((repeat' (first | exact PsA.lit _ | exact PsA.ref rfl rfl | constructor)); all_goals (fail "ps"))) | refine ListO.go gOk hE ?_)
      all_goals first | exact Need.mk rfl | exact OutS.whole rfl rfl | (exfalso; omega) | trace_state
end Go.Proofs.YtpmhkpmkmbkjbaaDoor
