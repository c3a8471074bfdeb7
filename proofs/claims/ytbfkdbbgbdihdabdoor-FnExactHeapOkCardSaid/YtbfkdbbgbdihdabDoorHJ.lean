import Derived.Test.YtbfkdbbgbdihdabDoorHI
namespace Go.Proofs.YtbfkdbbgbdihdabDoor
open Go Go.Tr
set_option maxRecDepth 100000
set_option maxHeartbeats 4000000
set_option linter.unusedVariables false
set_option linter.unusedSimpArgs false
theorem HeapOkI_run (b c : List Int) (hb : b.length ≤ 1048576) (hc : c.length ≤ 1048576) : RunH Tryd.prog hT 7 [aH2 b c] [] [ob (dcB (hpP b c))] [] := by
  have c1 := shapeOk_run b c hb hc
  by_cases hsh : shP b c
  · rw [decide_eq_true hsh] at c1
    have hl := hsh.1
    have hlc := hsh.2.1
    refine RunH.of_vc gOk Tryd.func7 rfl rfl (Nat.le_of_ble_eq_true rfl) (by repeat' (first | exact trivial | exact ⟨_, rfl, Nat.le_refl _⟩ | exact Nat.le_of_ble_eq_true rfl | refine And.intro ?_ ?_)) (Nat.le_of_ble_eq_true rfl) rfl (fun F hE hA => ?_)
    repeat' (first | exact trivial | refine BS.d (fun h => ?_) (fun h => ?_) | refine BS.e (fun h => ?_) (fun h => ?_) | refine BS.ne (fun h => ?_) (fun h => ?_) | refine BS.n ?_ | refine BS.s (fun h => ?_) (fun h => ?_) | refine And.intro ?_ ?_ | (refine Need.mk ?_; first | with_reducible rfl | (show @Eq TC _ _; rfl) | omega | (simp only [adN_zero]; omega)) | exact OutS.whole rfl rfl | (refine OpK.call c1 rfl rfl rfl rfl hE ?_ rfl rfl ?_; focus ((repeat' (first | exact PsA.lit _ | exact PsA.ref rfl rfl | constructor)); all_goals (fail "ps"))) | refine ListO.go gOk hE ?_)
    refine CodeK.loop gOk hE (fun i : Nat => ⟨[(1, .ptr 1 0 0), (10, vr 1000001 c.length), (11, vi c.length), (12, vi i)], [(1, bH b c), (1000000, rI .fro false b), (1000001, rI .fro false c)]⟩) (fun i => i ≤ 6 ∧ ∀ j, j < i → pgP b c j) (fun i => 6 - i) 0 (by refine leT.of ?_ ?_ rfl <;> repeat' (first | exact trivial | refine And.intro rfl ?_ | refine And.intro (by simp) ?_)) ⟨Nat.zero_le _, fun j hj => absurd hj (Nat.not_lt_zero _)⟩ ?_
    rintro i ⟨hi, hq⟩
    by_cases hi2 : i < 6
    · have hcp := hsh.2.2.2 i hi2
      unfold clP at hcp
      have a0 : adN 0 ((i : Int) * 64) = i * 64 := by rw [adN_eq]; omega
      have a1 : (((i : Int) + 1) * 64).toNat - ((i : Int) * 64).toNat = 64 := by omega
      have cz := allZero_run ((b.drop (i * 64)).take 64) (by simp; omega)
      have ch := pageHead_run (c.getD i 0)
      have cg := gensOk_run b c i hi2 hsh
      have hrun := hd_run b i (c.getD i 0)
      by_cases hk : c.getD i 0 = -1
      · have hq0 : pgP b c i = zrP b (i * 64) 64 := if_pos (by omega)
        have hzi := zero_seg (b := b) hi2 hl
        by_cases hz : zrP b (i * 64) 64
        · rw [decide_eq_true (hzi.2 hz)] at cz
          repeat' (first | exact trivial | refine BS.d (fun h => ?_) (fun h => ?_) | refine BS.e (fun h => ?_) (fun h => ?_) | refine BS.ne (fun h => ?_) (fun h => ?_) | refine BS.n ?_ | refine BS.s (fun h => ?_) (fun h => ?_) | refine And.intro ?_ ?_ | (refine Need.mk ?_; first | with_reducible rfl | (show @Eq TC _ _; rfl) | omega | (simp only [adN_zero]; omega)) | exact OutS.whole rfl rfl | refine ListO.go gOk hE ?_)
          all_goals (try simp only [adN_zero] at *)
          all_goals first | (exfalso; omega) | (refine Need.mk ?_; omega) | skip
          all_goals rw [a0, a1]
          all_goals (repeat' (first | exact trivial | refine BS.d (fun h => ?_) (fun h => ?_) | refine BS.e (fun h => ?_) (fun h => ?_) | refine BS.ne (fun h => ?_) (fun h => ?_) | refine BS.n ?_ | refine BS.s (fun h => ?_) (fun h => ?_) | refine And.intro ?_ ?_ | (refine Need.mk ?_; first | with_reducible rfl | (show @Eq TC _ _; rfl) | omega | (simp only [adN_zero]; omega)) | exact OutS.whole rfl rfl | (refine OpK.call cz rfl rfl rfl rfl hE ?_ rfl rfl ?_; focus (exact PsVs.cons (.one (.seg rfl (by omega) rfl)) .nil)) | (refine CodeK.draw gOk hE rfl (fun _ _ h => h) (.take 0 (.take 1 (.take 2 (.take 3 (.take 6 (.alt 4 (.alt 5 (.alt 7 (.take 8 (.take 9 (.take 11 (.alt 10 (.alt 12 (.take 13 (.take 14 (.take 15 .done))) .stop) .stop)))) .stop) (.alt 7 (.alt 5 (.take 8 (.take 9 (.take 11 (.alt 10 (.alt 12 (.take 13 (.take 14 (.take 15 .done))) .stop) .stop)))) .stop) .stop)) (.alt 7 (.alt 4 (.alt 5 (.take 8 (.take 9 (.take 11 (.alt 10 (.alt 12 (.take 13 (.take 14 (.take 15 .done))) .stop) .stop)))) .stop) .stop) .stop))))))) ?_ ?_; focus (decide +kernel)) | refine ListO.go gOk hE ?_))
          all_goals (try simp only [adN_zero] at *)
          all_goals first
            | (exfalso; omega)
            | (refine ⟨i + 1, (by refine leT.of ?_ ?_ rfl <;> repeat' (first | exact trivial | refine And.intro rfl ?_ | refine And.intro (by simp) ?_)), ⟨by omega, fun j hj => (Nat.lt_or_ge j i).elim (hq j) (fun h9 => (show j = i by omega) ▸ (hq0 ▸ hz))⟩, by first | omega | (dsimp only; omega)⟩)
            | trace_state
        · rw [decide_eq_false (fun h => hz (hzi.1 h))] at cz
          repeat' (first | exact trivial | refine BS.d (fun h => ?_) (fun h => ?_) | refine BS.e (fun h => ?_) (fun h => ?_) | refine BS.ne (fun h => ?_) (fun h => ?_) | refine BS.n ?_ | refine BS.s (fun h => ?_) (fun h => ?_) | refine And.intro ?_ ?_ | (refine Need.mk ?_; first | with_reducible rfl | (show @Eq TC _ _; rfl) | omega | (simp only [adN_zero]; omega)) | exact OutS.whole rfl rfl | refine ListO.go gOk hE ?_)
          all_goals (try simp only [adN_zero] at *)
          all_goals first | (exfalso; omega) | (refine Need.mk ?_; omega) | skip
          all_goals rw [a0, a1]
          all_goals (repeat' (first | exact trivial | refine BS.d (fun h => ?_) (fun h => ?_) | refine BS.e (fun h => ?_) (fun h => ?_) | refine BS.ne (fun h => ?_) (fun h => ?_) | refine BS.n ?_ | refine BS.s (fun h => ?_) (fun h => ?_) | refine And.intro ?_ ?_ | (refine Need.mk ?_; first | with_reducible rfl | (show @Eq TC _ _; rfl) | omega | (simp only [adN_zero]; omega)) | exact OutS.whole rfl rfl | (refine OpK.call cz rfl rfl rfl rfl hE ?_ rfl rfl ?_; focus (exact PsVs.cons (.one (.seg rfl (by omega) rfl)) .nil)) | (refine CodeK.draw gOk hE rfl (fun _ _ h => h) (.take 0 (.take 1 (.take 2 (.take 3 (.take 6 (.alt 4 (.alt 5 (.alt 7 (.take 8 (.take 9 (.take 11 (.alt 10 (.alt 12 (.take 13 (.take 14 (.take 15 .done))) .stop) .stop)))) .stop) (.alt 7 (.alt 5 (.take 8 (.take 9 (.take 11 (.alt 10 (.alt 12 (.take 13 (.take 14 (.take 15 .done))) .stop) .stop)))) .stop) .stop)) (.alt 7 (.alt 4 (.alt 5 (.take 8 (.take 9 (.take 11 (.alt 10 (.alt 12 (.take 13 (.take 14 (.take 15 .done))) .stop) .stop)))) .stop) .stop) .stop))))))) ?_ ?_; focus (decide +kernel)) | refine ListO.go gOk hE ?_))
          all_goals (try simp only [adN_zero] at *)
          all_goals first
            | (exfalso; omega)
            | (refine Need.mk ?_; symm; apply dcB_false; intro hh; exact hz (hq0 ▸ hh.2 i hi2))
            | trace_state
      · have hq0 : pgP b c i = (hdP b (i * 64) (c.getD i 0) ∧ gsP b c i) := if_neg (by omega)
        repeat' (first | exact trivial | refine BS.d (fun h => ?_) (fun h => ?_) | refine BS.e (fun h => ?_) (fun h => ?_) | refine BS.ne (fun h => ?_) (fun h => ?_) | refine BS.n ?_ | refine BS.s (fun h => ?_) (fun h => ?_) | refine And.intro ?_ ?_ | (refine Need.mk ?_; first | with_reducible rfl | (show @Eq TC _ _; rfl) | omega | (simp only [adN_zero]; omega)) | exact OutS.whole rfl rfl | refine ListO.go gOk hE ?_)
        all_goals (try simp only [adN_zero] at *)
        all_goals first | (exfalso; omega) | (refine Need.mk ?_; omega) | skip
        all_goals rw [a0, a1]
        by_cases hh : hdP b (i * 64) (c.getD i 0)
        · rw [dcB_true hh] at hrun
          by_cases hg : gsP b c i
          · rw [dcB_true hg] at cg
            all_goals (repeat' (first | exact trivial | refine BS.d (fun h => ?_) (fun h => ?_) | refine BS.e (fun h => ?_) (fun h => ?_) | refine BS.ne (fun h => ?_) (fun h => ?_) | refine BS.n ?_ | refine BS.s (fun h => ?_) (fun h => ?_) | refine And.intro ?_ ?_ | (refine Need.mk ?_; first | with_reducible rfl | (show @Eq TC _ _; rfl) | omega | (simp only [adN_zero]; omega)) | exact OutS.whole rfl rfl | (refine CodeK.draw gOk hE rfl (fun _ _ h => h) (.take 0 (.take 1 (.take 2 (.take 3 (.take 6 (.alt 4 (.alt 5 (.alt 7 (.take 8 (.take 9 (.take 11 (.alt 10 (.alt 12 (.take 13 (.take 14 (.take 15 .done))) .stop) .stop)))) .stop) (.alt 7 (.alt 5 (.take 8 (.take 9 (.take 11 (.alt 10 (.alt 12 (.take 13 (.take 14 (.take 15 .done))) .stop) .stop)))) .stop) .stop)) (.alt 7 (.alt 4 (.alt 5 (.take 8 (.take 9 (.take 11 (.alt 10 (.alt 12 (.take 13 (.take 14 (.take 15 .done))) .stop) .stop)))) .stop) .stop) .stop))))))) ?_ ?_; focus (decide +kernel)) | (refine OpK.toArr gOk rfl rfl rfl rfl rfl rfl (by omega) ?_) | (refine OpK.ldArr gOk (fun x => Value.int .i64 x) rfl rfl rfl rfl rfl rfl rfl (by omega) (fun x => rfl) ?_) | (refine OpK.callH ch hA rfl rfl rfl rfl hE ?_ rfl rfl ?_; focus ((repeat' (first | exact PsA.lit _ | exact PsA.ref rfl rfl | constructor)); all_goals (fail "ps"))) | (refine OpK.callH cg hA rfl rfl rfl rfl hE ?_ rfl rfl ?_; focus ((repeat' (first | exact PsA.lit _ | exact PsA.ref rfl rfl | constructor)); all_goals (fail "ps"))) | (refine PK.neA (hdX b i) (hdY (c.getD i 0)) rfl rfl rfl rfl rfl (by kernel_rfl) hrun ?_) | refine ListO.go gOk hE ?_))
            all_goals (try simp only [adN_zero] at *)
            all_goals first
              | (exfalso; omega)
              | (refine ⟨i + 1, (by refine leT.of ?_ ?_ rfl <;> repeat' (first | exact trivial | refine And.intro rfl ?_ | refine And.intro (by simp) ?_)), ⟨by omega, fun j hj => (Nat.lt_or_ge j i).elim (hq j) (fun h9 => (show j = i by omega) ▸ (hq0 ▸ ⟨hh, hg⟩))⟩, by first | omega | (dsimp only; omega)⟩)
              | trace_state
          · rw [dcB_false hg] at cg
            all_goals (repeat' (first | exact trivial | refine BS.d (fun h => ?_) (fun h => ?_) | refine BS.e (fun h => ?_) (fun h => ?_) | refine BS.ne (fun h => ?_) (fun h => ?_) | refine BS.n ?_ | refine BS.s (fun h => ?_) (fun h => ?_) | refine And.intro ?_ ?_ | (refine Need.mk ?_; first | with_reducible rfl | (show @Eq TC _ _; rfl) | omega | (simp only [adN_zero]; omega)) | exact OutS.whole rfl rfl | (refine CodeK.draw gOk hE rfl (fun _ _ h => h) (.take 0 (.take 1 (.take 2 (.take 3 (.take 6 (.alt 4 (.alt 5 (.alt 7 (.take 8 (.take 9 (.take 11 (.alt 10 (.alt 12 (.take 13 (.take 14 (.take 15 .done))) .stop) .stop)))) .stop) (.alt 7 (.alt 5 (.take 8 (.take 9 (.take 11 (.alt 10 (.alt 12 (.take 13 (.take 14 (.take 15 .done))) .stop) .stop)))) .stop) .stop)) (.alt 7 (.alt 4 (.alt 5 (.take 8 (.take 9 (.take 11 (.alt 10 (.alt 12 (.take 13 (.take 14 (.take 15 .done))) .stop) .stop)))) .stop) .stop) .stop))))))) ?_ ?_; focus (decide +kernel)) | (refine OpK.toArr gOk rfl rfl rfl rfl rfl rfl (by omega) ?_) | (refine OpK.ldArr gOk (fun x => Value.int .i64 x) rfl rfl rfl rfl rfl rfl rfl (by omega) (fun x => rfl) ?_) | (refine OpK.callH ch hA rfl rfl rfl rfl hE ?_ rfl rfl ?_; focus ((repeat' (first | exact PsA.lit _ | exact PsA.ref rfl rfl | constructor)); all_goals (fail "ps"))) | (refine OpK.callH cg hA rfl rfl rfl rfl hE ?_ rfl rfl ?_; focus ((repeat' (first | exact PsA.lit _ | exact PsA.ref rfl rfl | constructor)); all_goals (fail "ps"))) | (refine PK.neA (hdX b i) (hdY (c.getD i 0)) rfl rfl rfl rfl rfl (by kernel_rfl) hrun ?_) | refine ListO.go gOk hE ?_))
            all_goals (try simp only [adN_zero] at *)
            all_goals first
              | (exfalso; omega)
              | (refine Need.mk ?_; symm; apply dcB_false; intro h9; exact hg (hq0 ▸ h9.2 i hi2 : hdP b (i * 64) (c.getD i 0) ∧ gsP b c i).2)
              | trace_state
        · rw [dcB_false hh] at hrun
          all_goals (repeat' (first | exact trivial | refine BS.d (fun h => ?_) (fun h => ?_) | refine BS.e (fun h => ?_) (fun h => ?_) | refine BS.ne (fun h => ?_) (fun h => ?_) | refine BS.n ?_ | refine BS.s (fun h => ?_) (fun h => ?_) | refine And.intro ?_ ?_ | (refine Need.mk ?_; first | with_reducible rfl | (show @Eq TC _ _; rfl) | omega | (simp only [adN_zero]; omega)) | exact OutS.whole rfl rfl | (refine CodeK.draw gOk hE rfl (fun _ _ h => h) (.take 0 (.take 1 (.take 2 (.take 3 (.take 6 (.alt 4 (.alt 5 (.alt 7 (.take 8 (.take 9 (.take 11 (.alt 10 (.alt 12 (.take 13 (.take 14 (.take 15 .done))) .stop) .stop)))) .stop) (.alt 7 (.alt 5 (.take 8 (.take 9 (.take 11 (.alt 10 (.alt 12 (.take 13 (.take 14 (.take 15 .done))) .stop) .stop)))) .stop) .stop)) (.alt 7 (.alt 4 (.alt 5 (.take 8 (.take 9 (.take 11 (.alt 10 (.alt 12 (.take 13 (.take 14 (.take 15 .done))) .stop) .stop)))) .stop) .stop) .stop))))))) ?_ ?_; focus (decide +kernel)) | (refine OpK.toArr gOk rfl rfl rfl rfl rfl rfl (by omega) ?_) | (refine OpK.ldArr gOk (fun x => Value.int .i64 x) rfl rfl rfl rfl rfl rfl rfl (by omega) (fun x => rfl) ?_) | (refine OpK.callH ch hA rfl rfl rfl rfl hE ?_ rfl rfl ?_; focus ((repeat' (first | exact PsA.lit _ | exact PsA.ref rfl rfl | constructor)); all_goals (fail "ps"))) | (refine OpK.callH cg hA rfl rfl rfl rfl hE ?_ rfl rfl ?_; focus ((repeat' (first | exact PsA.lit _ | exact PsA.ref rfl rfl | constructor)); all_goals (fail "ps"))) | (refine PK.neA (hdX b i) (hdY (c.getD i 0)) rfl rfl rfl rfl rfl (by kernel_rfl) hrun ?_) | refine ListO.go gOk hE ?_))
          all_goals (try simp only [adN_zero] at *)
          all_goals first
            | (exfalso; omega)
            | (refine Need.mk ?_; symm; apply dcB_false; intro h9; exact hh (hq0 ▸ h9.2 i hi2 : hdP b (i * 64) (c.getD i 0) ∧ gsP b c i).1)
            | trace_state
    · repeat' (first | exact trivial | refine BS.d (fun h => ?_) (fun h => ?_) | refine BS.e (fun h => ?_) (fun h => ?_) | refine BS.ne (fun h => ?_) (fun h => ?_) | refine BS.n ?_ | refine BS.s (fun h => ?_) (fun h => ?_) | refine And.intro ?_ ?_ | (refine Need.mk ?_; first | with_reducible rfl | (show @Eq TC _ _; rfl) | omega | (simp only [adN_zero]; omega)) | exact OutS.whole rfl rfl | refine ListO.go gOk hE ?_)
      all_goals first
        | (exfalso; omega)
        | (refine Need.mk ?_; symm; apply dcB_true; exact ⟨hsh, fun j hj => hq j (by omega)⟩)
        | trace_state
  · rw [decide_eq_false hsh] at c1
    rw [dcB_false (fun h => hsh h.1)]
    refine RunH.of_vc gOk Tryd.func7 rfl rfl (Nat.le_of_ble_eq_true rfl) (by repeat' (first | exact trivial | exact ⟨_, rfl, Nat.le_refl _⟩ | exact Nat.le_of_ble_eq_true rfl | refine And.intro ?_ ?_)) (Nat.le_of_ble_eq_true rfl) rfl (fun F hE hA => ?_)
    repeat' (first | exact trivial | refine BS.d (fun h => ?_) (fun h => ?_) | refine BS.e (fun h => ?_) (fun h => ?_) | refine BS.ne (fun h => ?_) (fun h => ?_) | refine BS.n ?_ | refine BS.s (fun h => ?_) (fun h => ?_) | refine And.intro ?_ ?_ | (refine Need.mk ?_; first | with_reducible rfl | (show @Eq TC _ _; rfl) | omega | (simp only [adN_zero]; omega)) | exact OutS.whole rfl rfl | (refine OpK.call c1 rfl rfl rfl rfl hE ?_ rfl rfl ?_; focus ((repeat' (first | exact PsA.lit _ | exact PsA.ref rfl rfl | constructor)); all_goals (fail "ps"))) | refine ListO.go gOk hE ?_)
end Go.Proofs.YtbfkdbbgbdihdabDoor
