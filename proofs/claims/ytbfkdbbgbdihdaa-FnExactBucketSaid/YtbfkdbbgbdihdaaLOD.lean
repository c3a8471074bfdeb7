import Derived.Test.YtbfkdbbgbdihdaaLOC
namespace Go.Proofs.Ytbfkdbbgbdihdaa
open Go Go.Tr
set_option maxRecDepth 100000
set_option linter.unusedVariables false
set_option linter.unusedSimpArgs false
theorem seen_step {bs : List Bool} {s : List Int} {v : Int} (hbl : bs.length = 24) (hv : 0 ≤ v ∧ v < 24) (hbs : ∀ z : Nat, z < 24 → bs.getD z false = decide ((z : Int) ∈ s)) : ∀ z : Nat, z < 24 → (bs.set v.toNat true).getD z false = decide ((z : Int) ∈ s ++ [v]) := by
  intro z hz
  obtain ⟨n, rfl⟩ := Int.eq_ofNat_of_zero_le hv.1
  simp only [Int.toNat_natCast]
  by_cases e1 : n = z
  · subst e1
    rw [List.getD_eq_getElem?_getD, List.getElem?_set_self (by omega)]
    simp
  · rw [List.getD_eq_getElem?_getD, List.getElem?_set_ne e1, ← List.getD_eq_getElem?_getD, hbs z hz]
    apply decide_eq_decide.2
    simp; omega
set_option maxHeartbeats 4000000 in
theorem LimboOkI_run (e' e : Nat) (xs : List (List Row)) (hn : xs.length ≤ 1048576) (hcn : cnt xs ≤ 1048576) (hm : ∀ i, (xs.flatten.getD i (0, 0)).1 ≤ 9223372036854775807) : RunT Try.prog 43 [.one (.c (tLL e' e xs))] [] [ob (lOk xs)] [] := by
  have hfl := flat_len xs
  have c1 := LimboSizeI_run e' e xs hn hcn
  refine RunT.of_vc gOk Try.func43 rfl rfl (Nat.le_of_ble_eq_true rfl) (by repeat' (first | exact trivial | exact ⟨_, rfl, Nat.le_refl _⟩ | exact Nat.le_of_ble_eq_true rfl | refine And.intro ?_ ?_)) (Nat.le_of_ble_eq_true rfl) rfl (fun F hE => ?_)
  repeat' (first | exact trivial | refine BS.d (fun h => ?_) (fun h => ?_) | refine BS.e (fun h => ?_) (fun h => ?_) | refine BS.ne (fun h => ?_) (fun h => ?_) | refine BS.n ?_ | refine BS.s (fun h => ?_) (fun h => ?_) | refine And.intro ?_ ?_ | (refine Need.mk ?_; first | with_reducible rfl | (show @Eq TC _ _; rfl) | omega | (simp only [adN_zero]; omega)) | exact OutS.whole rfl rfl | (refine OpK.call c1 rfl rfl rfl rfl hE ?_ rfl rfl ?_; focus ((repeat' (first | exact PsA.lit _ | exact PsA.ref rfl rfl | constructor)); all_goals (fail "ps"))) | refine ListO.go gOk hE ?_)
  · refine Need.mk ?_
    unfold lOk; rw [if_neg (by omega)]
  · refine Need.mk ?_
    unfold lOk; rw [if_neg (by omega)]
  · repeat' (first | exact trivial | refine BS.d (fun h => ?_) (fun h => ?_) | refine BS.e (fun h => ?_) (fun h => ?_) | refine BS.ne (fun h => ?_) (fun h => ?_) | refine BS.n ?_ | refine BS.s (fun h => ?_) (fun h => ?_) | refine And.intro ?_ ?_ | (refine Need.mk ?_; first | with_reducible rfl | (show @Eq TC _ _; rfl) | omega | (simp only [adN_zero]; omega)) | exact OutS.whole rfl rfl | refine ListO.go gOk hE ?_)
    have hlo : lOk xs = okR [] xs.flatten := by unfold lOk; rw [if_pos (by omega)]
    rw [hlo]
    refine OpK.call (allRows_run e' e xs hn hcn) rfl rfl rfl rfl hE (by repeat' (first | exact PsA.lit _ | exact PsA.ref rfl rfl | constructor)) rfl rfl ?_
    repeat' (first | exact trivial | refine BS.d (fun h => ?_) (fun h => ?_) | refine BS.e (fun h => ?_) (fun h => ?_) | refine BS.ne (fun h => ?_) (fun h => ?_) | refine BS.n ?_ | refine BS.s (fun h => ?_) (fun h => ?_) | refine And.intro ?_ ?_ | (refine Need.mk ?_; first | with_reducible rfl | (show @Eq TC _ _; rfl) | omega | (simp only [adN_zero]; omega)) | exact OutS.whole rfl rfl | refine ListO.go gOk hE ?_)
    refine CodeK.arr gOk hE (κ := 3) 24 (by rfl) (by rfl) ?_
    generalize xs.flatten = R at *
    refine CodeK.loop gOk hE (fun i : Nat × List Int × List Bool => ⟨[(3, .ptr 3 0 0), (16, vr 2002048 R.length), (17, vi R.length), (18, vi i.1)], [(2002048, rR .own true 61 R), (3, arrR 93 24 i.2.2)]⟩) (fun i => i.1 ≤ R.length ∧ i.2.2.length = 24 ∧ (∀ z : Nat, z < 24 → i.2.2.getD z false = decide ((z : Int) ∈ i.2.1)) ∧ okR [] R = okR i.2.1 (R.drop i.1)) (fun i => R.length - i.1) (0, [], List.replicate 24 false) (by refine leT.of ?_ ?_ rfl <;> repeat' (first | exact trivial | refine And.intro rfl ?_ | refine And.intro (by first | rfl | (simp; done) | (simp <;> rfl)) ?_)) ⟨Nat.zero_le _, rfl, by decide, rfl⟩ ?_
    rintro ⟨i, s, bs⟩ ⟨hi, hbl, hbs, hq⟩
    dsimp only at hi hbl hbs hq
    by_cases hi2 : i < R.length
    · rw [drop_cons (0, 0) hi2] at hq
      have c2 := iHandleSlot_run (R.getD i (0, 0)).1 (hm i)
      have c3 := epochOk_run (R.getD i (0, 0)).2
      have hb := hSlot_bd (R.getD i (0, 0)).1
      rcases hb with hb | hb
      · rw [hb] at c2
        rw [okR_no (.inl hb)] at hq
        repeat' (first | exact trivial | refine BS.d (fun h => ?_) (fun h => ?_) | refine BS.e (fun h => ?_) (fun h => ?_) | refine BS.ne (fun h => ?_) (fun h => ?_) | refine BS.n ?_ | refine BS.s (fun h => ?_) (fun h => ?_) | refine And.intro ?_ ?_ | (refine Need.mk ?_; first | with_reducible rfl | (show @Eq TC _ _; rfl) | omega | (simp only [adN_zero]; omega)) | exact OutS.whole rfl rfl | (refine OpK.call c2 rfl rfl rfl rfl hE ?_ rfl rfl ?_; focus ((repeat' (first | exact PsA.lit _ | exact PsA.ref rfl rfl | constructor)); all_goals (fail "ps"))) | (refine OpK.call c3 rfl rfl rfl rfl hE ?_ rfl rfl ?_; focus ((repeat' (first | exact PsA.lit _ | exact PsA.ref rfl rfl | constructor)); all_goals (fail "ps"))) | refine ListO.go gOk hE ?_)
        all_goals first | exact Need.mk hq.symm | exact Need.mk hq | (exfalso; omega) | trace_state
      · have hz := hbs (hSlot (R.getD i (0, 0)).1).toNat (by omega)
        rw [Int.toNat_of_nonneg hb.1] at hz
        repeat' (first | exact trivial | refine BS.d (fun h => ?_) (fun h => ?_) | refine BS.e (fun h => ?_) (fun h => ?_) | refine BS.ne (fun h => ?_) (fun h => ?_) | refine BS.n ?_ | refine BS.s (fun h => ?_) (fun h => ?_) | refine And.intro ?_ ?_ | (refine Need.mk ?_; first | with_reducible rfl | (show @Eq TC _ _; rfl) | omega | (simp only [adN_zero]; omega)) | exact OutS.whole rfl rfl | (refine OpK.call c2 rfl rfl rfl rfl hE ?_ rfl rfl ?_; focus ((repeat' (first | exact PsA.lit _ | exact PsA.ref rfl rfl | constructor)); all_goals (fail "ps"))) | (refine OpK.call c3 rfl rfl rfl rfl hE ?_ rfl rfl ?_; focus ((repeat' (first | exact PsA.lit _ | exact PsA.ref rfl rfl | constructor)); all_goals (fail "ps"))) | refine ListO.go gOk hE ?_)
        all_goals first | (exfalso; omega) | skip
        refine OpK.ldA gOk (by rfl) (by rfl) (by rfl) (by rfl) (by rfl) (by rfl) (by rfl) (by omega) ?_
        rw [show 0 + (hSlot (R.getD i (0, 0)).1).toNat * 1 = (hSlot (R.getD i (0, 0)).1).toNat by omega, hz]
        by_cases hin : hSlot (R.getD i (0, 0)).1 ∈ s
        · rw [decide_eq_true hin]
          rw [okR_no (.inr (.inr hin))] at hq
          rw [hq]
          repeat' (first | exact trivial | refine BS.d (fun h => ?_) (fun h => ?_) | refine BS.e (fun h => ?_) (fun h => ?_) | refine BS.ne (fun h => ?_) (fun h => ?_) | refine BS.n ?_ | refine BS.s (fun h => ?_) (fun h => ?_) | refine And.intro ?_ ?_ | (refine Need.mk ?_; first | with_reducible rfl | (show @Eq TC _ _; rfl) | omega | (simp only [adN_zero]; omega)) | exact OutS.whole rfl rfl | (refine OpK.call c2 rfl rfl rfl rfl hE ?_ rfl rfl ?_; focus ((repeat' (first | exact PsA.lit _ | exact PsA.ref rfl rfl | constructor)); all_goals (fail "ps"))) | (refine OpK.call c3 rfl rfl rfl rfl hE ?_ rfl rfl ?_; focus ((repeat' (first | exact PsA.lit _ | exact PsA.ref rfl rfl | constructor)); all_goals (fail "ps"))) | refine ListO.go gOk hE ?_)
          all_goals first | rfl | exact Need.mk rfl | (exfalso; omega) | trace_state
        · rw [decide_eq_false hin]
          by_cases hep : 0 ≤ (R.getD i (0, 0)).2 ∧ (R.getD i (0, 0)).2 ≤ 100000
          · rw [decide_eq_true hep] at c3
            rw [okR_yes (by rintro (h | h | h) <;> first | omega | exact h hep | exact hin h)] at hq
            repeat' (first | exact trivial | refine BS.d (fun h => ?_) (fun h => ?_) | refine BS.e (fun h => ?_) (fun h => ?_) | refine BS.ne (fun h => ?_) (fun h => ?_) | refine BS.n ?_ | refine BS.s (fun h => ?_) (fun h => ?_) | refine And.intro ?_ ?_ | (refine Need.mk ?_; first | with_reducible rfl | (show @Eq TC _ _; rfl) | omega | (simp only [adN_zero]; omega)) | exact OutS.whole rfl rfl | (refine OpK.call c2 rfl rfl rfl rfl hE ?_ rfl rfl ?_; focus ((repeat' (first | exact PsA.lit _ | exact PsA.ref rfl rfl | constructor)); all_goals (fail "ps"))) | (refine OpK.call c3 rfl rfl rfl rfl hE ?_ rfl rfl ?_; focus ((repeat' (first | exact PsA.lit _ | exact PsA.ref rfl rfl | constructor)); all_goals (fail "ps"))) | refine ListO.go gOk hE ?_)
            all_goals first | (exfalso; omega) | skip
            refine OpK.stA gOk (by rfl) (by rfl) (by rfl) (by rfl) (by rfl) (by rfl) (by rfl) (by omega) (by exact hbl.symm) ?_
            rw [show 0 + (hSlot (R.getD i (0, 0)).1).toNat * 1 = (hSlot (R.getD i (0, 0)).1).toNat by omega]
            repeat' (first | exact trivial | refine BS.d (fun h => ?_) (fun h => ?_) | refine BS.e (fun h => ?_) (fun h => ?_) | refine BS.ne (fun h => ?_) (fun h => ?_) | refine BS.n ?_ | refine BS.s (fun h => ?_) (fun h => ?_) | refine And.intro ?_ ?_ | (refine Need.mk ?_; first | with_reducible rfl | (show @Eq TC _ _; rfl) | omega | (simp only [adN_zero]; omega)) | exact OutS.whole rfl rfl | refine ListO.go gOk hE ?_)
            exact ⟨(i + 1, s ++ [hSlot (R.getD i (0, 0)).1], bs.set (hSlot (R.getD i (0, 0)).1).toNat true), (by refine leT.of ?_ ?_ rfl <;> repeat' (first | exact trivial | refine And.intro rfl ?_ | refine And.intro (by first | rfl | (simp; done) | (simp <;> rfl)) ?_)), ⟨hi2, by simp [hbl], seen_step hbl hb hbs, hq⟩, by dsimp only; omega⟩
          · rw [decide_eq_false hep] at c3
            rw [okR_no (.inr (.inl hep))] at hq
            rw [hq]
            repeat' (first | exact trivial | refine BS.d (fun h => ?_) (fun h => ?_) | refine BS.e (fun h => ?_) (fun h => ?_) | refine BS.ne (fun h => ?_) (fun h => ?_) | refine BS.n ?_ | refine BS.s (fun h => ?_) (fun h => ?_) | refine And.intro ?_ ?_ | (refine Need.mk ?_; first | with_reducible rfl | (show @Eq TC _ _; rfl) | omega | (simp only [adN_zero]; omega)) | exact OutS.whole rfl rfl | (refine OpK.call c2 rfl rfl rfl rfl hE ?_ rfl rfl ?_; focus ((repeat' (first | exact PsA.lit _ | exact PsA.ref rfl rfl | constructor)); all_goals (fail "ps"))) | (refine OpK.call c3 rfl rfl rfl rfl hE ?_ rfl rfl ?_; focus ((repeat' (first | exact PsA.lit _ | exact PsA.ref rfl rfl | constructor)); all_goals (fail "ps"))) | refine ListO.go gOk hE ?_)
            all_goals first | rfl | exact Need.mk rfl | (exfalso; omega) | trace_state
    · rw [List.drop_eq_nil_of_le (by omega)] at hq
      repeat' (first | exact trivial | refine BS.d (fun h => ?_) (fun h => ?_) | refine BS.e (fun h => ?_) (fun h => ?_) | refine BS.ne (fun h => ?_) (fun h => ?_) | refine BS.n ?_ | refine BS.s (fun h => ?_) (fun h => ?_) | refine And.intro ?_ ?_ | (refine Need.mk ?_; first | with_reducible rfl | (show @Eq TC _ _; rfl) | omega | (simp only [adN_zero]; omega)) | exact OutS.whole rfl rfl | (refine OpK.call c1 rfl rfl rfl rfl hE ?_ rfl rfl ?_; focus ((repeat' (first | exact PsA.lit _ | exact PsA.ref rfl rfl | constructor)); all_goals (fail "ps"))) | refine ListO.go gOk hE ?_)
      all_goals first | exact Need.mk hq.symm | exact Need.mk hq | (exfalso; omega) | trace_state
end Go.Proofs.Ytbfkdbbgbdihdaa
