import Derived.Test.YtbfkdbbgbdihdabUG
namespace Go.Proofs.Ytbfkdbbgbdihdab
open Go Go.Tr
set_option maxRecDepth 100000
set_option maxHeartbeats 4000000
set_option linter.unusedVariables false
set_option linter.unusedSimpArgs false
def ownFew (o : List (List Int)) : Bool := decide (∀ j, j < o.length → (o.getD j []).length ≤ 2)
def lsOk (g o : List (List Int)) : Bool := if g.length = 3 ∧ o.length = 9 ∧ ownFew o = true then okS [] (g ++ o).flatten else false
theorem few_no {o : List (List Int)} {i : Nat} (hi : i < o.length) (h : ¬ (o.getD i []).length ≤ 2) : ownFew o = false := decide_eq_false (fun hh => h (hh i hi))
theorem few_yes {o : List (List Int)} (h : ∀ j, j < o.length → (o.getD j []).length ≤ 2) : ownFew o = true := decide_eq_true h
theorem l1In_run (x a b : Int) : RunT Try.prog 34 [ti x, ti a, ti b] [] [ob (decide (a ≤ x ∧ x ≤ b))] [] := by
  refine RunT.of_vc gOk Try.func34 rfl rfl (Nat.le_of_ble_eq_true rfl) (by repeat' (first | exact trivial | exact ⟨_, rfl, Nat.le_refl _⟩ | exact Nat.le_of_ble_eq_true rfl | refine And.intro ?_ ?_)) (Nat.le_of_ble_eq_true rfl) rfl (fun F hE => ?_)
  repeat' (first | exact trivial | refine BS.d (fun h => ?_) (fun h => ?_) | refine BS.e (fun h => ?_) (fun h => ?_) | refine BS.ne (fun h => ?_) (fun h => ?_) | refine BS.n ?_ | refine BS.s (fun h => ?_) (fun h => ?_) | refine And.intro ?_ ?_ | (refine Need.mk ?_; first | with_reducible rfl | (show @Eq TC _ _; rfl) | omega | (simp only [adN_zero]; omega)) | exact OutS.whole rfl rfl)
  all_goals (refine Need.mk ?_; simp [*])
theorem ListsOkI_run (e e' : Nat) (g o : List (List Int)) (hgo : g.length + o.length ≤ 1048576) (hx : ∀ i, ((g ++ o).getD i []).length ≤ 1048576) : RunT Try.prog 13 [.agg [.c (tSL e g), .c (tSL e' o)]] [] [ob (lsOk g o)] [] := by
  have c1 := eachSlot_run e e' g o hgo hx
  by_cases hl : g.length = 3 ∧ o.length = 9
  · have hq : lsOk g o = if ownFew o = true then okS [] (g ++ o).flatten else false := by
      unfold lsOk
      by_cases h : ownFew o = true
      · rw [if_pos ⟨hl.1, hl.2, h⟩, if_pos h]
      · rw [if_neg (fun hh => h hh.2.2), if_neg h]
    rw [hq]
    generalize okS [] (g ++ o).flatten = ok at *
    obtain ⟨h1, h2⟩ := hl
    refine RunT.of_vc gOk Try.func13 rfl rfl (Nat.le_of_ble_eq_true rfl) (by repeat' (first | exact trivial | exact ⟨_, rfl, Nat.le_refl _⟩ | exact Nat.le_of_ble_eq_true rfl | refine And.intro ?_ ?_)) (Nat.le_of_ble_eq_true rfl) rfl (fun F hE => ?_)
    repeat' (first | exact trivial | refine BS.d (fun h => ?_) (fun h => ?_) | refine BS.e (fun h => ?_) (fun h => ?_) | refine BS.ne (fun h => ?_) (fun h => ?_) | refine BS.n ?_ | refine BS.s (fun h => ?_) (fun h => ?_) | refine And.intro ?_ ?_ | (refine Need.mk ?_; first | with_reducible rfl | (show @Eq TC _ _; rfl) | omega | (simp only [adN_zero]; omega)) | exact OutS.whole rfl rfl)
    all_goals (try simp only [adN_zero] at *)
    all_goals first | (exfalso; omega) | skip
    refine CodeK.loop gOk hE (fun i : Nat => ⟨[(1, .ptr 1 0 0), (16, vr 1000001 o.length), (17, vi o.length), (18, vi i)], [(1, .box 29 [.ref 1000000 0 g.length, .ref 1000001 0 o.length]), (1000000, rSL .fro false e g), (1000001, rSL .fro false e' o)]⟩) (fun i => i ≤ o.length ∧ ∀ j, j < i → (o.getD j []).length ≤ 2) (fun i => o.length - i) 0 (by refine leT.of ?_ ?_ rfl <;> repeat' (first | exact trivial | refine And.intro rfl ?_ | refine And.intro (by first | rfl | (simp; done) | (simp <;> rfl)) ?_)) ⟨Nat.zero_le _, fun j hj => absurd hj (Nat.not_lt_zero _)⟩ ?_
    rintro i ⟨hi, hs⟩
    by_cases hi2 : i < o.length
    · repeat' (first | exact trivial | refine BS.d (fun h => ?_) (fun h => ?_) | refine BS.e (fun h => ?_) (fun h => ?_) | refine BS.ne (fun h => ?_) (fun h => ?_) | refine BS.n ?_ | refine BS.s (fun h => ?_) (fun h => ?_) | refine And.intro ?_ ?_ | (refine Need.mk ?_; first | with_reducible rfl | (show @Eq TC _ _; rfl) | omega | (simp only [adN_zero]; omega)) | exact OutS.whole rfl rfl)
      all_goals (try simp only [adN_zero] at *)
      all_goals first
        | (exfalso; omega)
        | (refine Need.mk ?_; omega)
        | (refine Need.mk ?_; rw [if_neg (by rw [few_no hi2 (by omega)]; simp)])
        | (refine ⟨i + 1, (by refine leT.of ?_ ?_ rfl <;> repeat' (first | exact trivial | refine And.intro rfl ?_ | refine And.intro (by simp) ?_)), ⟨by omega, fun j hj => (Nat.lt_or_ge j i).elim (hs j) (fun h9 => (show j = i by omega) ▸ (by omega))⟩, by first | omega | (dsimp only; omega)⟩)
    · rw [if_pos (few_yes fun j hj => hs j (by omega))]
      repeat' (first | exact trivial | refine BS.d (fun h => ?_) (fun h => ?_) | refine BS.e (fun h => ?_) (fun h => ?_) | refine BS.ne (fun h => ?_) (fun h => ?_) | refine BS.n ?_ | refine BS.s (fun h => ?_) (fun h => ?_) | refine And.intro ?_ ?_ | (refine Need.mk ?_; first | with_reducible rfl | (show @Eq TC _ _; rfl) | omega | (simp only [adN_zero]; omega)) | exact OutS.whole rfl rfl | (refine OpK.call c1 rfl rfl rfl rfl hE ?_ rfl rfl ?_; focus ((repeat' (first | exact PsA.lit _ | exact PsA.ref rfl rfl | constructor)); all_goals (fail "ps"))))
      all_goals (try simp only [adN_zero] at *)
      all_goals first | (exfalso; omega) | trace_state
  · have hq : lsOk g o = false := by unfold lsOk; rw [if_neg (fun h => hl ⟨h.1, h.2.1⟩)]
    rw [hq]
    refine RunT.of_vc gOk Try.func13 rfl rfl (Nat.le_of_ble_eq_true rfl) (by repeat' (first | exact trivial | exact ⟨_, rfl, Nat.le_refl _⟩ | exact Nat.le_of_ble_eq_true rfl | refine And.intro ?_ ?_)) (Nat.le_of_ble_eq_true rfl) rfl (fun F hE => ?_)
    repeat' (first | exact trivial | refine BS.d (fun h => ?_) (fun h => ?_) | refine BS.e (fun h => ?_) (fun h => ?_) | refine BS.ne (fun h => ?_) (fun h => ?_) | refine BS.n ?_ | refine BS.s (fun h => ?_) (fun h => ?_) | refine And.intro ?_ ?_ | (refine Need.mk ?_; first | with_reducible rfl | (show @Eq TC _ _; rfl) | omega | (simp only [adN_zero]; omega)) | exact OutS.whole rfl rfl)
    all_goals (try simp only [adN_zero] at *)
    all_goals first | (exfalso; omega) | trace_state
theorem ListsOkS_run (e e' : Nat) (g o : List (List Int)) (hg : g.length ≤ 1048576) (ho : o.length ≤ 1048576) (hf : g.flatten.length + o.flatten.length ≤ 1048576) : RunT Try.prog 11 [.agg [.c (tSL e g), .c (tSL e' o)]] [] [ob (lsOk g o)] [] := by
  have c1 := l8All_run e e' g o hg ho hf
  have hfl : (g ++ o).flatten.length ≤ 1048576 := by rw [List.flatten_append, List.length_append]; omega
  by_cases hl : g.length = 3 ∧ o.length = 9
  · have hq : lsOk g o = if ownFew o = true then okS [] (g ++ o).flatten else false := by
      unfold lsOk
      by_cases h : ownFew o = true
      · rw [if_pos ⟨hl.1, hl.2, h⟩, if_pos h]
      · rw [if_neg (fun hh => h hh.2.2), if_neg h]
    rw [hq]
    generalize (g ++ o).flatten = R at *
    obtain ⟨h1, h2⟩ := hl
    refine RunT.of_vc gOk Try.func11 rfl rfl (Nat.le_of_ble_eq_true rfl) (by repeat' (first | exact trivial | exact ⟨_, rfl, Nat.le_refl _⟩ | exact Nat.le_of_ble_eq_true rfl | refine And.intro ?_ ?_)) (Nat.le_of_ble_eq_true rfl) rfl (fun F hE => ?_)
    repeat' (first | exact trivial | refine BS.d (fun h => ?_) (fun h => ?_) | refine BS.e (fun h => ?_) (fun h => ?_) | refine BS.ne (fun h => ?_) (fun h => ?_) | refine BS.n ?_ | refine BS.s (fun h => ?_) (fun h => ?_) | refine And.intro ?_ ?_ | (refine Need.mk ?_; first | with_reducible rfl | (show @Eq TC _ _; rfl) | omega | (simp only [adN_zero]; omega)) | exact OutS.whole rfl rfl)
    all_goals (try simp only [adN_zero] at *)
    all_goals first | (exfalso; omega) | skip
    refine CodeK.loop gOk hE (fun i : Nat => ⟨[(1, .ptr 1 0 0), (3, vi i)], [(1, .box 29 [.ref 1000000 0 g.length, .ref 1000001 0 o.length]), (1000000, rSL .fro false e g), (1000001, rSL .fro false e' o)]⟩) (fun i => i ≤ o.length ∧ ∀ j, j < i → (o.getD j []).length ≤ 2) (fun i => o.length - i) 0 (by refine leT.of ?_ ?_ rfl <;> repeat' (first | exact trivial | refine And.intro rfl ?_ | refine And.intro (by first | rfl | (simp; done) | (simp <;> rfl)) ?_)) ⟨Nat.zero_le _, fun j hj => absurd hj (Nat.not_lt_zero _)⟩ ?_
    rintro i ⟨hi, hs⟩
    by_cases hi2 : i < o.length
    · repeat' (first | exact trivial | refine BS.d (fun h => ?_) (fun h => ?_) | refine BS.e (fun h => ?_) (fun h => ?_) | refine BS.ne (fun h => ?_) (fun h => ?_) | refine BS.n ?_ | refine BS.s (fun h => ?_) (fun h => ?_) | refine And.intro ?_ ?_ | (refine Need.mk ?_; first | with_reducible rfl | (show @Eq TC _ _; rfl) | omega | (simp only [adN_zero]; omega)) | exact OutS.whole rfl rfl)
      all_goals (try simp only [adN_zero] at *)
      all_goals first
        | (exfalso; omega)
        | (refine Need.mk ?_; omega)
        | (refine Need.mk ?_; rw [if_neg (by rw [few_no hi2 (by omega)]; simp)])
        | (refine ⟨i + 1, (by refine leT.of ?_ ?_ rfl <;> repeat' (first | exact trivial | refine And.intro rfl ?_ | refine And.intro (by simp) ?_)), ⟨by omega, fun j hj => (Nat.lt_or_ge j i).elim (hs j) (fun h9 => (show j = i by omega) ▸ (by omega))⟩, by first | omega | (dsimp only; omega)⟩)
    · rw [if_pos (few_yes fun j hj => hs j (by omega))]
      repeat' (first | exact trivial | refine BS.d (fun h => ?_) (fun h => ?_) | refine BS.e (fun h => ?_) (fun h => ?_) | refine BS.ne (fun h => ?_) (fun h => ?_) | refine BS.n ?_ | refine BS.s (fun h => ?_) (fun h => ?_) | refine And.intro ?_ ?_ | (refine Need.mk ?_; first | with_reducible rfl | (show @Eq TC _ _; rfl) | omega | (simp only [adN_zero]; omega)) | exact OutS.whole rfl rfl | (refine OpK.call c1 rfl rfl rfl rfl hE ?_ rfl rfl ?_; focus ((repeat' (first | exact PsA.lit _ | exact PsA.ref rfl rfl | constructor)); all_goals (fail "ps"))))
      all_goals (try simp only [adN_zero] at *)
      all_goals first | (exfalso; omega) | skip
      refine CodeK.loop gOk hE (fun i : Nat => ⟨[(4, vr 2004096 R.length), (5, vi i)], [(2004096, rI .own true R)]⟩) (fun i => i ≤ R.length ∧ okS [] R = okS (R.take i) (R.drop i)) (fun i => R.length - i) 0 (by refine leT.of ?_ ?_ rfl <;> repeat' (first | exact trivial | refine And.intro rfl ?_ | refine And.intro (by first | rfl | (simp; done) | (simp <;> rfl)) ?_)) ⟨Nat.zero_le _, rfl⟩ ?_
      rintro k ⟨hk, hq⟩
      by_cases hk2 : k < R.length
      · rw [drop_cons 0 hk2] at hq
        have c2 := l1In_run (R.getD k 0) 0 23
        have c3 := l8HasT_run (R.take k) (R.getD k 0) (by rw [List.length_take]; omega)
        have ht : R.take (k + 1) = R.take k ++ [R.getD k 0] := by rw [List.take_succ_eq_append_getElem hk2]; simp [List.getD, hk2]
        by_cases hv : (0 ≤ R.getD k 0 ∧ R.getD k 0 < 24) ∧ R.getD k 0 ∉ R.take k
        · rw [decide_eq_true (show 0 ≤ R.getD k 0 ∧ R.getD k 0 ≤ 23 by omega)] at c2
          rw [decide_eq_false hv.2] at c3
          rw [okS_yes hv, ← ht] at hq
          repeat' (first | exact trivial | refine BS.d (fun h => ?_) (fun h => ?_) | refine BS.e (fun h => ?_) (fun h => ?_) | refine BS.ne (fun h => ?_) (fun h => ?_) | refine BS.n ?_ | refine BS.s (fun h => ?_) (fun h => ?_) | refine And.intro ?_ ?_ | (refine Need.mk ?_; first | with_reducible rfl | (show @Eq TC _ _; rfl) | omega | (simp only [adN_zero]; omega)) | exact OutS.whole rfl rfl | (refine CodeK.draw gOk hE rfl (fun _ _ h => h) (.take 0 (.take 1 (.take 2 (.alt 3 (.alt 4 (.take 5 (.take 6 (.take 7 (.take 8 (.take 9 (.take 10 (.take 11 (.take 12 (.alt 13 (.alt 14 (.take 15 .done) .stop) .stop))))))))) .stop) .stop)))) ?_ ?_; focus (decide +kernel)) | (refine OpK.call c2 rfl rfl rfl rfl hE ?_ rfl rfl ?_; focus ((repeat' (first | exact PsA.lit _ | exact PsA.ref rfl rfl | constructor)); all_goals (fail "ps"))) | (refine OpK.call c3 rfl rfl rfl rfl hE (.cons (.one (.seg rfl (by omega) (by simp))) (.cons (.one (.lit _)) .nil)) rfl rfl ?_))
          all_goals (try simp only [adN_zero] at *)
          all_goals first
            | (exfalso; omega)
            | (refine Need.mk ?_; omega)
            | (refine ⟨k + 1, (by refine leT.of ?_ ?_ rfl <;> repeat' (first | exact trivial | refine And.intro rfl ?_ | refine And.intro (by simp) ?_)), ⟨by omega, hq⟩, by first | omega | (dsimp only; omega)⟩)
        · rw [okS_no hv] at hq
          rw [hq]
          by_cases hv1 : 0 ≤ R.getD k 0 ∧ R.getD k 0 ≤ 23
          · rw [decide_eq_true hv1] at c2
            rw [decide_eq_true (show R.getD k 0 ∈ R.take k from Classical.byContradiction fun hh => hv ⟨by omega, hh⟩)] at c3
            repeat' (first | exact trivial | refine BS.d (fun h => ?_) (fun h => ?_) | refine BS.e (fun h => ?_) (fun h => ?_) | refine BS.ne (fun h => ?_) (fun h => ?_) | refine BS.n ?_ | refine BS.s (fun h => ?_) (fun h => ?_) | refine And.intro ?_ ?_ | (refine Need.mk ?_; first | with_reducible rfl | (show @Eq TC _ _; rfl) | omega | (simp only [adN_zero]; omega)) | exact OutS.whole rfl rfl | (refine CodeK.draw gOk hE rfl (fun _ _ h => h) (.take 0 (.take 1 (.take 2 (.alt 3 (.alt 4 (.take 5 (.take 6 (.take 7 (.take 8 (.take 9 (.take 10 (.take 11 (.take 12 (.alt 13 (.alt 14 (.take 15 .done) .stop) .stop))))))))) .stop) .stop)))) ?_ ?_; focus (decide +kernel)) | (refine OpK.call c2 rfl rfl rfl rfl hE ?_ rfl rfl ?_; focus ((repeat' (first | exact PsA.lit _ | exact PsA.ref rfl rfl | constructor)); all_goals (fail "ps"))) | (refine OpK.call c3 rfl rfl rfl rfl hE (.cons (.one (.seg rfl (by omega) (by simp))) (.cons (.one (.lit _)) .nil)) rfl rfl ?_))
            all_goals (try simp only [adN_zero] at *)
            all_goals first
              | (exfalso; omega)
              | (refine Need.mk ?_; omega)
              | trace_state
          · rw [decide_eq_false hv1] at c2
            repeat' (first | exact trivial | refine BS.d (fun h => ?_) (fun h => ?_) | refine BS.e (fun h => ?_) (fun h => ?_) | refine BS.ne (fun h => ?_) (fun h => ?_) | refine BS.n ?_ | refine BS.s (fun h => ?_) (fun h => ?_) | refine And.intro ?_ ?_ | (refine Need.mk ?_; first | with_reducible rfl | (show @Eq TC _ _; rfl) | omega | (simp only [adN_zero]; omega)) | exact OutS.whole rfl rfl | (refine CodeK.draw gOk hE rfl (fun _ _ h => h) (.take 0 (.take 1 (.take 2 (.alt 3 (.alt 4 (.take 5 (.take 6 (.take 7 (.take 8 (.take 9 (.take 10 (.take 11 (.take 12 (.alt 13 (.alt 14 (.take 15 .done) .stop) .stop))))))))) .stop) .stop)))) ?_ ?_; focus (decide +kernel)) | (refine OpK.call c2 rfl rfl rfl rfl hE ?_ rfl rfl ?_; focus ((repeat' (first | exact PsA.lit _ | exact PsA.ref rfl rfl | constructor)); all_goals (fail "ps"))))
            all_goals (try simp only [adN_zero] at *)
            all_goals first
              | (exfalso; omega)
              | (refine Need.mk ?_; omega)
              | trace_state
      · rw [List.drop_eq_nil_of_le (by omega)] at hq
        repeat' (first | exact trivial | refine BS.d (fun h => ?_) (fun h => ?_) | refine BS.e (fun h => ?_) (fun h => ?_) | refine BS.ne (fun h => ?_) (fun h => ?_) | refine BS.n ?_ | refine BS.s (fun h => ?_) (fun h => ?_) | refine And.intro ?_ ?_ | (refine Need.mk ?_; first | with_reducible rfl | (show @Eq TC _ _; rfl) | omega | (simp only [adN_zero]; omega)) | exact OutS.whole rfl rfl)
        all_goals first | exact Need.mk hq.symm | (exfalso; omega) | trace_state
  · have hq : lsOk g o = false := by unfold lsOk; rw [if_neg (fun h => hl ⟨h.1, h.2.1⟩)]
    rw [hq]
    refine RunT.of_vc gOk Try.func11 rfl rfl (Nat.le_of_ble_eq_true rfl) (by repeat' (first | exact trivial | exact ⟨_, rfl, Nat.le_refl _⟩ | exact Nat.le_of_ble_eq_true rfl | refine And.intro ?_ ?_)) (Nat.le_of_ble_eq_true rfl) rfl (fun F hE => ?_)
    repeat' (first | exact trivial | refine BS.d (fun h => ?_) (fun h => ?_) | refine BS.e (fun h => ?_) (fun h => ?_) | refine BS.ne (fun h => ?_) (fun h => ?_) | refine BS.n ?_ | refine BS.s (fun h => ?_) (fun h => ?_) | refine And.intro ?_ ?_ | (refine Need.mk ?_; first | with_reducible rfl | (show @Eq TC _ _; rfl) | omega | (simp only [adN_zero]; omega)) | exact OutS.whole rfl rfl)
    all_goals (try simp only [adN_zero] at *)
    all_goals first | (exfalso; omega) | trace_state
theorem ListsOk_law (g o : List (List Int)) (hg : g.length ≤ 9223372036854775807) (ho : o.length ≤ 9223372036854775807) (ig : ∀ i, (g.getD i []).length ≤ 9223372036854775807) (io : ∀ i, (o.getD i []).length ≤ 9223372036854775807) : RunT Try.prog 3 [.agg [.c (tSL 0 g), .c (tSL 0 o)]] [] [ob true] [] := by
  have c0 := szLists_run 0 g o 1048576 (by decide) (by decide) hg ig ho io
  by_cases hz : (if szSLs g 1048576 < 0 then (-1 : Int) else szSLs o (szSLs g 1048576)) < 0
  · generalize (if szSLs g 1048576 < 0 then (-1 : Int) else szSLs o (szSLs g 1048576)) = b at *
    refine RunT.of_vc gOk Try.func3 rfl rfl (Nat.le_of_ble_eq_true rfl) (by repeat' (first | exact trivial | exact ⟨_, rfl, Nat.le_refl _⟩ | exact Nat.le_of_ble_eq_true rfl | refine And.intro ?_ ?_)) (Nat.le_of_ble_eq_true rfl) rfl (fun F hE => ?_)
    repeat' (first | exact trivial | refine BS.d (fun h => ?_) (fun h => ?_) | refine BS.e (fun h => ?_) (fun h => ?_) | refine BS.ne (fun h => ?_) (fun h => ?_) | refine BS.n ?_ | refine BS.s (fun h => ?_) (fun h => ?_) | refine And.intro ?_ ?_ | (refine Need.mk ?_; first | with_reducible rfl | (show @Eq TC _ _; rfl) | omega | (simp only [adN_zero]; omega)) | exact OutS.whole rfl rfl | (refine OpK.call c0 rfl rfl rfl rfl hE ?_ rfl rfl ?_; focus ((repeat' (first | exact PsA.lit _ | exact PsA.ref rfl rfl | constructor)); all_goals (fail "ps"))))
    all_goals first | exact absurd (by assumption) (by assumption) | (exfalso; omega) | trace_state
  · obtain ⟨hb, kg, ko, kgo⟩ := szL_ok (by decide) (by decide) hz
    generalize (if szSLs g 1048576 < 0 then (-1 : Int) else szSLs o (szSLs g 1048576)) = b at *
    have c1 := toLists_run 0 g o (by omega) kg (by omega) ko
    have c2 := ListsOkS_run 52 52 g o (by omega) (by omega) (by omega)
    have c3 := ListsOkI_run 52 52 g o (by omega) kgo
    have c4 := eqLists_run 52 g o (by omega) (fun i => by have := kg i; omega) (by omega) (fun i => by have := ko i; omega)
    generalize lsOk g o = bb at *
    refine RunT.of_vc gOk Try.func3 rfl rfl (Nat.le_of_ble_eq_true rfl) (by repeat' (first | exact trivial | exact ⟨_, rfl, Nat.le_refl _⟩ | exact Nat.le_of_ble_eq_true rfl | refine And.intro ?_ ?_)) (Nat.le_of_ble_eq_true rfl) rfl (fun F hE => ?_)
    repeat' (first | exact trivial | refine BS.d (fun h => ?_) (fun h => ?_) | refine BS.e (fun h => ?_) (fun h => ?_) | refine BS.ne (fun h => ?_) (fun h => ?_) | refine BS.n ?_ | refine BS.s (fun h => ?_) (fun h => ?_) | refine And.intro ?_ ?_ | (refine Need.mk ?_; first | with_reducible rfl | (show @Eq TC _ _; rfl) | omega | (simp only [adN_zero]; omega)) | exact OutS.whole rfl rfl | (refine OpK.call c0 rfl rfl rfl rfl hE ?_ rfl rfl ?_; focus ((repeat' (first | exact PsA.lit _ | exact PsA.ref rfl rfl | constructor)); all_goals (fail "ps"))) | (refine OpK.call c1 rfl rfl rfl rfl hE ?_ rfl rfl ?_; focus ((repeat' (first | exact PsA.lit _ | exact PsA.ref rfl rfl | constructor)); all_goals (fail "ps"))) | (refine OpK.call c2 rfl rfl rfl rfl hE ?_ rfl rfl ?_; focus ((repeat' (first | exact PsA.lit _ | exact PsA.ref rfl rfl | constructor)); all_goals (fail "ps"))) | (refine OpK.call c3 rfl rfl rfl rfl hE ?_ rfl rfl ?_; focus ((repeat' (first | exact PsA.lit _ | exact PsA.ref rfl rfl | constructor)); all_goals (fail "ps"))) | (refine OpK.call c4 rfl rfl rfl rfl hE ?_ rfl rfl ?_; focus ((repeat' (first | exact PsA.lit _ | exact PsA.ref rfl rfl | constructor)); all_goals (fail "ps"))) | (refine CodeK.draw gOk hE rfl (fun _ _ h => h) (.alt 0 (.alt 1 (.alt 2 (.alt 3 (.take 4 .done) .stop) .stop) .stop) (.alt 1 (.alt 0 (.alt 2 (.alt 3 (.take 4 .done) .stop) .stop) (.alt 2 (.alt 0 (.alt 3 (.take 4 .done) .stop) .stop) .stop)) .stop)) ?_ ?_; focus (decide +kernel)))
    all_goals first | exact absurd rfl h | (exfalso; omega) | (cases bb <;> simp_all; done) | trace_state
end Go.Proofs.Ytbfkdbbgbdihdab
