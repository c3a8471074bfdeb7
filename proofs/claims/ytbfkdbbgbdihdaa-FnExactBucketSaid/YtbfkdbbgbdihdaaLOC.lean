import Derived.Test.YtbfkdbbgbdihdaaLOB
namespace Go.Proofs.Ytbfkdbbgbdihdaa
open Go Go.Tr
set_option maxRecDepth 100000
set_option linter.unusedVariables false
set_option linter.unusedSimpArgs false
theorem hSlot_bd (x : Int) : hSlot x = -1 ∨ (0 ≤ hSlot x ∧ hSlot x < 24) := by
  unfold hSlot
  rcases hp : hOk x
  · exact .inl rfl
  · unfold hOk at hp
    have := of_decide_eq_true hp
    exact .inr (by simp only [if_true]; omega)
/-- Rows whose slots are told apart, the slots before them being these. -/
def okR : List Int → List Row → Bool
  | _, [] => true
  | s, r :: l => if hSlot r.1 = -1 ∨ ¬ (0 ≤ r.2 ∧ r.2 ≤ 100000) ∨ hSlot r.1 ∈ s then false else okR (s ++ [hSlot r.1]) l
def lOk (xs : List (List Row)) : Bool := if xs.length = 3 ∧ cnt xs ≤ 24 then okR [] xs.flatten else false
theorem okR_no {s : List Int} {r : Row} {l : List Row} (h : hSlot r.1 = -1 ∨ ¬ (0 ≤ r.2 ∧ r.2 ≤ 100000) ∨ hSlot r.1 ∈ s) : okR s (r :: l) = false := by
  rw [okR, if_pos h]
theorem okR_yes {s : List Int} {r : Row} {l : List Row} (h : ¬ (hSlot r.1 = -1 ∨ ¬ (0 ≤ r.2 ∧ r.2 ≤ 100000) ∨ hSlot r.1 ∈ s)) : okR s (r :: l) = okR (s ++ [hSlot r.1]) l := by
  rw [okR, if_neg h]
set_option maxHeartbeats 4000000 in
theorem LimboOkS_run (e' e : Nat) (xs : List (List Row)) (hn : xs.length ≤ 1048576) (hcn : cnt xs ≤ 1048576) : RunT Try.prog 40 [.one (.c (tLL e' e xs))] [] [ob (lOk xs)] [] := by
  have hfl := flat_len xs
  refine RunT.of_vc gOk Try.func40 rfl rfl (Nat.le_of_ble_eq_true rfl) (by repeat' (first | exact trivial | exact ⟨_, rfl, Nat.le_refl _⟩ | exact Nat.le_of_ble_eq_true rfl | refine And.intro ?_ ?_)) (Nat.le_of_ble_eq_true rfl) rfl (fun F hE => ?_)
  repeat' (first | exact trivial | refine BS.d (fun h => ?_) (fun h => ?_) | refine BS.e (fun h => ?_) (fun h => ?_) | refine BS.ne (fun h => ?_) (fun h => ?_) | refine BS.n ?_ | refine BS.s (fun h => ?_) (fun h => ?_) | refine And.intro ?_ ?_ | (refine Need.mk ?_; first | with_reducible rfl | (show @Eq TC _ _; rfl) | omega | (simp only [adN_zero]; omega)) | exact OutS.whole rfl rfl | refine ListO.go gOk hE ?_)
  refine OpK.call (l11All_run e' e xs hn hcn) rfl rfl rfl rfl hE (by repeat' (first | exact PsA.lit _ | exact PsA.ref rfl rfl | constructor)) rfl rfl ?_
  repeat' (first | exact trivial | refine BS.d (fun h => ?_) (fun h => ?_) | refine BS.e (fun h => ?_) (fun h => ?_) | refine BS.ne (fun h => ?_) (fun h => ?_) | refine BS.n ?_ | refine BS.s (fun h => ?_) (fun h => ?_) | refine And.intro ?_ ?_ | (refine Need.mk ?_; first | with_reducible rfl | (show @Eq TC _ _; rfl) | omega | (simp only [adN_zero]; omega)) | exact OutS.whole rfl rfl | refine ListO.go gOk hE ?_)
  · refine Need.mk ?_
    unfold lOk; rw [if_neg (by omega)]
  · refine Need.mk ?_
    unfold lOk; rw [if_neg (by omega)]
  · rename_i h1
    repeat' (first | exact trivial | refine BS.d (fun h => ?_) (fun h => ?_) | refine BS.e (fun h => ?_) (fun h => ?_) | refine BS.ne (fun h => ?_) (fun h => ?_) | refine BS.n ?_ | refine BS.s (fun h => ?_) (fun h => ?_) | refine And.intro ?_ ?_ | (refine Need.mk ?_; first | with_reducible rfl | (show @Eq TC _ _; rfl) | omega | (simp only [adN_zero]; omega)) | exact OutS.whole rfl rfl | refine ListO.go gOk hE ?_)
    have hlo : lOk xs = okR [] xs.flatten := by unfold lOk; rw [if_pos (by omega)]
    rw [hlo]
    generalize xs.flatten = R at *
    refine CodeK.loop gOk hE (fun i : Nat × List Int => ⟨[(3, vr 2001024 R.length), (4, vr 17 i.2.length), (5, vi i.1)], [(2001024, rR .own true 61 R), (17, rI .own true 3 i.2)]⟩) (fun i => i.1 ≤ R.length ∧ i.2.length = i.1 ∧ okR [] R = okR i.2 (R.drop i.1)) (fun i => R.length - i.1) (0, []) (by refine leT.of ?_ ?_ rfl <;> repeat' (first | exact trivial | refine And.intro rfl ?_ | refine And.intro (by simp) ?_)) ⟨Nat.zero_le _, rfl, rfl⟩ ?_
    rintro ⟨i, s⟩ ⟨hi, hsl, hq⟩
    dsimp only at hi hsl hq
    by_cases hi2 : i < R.length
    · rw [drop_cons (0, 0) hi2] at hq
      have c1 := sHandleSlot_run (R.getD i (0, 0)).1
      have c2 := l1In_run (R.getD i (0, 0)).2 0 100000
      have c3 := l8Has_run 3 s (hSlot (R.getD i (0, 0)).1) (by omega)
      have hb := hSlot_bd (R.getD i (0, 0)).1
      rcases hb with hb | hb
      · rw [hb] at c1 c3
        rw [okR_no (.inl hb)] at hq
        repeat' (first | exact trivial | refine BS.d (fun h => ?_) (fun h => ?_) | refine BS.e (fun h => ?_) (fun h => ?_) | refine BS.ne (fun h => ?_) (fun h => ?_) | refine BS.n ?_ | refine BS.s (fun h => ?_) (fun h => ?_) | refine And.intro ?_ ?_ | (refine Need.mk ?_; first | with_reducible rfl | (show @Eq TC _ _; rfl) | omega | (simp only [adN_zero]; omega)) | exact OutS.whole rfl rfl | (refine OpK.call c1 rfl rfl rfl rfl hE ?_ rfl rfl ?_; focus ((repeat' (first | exact PsA.lit _ | exact PsA.ref rfl rfl | constructor)); all_goals (fail "ps"))) | (refine OpK.call c2 rfl rfl rfl rfl hE ?_ rfl rfl ?_; focus ((repeat' (first | exact PsA.lit _ | exact PsA.ref rfl rfl | constructor)); all_goals (fail "ps"))) | (refine OpK.call c3 rfl rfl rfl rfl hE ?_ rfl rfl ?_; focus ((repeat' (first | exact PsA.lit _ | exact PsA.ref rfl rfl | constructor)); all_goals (fail "ps"))) | refine ListO.go gOk hE ?_)
        all_goals first | exact Need.mk hq.symm | exact Need.mk hq | (exfalso; omega) | trace_state
      · by_cases hep : 0 ≤ (R.getD i (0, 0)).2 ∧ (R.getD i (0, 0)).2 ≤ 100000
        · rw [decide_eq_true hep] at c2
          by_cases hin : hSlot (R.getD i (0, 0)).1 ∈ s
          · rw [decide_eq_true hin] at c3
            rw [okR_no (.inr (.inr hin))] at hq
            repeat' (first | exact trivial | refine BS.d (fun h => ?_) (fun h => ?_) | refine BS.e (fun h => ?_) (fun h => ?_) | refine BS.ne (fun h => ?_) (fun h => ?_) | refine BS.n ?_ | refine BS.s (fun h => ?_) (fun h => ?_) | refine And.intro ?_ ?_ | (refine Need.mk ?_; first | with_reducible rfl | (show @Eq TC _ _; rfl) | omega | (simp only [adN_zero]; omega)) | exact OutS.whole rfl rfl | (refine OpK.call c1 rfl rfl rfl rfl hE ?_ rfl rfl ?_; focus ((repeat' (first | exact PsA.lit _ | exact PsA.ref rfl rfl | constructor)); all_goals (fail "ps"))) | (refine OpK.call c2 rfl rfl rfl rfl hE ?_ rfl rfl ?_; focus ((repeat' (first | exact PsA.lit _ | exact PsA.ref rfl rfl | constructor)); all_goals (fail "ps"))) | (refine OpK.call c3 rfl rfl rfl rfl hE ?_ rfl rfl ?_; focus ((repeat' (first | exact PsA.lit _ | exact PsA.ref rfl rfl | constructor)); all_goals (fail "ps"))) | refine ListO.go gOk hE ?_)
            all_goals first | exact Need.mk hq.symm | exact Need.mk hq | (exfalso; omega) | trace_state
          · rw [decide_eq_false hin] at c3
            rw [okR_yes (by rintro (h | h | h) <;> first | omega | exact h hep | exact hin h)] at hq
            repeat' (first | exact trivial | refine BS.d (fun h => ?_) (fun h => ?_) | refine BS.e (fun h => ?_) (fun h => ?_) | refine BS.ne (fun h => ?_) (fun h => ?_) | refine BS.n ?_ | refine BS.s (fun h => ?_) (fun h => ?_) | refine And.intro ?_ ?_ | (refine Need.mk ?_; first | with_reducible rfl | (show @Eq TC _ _; rfl) | omega | (simp only [adN_zero]; omega)) | exact OutS.whole rfl rfl | (refine OpK.call c1 rfl rfl rfl rfl hE ?_ rfl rfl ?_; focus ((repeat' (first | exact PsA.lit _ | exact PsA.ref rfl rfl | constructor)); all_goals (fail "ps"))) | (refine OpK.call c2 rfl rfl rfl rfl hE ?_ rfl rfl ?_; focus ((repeat' (first | exact PsA.lit _ | exact PsA.ref rfl rfl | constructor)); all_goals (fail "ps"))) | (refine OpK.call c3 rfl rfl rfl rfl hE ?_ rfl rfl ?_; focus ((repeat' (first | exact PsA.lit _ | exact PsA.ref rfl rfl | constructor)); all_goals (fail "ps"))) | refine ListO.go gOk hE ?_)
            all_goals first | (exfalso; omega) | (exact ⟨by dsimp only; unfold maxLen; omega, by show (s.length + 1) * 8 ≤ 140737488355328; omega⟩) | skip
            repeat' (first | exact trivial | refine BS.d (fun h => ?_) (fun h => ?_) | refine BS.e (fun h => ?_) (fun h => ?_) | refine BS.ne (fun h => ?_) (fun h => ?_) | refine BS.n ?_ | refine BS.s (fun h => ?_) (fun h => ?_) | refine And.intro ?_ ?_ | (refine Need.mk ?_; first | with_reducible rfl | (show @Eq TC _ _; rfl) | omega | (simp only [adN_zero]; omega)) | exact OutS.whole rfl rfl | refine ListO.go gOk hE ?_)
            all_goals first | (exfalso; omega) | (exact ⟨by dsimp only; unfold maxLen; omega, by show (s.length + 1) * 8 ≤ 140737488355328; omega⟩) | skip
            exact ⟨(i + 1, s ++ [hSlot (R.getD i (0, 0)).1]), (by refine leT.of ?_ ?_ rfl <;> repeat' (first | exact trivial | refine And.intro rfl ?_ | refine And.intro (by simp) ?_)), ⟨hi2, by simp [hsl], hq⟩, by dsimp only; omega⟩
        · rw [decide_eq_false hep] at c2
          rw [okR_no (.inr (.inl hep))] at hq
          repeat' (first | exact trivial | refine BS.d (fun h => ?_) (fun h => ?_) | refine BS.e (fun h => ?_) (fun h => ?_) | refine BS.ne (fun h => ?_) (fun h => ?_) | refine BS.n ?_ | refine BS.s (fun h => ?_) (fun h => ?_) | refine And.intro ?_ ?_ | (refine Need.mk ?_; first | with_reducible rfl | (show @Eq TC _ _; rfl) | omega | (simp only [adN_zero]; omega)) | exact OutS.whole rfl rfl | (refine OpK.call c1 rfl rfl rfl rfl hE ?_ rfl rfl ?_; focus ((repeat' (first | exact PsA.lit _ | exact PsA.ref rfl rfl | constructor)); all_goals (fail "ps"))) | (refine OpK.call c2 rfl rfl rfl rfl hE ?_ rfl rfl ?_; focus ((repeat' (first | exact PsA.lit _ | exact PsA.ref rfl rfl | constructor)); all_goals (fail "ps"))) | (refine OpK.call c3 rfl rfl rfl rfl hE ?_ rfl rfl ?_; focus ((repeat' (first | exact PsA.lit _ | exact PsA.ref rfl rfl | constructor)); all_goals (fail "ps"))) | refine ListO.go gOk hE ?_)
          all_goals first | exact Need.mk hq.symm | exact Need.mk hq | (exfalso; omega) | trace_state
    · rw [List.drop_eq_nil_of_le (by omega)] at hq
      repeat' (first | exact trivial | refine BS.d (fun h => ?_) (fun h => ?_) | refine BS.e (fun h => ?_) (fun h => ?_) | refine BS.ne (fun h => ?_) (fun h => ?_) | refine BS.n ?_ | refine BS.s (fun h => ?_) (fun h => ?_) | refine And.intro ?_ ?_ | (refine Need.mk ?_; first | with_reducible rfl | (show @Eq TC _ _; rfl) | omega | (simp only [adN_zero]; omega)) | exact OutS.whole rfl rfl | (refine OpK.call (l11All_run e' e xs hn hcn) rfl rfl rfl rfl hE ?_ rfl rfl ?_; focus ((repeat' (first | exact PsA.lit _ | exact PsA.ref rfl rfl | constructor)); all_goals (fail "ps"))) | refine ListO.go gOk hE ?_)
      all_goals first | exact Need.mk hq.symm | exact Need.mk hq | (exfalso; omega) | trace_state
end Go.Proofs.Ytbfkdbbgbdihdaa
