import Derived.Test.YtbfkdbbgbdihdabUH
namespace Go.Proofs.Ytbfkdbbgbdihdab
open Go Go.Tr
set_option maxRecDepth 100000
set_option maxHeartbeats 4000000
set_option linter.unusedVariables false
set_option linter.unusedSimpArgs false
def frN (g o : List (List Int)) (m : Nat) : Nat → Int
  | 0 => (g.getD m []).length
  | i + 1 => frN g o m i + (o.getD (i * 3 + m) []).length
def frOf (g o : List (List Int)) (c : Int) : Int := if lsOk g o = true ∧ 0 ≤ c ∧ c ≤ 2 then frN g o c.toNat 3 else 0
theorem frN_bd (g o : List (List Int)) (m : Nat) (kg : ∀ i, (g.getD i []).length ≤ 1048576) (ko : ∀ i, (o.getD i []).length ≤ 1048576) : ∀ i, i ≤ 3 → 0 ≤ frN g o m i ∧ frN g o m i ≤ 1048576 * (i + 1)
  | 0, _ => by have := kg m; unfold frN; omega
  | i + 1, h => by have := frN_bd g o m kg ko i (by omega); have := ko (i * 3 + m); unfold frN; omega
theorem lsOk_len {g o : List (List Int)} (h : lsOk g o = true) : g.length = 3 ∧ o.length = 9 := by
  unfold lsOk at h
  split at h
  · rename_i hh; exact ⟨hh.1, hh.2.1⟩
  · cases h
theorem classOk_run (x : Int) : RunT Try.prog 42 [ti x] [] [ob (decide (0 ≤ x ∧ x < 3))] [] := by
  refine RunT.of_vc gOk Try.func42 rfl rfl (Nat.le_of_ble_eq_true rfl) (by repeat' (first | exact trivial | exact ⟨_, rfl, Nat.le_refl _⟩ | exact Nat.le_of_ble_eq_true rfl | refine And.intro ?_ ?_)) (Nat.le_of_ble_eq_true rfl) rfl (fun F hE => ?_)
  repeat' (first | exact trivial | refine BS.d (fun h => ?_) (fun h => ?_) | refine BS.e (fun h => ?_) (fun h => ?_) | refine BS.ne (fun h => ?_) (fun h => ?_) | refine BS.n ?_ | refine BS.s (fun h => ?_) (fun h => ?_) | refine And.intro ?_ ?_ | (refine Need.mk ?_; first | with_reducible rfl | (show @Eq TC _ _; rfl) | omega | (simp only [adN_zero]; omega)) | exact OutS.whole rfl rfl)
  all_goals (refine Need.mk ?_; first | rfl | (symm; apply decide_eq_true; omega) | (symm; apply decide_eq_false; omega) | (apply decide_eq_decide.2; omega))
theorem workerOk_run (x : Int) : RunT Try.prog 61 [ti x] [] [ob (decide (0 ≤ x ∧ x < 3))] [] := by
  refine RunT.of_vc gOk Try.func61 rfl rfl (Nat.le_of_ble_eq_true rfl) (by repeat' (first | exact trivial | exact ⟨_, rfl, Nat.le_refl _⟩ | exact Nat.le_of_ble_eq_true rfl | refine And.intro ?_ ?_)) (Nat.le_of_ble_eq_true rfl) rfl (fun F hE => ?_)
  repeat' (first | exact trivial | refine BS.d (fun h => ?_) (fun h => ?_) | refine BS.e (fun h => ?_) (fun h => ?_) | refine BS.ne (fun h => ?_) (fun h => ?_) | refine BS.n ?_ | refine BS.s (fun h => ?_) (fun h => ?_) | refine And.intro ?_ ?_ | (refine Need.mk ?_; first | with_reducible rfl | (show @Eq TC _ _; rfl) | omega | (simp only [adN_zero]; omega)) | exact OutS.whole rfl rfl)
  all_goals (refine Need.mk ?_; first | rfl | (symm; apply decide_eq_true; omega) | (symm; apply decide_eq_false; omega) | (apply decide_eq_decide.2; omega))
theorem OwnAtS_run (w c : Nat) (hw : w ≤ 2) (hc : c ≤ 2) : RunT Try.prog 41 [ti w, ti c] [] [oi ((w * 3 + c : Nat) : Int)] [] := by
  have c1 := l1In_run w 0 2
  have c2 := l1In_run c 0 2
  rw [decide_eq_true (by omega)] at c1 c2
  refine RunT.of_vc gOk Try.func41 rfl rfl (Nat.le_of_ble_eq_true rfl) (by repeat' (first | exact trivial | exact ⟨_, rfl, Nat.le_refl _⟩ | exact Nat.le_of_ble_eq_true rfl | refine And.intro ?_ ?_)) (Nat.le_of_ble_eq_true rfl) rfl (fun F hE => ?_)
  repeat' (first | exact trivial | refine BS.d (fun h => ?_) (fun h => ?_) | refine BS.e (fun h => ?_) (fun h => ?_) | refine BS.ne (fun h => ?_) (fun h => ?_) | refine BS.n ?_ | refine BS.s (fun h => ?_) (fun h => ?_) | refine And.intro ?_ ?_ | (refine Need.mk ?_; first | with_reducible rfl | (show @Eq TC _ _; rfl) | omega | (simp only [adN_zero]; omega)) | exact OutS.whole rfl rfl | (refine OpK.call c1 rfl rfl rfl rfl hE ?_ rfl rfl ?_; focus ((repeat' (first | exact PsA.lit _ | exact PsA.ref rfl rfl | constructor)); all_goals (fail "ps"))) | (refine OpK.call c2 rfl rfl rfl rfl hE ?_ rfl rfl ?_; focus ((repeat' (first | exact PsA.lit _ | exact PsA.ref rfl rfl | constructor)); all_goals (fail "ps"))))
  all_goals first | (exfalso; omega) | (exact absurd rfl (by assumption)) | trace_state
theorem OwnAtI_run (w c : Nat) (hw : w ≤ 2) (hc : c ≤ 2) : RunT Try.prog 43 [ti w, ti c] [] [oi ((w * 3 + c : Nat) : Int)] [] := by
  have c1 := workerOk_run w
  have c2 := classOk_run c
  rw [decide_eq_true (by omega)] at c1 c2
  refine RunT.of_vc gOk Try.func43 rfl rfl (Nat.le_of_ble_eq_true rfl) (by repeat' (first | exact trivial | exact ⟨_, rfl, Nat.le_refl _⟩ | exact Nat.le_of_ble_eq_true rfl | refine And.intro ?_ ?_)) (Nat.le_of_ble_eq_true rfl) rfl (fun F hE => ?_)
  repeat' (first | exact trivial | refine BS.d (fun h => ?_) (fun h => ?_) | refine BS.e (fun h => ?_) (fun h => ?_) | refine BS.ne (fun h => ?_) (fun h => ?_) | refine BS.n ?_ | refine BS.s (fun h => ?_) (fun h => ?_) | refine And.intro ?_ ?_ | (refine Need.mk ?_; first | with_reducible rfl | (show @Eq TC _ _; rfl) | omega | (simp only [adN_zero]; omega)) | exact OutS.whole rfl rfl | (refine OpK.call c1 rfl rfl rfl rfl hE ?_ rfl rfl ?_; focus ((repeat' (first | exact PsA.lit _ | exact PsA.ref rfl rfl | constructor)); all_goals (fail "ps"))) | (refine OpK.call c2 rfl rfl rfl rfl hE ?_ rfl rfl ?_; focus ((repeat' (first | exact PsA.lit _ | exact PsA.ref rfl rfl | constructor)); all_goals (fail "ps"))))
  all_goals first | (exfalso; omega) | (exact absurd rfl (by assumption)) | trace_state
theorem FreeOfS_run (e e' : Nat) (g o : List (List Int)) (c : Int) (hg : g.length ≤ 1048576) (ho : o.length ≤ 1048576) (hf : g.flatten.length + o.flatten.length ≤ 1048576) (kg : ∀ i, (g.getD i []).length ≤ 1048576) (ko : ∀ i, (o.getD i []).length ≤ 1048576) : RunT Try.prog 17 [.agg [.c (tSL e g), .c (tSL e' o)], ti c] [] [oi (frOf g o c)] [] := by
  have c1 := ListsOkS_run e e' g o hg ho hf
  have c2 := l1In_run c 0 2
  unfold frOf
  rcases hk : lsOk g o
  · rw [hk] at c1
    rw [if_neg (fun h => by simp at h)]
    by_cases hc : 0 ≤ c ∧ c ≤ 2
    · rw [decide_eq_true (hc)] at c2
      refine RunT.of_vc gOk Try.func17 rfl rfl (Nat.le_of_ble_eq_true rfl) (by repeat' (first | exact trivial | exact ⟨_, rfl, Nat.le_refl _⟩ | exact Nat.le_of_ble_eq_true rfl | refine And.intro ?_ ?_)) (Nat.le_of_ble_eq_true rfl) rfl (fun F hE => ?_)
      repeat' (first | exact trivial | refine BS.d (fun h => ?_) (fun h => ?_) | refine BS.e (fun h => ?_) (fun h => ?_) | refine BS.ne (fun h => ?_) (fun h => ?_) | refine BS.n ?_ | refine BS.s (fun h => ?_) (fun h => ?_) | refine And.intro ?_ ?_ | (refine Need.mk ?_; first | with_reducible rfl | (show @Eq TC _ _; rfl) | omega | (simp only [adN_zero]; omega)) | exact OutS.whole rfl rfl | (refine OpK.call c1 rfl rfl rfl rfl hE ?_ rfl rfl ?_; focus ((repeat' (first | exact PsA.lit _ | exact PsA.ref rfl rfl | constructor)); all_goals (fail "ps"))) | (refine OpK.call c2 rfl rfl rfl rfl hE ?_ rfl rfl ?_; focus ((repeat' (first | exact PsA.lit _ | exact PsA.ref rfl rfl | constructor)); all_goals (fail "ps"))))
      all_goals first | (exfalso; omega) | exact absurd rfl (by assumption) | trace_state
    · rw [decide_eq_false (hc)] at c2
      refine RunT.of_vc gOk Try.func17 rfl rfl (Nat.le_of_ble_eq_true rfl) (by repeat' (first | exact trivial | exact ⟨_, rfl, Nat.le_refl _⟩ | exact Nat.le_of_ble_eq_true rfl | refine And.intro ?_ ?_)) (Nat.le_of_ble_eq_true rfl) rfl (fun F hE => ?_)
      repeat' (first | exact trivial | refine BS.d (fun h => ?_) (fun h => ?_) | refine BS.e (fun h => ?_) (fun h => ?_) | refine BS.ne (fun h => ?_) (fun h => ?_) | refine BS.n ?_ | refine BS.s (fun h => ?_) (fun h => ?_) | refine And.intro ?_ ?_ | (refine Need.mk ?_; first | with_reducible rfl | (show @Eq TC _ _; rfl) | omega | (simp only [adN_zero]; omega)) | exact OutS.whole rfl rfl | (refine OpK.call c1 rfl rfl rfl rfl hE ?_ rfl rfl ?_; focus ((repeat' (first | exact PsA.lit _ | exact PsA.ref rfl rfl | constructor)); all_goals (fail "ps"))) | (refine OpK.call c2 rfl rfl rfl rfl hE ?_ rfl rfl ?_; focus ((repeat' (first | exact PsA.lit _ | exact PsA.ref rfl rfl | constructor)); all_goals (fail "ps"))))
      all_goals first | (exfalso; omega) | exact absurd rfl (by assumption) | trace_state
  · rw [hk] at c1
    obtain ⟨h1, h2⟩ := lsOk_len hk
    by_cases hc : 0 ≤ c ∧ c ≤ 2
    · rw [decide_eq_true (hc)] at c2
      rw [if_pos ⟨rfl, hc⟩]
      obtain ⟨m, rfl⟩ := Int.eq_ofNat_of_zero_le hc.1
      have hm : m ≤ 2 := by omega
      rw [show ((m : Nat) : Int).toNat = m from rfl]
      have kgm := kg m
      refine RunT.of_vc gOk Try.func17 rfl rfl (Nat.le_of_ble_eq_true rfl) (by repeat' (first | exact trivial | exact ⟨_, rfl, Nat.le_refl _⟩ | exact Nat.le_of_ble_eq_true rfl | refine And.intro ?_ ?_)) (Nat.le_of_ble_eq_true rfl) rfl (fun F hE => ?_)
      repeat' (first | exact trivial | refine BS.d (fun h => ?_) (fun h => ?_) | refine BS.e (fun h => ?_) (fun h => ?_) | refine BS.ne (fun h => ?_) (fun h => ?_) | refine BS.n ?_ | refine BS.s (fun h => ?_) (fun h => ?_) | refine And.intro ?_ ?_ | (refine Need.mk ?_; first | with_reducible rfl | (show @Eq TC _ _; rfl) | omega | (simp only [adN_zero]; omega)) | exact OutS.whole rfl rfl | (refine OpK.call c1 rfl rfl rfl rfl hE ?_ rfl rfl ?_; focus ((repeat' (first | exact PsA.lit _ | exact PsA.ref rfl rfl | constructor)); all_goals (fail "ps"))) | (refine OpK.call c2 rfl rfl rfl rfl hE ?_ rfl rfl ?_; focus ((repeat' (first | exact PsA.lit _ | exact PsA.ref rfl rfl | constructor)); all_goals (fail "ps"))))
      all_goals (try simp only [adN_zero] at *)
      all_goals first | (exfalso; first | omega | exact absurd rfl (by assumption)) | (refine Need.mk ?_; omega) | skip
      refine CodeK.loop gOk hE (fun i : Nat => ⟨[(2, .ptr 2 0 0), (1, vi m), (5, vi (frN g o m i)), (6, vi i)], [(2, .box 29 [.ref 1000000 0 g.length, .ref 1000001 0 o.length]), (1000000, rSL .fro false e g), (1000001, rSL .fro false e' o)]⟩) (fun i => i ≤ 3) (fun i => 3 - i) 0 (by refine leT.of ?_ ?_ rfl <;> repeat' (first | exact trivial | refine And.intro rfl ?_ | refine And.intro (by first | rfl | (simp [frN]; done) | (simp <;> rfl)) ?_)) (Nat.zero_le _) ?_
      rintro i hi
      have hb := frN_bd g o m kg ko i hi
      have kon := ko (i * 3 + m)
      have hN : frN g o m (i + 1) = frN g o m i + (o.getD (i * 3 + m) []).length := rfl
      by_cases hi2 : i < 3
      · have c5 := OwnAtS_run i m (by omega) hm
        repeat' (first | exact trivial | refine BS.d (fun h => ?_) (fun h => ?_) | refine BS.e (fun h => ?_) (fun h => ?_) | refine BS.ne (fun h => ?_) (fun h => ?_) | refine BS.n ?_ | refine BS.s (fun h => ?_) (fun h => ?_) | refine And.intro ?_ ?_ | (refine Need.mk ?_; first | with_reducible rfl | (show @Eq TC _ _; rfl) | omega | (simp only [adN_zero]; omega)) | exact OutS.whole rfl rfl | (refine CodeK.draw gOk hE rfl (fun _ _ h => h) (.take 0 (.take 1 (.take 3 (.take 4 (.alt 2 (.alt 5 (.take 6 (.take 7 (.alt 8 (.take 9 (.take 10 (.take 11 .done))) .stop))) .stop) (.alt 5 (.alt 2 (.take 6 (.take 7 (.alt 8 (.take 9 (.take 10 (.take 11 .done))) .stop))) .stop) .stop)))))) ?_ ?_; focus (decide +kernel)) | (refine OpK.call c5 rfl rfl rfl rfl hE ?_ rfl rfl ?_; focus ((repeat' (first | exact PsA.lit _ | exact PsA.ref rfl rfl | constructor)); all_goals (fail "ps"))))
        all_goals (try simp only [adN_zero] at *)
        all_goals first
          | (exfalso; omega)
          | (refine Need.mk ?_; omega)
          | (refine ⟨i + 1, (by refine leT.of ?_ ?_ rfl <;> repeat' (first | exact trivial | refine And.intro rfl ?_ | refine And.intro (by first | rfl | (rw [hN]; rfl)) ?_)), by omega, by first | omega | (dsimp only; omega)⟩)
      · obtain rfl : i = 3 := by omega
        repeat' (first | exact trivial | refine BS.d (fun h => ?_) (fun h => ?_) | refine BS.e (fun h => ?_) (fun h => ?_) | refine BS.ne (fun h => ?_) (fun h => ?_) | refine BS.n ?_ | refine BS.s (fun h => ?_) (fun h => ?_) | refine And.intro ?_ ?_ | (refine Need.mk ?_; first | with_reducible rfl | (show @Eq TC _ _; rfl) | omega | (simp only [adN_zero]; omega)) | exact OutS.whole rfl rfl)
        all_goals first | (exfalso; omega) | trace_state
    · rw [decide_eq_false (hc)] at c2
      rw [if_neg (fun h => hc h.2)]
      refine RunT.of_vc gOk Try.func17 rfl rfl (Nat.le_of_ble_eq_true rfl) (by repeat' (first | exact trivial | exact ⟨_, rfl, Nat.le_refl _⟩ | exact Nat.le_of_ble_eq_true rfl | refine And.intro ?_ ?_)) (Nat.le_of_ble_eq_true rfl) rfl (fun F hE => ?_)
      repeat' (first | exact trivial | refine BS.d (fun h => ?_) (fun h => ?_) | refine BS.e (fun h => ?_) (fun h => ?_) | refine BS.ne (fun h => ?_) (fun h => ?_) | refine BS.n ?_ | refine BS.s (fun h => ?_) (fun h => ?_) | refine And.intro ?_ ?_ | (refine Need.mk ?_; first | with_reducible rfl | (show @Eq TC _ _; rfl) | omega | (simp only [adN_zero]; omega)) | exact OutS.whole rfl rfl | (refine OpK.call c1 rfl rfl rfl rfl hE ?_ rfl rfl ?_; focus ((repeat' (first | exact PsA.lit _ | exact PsA.ref rfl rfl | constructor)); all_goals (fail "ps"))) | (refine OpK.call c2 rfl rfl rfl rfl hE ?_ rfl rfl ?_; focus ((repeat' (first | exact PsA.lit _ | exact PsA.ref rfl rfl | constructor)); all_goals (fail "ps"))))
      all_goals first | (exfalso; omega) | exact absurd rfl (by assumption) | trace_state
theorem FreeOfI_run (e e' : Nat) (g o : List (List Int)) (c : Int) (hgo : g.length + o.length ≤ 1048576) (hx : ∀ i, ((g ++ o).getD i []).length ≤ 1048576) (kg : ∀ i, (g.getD i []).length ≤ 1048576) (ko : ∀ i, (o.getD i []).length ≤ 1048576) : RunT Try.prog 18 [.agg [.c (tSL e g), .c (tSL e' o)], ti c] [] [oi (frOf g o c)] [] := by
  have c1 := ListsOkI_run e e' g o hgo hx
  have c2 := classOk_run c
  unfold frOf
  rcases hk : lsOk g o
  · rw [hk] at c1
    rw [if_neg (fun h => by simp at h)]
    by_cases hc : 0 ≤ c ∧ c ≤ 2
    · rw [decide_eq_true (show 0 ≤ c ∧ c < 3 by omega)] at c2
      refine RunT.of_vc gOk Try.func18 rfl rfl (Nat.le_of_ble_eq_true rfl) (by repeat' (first | exact trivial | exact ⟨_, rfl, Nat.le_refl _⟩ | exact Nat.le_of_ble_eq_true rfl | refine And.intro ?_ ?_)) (Nat.le_of_ble_eq_true rfl) rfl (fun F hE => ?_)
      repeat' (first | exact trivial | refine BS.d (fun h => ?_) (fun h => ?_) | refine BS.e (fun h => ?_) (fun h => ?_) | refine BS.ne (fun h => ?_) (fun h => ?_) | refine BS.n ?_ | refine BS.s (fun h => ?_) (fun h => ?_) | refine And.intro ?_ ?_ | (refine Need.mk ?_; first | with_reducible rfl | (show @Eq TC _ _; rfl) | omega | (simp only [adN_zero]; omega)) | exact OutS.whole rfl rfl | (refine OpK.call c1 rfl rfl rfl rfl hE ?_ rfl rfl ?_; focus ((repeat' (first | exact PsA.lit _ | exact PsA.ref rfl rfl | constructor)); all_goals (fail "ps"))) | (refine OpK.call c2 rfl rfl rfl rfl hE ?_ rfl rfl ?_; focus ((repeat' (first | exact PsA.lit _ | exact PsA.ref rfl rfl | constructor)); all_goals (fail "ps"))))
      all_goals first | (exfalso; omega) | exact absurd rfl (by assumption) | trace_state
    · rw [decide_eq_false (show ¬ (0 ≤ c ∧ c < 3) by omega)] at c2
      refine RunT.of_vc gOk Try.func18 rfl rfl (Nat.le_of_ble_eq_true rfl) (by repeat' (first | exact trivial | exact ⟨_, rfl, Nat.le_refl _⟩ | exact Nat.le_of_ble_eq_true rfl | refine And.intro ?_ ?_)) (Nat.le_of_ble_eq_true rfl) rfl (fun F hE => ?_)
      repeat' (first | exact trivial | refine BS.d (fun h => ?_) (fun h => ?_) | refine BS.e (fun h => ?_) (fun h => ?_) | refine BS.ne (fun h => ?_) (fun h => ?_) | refine BS.n ?_ | refine BS.s (fun h => ?_) (fun h => ?_) | refine And.intro ?_ ?_ | (refine Need.mk ?_; first | with_reducible rfl | (show @Eq TC _ _; rfl) | omega | (simp only [adN_zero]; omega)) | exact OutS.whole rfl rfl | (refine OpK.call c1 rfl rfl rfl rfl hE ?_ rfl rfl ?_; focus ((repeat' (first | exact PsA.lit _ | exact PsA.ref rfl rfl | constructor)); all_goals (fail "ps"))) | (refine OpK.call c2 rfl rfl rfl rfl hE ?_ rfl rfl ?_; focus ((repeat' (first | exact PsA.lit _ | exact PsA.ref rfl rfl | constructor)); all_goals (fail "ps"))))
      all_goals first | (exfalso; omega) | exact absurd rfl (by assumption) | trace_state
  · rw [hk] at c1
    obtain ⟨h1, h2⟩ := lsOk_len hk
    by_cases hc : 0 ≤ c ∧ c ≤ 2
    · rw [decide_eq_true (show 0 ≤ c ∧ c < 3 by omega)] at c2
      rw [if_pos ⟨rfl, hc⟩]
      obtain ⟨m, rfl⟩ := Int.eq_ofNat_of_zero_le hc.1
      have hm : m ≤ 2 := by omega
      rw [show ((m : Nat) : Int).toNat = m from rfl]
      have kgm := kg m
      refine RunT.of_vc gOk Try.func18 rfl rfl (Nat.le_of_ble_eq_true rfl) (by repeat' (first | exact trivial | exact ⟨_, rfl, Nat.le_refl _⟩ | exact Nat.le_of_ble_eq_true rfl | refine And.intro ?_ ?_)) (Nat.le_of_ble_eq_true rfl) rfl (fun F hE => ?_)
      repeat' (first | exact trivial | refine BS.d (fun h => ?_) (fun h => ?_) | refine BS.e (fun h => ?_) (fun h => ?_) | refine BS.ne (fun h => ?_) (fun h => ?_) | refine BS.n ?_ | refine BS.s (fun h => ?_) (fun h => ?_) | refine And.intro ?_ ?_ | (refine Need.mk ?_; first | with_reducible rfl | (show @Eq TC _ _; rfl) | omega | (simp only [adN_zero]; omega)) | exact OutS.whole rfl rfl | (refine OpK.call c1 rfl rfl rfl rfl hE ?_ rfl rfl ?_; focus ((repeat' (first | exact PsA.lit _ | exact PsA.ref rfl rfl | constructor)); all_goals (fail "ps"))) | (refine OpK.call c2 rfl rfl rfl rfl hE ?_ rfl rfl ?_; focus ((repeat' (first | exact PsA.lit _ | exact PsA.ref rfl rfl | constructor)); all_goals (fail "ps"))))
      all_goals (try simp only [adN_zero] at *)
      all_goals first | (exfalso; first | omega | exact absurd rfl (by assumption)) | (refine Need.mk ?_; omega) | skip
      refine CodeK.loop gOk hE (fun i : Nat => ⟨[(2, .ptr 2 0 0), (1, vi m), (5, vi (frN g o m i)), (22, vi i)], [(2, .box 29 [.ref 1000000 0 g.length, .ref 1000001 0 o.length]), (1000000, rSL .fro false e g), (1000001, rSL .fro false e' o)]⟩) (fun i => i ≤ 3) (fun i => 3 - i) 0 (by refine leT.of ?_ ?_ rfl <;> repeat' (first | exact trivial | refine And.intro rfl ?_ | refine And.intro (by first | rfl | (simp [frN]; done) | (simp <;> rfl)) ?_)) (Nat.zero_le _) ?_
      rintro i hi
      have hb := frN_bd g o m kg ko i hi
      have kon := ko (i * 3 + m)
      have hN : frN g o m (i + 1) = frN g o m i + (o.getD (i * 3 + m) []).length := rfl
      by_cases hi2 : i < 3
      · have c5 := OwnAtI_run i m (by omega) hm
        repeat' (first | exact trivial | refine BS.d (fun h => ?_) (fun h => ?_) | refine BS.e (fun h => ?_) (fun h => ?_) | refine BS.ne (fun h => ?_) (fun h => ?_) | refine BS.n ?_ | refine BS.s (fun h => ?_) (fun h => ?_) | refine And.intro ?_ ?_ | (refine Need.mk ?_; first | with_reducible rfl | (show @Eq TC _ _; rfl) | omega | (simp only [adN_zero]; omega)) | exact OutS.whole rfl rfl | (refine CodeK.draw gOk hE rfl (fun _ _ h => h) (.take 0 (.take 1 (.take 3 (.take 4 (.alt 2 (.alt 5 (.take 6 (.take 7 (.alt 8 (.take 9 (.take 10 (.take 11 .done))) .stop))) .stop) (.alt 5 (.alt 2 (.take 6 (.take 7 (.alt 8 (.take 9 (.take 10 (.take 11 .done))) .stop))) .stop) .stop)))))) ?_ ?_; focus (decide +kernel)) | (refine OpK.call c5 rfl rfl rfl rfl hE ?_ rfl rfl ?_; focus ((repeat' (first | exact PsA.lit _ | exact PsA.ref rfl rfl | constructor)); all_goals (fail "ps"))))
        all_goals (try simp only [adN_zero] at *)
        all_goals first
          | (exfalso; omega)
          | (refine Need.mk ?_; omega)
          | (refine ⟨i + 1, (by refine leT.of ?_ ?_ rfl <;> repeat' (first | exact trivial | refine And.intro rfl ?_ | refine And.intro (by first | rfl | (rw [hN]; rfl)) ?_)), by omega, by first | omega | (dsimp only; omega)⟩)
      · obtain rfl : i = 3 := by omega
        repeat' (first | exact trivial | refine BS.d (fun h => ?_) (fun h => ?_) | refine BS.e (fun h => ?_) (fun h => ?_) | refine BS.ne (fun h => ?_) (fun h => ?_) | refine BS.n ?_ | refine BS.s (fun h => ?_) (fun h => ?_) | refine And.intro ?_ ?_ | (refine Need.mk ?_; first | with_reducible rfl | (show @Eq TC _ _; rfl) | omega | (simp only [adN_zero]; omega)) | exact OutS.whole rfl rfl)
        all_goals first | (exfalso; omega) | trace_state
    · rw [decide_eq_false (show ¬ (0 ≤ c ∧ c < 3) by omega)] at c2
      rw [if_neg (fun h => hc h.2)]
      refine RunT.of_vc gOk Try.func18 rfl rfl (Nat.le_of_ble_eq_true rfl) (by repeat' (first | exact trivial | exact ⟨_, rfl, Nat.le_refl _⟩ | exact Nat.le_of_ble_eq_true rfl | refine And.intro ?_ ?_)) (Nat.le_of_ble_eq_true rfl) rfl (fun F hE => ?_)
      repeat' (first | exact trivial | refine BS.d (fun h => ?_) (fun h => ?_) | refine BS.e (fun h => ?_) (fun h => ?_) | refine BS.ne (fun h => ?_) (fun h => ?_) | refine BS.n ?_ | refine BS.s (fun h => ?_) (fun h => ?_) | refine And.intro ?_ ?_ | (refine Need.mk ?_; first | with_reducible rfl | (show @Eq TC _ _; rfl) | omega | (simp only [adN_zero]; omega)) | exact OutS.whole rfl rfl | (refine OpK.call c1 rfl rfl rfl rfl hE ?_ rfl rfl ?_; focus ((repeat' (first | exact PsA.lit _ | exact PsA.ref rfl rfl | constructor)); all_goals (fail "ps"))) | (refine OpK.call c2 rfl rfl rfl rfl hE ?_ rfl rfl ?_; focus ((repeat' (first | exact PsA.lit _ | exact PsA.ref rfl rfl | constructor)); all_goals (fail "ps"))))
      all_goals first | (exfalso; omega) | exact absurd rfl (by assumption) | trace_state
theorem FreeOf_law (g o : List (List Int)) (c : Int) (hg : g.length ≤ 9223372036854775807) (ho : o.length ≤ 9223372036854775807) (ig : ∀ i, (g.getD i []).length ≤ 9223372036854775807) (io : ∀ i, (o.getD i []).length ≤ 9223372036854775807) : RunT Try.prog 5 [.agg [.c (tSL 0 g), .c (tSL 0 o)], ti c] [] [ob true] [] := by
  have c0 := szLists_run 0 g o 1048576 (by decide) (by decide) hg ig ho io
  by_cases hz : (if szSLs g 1048576 < 0 then (-1 : Int) else szSLs o (szSLs g 1048576)) < 0
  · generalize (if szSLs g 1048576 < 0 then (-1 : Int) else szSLs o (szSLs g 1048576)) = b at *
    refine RunT.of_vc gOk Try.func5 rfl rfl (Nat.le_of_ble_eq_true rfl) (by repeat' (first | exact trivial | exact ⟨_, rfl, Nat.le_refl _⟩ | exact Nat.le_of_ble_eq_true rfl | refine And.intro ?_ ?_)) (Nat.le_of_ble_eq_true rfl) rfl (fun F hE => ?_)
    repeat' (first | exact trivial | refine BS.d (fun h => ?_) (fun h => ?_) | refine BS.e (fun h => ?_) (fun h => ?_) | refine BS.ne (fun h => ?_) (fun h => ?_) | refine BS.n ?_ | refine BS.s (fun h => ?_) (fun h => ?_) | refine And.intro ?_ ?_ | (refine Need.mk ?_; first | with_reducible rfl | (show @Eq TC _ _; rfl) | omega | (simp only [adN_zero]; omega)) | exact OutS.whole rfl rfl | (refine OpK.call c0 rfl rfl rfl rfl hE ?_ rfl rfl ?_; focus ((repeat' (first | exact PsA.lit _ | exact PsA.ref rfl rfl | constructor)); all_goals (fail "ps"))))
    all_goals first | exact absurd (by assumption) (by assumption) | (exfalso; omega) | trace_state
  · obtain ⟨hb, kg, ko, kgo⟩ := szL_ok (by decide) (by decide) hz
    generalize (if szSLs g 1048576 < 0 then (-1 : Int) else szSLs o (szSLs g 1048576)) = b at *
    have c1 := toLists_run 0 g o (by omega) kg (by omega) ko
    have c2 := FreeOfS_run 52 52 g o c (by omega) (by omega) (by omega) kg ko
    have c3 := FreeOfI_run 52 52 g o c (by omega) kgo kg ko
    have c4 := eqLists_run 52 g o (by omega) (fun i => by have := kg i; omega) (by omega) (fun i => by have := ko i; omega)
    generalize frOf g o c = bb at *
    refine RunT.of_vc gOk Try.func5 rfl rfl (Nat.le_of_ble_eq_true rfl) (by repeat' (first | exact trivial | exact ⟨_, rfl, Nat.le_refl _⟩ | exact Nat.le_of_ble_eq_true rfl | refine And.intro ?_ ?_)) (Nat.le_of_ble_eq_true rfl) rfl (fun F hE => ?_)
    repeat' (first | exact trivial | refine BS.d (fun h => ?_) (fun h => ?_) | refine BS.e (fun h => ?_) (fun h => ?_) | refine BS.ne (fun h => ?_) (fun h => ?_) | refine BS.n ?_ | refine BS.s (fun h => ?_) (fun h => ?_) | refine And.intro ?_ ?_ | (refine Need.mk ?_; first | with_reducible rfl | (show @Eq TC _ _; rfl) | omega | (simp only [adN_zero]; omega)) | exact OutS.whole rfl rfl | (refine OpK.call c0 rfl rfl rfl rfl hE ?_ rfl rfl ?_; focus ((repeat' (first | exact PsA.lit _ | exact PsA.ref rfl rfl | constructor)); all_goals (fail "ps"))) | (refine OpK.call c1 rfl rfl rfl rfl hE ?_ rfl rfl ?_; focus ((repeat' (first | exact PsA.lit _ | exact PsA.ref rfl rfl | constructor)); all_goals (fail "ps"))) | (refine OpK.call c2 rfl rfl rfl rfl hE ?_ rfl rfl ?_; focus ((repeat' (first | exact PsA.lit _ | exact PsA.ref rfl rfl | constructor)); all_goals (fail "ps"))) | (refine OpK.call c3 rfl rfl rfl rfl hE ?_ rfl rfl ?_; focus ((repeat' (first | exact PsA.lit _ | exact PsA.ref rfl rfl | constructor)); all_goals (fail "ps"))) | (refine OpK.call c4 rfl rfl rfl rfl hE ?_ rfl rfl ?_; focus ((repeat' (first | exact PsA.lit _ | exact PsA.ref rfl rfl | constructor)); all_goals (fail "ps"))) | (refine CodeK.draw gOk hE rfl (fun _ _ h => h) (.alt 0 (.alt 1 (.alt 2 (.alt 3 (.take 4 .done) .stop) .stop) .stop) (.alt 1 (.alt 0 (.alt 2 (.alt 3 (.take 4 .done) .stop) .stop) (.alt 2 (.alt 0 (.alt 3 (.take 4 .done) .stop) .stop) .stop)) .stop)) ?_ ?_; focus (decide +kernel)))
    all_goals first | exact absurd rfl h | (exfalso; omega) | (simp_all; done) | trace_state
end Go.Proofs.Ytbfkdbbgbdihdab
