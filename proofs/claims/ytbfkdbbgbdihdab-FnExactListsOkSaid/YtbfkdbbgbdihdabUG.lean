import Derived.Test.YtbfkdbbgbdihdabUF
namespace Go.Proofs.Ytbfkdbbgbdihdab
open Go Go.Tr
set_option maxRecDepth 100000
set_option maxHeartbeats 4000000
set_option linter.unusedVariables false
set_option linter.unusedSimpArgs false
theorem szSL_eq : ∀ (l : List (List Int)) (m : Int), 0 ≤ m → 0 ≤ szSL l m → szSL l m = m - l.flatten.length
  | [], m, h, _ => by simp [szSL]
  | x :: l, m, h, h2 => by
    obtain ⟨k1, k2, k3⟩ := szI_le x m h
    unfold szSL at h2 ⊢
    split at h2
    · omega
    · rename_i hn
      rw [if_neg hn, szSL_eq l _ (by omega) h2, List.flatten_cons, List.length_append]
      have : szI x m = m - x.length := by unfold szI at hn ⊢; split at hn <;> first | omega | (rw [if_neg (by assumption)])
      omega
theorem flat_mem {l : List (List Int)} {x : List Int} (h : x ∈ l) : x.length ≤ l.flatten.length := by
  induction l with
  | nil => cases h
  | cons y l ih =>
    rw [List.flatten_cons, List.length_append]
    rcases List.mem_cons.1 h with rfl | h
    · omega
    · have := ih h; omega
theorem szL_ok {g o : List (List Int)} {m : Int} (hm0 : 0 ≤ m) (hm1 : m ≤ 1048576) (h : ¬ (if szSLs g m < 0 then (-1 : Int) else szSLs o (szSLs g m)) < 0) : g.length + o.length + g.flatten.length + o.flatten.length ≤ 1048576 ∧ (∀ i, (g.getD i []).length ≤ 1048576) ∧ (∀ i, (o.getD i []).length ≤ 1048576) ∧ ∀ i, ((g ++ o).getD i []).length ≤ 1048576 := by
  have h1 : ¬ szSLs g m < 0 := by intro hh; rw [if_pos hh] at h; omega
  rw [if_neg h1] at h
  unfold szSLs at h1
  split at h1
  · omega
  have e1 := szSL_eq g (m - g.length) (by omega) (by omega)
  have e0 : szSLs g m = m - g.length - g.flatten.length := by unfold szSLs; rw [if_neg (by assumption), e1]
  rw [e0] at h
  unfold szSLs at h
  split at h
  · omega
  have e2 := szSL_eq o _ (by omega) (by omega : 0 ≤ szSL o (m - g.length - g.flatten.length - o.length))
  have hb : g.length + o.length + g.flatten.length + o.flatten.length ≤ 1048576 := by omega
  refine ⟨hb, getD_le fun x hx => by have := flat_mem hx; omega, getD_le fun x hx => by have := flat_mem hx; omega, getD_le fun x hx => ?_⟩
  rcases List.mem_append.1 hx with hx | hx <;> (have := flat_mem hx; omega)
theorem OnList_law (g o : List (List Int)) (x : Int) (hg : g.length ≤ 9223372036854775807) (ho : o.length ≤ 9223372036854775807) (ig : ∀ i, (g.getD i []).length ≤ 9223372036854775807) (io : ∀ i, (o.getD i []).length ≤ 9223372036854775807) : RunT Try.prog 4 [.agg [.c (tSL 0 g), .c (tSL 0 o)], ti x] [] [ob true] [] := by
  have c0 := szLists_run 0 g o 1048576 (by decide) (by decide) hg ig ho io
  by_cases hz : (if szSLs g 1048576 < 0 then (-1 : Int) else szSLs o (szSLs g 1048576)) < 0
  · generalize (if szSLs g 1048576 < 0 then (-1 : Int) else szSLs o (szSLs g 1048576)) = b at *
    refine RunT.of_vc gOk Try.func4 rfl rfl (Nat.le_of_ble_eq_true rfl) (by repeat' (first | exact trivial | exact ⟨_, rfl, Nat.le_refl _⟩ | exact Nat.le_of_ble_eq_true rfl | refine And.intro ?_ ?_)) (Nat.le_of_ble_eq_true rfl) rfl (fun F hE => ?_)
    repeat' (first | exact trivial | refine BS.d (fun h => ?_) (fun h => ?_) | refine BS.e (fun h => ?_) (fun h => ?_) | refine BS.ne (fun h => ?_) (fun h => ?_) | refine BS.n ?_ | refine BS.s (fun h => ?_) (fun h => ?_) | refine And.intro ?_ ?_ | (refine Need.mk ?_; first | with_reducible rfl | (show @Eq TC _ _; rfl) | omega | (simp only [adN_zero]; omega)) | exact OutS.whole rfl rfl | (refine OpK.call c0 rfl rfl rfl rfl hE ?_ rfl rfl ?_; focus ((repeat' (first | exact PsA.lit _ | exact PsA.ref rfl rfl | constructor)); all_goals (fail "ps"))))
    all_goals first | exact absurd (by assumption) (by assumption) | (exfalso; omega) | trace_state
  · obtain ⟨hb, kg, ko, kgo⟩ := szL_ok (by decide) (by decide) hz
    generalize (if szSLs g 1048576 < 0 then (-1 : Int) else szSLs o (szSLs g 1048576)) = b at *
    have c1 := toLists_run 0 g o (by omega) kg (by omega) ko
    have c2 := OnListS_run 52 52 g o x (by omega) (by omega) (by omega)
    have c3 := OnListI_run 52 52 g o x (by omega) kgo
    have c4 := eqLists_run 52 g o (by omega) (fun i => by have := kg i; omega) (by omega) (fun i => by have := ko i; omega)
    generalize decide (x ∈ (g ++ o).flatten) = bb at *
    refine RunT.of_vc gOk Try.func4 rfl rfl (Nat.le_of_ble_eq_true rfl) (by repeat' (first | exact trivial | exact ⟨_, rfl, Nat.le_refl _⟩ | exact Nat.le_of_ble_eq_true rfl | refine And.intro ?_ ?_)) (Nat.le_of_ble_eq_true rfl) rfl (fun F hE => ?_)
    repeat' (first | exact trivial | refine BS.d (fun h => ?_) (fun h => ?_) | refine BS.e (fun h => ?_) (fun h => ?_) | refine BS.ne (fun h => ?_) (fun h => ?_) | refine BS.n ?_ | refine BS.s (fun h => ?_) (fun h => ?_) | refine And.intro ?_ ?_ | (refine Need.mk ?_; first | with_reducible rfl | (show @Eq TC _ _; rfl) | omega | (simp only [adN_zero]; omega)) | exact OutS.whole rfl rfl | (refine OpK.call c0 rfl rfl rfl rfl hE ?_ rfl rfl ?_; focus ((repeat' (first | exact PsA.lit _ | exact PsA.ref rfl rfl | constructor)); all_goals (fail "ps"))) | (refine OpK.call c1 rfl rfl rfl rfl hE ?_ rfl rfl ?_; focus ((repeat' (first | exact PsA.lit _ | exact PsA.ref rfl rfl | constructor)); all_goals (fail "ps"))) | (refine OpK.call c2 rfl rfl rfl rfl hE ?_ rfl rfl ?_; focus ((repeat' (first | exact PsA.lit _ | exact PsA.ref rfl rfl | constructor)); all_goals (fail "ps"))) | (refine OpK.call c3 rfl rfl rfl rfl hE ?_ rfl rfl ?_; focus ((repeat' (first | exact PsA.lit _ | exact PsA.ref rfl rfl | constructor)); all_goals (fail "ps"))) | (refine OpK.call c4 rfl rfl rfl rfl hE ?_ rfl rfl ?_; focus ((repeat' (first | exact PsA.lit _ | exact PsA.ref rfl rfl | constructor)); all_goals (fail "ps"))) | (refine CodeK.draw gOk hE rfl (fun _ _ h => h) (.alt 0 (.alt 1 (.alt 2 (.alt 3 (.take 4 .done) .stop) .stop) .stop) (.alt 1 (.alt 0 (.alt 2 (.alt 3 (.take 4 .done) .stop) .stop) (.alt 2 (.alt 0 (.alt 3 (.take 4 .done) .stop) .stop) .stop)) .stop)) ?_ ?_; focus (decide +kernel)))
    all_goals first | exact absurd rfl h | (exfalso; omega) | (cases bb <;> simp_all; done) | trace_state
end Go.Proofs.Ytbfkdbbgbdihdab
