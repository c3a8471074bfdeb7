import Derived.Test.YtpmhkpmkmbkjbaaGreatDoorZC
import Derived.Test.YtpmhkpmkmbkjbaaGreatDoorZB
import Derived.Test.YtpmhkpmkmbkjbaaGreatDoorZA
import Derived.Test.YtpmhkpmkmbkjbaaGreatDoorZD
import Derived.Test.YtpmhkpmkmbkjbaaGreatDoorZP
section
/- A memory: its lists fit its heap. -/
namespace Go.Proofs.YtpmhkpmkmbkjbaaGreatDoor
open Go Go.Tr
set_option maxRecDepth 100000
set_option maxHeartbeats 4000000
set_option linter.unusedVariables false
set_option linter.unusedSimpArgs false
/-- A slot of the list is of the class and may be granted again. -/
def ftP (b c xs : List Int) (k : Int) (j : Nat) : Prop := clIn c (xs.getD j 0) = k ∧ gnIn b c (xs.getD j 0) ≤ 6
def ltP (b c xs : List Int) (k : Int) : Prop := ∀ j, j < xs.length → ftP b c xs k j
abbrev bHk (κ : Nat) (b c : List Int) : TRoot := .box 31 [.ref 1000000 0 b.length, .ref 1000001 0 c.length]
theorem l9Listed_run (b c xs : List Int) (k : Int) (hk : k ≠ -1) (hsh : shP b c) (hn : xs.length ≤ 1048576) : RunT Tryz.prog 127 [aH2 b c, .one (.c (tI xs)), ti k] [] [ob (dcB (ltP b c xs k))] [] := by
  have hc := hsh.2.1
  refine RunT.of_vc gOk Tryz.func127 rfl rfl (Nat.le_of_ble_eq_true rfl) (by repeat' (first | exact trivial | exact ⟨_, rfl, Nat.le_refl _⟩ | exact Nat.le_of_ble_eq_true rfl | refine And.intro ?_ ?_)) (Nat.le_of_ble_eq_true rfl) rfl (fun F hE => ?_)
  repeat' (first | exact trivial | refine BS.d (fun h => ?_) (fun h => ?_) | refine BS.e (fun h => ?_) (fun h => ?_) | refine BS.ne (fun h => ?_) (fun h => ?_) | refine BS.n ?_ | refine BS.s (fun h => ?_) (fun h => ?_) | refine And.intro ?_ ?_ | (refine Need.mk ?_; first | with_reducible rfl | (show @Eq TC _ _; rfl) | omega | (simp only [adN_zero]; omega)) | exact OutS.whole rfl rfl | refine ListO.go gOk hE ?_)
  refine CodeK.loop gOk hE (fun i : Nat => ⟨[(1, vr 1000002 xs.length), (2, vi k), (3, .ptr 3 0 0), (7, vi i)], [(3, bH b c), (1000000, rI .fro false b), (1000001, rI .fro false c), (1000002, rI .fro false xs)]⟩) (fun i => i ≤ xs.length ∧ ∀ j, j < i → ftP b c xs k j) (fun i => xs.length - i) 0 (by refine leT.of ?_ ?_ rfl <;> repeat' (first | exact trivial | refine And.intro rfl ?_ | refine And.intro (by simp) ?_)) ⟨Nat.zero_le _, fun j hj => absurd hj (Nat.not_lt_zero _)⟩ ?_
  rintro i ⟨hi, hq⟩
  by_cases hi2 : i < xs.length
  · have c1 := l7Class_run b c (xs.getD i 0) hc
    by_cases h1 : clIn c (xs.getD i 0) = k
    · have c2 := l7Gen_run b c (xs.getD i 0) hsh (by rw [h1]; exact hk)
      rw [h1] at c1
      by_cases h2 : gnIn b c (xs.getD i 0) ≤ 6
      · repeat' (first | exact trivial | refine BS.d (fun h => ?_) (fun h => ?_) | refine BS.e (fun h => ?_) (fun h => ?_) | refine BS.ne (fun h => ?_) (fun h => ?_) | refine BS.n ?_ | refine BS.s (fun h => ?_) (fun h => ?_) | refine And.intro ?_ ?_ | (refine Need.mk ?_; first | with_reducible rfl | (show @Eq TC _ _; rfl) | omega | (simp only [adN_zero]; omega)) | exact OutS.whole rfl rfl | (refine CodeK.draw gOk hE rfl (fun _ _ h => h) (.take 1 (.take 2 (.take 3 (.take 6 (.alt 0 (.alt 4 (.alt 5 (.take 7 (.take 8 (.take 10 (.take 11 (.take 12 (.alt 9 (.alt 13 (.alt 14 (.take 15 (.take 16 .done)) .stop) .stop) (.alt 13 (.alt 9 (.alt 14 (.take 15 (.take 16 .done)) .stop) .stop) .stop))))))) .stop) .stop) (.alt 4 (.alt 0 (.alt 5 (.take 7 (.take 8 (.take 10 (.take 11 (.take 12 (.alt 9 (.alt 13 (.alt 14 (.take 15 (.take 16 .done)) .stop) .stop) (.alt 13 (.alt 9 (.alt 14 (.take 15 (.take 16 .done)) .stop) .stop) .stop))))))) .stop) .stop) .stop)))))) ?_ ?_; focus (decide +kernel)) | (refine OpK.call c1 rfl rfl rfl rfl hE ?_ rfl rfl ?_; focus ((repeat' (first | exact PsA.lit _ | exact PsA.ref rfl rfl | constructor)); all_goals (fail "ps"))) | (refine OpK.call c2 rfl rfl rfl rfl hE ?_ rfl rfl ?_; focus ((repeat' (first | exact PsA.lit _ | exact PsA.ref rfl rfl | constructor)); all_goals (fail "ps"))) | refine ListO.go gOk hE ?_)
        all_goals (try simp only [adN_zero] at *)
        all_goals first
          | (exfalso; omega)
          | (refine Need.mk ?_; omega)
          | (refine ⟨i + 1, (by refine leT.of ?_ ?_ rfl <;> repeat' (first | exact trivial | refine And.intro rfl ?_ | refine And.intro (by simp) ?_)), ⟨by omega, fun j hj => (Nat.lt_or_ge j i).elim (hq j) (fun h9 => (show j = i by omega) ▸ ⟨h1, h2⟩)⟩, by first | omega | (dsimp only; omega)⟩)
          | trace_state
      · repeat' (first | exact trivial | refine BS.d (fun h => ?_) (fun h => ?_) | refine BS.e (fun h => ?_) (fun h => ?_) | refine BS.ne (fun h => ?_) (fun h => ?_) | refine BS.n ?_ | refine BS.s (fun h => ?_) (fun h => ?_) | refine And.intro ?_ ?_ | (refine Need.mk ?_; first | with_reducible rfl | (show @Eq TC _ _; rfl) | omega | (simp only [adN_zero]; omega)) | exact OutS.whole rfl rfl | (refine CodeK.draw gOk hE rfl (fun _ _ h => h) (.take 1 (.take 2 (.take 3 (.take 6 (.alt 0 (.alt 4 (.alt 5 (.take 7 (.take 8 (.take 10 (.take 11 (.take 12 (.alt 9 (.alt 13 (.alt 14 (.take 15 (.take 16 .done)) .stop) .stop) (.alt 13 (.alt 9 (.alt 14 (.take 15 (.take 16 .done)) .stop) .stop) .stop))))))) .stop) .stop) (.alt 4 (.alt 0 (.alt 5 (.take 7 (.take 8 (.take 10 (.take 11 (.take 12 (.alt 9 (.alt 13 (.alt 14 (.take 15 (.take 16 .done)) .stop) .stop) (.alt 13 (.alt 9 (.alt 14 (.take 15 (.take 16 .done)) .stop) .stop) .stop))))))) .stop) .stop) .stop)))))) ?_ ?_; focus (decide +kernel)) | (refine OpK.call c1 rfl rfl rfl rfl hE ?_ rfl rfl ?_; focus ((repeat' (first | exact PsA.lit _ | exact PsA.ref rfl rfl | constructor)); all_goals (fail "ps"))) | (refine OpK.call c2 rfl rfl rfl rfl hE ?_ rfl rfl ?_; focus ((repeat' (first | exact PsA.lit _ | exact PsA.ref rfl rfl | constructor)); all_goals (fail "ps"))) | refine ListO.go gOk hE ?_)
        all_goals (try simp only [adN_zero] at *)
        all_goals first
          | (exfalso; omega)
          | (refine Need.mk ?_; omega)
          | (refine Need.mk ?_; symm; apply dcB_false; intro hh; exact h2 (hh i hi2).2)
          | trace_state
    · repeat' (first | exact trivial | refine BS.d (fun h => ?_) (fun h => ?_) | refine BS.e (fun h => ?_) (fun h => ?_) | refine BS.ne (fun h => ?_) (fun h => ?_) | refine BS.n ?_ | refine BS.s (fun h => ?_) (fun h => ?_) | refine And.intro ?_ ?_ | (refine Need.mk ?_; first | with_reducible rfl | (show @Eq TC _ _; rfl) | omega | (simp only [adN_zero]; omega)) | exact OutS.whole rfl rfl | (refine CodeK.draw gOk hE rfl (fun _ _ h => h) (.take 1 (.take 2 (.take 3 (.take 6 (.alt 0 (.alt 4 (.alt 5 (.take 7 (.take 8 (.take 10 (.take 11 (.take 12 (.alt 9 (.alt 13 (.alt 14 (.take 15 (.take 16 .done)) .stop) .stop) (.alt 13 (.alt 9 (.alt 14 (.take 15 (.take 16 .done)) .stop) .stop) .stop))))))) .stop) .stop) (.alt 4 (.alt 0 (.alt 5 (.take 7 (.take 8 (.take 10 (.take 11 (.take 12 (.alt 9 (.alt 13 (.alt 14 (.take 15 (.take 16 .done)) .stop) .stop) (.alt 13 (.alt 9 (.alt 14 (.take 15 (.take 16 .done)) .stop) .stop) .stop))))))) .stop) .stop) .stop)))))) ?_ ?_; focus (decide +kernel)) | (refine OpK.call c1 rfl rfl rfl rfl hE ?_ rfl rfl ?_; focus ((repeat' (first | exact PsA.lit _ | exact PsA.ref rfl rfl | constructor)); all_goals (fail "ps"))) | refine ListO.go gOk hE ?_)
      all_goals (try simp only [adN_zero] at *)
      all_goals first
        | (exfalso; omega)
        | (refine Need.mk ?_; omega)
        | (refine Need.mk ?_; symm; apply dcB_false; intro hh; exact h1 (hh i hi2).1)
        | trace_state
  · repeat' (first | exact trivial | refine BS.d (fun h => ?_) (fun h => ?_) | refine BS.e (fun h => ?_) (fun h => ?_) | refine BS.ne (fun h => ?_) (fun h => ?_) | refine BS.n ?_ | refine BS.s (fun h => ?_) (fun h => ?_) | refine And.intro ?_ ?_ | (refine Need.mk ?_; first | with_reducible rfl | (show @Eq TC _ _; rfl) | omega | (simp only [adN_zero]; omega)) | exact OutS.whole rfl rfl | refine ListO.go gOk hE ?_)
    all_goals first
      | (exfalso; omega)
      | (refine Need.mk ?_; symm; apply dcB_true; exact fun j hj => hq j (by omega))
      | trace_state
theorem listFits_run (b c xs : List Int) (k : Int) (hk : k ≠ -1) (hsh : shP b c) (hn : xs.length ≤ 1048576) : RunH Tryz.prog hT 135 [aH2 b c, .agg [.c (tI xs)], ti k] [] [ob (dcB (ltP b c xs k))] [] := by
  have hc := hsh.2.1
  refine RunH.of_vc gOk Tryz.func135 rfl rfl (Nat.le_of_ble_eq_true rfl) (by repeat' (first | exact trivial | exact ⟨_, rfl, Nat.le_refl _⟩ | exact Nat.le_of_ble_eq_true rfl | refine And.intro ?_ ?_)) (Nat.le_of_ble_eq_true rfl) rfl (fun F hE hA => ?_)
  repeat' (first | exact trivial | refine BS.d (fun h => ?_) (fun h => ?_) | refine BS.e (fun h => ?_) (fun h => ?_) | refine BS.ne (fun h => ?_) (fun h => ?_) | refine BS.n ?_ | refine BS.s (fun h => ?_) (fun h => ?_) | refine And.intro ?_ ?_ | (refine Need.mk ?_; first | with_reducible rfl | (show @Eq TC _ _; rfl) | omega | (simp only [adN_zero]; omega)) | exact OutS.whole rfl rfl | refine ListO.go gOk hE ?_)
  refine CodeK.loop gOk hE (fun i : Nat => ⟨[(2, vi k), (3, .ptr 3 0 0), (10, vr 1000002 xs.length), (11, vi xs.length), (12, vi i)], [(3, bH b c), (1000000, rI .fro false b), (1000001, rI .fro false c), (1000002, rI .fro false xs)]⟩) (fun i => i ≤ xs.length ∧ ∀ j, j < i → ftP b c xs k j) (fun i => xs.length - i) 0 (by refine leT.of ?_ ?_ rfl <;> repeat' (first | exact trivial | refine And.intro rfl ?_ | refine And.intro (by simp) ?_)) ⟨Nat.zero_le _, fun j hj => absurd hj (Nat.not_lt_zero _)⟩ ?_
  rintro i ⟨hi, hq⟩
  by_cases hi2 : i < xs.length
  · have c1 := classIn_run b c (xs.getD i 0) hc
    have c2 := genIn_run b c (xs.getD i 0) hsh
    by_cases h1 : clIn c (xs.getD i 0) = k
    · rw [h1] at c1
      by_cases h2 : gnIn b c (xs.getD i 0) ≤ 6
      · repeat' (first | exact trivial | refine BS.d (fun h => ?_) (fun h => ?_) | refine BS.e (fun h => ?_) (fun h => ?_) | refine BS.ne (fun h => ?_) (fun h => ?_) | refine BS.n ?_ | refine BS.s (fun h => ?_) (fun h => ?_) | refine And.intro ?_ ?_ | (refine Need.mk ?_; first | with_reducible rfl | (show @Eq TC _ _; rfl) | omega | (simp only [adN_zero]; omega)) | exact OutS.whole rfl rfl | (refine OpK.callH c1 hA rfl rfl rfl rfl hE ?_ rfl rfl ?_; focus ((repeat' (first | exact PsA.lit _ | exact PsA.ref rfl rfl | constructor)); all_goals (fail "ps"))) | (refine OpK.callH c2 hA rfl rfl rfl rfl hE ?_ rfl rfl ?_; focus ((repeat' (first | exact PsA.lit _ | exact PsA.ref rfl rfl | constructor)); all_goals (fail "ps"))) | refine ListO.go gOk hE ?_)
        all_goals (try simp only [adN_zero] at *)
        all_goals first
          | (exfalso; omega)
          | (refine Need.mk ?_; omega)
          | (refine ⟨i + 1, (by refine leT.of ?_ ?_ rfl <;> repeat' (first | exact trivial | refine And.intro rfl ?_ | refine And.intro (by simp) ?_)), ⟨by omega, fun j hj => (Nat.lt_or_ge j i).elim (hq j) (fun h9 => (show j = i by omega) ▸ ⟨h1, h2⟩)⟩, by first | omega | (dsimp only; omega)⟩)
          | trace_state
      · repeat' (first | exact trivial | refine BS.d (fun h => ?_) (fun h => ?_) | refine BS.e (fun h => ?_) (fun h => ?_) | refine BS.ne (fun h => ?_) (fun h => ?_) | refine BS.n ?_ | refine BS.s (fun h => ?_) (fun h => ?_) | refine And.intro ?_ ?_ | (refine Need.mk ?_; first | with_reducible rfl | (show @Eq TC _ _; rfl) | omega | (simp only [adN_zero]; omega)) | exact OutS.whole rfl rfl | (refine OpK.callH c1 hA rfl rfl rfl rfl hE ?_ rfl rfl ?_; focus ((repeat' (first | exact PsA.lit _ | exact PsA.ref rfl rfl | constructor)); all_goals (fail "ps"))) | (refine OpK.callH c2 hA rfl rfl rfl rfl hE ?_ rfl rfl ?_; focus ((repeat' (first | exact PsA.lit _ | exact PsA.ref rfl rfl | constructor)); all_goals (fail "ps"))) | refine ListO.go gOk hE ?_)
        all_goals (try simp only [adN_zero] at *)
        all_goals first
          | (exfalso; omega)
          | (refine Need.mk ?_; omega)
          | (refine Need.mk ?_; symm; apply dcB_false; intro hh; exact h2 (hh i hi2).2)
          | trace_state
    · repeat' (first | exact trivial | refine BS.d (fun h => ?_) (fun h => ?_) | refine BS.e (fun h => ?_) (fun h => ?_) | refine BS.ne (fun h => ?_) (fun h => ?_) | refine BS.n ?_ | refine BS.s (fun h => ?_) (fun h => ?_) | refine And.intro ?_ ?_ | (refine Need.mk ?_; first | with_reducible rfl | (show @Eq TC _ _; rfl) | omega | (simp only [adN_zero]; omega)) | exact OutS.whole rfl rfl | (refine OpK.callH c1 hA rfl rfl rfl rfl hE ?_ rfl rfl ?_; focus ((repeat' (first | exact PsA.lit _ | exact PsA.ref rfl rfl | constructor)); all_goals (fail "ps"))) | refine ListO.go gOk hE ?_)
      all_goals (try simp only [adN_zero] at *)
      all_goals first
        | (exfalso; omega)
        | (refine Need.mk ?_; omega)
        | (refine Need.mk ?_; symm; apply dcB_false; intro hh; exact h1 (hh i hi2).1)
        | trace_state
  · repeat' (first | exact trivial | refine BS.d (fun h => ?_) (fun h => ?_) | refine BS.e (fun h => ?_) (fun h => ?_) | refine BS.ne (fun h => ?_) (fun h => ?_) | refine BS.n ?_ | refine BS.s (fun h => ?_) (fun h => ?_) | refine And.intro ?_ ?_ | (refine Need.mk ?_; first | with_reducible rfl | (show @Eq TC _ _; rfl) | omega | (simp only [adN_zero]; omega)) | exact OutS.whole rfl rfl | refine ListO.go gOk hE ?_)
    all_goals first
      | (exfalso; omega)
      | (refine Need.mk ?_; symm; apply dcB_true; exact fun j hj => hq j (by omega))
      | trace_state
end Go.Proofs.YtpmhkpmkmbkjbaaGreatDoor
end

section
namespace Go.Proofs.YtpmhkpmkmbkjbaaGreatDoor
open Go Go.Tr
set_option maxRecDepth 100000
set_option maxHeartbeats 4000000
set_option linter.unusedVariables false
set_option linter.unusedSimpArgs false
def mmP (b c : List Int) (g o : List (List Int)) : Prop := hpP b c ∧ lsOk g o = true ∧ (∀ j : Nat, j < 3 → ltP b c (g.getD j []) j) ∧ ∀ w j : Nat, w < 3 → j < 3 → ltP b c (o.getD (w * 3 + j) []) j
abbrev bM (b c : List Int) (g o : List (List Int)) : TRoot := .box 36 [.ref 1000000 0 b.length, .ref 1000001 0 c.length, .ref 1000002 0 g.length, .ref 1000003 0 o.length]
theorem lsOk_len {g o : List (List Int)} (h : lsOk g o = true) : g.length = 3 ∧ o.length = 9 := by
  unfold lsOk at h
  split at h
  · rename_i hh; exact ⟨hh.1, hh.2.1⟩
  · cases h
theorem OwnAtH_run (w c : Int) : RunT Tryz.prog 128 [ti w, ti c] [] [oi (if (0 ≤ w ∧ w ≤ 2) ∧ 0 ≤ c ∧ c ≤ 2 then w * 3 + c else -1)] [] := by
  have c1 := inH_run w 0 2
  have c2 := inH_run c 0 2
  refine RunT.of_vc gOk Tryz.func128 rfl rfl (Nat.le_of_ble_eq_true rfl) (by repeat' (first | exact trivial | exact ⟨_, rfl, Nat.le_refl _⟩ | exact Nat.le_of_ble_eq_true rfl | refine And.intro ?_ ?_)) (Nat.le_of_ble_eq_true rfl) rfl (fun F hE => ?_)
  repeat' (first | exact trivial | refine BS.d (fun h => ?_) (fun h => ?_) | refine BS.e (fun h => ?_) (fun h => ?_) | refine BS.ne (fun h => ?_) (fun h => ?_) | refine BS.n ?_ | refine BS.s (fun h => ?_) (fun h => ?_) | refine And.intro ?_ ?_ | (refine Need.mk ?_; first | with_reducible rfl | (show @Eq TC _ _; rfl) | omega | (simp only [adN_zero]; omega)) | exact OutS.whole rfl rfl | (refine OpK.call c1 rfl rfl rfl rfl hE ?_ rfl rfl ?_; focus ((repeat' (first | exact PsA.lit _ | exact PsA.ref rfl rfl | constructor)); all_goals (fail "ps"))) | (refine OpK.call c2 rfl rfl rfl rfl hE ?_ rfl rfl ?_; focus ((repeat' (first | exact PsA.lit _ | exact PsA.ref rfl rfl | constructor)); all_goals (fail "ps"))) | refine ListO.go gOk hE ?_)
  all_goals first | (exfalso; omega) | (refine Need.mk ?_; first | (rw [if_pos (by omega)]; done) | (rw [if_neg (by omega)]; done)) | trace_state
theorem MemOkS_run (e : Nat) (b c : List Int) (g o : List (List Int)) (hm : MmOk 1048576 b c g o) (hgo : g.length + o.length ≤ 1048576) (hf : g.flatten.length + o.flatten.length ≤ 1048576) (cL : RunT Tryz.prog 126 [.agg [.c (tSL e g), .c (tSL e o)]] [] [ob (lsOk g o)] []) : RunT Tryz.prog 57 [aMm e b c g o] [] [ob (dcB (mmP b c g o))] [] := by
  have c1 := HeapOkS_run b c hm.hb hm.hc
  by_cases h1 : hpP b c
  · rw [dcB_true h1] at c1
    cases h2 : lsOk g o with
    | false =>
      rw [h2] at cL
      rw [dcB_false (fun hh => by rw [hh.2.1] at h2; cases h2)]
      refine RunT.of_vc gOk Tryz.func57 rfl rfl (Nat.le_of_ble_eq_true rfl) (by repeat' (first | exact trivial | exact ⟨_, rfl, Nat.le_refl _⟩ | exact Nat.le_of_ble_eq_true rfl | refine And.intro ?_ ?_)) (Nat.le_of_ble_eq_true rfl) rfl (fun F hE => ?_)
      repeat' (first | exact trivial | refine BS.d (fun h => ?_) (fun h => ?_) | refine BS.e (fun h => ?_) (fun h => ?_) | refine BS.ne (fun h => ?_) (fun h => ?_) | refine BS.n ?_ | refine BS.s (fun h => ?_) (fun h => ?_) | refine And.intro ?_ ?_ | (refine Need.mk ?_; first | with_reducible rfl | (show @Eq TC _ _; rfl) | omega | (simp only [adN_zero]; omega)) | exact OutS.whole rfl rfl | (refine OpK.call c1 rfl rfl rfl rfl hE ?_ rfl rfl ?_; focus ((repeat' (first | exact PsA.lit _ | exact PsA.ref rfl rfl | constructor)); all_goals (fail "ps"))) | (refine OpK.call cL rfl rfl rfl rfl hE ?_ rfl rfl ?_; focus ((repeat' (first | exact PsA.lit _ | exact PsA.ref rfl rfl | constructor)); all_goals (fail "ps"))) | refine ListO.go gOk hE ?_)
    | true =>
      rw [h2] at cL
      obtain ⟨hg3, ho9⟩ := lsOk_len h2
      refine RunT.of_vc gOk Tryz.func57 rfl rfl (Nat.le_of_ble_eq_true rfl) (by repeat' (first | exact trivial | exact ⟨_, rfl, Nat.le_refl _⟩ | exact Nat.le_of_ble_eq_true rfl | refine And.intro ?_ ?_)) (Nat.le_of_ble_eq_true rfl) rfl (fun F hE => ?_)
      repeat' (first | exact trivial | refine BS.d (fun h => ?_) (fun h => ?_) | refine BS.e (fun h => ?_) (fun h => ?_) | refine BS.ne (fun h => ?_) (fun h => ?_) | refine BS.n ?_ | refine BS.s (fun h => ?_) (fun h => ?_) | refine And.intro ?_ ?_ | (refine Need.mk ?_; first | with_reducible rfl | (show @Eq TC _ _; rfl) | omega | (simp only [adN_zero]; omega)) | exact OutS.whole rfl rfl | (refine OpK.call c1 rfl rfl rfl rfl hE ?_ rfl rfl ?_; focus ((repeat' (first | exact PsA.lit _ | exact PsA.ref rfl rfl | constructor)); all_goals (fail "ps"))) | (refine OpK.call cL rfl rfl rfl rfl hE ?_ rfl rfl ?_; focus ((repeat' (first | exact PsA.lit _ | exact PsA.ref rfl rfl | constructor)); all_goals (fail "ps"))) | refine ListO.go gOk hE ?_)
      refine CodeK.loop gOk hE (fun i : Nat => ⟨[(1, .ptr 1 0 0), (3, vi i)], [(1, bM b c g o), (1000000, rI .fro false b), (1000001, rI .fro false c), (1000002, rSL .fro false e g), (1000003, rSL .fro false e o)]⟩) (fun i => i ≤ 3 ∧ ∀ j : Nat, j < i → ltP b c (g.getD j []) j ∧ ∀ w : Nat, w < 3 → ltP b c (o.getD (w * 3 + j) []) j) (fun i => 3 - i) 0 (by refine leT.of ?_ ?_ rfl <;> repeat' (first | exact trivial | refine And.intro rfl ?_ | refine And.intro (by simp) ?_)) ⟨Nat.zero_le _, fun j hj => absurd hj (Nat.not_lt_zero _)⟩ ?_
      rintro i ⟨hi, hq⟩
      by_cases hi2 : i < 3
      · have c2 := l9Listed_run b c (g.getD i []) i (by omega) h1.1 (hm.hg' i)
        by_cases hp : ltP b c (g.getD i []) i
        · rw [dcB_true hp] at c2
          repeat' (first | exact trivial | refine BS.d (fun h => ?_) (fun h => ?_) | refine BS.e (fun h => ?_) (fun h => ?_) | refine BS.ne (fun h => ?_) (fun h => ?_) | refine BS.n ?_ | refine BS.s (fun h => ?_) (fun h => ?_) | refine And.intro ?_ ?_ | (refine Need.mk ?_; first | with_reducible rfl | (show @Eq TC _ _; rfl) | omega | (simp only [adN_zero]; omega)) | exact OutS.whole rfl rfl | (refine CodeK.draw gOk hE rfl (fun _ _ h => h) (.take 0 (.take 2 (.take 3 (.take 5 (.take 9 (.alt 1 (.alt 4 (.take 6 (.take 7 (.alt 8 (.alt 10 (.take 11 .done) .stop) .stop))) .stop) (.alt 4 (.take 6 (.take 7 (.alt 1 (.alt 8 (.alt 10 (.take 11 .done) .stop) .stop) (.alt 8 (.alt 1 (.alt 10 (.take 11 .done) .stop) .stop) .stop)))) .stop))))))) ?_ ?_; focus (decide +kernel)) | (refine OpK.call c2 rfl rfl rfl rfl hE ?_ rfl rfl ?_; focus ((repeat' (first | exact PsA.lit _ | exact PsA.ref rfl rfl | constructor)); all_goals (fail "ps"))) | refine ListO.go gOk hE ?_)
          all_goals (try simp only [adN_zero] at *)
          all_goals first | (exfalso; omega) | (refine Need.mk ?_; omega) | skip
          all_goals (
            refine CodeK.loop gOk hE (fun w : Nat => ⟨[(1, .ptr 1 0 0), (3, vi i), (4, vi w)], [(1, bM b c g o), (1000000, rI .fro false b), (1000001, rI .fro false c), (1000002, rSL .fro false e g), (1000003, rSL .fro false e o)]⟩) (fun w => w ≤ 3 ∧ ∀ v : Nat, v < w → ltP b c (o.getD (v * 3 + i) []) i) (fun w => 3 - w) 0 (by refine leT.of ?_ ?_ rfl <;> repeat' (first | exact trivial | refine And.intro rfl ?_ | refine And.intro (by simp) ?_)) ⟨Nat.zero_le _, fun j hj => absurd hj (Nat.not_lt_zero _)⟩ ?_
            rintro w ⟨hw, hr⟩
            by_cases hw2 : w < 3
            · have c3 := OwnAtH_run w i
              rw [if_pos (by omega)] at c3
              have c4 := l9Listed_run b c (o.getD (w * 3 + i) []) i (by omega) h1.1 (hm.ho' (w * 3 + i))
              have ha : adN 0 ((w : Int) * 3 + (i : Int)) = w * 3 + i := by rw [adN_eq]; omega
              by_cases hp2 : ltP b c (o.getD (w * 3 + i) []) i
              · rw [dcB_true hp2] at c4
                repeat' (first | exact trivial | refine BS.d (fun h => ?_) (fun h => ?_) | refine BS.e (fun h => ?_) (fun h => ?_) | refine BS.ne (fun h => ?_) (fun h => ?_) | refine BS.n ?_ | refine BS.s (fun h => ?_) (fun h => ?_) | refine And.intro ?_ ?_ | (refine Need.mk ?_; first | with_reducible rfl | (show @Eq TC _ _; rfl) | omega | (simp only [adN_zero]; omega)) | exact OutS.whole rfl rfl | (refine CodeK.draw gOk hE rfl (fun _ _ h => h) (.take 0 (.take 2 (.take 3 (.take 5 (.take 6 (.take 11 (.alt 1 (.alt 4 (.alt 7 (.take 8 (.take 9 (.alt 10 (.alt 12 (.take 13 .done) .stop) .stop))) .stop) (.alt 7 (.alt 4 (.take 8 (.take 9 (.alt 10 (.alt 12 (.take 13 .done) .stop) .stop))) .stop) .stop)) (.alt 4 (.alt 1 (.alt 7 (.take 8 (.take 9 (.alt 10 (.alt 12 (.take 13 .done) .stop) .stop))) .stop) (.alt 7 (.take 8 (.take 9 (.alt 1 (.alt 10 (.alt 12 (.take 13 .done) .stop) .stop) (.alt 10 (.alt 1 (.alt 12 (.take 13 .done) .stop) .stop) .stop)))) .stop)) (.alt 7 (.alt 1 (.alt 4 (.take 8 (.take 9 (.alt 10 (.alt 12 (.take 13 .done) .stop) .stop))) .stop) (.alt 4 (.take 8 (.take 9 (.alt 1 (.alt 10 (.alt 12 (.take 13 .done) .stop) .stop) (.alt 10 (.alt 1 (.alt 12 (.take 13 .done) .stop) .stop) .stop)))) .stop)) .stop))))))))) ?_ ?_; focus (decide +kernel)) | (refine OpK.call c3 rfl rfl rfl rfl hE ?_ rfl rfl ?_; focus ((repeat' (first | exact PsA.lit _ | exact PsA.ref rfl rfl | constructor)); all_goals (fail "ps"))) | (refine OpK.call c4 rfl rfl rfl rfl hE ?_ rfl rfl ?_; focus ((repeat' (first | exact PsA.lit _ | exact PsA.ref rfl rfl | constructor)); all_goals (fail "ps"))) | refine ListO.go gOk hE ?_)
                all_goals (try simp only [adN_zero, ha] at *)
                all_goals first
                  | (exfalso; omega)
                  | (refine Need.mk ?_; omega)
                  | (refine ⟨w + 1, (by refine leT.of ?_ ?_ rfl <;> repeat' (first | exact trivial | refine And.intro rfl ?_ | refine And.intro (by simp) ?_)), ⟨by omega, fun j hj => (Nat.lt_or_ge j w).elim (hr j) (fun h9 => (show j = w by omega) ▸ hp2)⟩, by first | omega | (dsimp only; omega)⟩)
                  | trace_state
              · rw [dcB_false hp2] at c4
                repeat' (first | exact trivial | refine BS.d (fun h => ?_) (fun h => ?_) | refine BS.e (fun h => ?_) (fun h => ?_) | refine BS.ne (fun h => ?_) (fun h => ?_) | refine BS.n ?_ | refine BS.s (fun h => ?_) (fun h => ?_) | refine And.intro ?_ ?_ | (refine Need.mk ?_; first | with_reducible rfl | (show @Eq TC _ _; rfl) | omega | (simp only [adN_zero]; omega)) | exact OutS.whole rfl rfl | (refine CodeK.draw gOk hE rfl (fun _ _ h => h) (.take 0 (.take 2 (.take 3 (.take 5 (.take 6 (.take 11 (.alt 1 (.alt 4 (.alt 7 (.take 8 (.take 9 (.alt 10 (.alt 12 (.take 13 .done) .stop) .stop))) .stop) (.alt 7 (.alt 4 (.take 8 (.take 9 (.alt 10 (.alt 12 (.take 13 .done) .stop) .stop))) .stop) .stop)) (.alt 4 (.alt 1 (.alt 7 (.take 8 (.take 9 (.alt 10 (.alt 12 (.take 13 .done) .stop) .stop))) .stop) (.alt 7 (.take 8 (.take 9 (.alt 1 (.alt 10 (.alt 12 (.take 13 .done) .stop) .stop) (.alt 10 (.alt 1 (.alt 12 (.take 13 .done) .stop) .stop) .stop)))) .stop)) (.alt 7 (.alt 1 (.alt 4 (.take 8 (.take 9 (.alt 10 (.alt 12 (.take 13 .done) .stop) .stop))) .stop) (.alt 4 (.take 8 (.take 9 (.alt 1 (.alt 10 (.alt 12 (.take 13 .done) .stop) .stop) (.alt 10 (.alt 1 (.alt 12 (.take 13 .done) .stop) .stop) .stop)))) .stop)) .stop))))))))) ?_ ?_; focus (decide +kernel)) | (refine OpK.call c3 rfl rfl rfl rfl hE ?_ rfl rfl ?_; focus ((repeat' (first | exact PsA.lit _ | exact PsA.ref rfl rfl | constructor)); all_goals (fail "ps"))) | (refine OpK.call c4 rfl rfl rfl rfl hE ?_ rfl rfl ?_; focus ((repeat' (first | exact PsA.lit _ | exact PsA.ref rfl rfl | constructor)); all_goals (fail "ps"))) | refine ListO.go gOk hE ?_)
                all_goals (try simp only [adN_zero, ha] at *)
                all_goals first
                  | (exfalso; omega)
                  | (refine Need.mk ?_; omega)
                  | (refine Need.mk ?_; symm; apply dcB_false; intro hh; exact hp2 (hh.2.2.2 w i hw2 hi2))
                  | trace_state
            · repeat' (first | exact trivial | refine BS.d (fun h => ?_) (fun h => ?_) | refine BS.e (fun h => ?_) (fun h => ?_) | refine BS.ne (fun h => ?_) (fun h => ?_) | refine BS.n ?_ | refine BS.s (fun h => ?_) (fun h => ?_) | refine And.intro ?_ ?_ | (refine Need.mk ?_; first | with_reducible rfl | (show @Eq TC _ _; rfl) | omega | (simp only [adN_zero]; omega)) | exact OutS.whole rfl rfl | refine ListO.go gOk hE ?_)
              all_goals first
                | (exfalso; omega)
                | (refine Need.mk ?_; omega)
                | (refine ⟨i + 1, (by refine leT.of ?_ ?_ rfl <;> repeat' (first | exact trivial | refine And.intro rfl ?_ | refine And.intro (by simp) ?_)), ⟨by omega, fun j hj => (Nat.lt_or_ge j i).elim (hq j) (fun h9 => (show j = i by omega) ▸ ⟨hp, fun w' hw' => hr w' (by omega)⟩)⟩, by first | omega | (dsimp only; omega)⟩)
                | trace_state)
        · rw [dcB_false hp] at c2
          repeat' (first | exact trivial | refine BS.d (fun h => ?_) (fun h => ?_) | refine BS.e (fun h => ?_) (fun h => ?_) | refine BS.ne (fun h => ?_) (fun h => ?_) | refine BS.n ?_ | refine BS.s (fun h => ?_) (fun h => ?_) | refine And.intro ?_ ?_ | (refine Need.mk ?_; first | with_reducible rfl | (show @Eq TC _ _; rfl) | omega | (simp only [adN_zero]; omega)) | exact OutS.whole rfl rfl | (refine CodeK.draw gOk hE rfl (fun _ _ h => h) (.take 0 (.take 2 (.take 3 (.take 5 (.take 9 (.alt 1 (.alt 4 (.take 6 (.take 7 (.alt 8 (.alt 10 (.take 11 .done) .stop) .stop))) .stop) (.alt 4 (.take 6 (.take 7 (.alt 1 (.alt 8 (.alt 10 (.take 11 .done) .stop) .stop) (.alt 8 (.alt 1 (.alt 10 (.take 11 .done) .stop) .stop) .stop)))) .stop))))))) ?_ ?_; focus (decide +kernel)) | (refine OpK.call c2 rfl rfl rfl rfl hE ?_ rfl rfl ?_; focus ((repeat' (first | exact PsA.lit _ | exact PsA.ref rfl rfl | constructor)); all_goals (fail "ps"))) | refine ListO.go gOk hE ?_)
          all_goals (try simp only [adN_zero] at *)
          all_goals first
            | (exfalso; omega)
            | (refine Need.mk ?_; omega)
            | (refine Need.mk ?_; symm; apply dcB_false; intro hh; exact hp (hh.2.2.1 i hi2))
            | trace_state
      · repeat' (first | exact trivial | refine BS.d (fun h => ?_) (fun h => ?_) | refine BS.e (fun h => ?_) (fun h => ?_) | refine BS.ne (fun h => ?_) (fun h => ?_) | refine BS.n ?_ | refine BS.s (fun h => ?_) (fun h => ?_) | refine And.intro ?_ ?_ | (refine Need.mk ?_; first | with_reducible rfl | (show @Eq TC _ _; rfl) | omega | (simp only [adN_zero]; omega)) | exact OutS.whole rfl rfl | refine ListO.go gOk hE ?_)
        all_goals first
          | (exfalso; omega)
          | (refine Need.mk ?_; symm; apply dcB_true; exact ⟨h1, h2, fun j hj => (hq j (by omega)).1, fun w j hw hj => (hq j (by omega)).2 w hw⟩)
          | trace_state
  · rw [dcB_false h1] at c1
    rw [dcB_false (fun hh => h1 hh.1)]
    refine RunT.of_vc gOk Tryz.func57 rfl rfl (Nat.le_of_ble_eq_true rfl) (by repeat' (first | exact trivial | exact ⟨_, rfl, Nat.le_refl _⟩ | exact Nat.le_of_ble_eq_true rfl | refine And.intro ?_ ?_)) (Nat.le_of_ble_eq_true rfl) rfl (fun F hE => ?_)
    repeat' (first | exact trivial | refine BS.d (fun h => ?_) (fun h => ?_) | refine BS.e (fun h => ?_) (fun h => ?_) | refine BS.ne (fun h => ?_) (fun h => ?_) | refine BS.n ?_ | refine BS.s (fun h => ?_) (fun h => ?_) | refine And.intro ?_ ?_ | (refine Need.mk ?_; first | with_reducible rfl | (show @Eq TC _ _; rfl) | omega | (simp only [adN_zero]; omega)) | exact OutS.whole rfl rfl | (refine OpK.call c1 rfl rfl rfl rfl hE ?_ rfl rfl ?_; focus ((repeat' (first | exact PsA.lit _ | exact PsA.ref rfl rfl | constructor)); all_goals (fail "ps"))) | refine ListO.go gOk hE ?_)
end Go.Proofs.YtpmhkpmkmbkjbaaGreatDoor
end

section
namespace Go.Proofs.YtpmhkpmkmbkjbaaGreatDoor
open Go Go.Tr
set_option maxRecDepth 100000
set_option maxHeartbeats 4000000
set_option linter.unusedVariables false
set_option linter.unusedSimpArgs false
theorem MemOkI_run (e : Nat) (b c : List Int) (g o : List (List Int)) (hm : MmOk 1048576 b c g o) (hgo : g.length + o.length ≤ 1048576) (cL : RunT Tryz.prog 134 [.agg [.c (tSL e g), .c (tSL e o)]] [] [ob (lsOk g o)] []) : RunH Tryz.prog hT 62 [aMm e b c g o] [] [ob (dcB (mmP b c g o))] [] := by
  have c1 := HeapOkI_run b c hm.hb hm.hc
  by_cases h1 : hpP b c
  · rw [dcB_true h1] at c1
    cases h2 : lsOk g o with
    | false =>
      rw [h2] at cL
      rw [dcB_false (fun hh => by rw [hh.2.1] at h2; cases h2)]
      refine RunH.of_vc gOk Tryz.func62 rfl rfl (Nat.le_of_ble_eq_true rfl) (by repeat' (first | exact trivial | exact ⟨_, rfl, Nat.le_refl _⟩ | exact Nat.le_of_ble_eq_true rfl | refine And.intro ?_ ?_)) (Nat.le_of_ble_eq_true rfl) rfl (fun F hE hA => ?_)
      repeat' (first | exact trivial | refine BS.d (fun h => ?_) (fun h => ?_) | refine BS.e (fun h => ?_) (fun h => ?_) | refine BS.ne (fun h => ?_) (fun h => ?_) | refine BS.n ?_ | refine BS.s (fun h => ?_) (fun h => ?_) | refine And.intro ?_ ?_ | (refine Need.mk ?_; first | with_reducible rfl | (show @Eq TC _ _; rfl) | omega | (simp only [adN_zero]; omega)) | exact OutS.whole rfl rfl | (refine OpK.callH c1 hA rfl rfl rfl rfl hE ?_ rfl rfl ?_; focus ((repeat' (first | exact PsA.lit _ | exact PsA.ref rfl rfl | constructor)); all_goals (fail "ps"))) | (refine OpK.call cL rfl rfl rfl rfl hE ?_ rfl rfl ?_; focus ((repeat' (first | exact PsA.lit _ | exact PsA.ref rfl rfl | constructor)); all_goals (fail "ps"))) | refine ListO.go gOk hE ?_)
    | true =>
      rw [h2] at cL
      obtain ⟨hg3, ho9⟩ := lsOk_len h2
      refine RunH.of_vc gOk Tryz.func62 rfl rfl (Nat.le_of_ble_eq_true rfl) (by repeat' (first | exact trivial | exact ⟨_, rfl, Nat.le_refl _⟩ | exact Nat.le_of_ble_eq_true rfl | refine And.intro ?_ ?_)) (Nat.le_of_ble_eq_true rfl) rfl (fun F hE hA => ?_)
      repeat' (first | exact trivial | refine BS.d (fun h => ?_) (fun h => ?_) | refine BS.e (fun h => ?_) (fun h => ?_) | refine BS.ne (fun h => ?_) (fun h => ?_) | refine BS.n ?_ | refine BS.s (fun h => ?_) (fun h => ?_) | refine And.intro ?_ ?_ | (refine Need.mk ?_; first | with_reducible rfl | (show @Eq TC _ _; rfl) | omega | (simp only [adN_zero]; omega)) | exact OutS.whole rfl rfl | (refine OpK.callH c1 hA rfl rfl rfl rfl hE ?_ rfl rfl ?_; focus ((repeat' (first | exact PsA.lit _ | exact PsA.ref rfl rfl | constructor)); all_goals (fail "ps"))) | (refine OpK.call cL rfl rfl rfl rfl hE ?_ rfl rfl ?_; focus ((repeat' (first | exact PsA.lit _ | exact PsA.ref rfl rfl | constructor)); all_goals (fail "ps"))) | refine ListO.go gOk hE ?_)
      refine CodeK.loop gOk hE (fun i : Nat => ⟨[(1, .ptr 1 0 0), (19, vr 1000002 g.length), (20, vi g.length), (21, vi i)], [(1, bM b c g o), (1000000, rI .fro false b), (1000001, rI .fro false c), (1000002, rSL .fro false e g), (1000003, rSL .fro false e o)]⟩) (fun i => i ≤ 3 ∧ ∀ j : Nat, j < i → ltP b c (g.getD j []) j) (fun i => 3 - i) 0 (by refine leT.of ?_ ?_ rfl <;> repeat' (first | exact trivial | refine And.intro rfl ?_ | refine And.intro (by simp) ?_)) ⟨Nat.zero_le _, fun j hj => absurd hj (Nat.not_lt_zero _)⟩ ?_
      rintro i ⟨hi, hq⟩
      by_cases hi2 : i < 3
      · have c2 := listFits_run b c (g.getD i []) i (by omega) h1.1 (hm.hg' i)
        by_cases hp : ltP b c (g.getD i []) i
        · rw [dcB_true hp] at c2
          repeat' (first | exact trivial | refine BS.d (fun h => ?_) (fun h => ?_) | refine BS.e (fun h => ?_) (fun h => ?_) | refine BS.ne (fun h => ?_) (fun h => ?_) | refine BS.n ?_ | refine BS.s (fun h => ?_) (fun h => ?_) | refine And.intro ?_ ?_ | (refine Need.mk ?_; first | with_reducible rfl | (show @Eq TC _ _; rfl) | omega | (simp only [adN_zero]; omega)) | exact OutS.whole rfl rfl | (refine OpK.callH c2 hA rfl rfl rfl rfl hE ?_ rfl rfl ?_; focus ((repeat' (first | exact PsA.lit _ | exact PsA.ref rfl rfl | constructor)); all_goals (fail "ps"))) | refine ListO.go gOk hE ?_)
          all_goals (try simp only [adN_zero] at *)
          all_goals first
            | (exfalso; omega)
            | (refine Need.mk ?_; omega)
            | (refine ⟨i + 1, (by refine leT.of ?_ ?_ rfl <;> repeat' (first | exact trivial | refine And.intro rfl ?_ | refine And.intro (by simp) ?_)), ⟨by omega, fun j hj => (Nat.lt_or_ge j i).elim (hq j) (fun h9 => (show j = i by omega) ▸ hp)⟩, by first | omega | (dsimp only; omega)⟩)
            | trace_state
        · rw [dcB_false hp] at c2
          repeat' (first | exact trivial | refine BS.d (fun h => ?_) (fun h => ?_) | refine BS.e (fun h => ?_) (fun h => ?_) | refine BS.ne (fun h => ?_) (fun h => ?_) | refine BS.n ?_ | refine BS.s (fun h => ?_) (fun h => ?_) | refine And.intro ?_ ?_ | (refine Need.mk ?_; first | with_reducible rfl | (show @Eq TC _ _; rfl) | omega | (simp only [adN_zero]; omega)) | exact OutS.whole rfl rfl | (refine OpK.callH c2 hA rfl rfl rfl rfl hE ?_ rfl rfl ?_; focus ((repeat' (first | exact PsA.lit _ | exact PsA.ref rfl rfl | constructor)); all_goals (fail "ps"))) | refine ListO.go gOk hE ?_)
          all_goals (try simp only [adN_zero] at *)
          all_goals first
            | (exfalso; omega)
            | (refine Need.mk ?_; omega)
            | (refine Need.mk ?_; symm; apply dcB_false; intro hh; exact hp (hh.2.2.1 i hi2))
            | trace_state
      · repeat' (first | exact trivial | refine BS.d (fun h => ?_) (fun h => ?_) | refine BS.e (fun h => ?_) (fun h => ?_) | refine BS.ne (fun h => ?_) (fun h => ?_) | refine BS.n ?_ | refine BS.s (fun h => ?_) (fun h => ?_) | refine And.intro ?_ ?_ | (refine Need.mk ?_; first | with_reducible rfl | (show @Eq TC _ _; rfl) | omega | (simp only [adN_zero]; omega)) | exact OutS.whole rfl rfl | refine ListO.go gOk hE ?_)
        all_goals first | (exfalso; omega) | (refine Need.mk ?_; omega) | skip
        refine CodeK.loop gOk hE (fun i : Nat => ⟨[(1, .ptr 1 0 0), (35, vr 1000003 o.length), (36, vi o.length), (37, vi i)], [(1, bM b c g o), (1000000, rI .fro false b), (1000001, rI .fro false c), (1000002, rSL .fro false e g), (1000003, rSL .fro false e o)]⟩) (fun i => i ≤ 9 ∧ ∀ j : Nat, j < i → ltP b c (o.getD j []) ((j % 3 : Nat) : Int)) (fun i => 9 - i) 0 (by refine leT.of ?_ ?_ rfl <;> repeat' (first | exact trivial | refine And.intro rfl ?_ | refine And.intro (by simp) ?_)) ⟨Nat.zero_le _, fun j hj => absurd hj (Nat.not_lt_zero _)⟩ ?_
        rintro k ⟨hk, hr⟩
        by_cases hk2 : k < 9
        · have c2 := listFits_run b c (o.getD k []) ((k : Int).tmod 3) (by rw [Int.tmod_eq_emod_of_nonneg (by omega)]; omega) h1.1 (hm.ho' k)
          have hmod : (k : Int).tmod 3 = ((k % 3 : Nat) : Int) := by rw [Int.tmod_eq_emod_of_nonneg (by omega)]; omega
          by_cases hp : ltP b c (o.getD k []) ((k % 3 : Nat) : Int)
          · rw [hmod, dcB_true hp, ← hmod] at c2
            repeat' (first | exact trivial | refine BS.d (fun h => ?_) (fun h => ?_) | refine BS.e (fun h => ?_) (fun h => ?_) | refine BS.ne (fun h => ?_) (fun h => ?_) | refine BS.n ?_ | refine BS.s (fun h => ?_) (fun h => ?_) | refine And.intro ?_ ?_ | (refine Need.mk ?_; first | with_reducible rfl | (show @Eq TC _ _; rfl) | omega | (simp only [adN_zero]; omega)) | exact OutS.whole rfl rfl | (refine OpK.callH c2 hA rfl rfl rfl rfl hE ?_ rfl rfl ?_; focus ((repeat' (first | exact PsA.lit _ | exact PsA.ref rfl rfl | constructor)); all_goals (fail "ps"))) | refine ListO.go gOk hE ?_)
            all_goals (try simp only [adN_zero] at *)
            all_goals first
              | (exfalso; omega)
              | (refine Need.mk ?_; omega)
              | (refine ⟨k + 1, (by refine leT.of ?_ ?_ rfl <;> repeat' (first | exact trivial | refine And.intro rfl ?_ | refine And.intro (by simp) ?_)), ⟨by omega, fun j hj => (Nat.lt_or_ge j k).elim (hr j) (fun h9 => (show j = k by omega) ▸ hp)⟩, by first | omega | (dsimp only; omega)⟩)
              | trace_state
          · rw [hmod, dcB_false hp, ← hmod] at c2
            repeat' (first | exact trivial | refine BS.d (fun h => ?_) (fun h => ?_) | refine BS.e (fun h => ?_) (fun h => ?_) | refine BS.ne (fun h => ?_) (fun h => ?_) | refine BS.n ?_ | refine BS.s (fun h => ?_) (fun h => ?_) | refine And.intro ?_ ?_ | (refine Need.mk ?_; first | with_reducible rfl | (show @Eq TC _ _; rfl) | omega | (simp only [adN_zero]; omega)) | exact OutS.whole rfl rfl | (refine OpK.callH c2 hA rfl rfl rfl rfl hE ?_ rfl rfl ?_; focus ((repeat' (first | exact PsA.lit _ | exact PsA.ref rfl rfl | constructor)); all_goals (fail "ps"))) | refine ListO.go gOk hE ?_)
            all_goals (try simp only [adN_zero] at *)
            all_goals first
              | (exfalso; omega)
              | (refine Need.mk ?_; omega)
              | (refine Need.mk ?_; symm; apply dcB_false; intro hh; refine hp ?_; have h8 := hh.2.2.2 (k / 3) (k % 3) (by omega) (by omega); rw [show k / 3 * 3 + k % 3 = k by omega] at h8; exact h8)
              | trace_state
        · repeat' (first | exact trivial | refine BS.d (fun h => ?_) (fun h => ?_) | refine BS.e (fun h => ?_) (fun h => ?_) | refine BS.ne (fun h => ?_) (fun h => ?_) | refine BS.n ?_ | refine BS.s (fun h => ?_) (fun h => ?_) | refine And.intro ?_ ?_ | (refine Need.mk ?_; first | with_reducible rfl | (show @Eq TC _ _; rfl) | omega | (simp only [adN_zero]; omega)) | exact OutS.whole rfl rfl | refine ListO.go gOk hE ?_)
          all_goals first
            | (exfalso; omega)
            | (refine Need.mk ?_; symm; apply dcB_true; exact ⟨h1, h2, fun j hj => hq j (by omega), fun w j hw hj => by have h8 := hr (w * 3 + j) (by omega); rw [show (w * 3 + j) % 3 = j by omega] at h8; exact h8⟩)
            | trace_state
  · rw [dcB_false h1] at c1
    rw [dcB_false (fun hh => h1 hh.1)]
    refine RunH.of_vc gOk Tryz.func62 rfl rfl (Nat.le_of_ble_eq_true rfl) (by repeat' (first | exact trivial | exact ⟨_, rfl, Nat.le_refl _⟩ | exact Nat.le_of_ble_eq_true rfl | refine And.intro ?_ ?_)) (Nat.le_of_ble_eq_true rfl) rfl (fun F hE hA => ?_)
    repeat' (first | exact trivial | refine BS.d (fun h => ?_) (fun h => ?_) | refine BS.e (fun h => ?_) (fun h => ?_) | refine BS.ne (fun h => ?_) (fun h => ?_) | refine BS.n ?_ | refine BS.s (fun h => ?_) (fun h => ?_) | refine And.intro ?_ ?_ | (refine Need.mk ?_; first | with_reducible rfl | (show @Eq TC _ _; rfl) | omega | (simp only [adN_zero]; omega)) | exact OutS.whole rfl rfl | (refine OpK.callH c1 hA rfl rfl rfl rfl hE ?_ rfl rfl ?_; focus ((repeat' (first | exact PsA.lit _ | exact PsA.ref rfl rfl | constructor)); all_goals (fail "ps"))) | refine ListO.go gOk hE ?_)
end Go.Proofs.YtpmhkpmkmbkjbaaGreatDoor
end

section
namespace Go.Proofs.YtpmhkpmkmbkjbaaGreatDoor
open Go Go.Tr
set_option maxRecDepth 100000
set_option maxHeartbeats 4000000
set_option linter.unusedVariables false
set_option linter.unusedSimpArgs false
/-- A memory of bounded size. -/
structure MmT (b c : List Int) (g o : List (List Int)) : Prop where
  ok : MmOk 1048576 b c g o
  n : g.length + o.length ≤ 1048576
  f : g.flatten.length + o.flatten.length ≤ 1048576
  x : ∀ i, ((g ++ o).getD i []).length ≤ 1048576
theorem MmT.of_sz {b c : List Int} {g o : List (List Int)} {m : Int} (h0 : 0 ≤ m) (h1 : m ≤ 1048576) (h : ¬ szM b c g o m < 0) : MmT b c g o := by
  have k := MmOk.of_sz h0 h1 h
  have q := szH_le b c m h0
  unfold szM at h
  split at h
  · omega
  · obtain ⟨h2, h3, h4, h5⟩ := szL_ok (g := g) (o := o) (m := szH b c m) (by omega) (by omega) h
    exact ⟨k, by omega, by omega, h5⟩
theorem MmT.S {b c : List Int} {g o : List (List Int)} (h : MmT b c g o) (e : Nat) : RunT Tryz.prog 57 [aMm e b c g o] [] [ob (dcB (mmP b c g o))] [] :=
  MemOkS_run e b c g o h.ok h.n h.f (ListsOkS_run e e g o h.ok.hg h.ok.ho h.f)
theorem MmT.I {b c : List Int} {g o : List (List Int)} (h : MmT b c g o) (e : Nat) : RunH Tryz.prog hT 62 [aMm e b c g o] [] [ob (dcB (mmP b c g o))] [] :=
  MemOkI_run e b c g o h.ok h.n (ListsOkI_run e e g o h.n h.x)
theorem mem_of {e0x e0y e0z e0u n0x n0y n0z n0u : Nat} {row0x row0y row0z row0u : Nat → Nat → C} (hn0x : n0x ≤ 9223372036854775807) (h0x : ∀ i r d, i < n0x → ([.i] : List Dt)[r]? = some d → DtOk d (row0x i r)) (hn0y : n0y ≤ 9223372036854775807) (h0y : ∀ i r d, i < n0y → ([.i] : List Dt)[r]? = some d → DtOk d (row0y i r)) (hn0z : n0z ≤ 9223372036854775807) (h0z : ∀ i r d, i < n0z → ([.sl [.i]] : List Dt)[r]? = some d → DtOk d (row0z i r)) (hn0u : n0u ≤ 9223372036854775807) (h0u : ∀ i r d, i < n0u → ([.sl [.i]] : List Dt)[r]? = some d → DtOk d (row0u i r)) :
    ∃ b c g o, MmOk 9223372036854775807 b c g o ∧ CSame (.sl .fro e0x 1 n0x row0x) ((tI b).er .fro) ∧ CSame (.sl .fro e0y 1 n0y row0y) ((tI c).er .fro) ∧ CSame (.sl .fro e0z 1 n0z row0z) ((tSL 0 g).er .fro) ∧ CSame (.sl .fro e0u 1 n0u row0u) ((tSL 0 o).er .fro) := by
  obtain ⟨b, lb, pb, sb⟩ := ints_of (e := e0x) hn0x h0x
  obtain ⟨c, lc, pc, sc⟩ := ints_of (e := e0y) hn0y h0y
  obtain ⟨g, lg, pg, sg⟩ := lists_of (e := e0z) (e' := 0) hn0z h0z
  obtain ⟨o, lo, po, so⟩ := lists_of (e := e0u) (e' := 0) hn0u h0u
  exact ⟨b, c, g, o, ⟨by omega, by omega, by omega, by omega, getD_le fun x hx => (pg x hx).1, getD_le fun x hx => (po x hx).1⟩, sb, sc, sg, so⟩
end Go.Proofs.YtpmhkpmkmbkjbaaGreatDoor
end
