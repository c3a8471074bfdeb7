import Derived.Test.YtbfkdbbgbdihdacDoorZC
import Derived.Test.YtbfkdbbgbdihdacDoorZB
import Derived.Test.YtbfkdbbgbdihdacDoorZA
import Derived.Test.YtbfkdbbgbdihdacDoorZD
import Derived.Test.YtbfkdbbgbdihdacDoorChecked
import Derived.WalkKit
import Derived.Test.YtbfkdbbgbdihdacDoorTie
import Derived.Lib.LaidTab
import Derived.LaidMore
import Derived.Below
import Derived.Laws.Rows
import Derived.Test.YtbfkdbbgbdihdacDoorVP
section
/- A memory: its lists fit its heap. -/
namespace Go.Proofs.YtbfkdbbgbdihdacDoor
open Go Go.Tr
set_option maxRecDepth 100000
set_option maxHeartbeats 4000000
set_option linter.unusedVariables false
set_option linter.unusedSimpArgs false
/-- A slot of the list is of the class and may be granted again. -/
def ftP (b c xs : List Int) (k : Int) (j : Nat) : Prop := clIn c (xs.getD j 0) = k ∧ gnIn b c (xs.getD j 0) ≤ 6
def ltP (b c xs : List Int) (k : Int) : Prop := ∀ j, j < xs.length → ftP b c xs k j
abbrev bHk (κ : Nat) (b c : List Int) : TRoot := .box 26 [.ref 1000000 0 b.length, .ref 1000001 0 c.length]
theorem l9Listed_run (b c xs : List Int) (k : Int) (hk : k ≠ -1) (hsh : shP b c) (hn : xs.length ≤ 1048576) : RunT Tryd.prog 59 [aH2 b c, .one (.c (tI xs)), ti k] [] [ob (dcB (ltP b c xs k))] [] := by
  have hc := hsh.2.1
  refine RunT.of_vc gOk Tryd.func59 rfl rfl (Nat.le_of_ble_eq_true rfl) (by repeat' (first | exact trivial | exact ⟨_, rfl, Nat.le_refl _⟩ | exact Nat.le_of_ble_eq_true rfl | refine And.intro ?_ ?_)) (Nat.le_of_ble_eq_true rfl) rfl (fun F hE => ?_)
  repeat' (first | exact trivial | refine BS.d (fun h => ?_) (fun h => ?_) | refine BS.e (fun h => ?_) (fun h => ?_) | refine BS.ne (fun h => ?_) (fun h => ?_) | refine BS.n ?_ | refine BS.s (fun h => ?_) (fun h => ?_) | refine And.intro ?_ ?_ | (refine Need.mk ?_; first | with_reducible rfl | (show @Eq TC _ _; rfl) | omega | (simp only [adN_zero]; omega)) | exact OutS.whole rfl rfl | refine ListO.go gOk hE ?_)
  refine CodeK.loop gOk hE (fun i : Nat => ⟨[(1, vr 1000002 xs.length), (2, vi k), (3, .ptr 3 0 0), (7, vi i)], [(3, bH b c), (1000000, rI .fro false b), (1000001, rI .fro false c), (1000002, rI .fro false xs)]⟩) (fun i => i ≤ xs.length ∧ ∀ j, j < i → ftP b c xs k j) (fun i => xs.length - i) 0 (by refine leT.of ?_ ?_ rfl <;> repeat' (first | exact trivial | refine And.intro rfl ?_ | refine And.intro (by simp) ?_)) ⟨Nat.zero_le _, fun j hj => absurd hj (Nat.not_lt_zero _)⟩ ?_
  rintro i ⟨hi, hq⟩
  by_cases hi2 : i < xs.length
  · have c1 := l7Class_run b c (xs.getD i 0) hc
    by_cases h1 : clIn c (xs.getD i 0) = k
    · have c2 := l7Gen_run b c (xs.getD i 0) hsh (by rw [h1]; exact hk)
      rw [h1] at c1
      by_cases h2 : gnIn b c (xs.getD i 0) ≤ 6
      · repeat' (first | exact trivial | refine BS.d (fun h => ?_) (fun h => ?_) | refine BS.e (fun h => ?_) (fun h => ?_) | refine BS.ne (fun h => ?_) (fun h => ?_) | refine BS.n ?_ | refine BS.s (fun h => ?_) (fun h => ?_) | refine And.intro ?_ ?_ | (refine Need.mk ?_; first | with_reducible rfl | (show @Eq TC _ _; rfl) | omega | (simp only [adN_zero]; omega)) | exact OutS.whole rfl rfl | (refine CodeK.draw gOk hE rfl (fun _ _ h => h) (.take 1 (.take 2 (.take 3 (.take 6 (.alt 0 (.alt 4 (.alt 5 (.take 7 (.take 8 (.take 10 (.take 11 (.take 12 (.alt 9 (.alt 13 (.alt 14 (.take 15 (.take 16 .done)) .stop) .stop) (.alt 13 (.alt 9 (.alt 14 (.take 15 (.take 16 .done)) .stop) .stop) .stop))))))) .stop) .stop) (.alt 4 (.alt 0 (.alt 5 (.take 7 (.take 8 (.take 10 (.take 11 (.take 12 (.alt 9 (.alt 13 (.alt 14 (.take 15 (.take 16 .done)) .stop) .stop) (.alt 13 (.alt 9 (.alt 14 (.take 15 (.take 16 .done)) .stop) .stop) .stop))))))) .stop) .stop) .stop)))))) ?_ ?_; focus (decide +kernel)) | (refine OpK.call c1 rfl rfl rfl rfl hE ?_ rfl rfl ?_; focus ((repeat' (first | exact PsA.lit _ | exact PsA.ref rfl rfl | constructor)); all_goals (fail "ps"))) | (refine OpK.call c2 rfl rfl rfl rfl hE ?_ rfl rfl ?_; focus ((repeat' (first | exact PsA.lit _ | exact PsA.ref rfl rfl | constructor)); all_goals (fail "ps"))) | refine ListO.go gOk hE ?_)
        all_goals (try simp only [adN_zero] at *)
        all_goals first
          | (exfalso; omega)
          | (refine Need.mk ?_; omega)
          | (refine ⟨i + 1, (by refine leT.of ?_ ?_ rfl <;> repeat' (first | exact trivial | refine And.intro rfl ?_ | refine And.intro (by simp) ?_)), ⟨by omega, fun j hj => (Nat.lt_or_ge j i).elim (hq j) (fun h9 => (show j = i by omega) ▸ ⟨h1, h2⟩)⟩, by first | omega | (dsimp only; omega)⟩)
          | trace_state
      · repeat' (first | exact trivial | refine BS.d (fun h => ?_) (fun h => ?_) | refine BS.e (fun h => ?_) (fun h => ?_) | refine BS.ne (fun h => ?_) (fun h => ?_) | refine BS.n ?_ | refine BS.s (fun h => ?_) (fun h => ?_) | refine And.intro ?_ ?_ | (refine Need.mk ?_; first | with_reducible rfl | (show @Eq TC _ _; rfl) | omega | (simp only [adN_zero]; omega)) | exact OutS.whole rfl rfl | (refine CodeK.draw gOk hE rfl (fun _ _ h => h) (.take 1 (.take 2 (.take 3 (.take 6 (.alt 0 (.alt 4 (.alt 5 (.take 7 (.take 8 (.take 10 (.take 11 (.take 12 (.alt 9 (.alt 13 (.alt 14 (.take 15 (.take 16 .done)) .stop) .stop) (.alt 13 (.alt 9 (.alt 14 (.take 15 (.take 16 .done)) .stop) .stop) .stop))))))) .stop) .stop) (.alt 4 (.alt 0 (.alt 5 (.take 7 (.take 8 (.take 10 (.take 11 (.take 12 (.alt 9 (.alt 13 (.alt 14 (.take 15 (.take 16 .done)) .stop) .stop) (.alt 13 (.alt 9 (.alt 14 (.take 15 (.take 16 .done)) .stop) .stop) .stop))))))) .stop) .stop) .stop)))))) ?_ ?_; focus (decide +kernel)) | (refine OpK.call c1 rfl rfl rfl rfl hE ?_ rfl rfl ?_; focus ((repeat' (first | exact PsA.lit _ | exact PsA.ref rfl rfl | constructor)); all_goals (fail "ps"))) | (refine OpK.call c2 rfl rfl rfl rfl hE ?_ rfl rfl ?_; focus ((repeat' (first | exact PsA.lit _ | exact PsA.ref rfl rfl | constructor)); all_goals (fail "ps"))) | refine ListO.go gOk hE ?_)
        all_goals (try simp only [adN_zero] at *)
        all_goals first
          | (exfalso; omega)
          | (refine Need.mk ?_; omega)
          | (refine Need.mk ?_; symm; apply dcB_false; intro hh; exact h2 (hh i hi2).2)
          | trace_state
    · repeat' (first | exact trivial | refine BS.d (fun h => ?_) (fun h => ?_) | refine BS.e (fun h => ?_) (fun h => ?_) | refine BS.ne (fun h => ?_) (fun h => ?_) | refine BS.n ?_ | refine BS.s (fun h => ?_) (fun h => ?_) | refine And.intro ?_ ?_ | (refine Need.mk ?_; first | with_reducible rfl | (show @Eq TC _ _; rfl) | omega | (simp only [adN_zero]; omega)) | exact OutS.whole rfl rfl | (refine CodeK.draw gOk hE rfl (fun _ _ h => h) (.take 1 (.take 2 (.take 3 (.take 6 (.alt 0 (.alt 4 (.alt 5 (.take 7 (.take 8 (.take 10 (.take 11 (.take 12 (.alt 9 (.alt 13 (.alt 14 (.take 15 (.take 16 .done)) .stop) .stop) (.alt 13 (.alt 9 (.alt 14 (.take 15 (.take 16 .done)) .stop) .stop) .stop))))))) .stop) .stop) (.alt 4 (.alt 0 (.alt 5 (.take 7 (.take 8 (.take 10 (.take 11 (.take 12 (.alt 9 (.alt 13 (.alt 14 (.take 15 (.take 16 .done)) .stop) .stop) (.alt 13 (.alt 9 (.alt 14 (.take 15 (.take 16 .done)) .stop) .stop) .stop))))))) .stop) .stop) .stop)))))) ?_ ?_; focus (decide +kernel)) | (refine OpK.call c1 rfl rfl rfl rfl hE ?_ rfl rfl ?_; focus ((repeat' (first | exact PsA.lit _ | exact PsA.ref rfl rfl | constructor)); all_goals (fail "ps"))) | refine ListO.go gOk hE ?_)
      all_goals (try simp only [adN_zero] at *)
      all_goals first
        | (exfalso; omega)
        | (refine Need.mk ?_; omega)
        | (refine Need.mk ?_; symm; apply dcB_false; intro hh; exact h1 (hh i hi2).1)
        | trace_state
  · repeat' (first | exact trivial | refine BS.d (fun h => ?_) (fun h => ?_) | refine BS.e (fun h => ?_) (fun h => ?_) | refine BS.ne (fun h => ?_) (fun h => ?_) | refine BS.n ?_ | refine BS.s (fun h => ?_) (fun h => ?_) | refine And.intro ?_ ?_ | (refine Need.mk ?_; first | with_reducible rfl | (show @Eq TC _ _; rfl) | omega | (simp only [adN_zero]; omega)) | exact OutS.whole rfl rfl | refine ListO.go gOk hE ?_)
    all_goals first
      | (exfalso; omega)
      | (refine Need.mk ?_; symm; apply dcB_true; exact fun j hj => hq j (by omega))
      | trace_state
theorem listFits_run (b c xs : List Int) (k : Int) (hk : k ≠ -1) (hsh : shP b c) (hn : xs.length ≤ 1048576) : RunH Tryd.prog hT 63 [aH2 b c, .agg [.c (tI xs)], ti k] [] [ob (dcB (ltP b c xs k))] [] := by
  have hc := hsh.2.1
  refine RunH.of_vc gOk Tryd.func63 rfl rfl (Nat.le_of_ble_eq_true rfl) (by repeat' (first | exact trivial | exact ⟨_, rfl, Nat.le_refl _⟩ | exact Nat.le_of_ble_eq_true rfl | refine And.intro ?_ ?_)) (Nat.le_of_ble_eq_true rfl) rfl (fun F hE hA => ?_)
  repeat' (first | exact trivial | refine BS.d (fun h => ?_) (fun h => ?_) | refine BS.e (fun h => ?_) (fun h => ?_) | refine BS.ne (fun h => ?_) (fun h => ?_) | refine BS.n ?_ | refine BS.s (fun h => ?_) (fun h => ?_) | refine And.intro ?_ ?_ | (refine Need.mk ?_; first | with_reducible rfl | (show @Eq TC _ _; rfl) | omega | (simp only [adN_zero]; omega)) | exact OutS.whole rfl rfl | refine ListO.go gOk hE ?_)
  refine CodeK.loop gOk hE (fun i : Nat => ⟨[(2, vi k), (3, .ptr 3 0 0), (10, vr 1000002 xs.length), (11, vi xs.length), (12, vi i)], [(3, bH b c), (1000000, rI .fro false b), (1000001, rI .fro false c), (1000002, rI .fro false xs)]⟩) (fun i => i ≤ xs.length ∧ ∀ j, j < i → ftP b c xs k j) (fun i => xs.length - i) 0 (by refine leT.of ?_ ?_ rfl <;> repeat' (first | exact trivial | refine And.intro rfl ?_ | refine And.intro (by simp) ?_)) ⟨Nat.zero_le _, fun j hj => absurd hj (Nat.not_lt_zero _)⟩ ?_
  rintro i ⟨hi, hq⟩
  by_cases hi2 : i < xs.length
  · have c1 := classIn_run b c (xs.getD i 0) hc
    have c2 := genIn_run b c (xs.getD i 0) hsh
    by_cases h1 : clIn c (xs.getD i 0) = k
    · rw [h1] at c1
      by_cases h2 : gnIn b c (xs.getD i 0) ≤ 6
      · repeat' (first | exact trivial | refine BS.d (fun h => ?_) (fun h => ?_) | refine BS.e (fun h => ?_) (fun h => ?_) | refine BS.ne (fun h => ?_) (fun h => ?_) | refine BS.n ?_ | refine BS.s (fun h => ?_) (fun h => ?_) | refine And.intro ?_ ?_ | (refine Need.mk ?_; first | with_reducible rfl | (show @Eq TC _ _; rfl) | omega | (simp only [adN_zero]; omega)) | exact OutS.whole rfl rfl | (refine OpK.callH c1 hA rfl rfl rfl rfl hE ?_ rfl rfl ?_; focus ((repeat' (first | exact PsA.lit _ | exact PsA.ref rfl rfl | constructor)); all_goals (fail "ps"))) | (refine OpK.callH c2 hA rfl rfl rfl rfl hE ?_ rfl rfl ?_; focus ((repeat' (first | exact PsA.lit _ | exact PsA.ref rfl rfl | constructor)); all_goals (fail "ps"))) | refine ListO.go gOk hE ?_)
        all_goals (try simp only [adN_zero] at *)
        all_goals first
          | (exfalso; omega)
          | (refine Need.mk ?_; omega)
          | (refine ⟨i + 1, (by refine leT.of ?_ ?_ rfl <;> repeat' (first | exact trivial | refine And.intro rfl ?_ | refine And.intro (by simp) ?_)), ⟨by omega, fun j hj => (Nat.lt_or_ge j i).elim (hq j) (fun h9 => (show j = i by omega) ▸ ⟨h1, h2⟩)⟩, by first | omega | (dsimp only; omega)⟩)
          | trace_state
      · repeat' (first | exact trivial | refine BS.d (fun h => ?_) (fun h => ?_) | refine BS.e (fun h => ?_) (fun h => ?_) | refine BS.ne (fun h => ?_) (fun h => ?_) | refine BS.n ?_ | refine BS.s (fun h => ?_) (fun h => ?_) | refine And.intro ?_ ?_ | (refine Need.mk ?_; first | with_reducible rfl | (show @Eq TC _ _; rfl) | omega | (simp only [adN_zero]; omega)) | exact OutS.whole rfl rfl | (refine OpK.callH c1 hA rfl rfl rfl rfl hE ?_ rfl rfl ?_; focus ((repeat' (first | exact PsA.lit _ | exact PsA.ref rfl rfl | constructor)); all_goals (fail "ps"))) | (refine OpK.callH c2 hA rfl rfl rfl rfl hE ?_ rfl rfl ?_; focus ((repeat' (first | exact PsA.lit _ | exact PsA.ref rfl rfl | constructor)); all_goals (fail "ps"))) | refine ListO.go gOk hE ?_)
        all_goals (try simp only [adN_zero] at *)
        all_goals first
          | (exfalso; omega)
          | (refine Need.mk ?_; omega)
          | (refine Need.mk ?_; symm; apply dcB_false; intro hh; exact h2 (hh i hi2).2)
          | trace_state
    · repeat' (first | exact trivial | refine BS.d (fun h => ?_) (fun h => ?_) | refine BS.e (fun h => ?_) (fun h => ?_) | refine BS.ne (fun h => ?_) (fun h => ?_) | refine BS.n ?_ | refine BS.s (fun h => ?_) (fun h => ?_) | refine And.intro ?_ ?_ | (refine Need.mk ?_; first | with_reducible rfl | (show @Eq TC _ _; rfl) | omega | (simp only [adN_zero]; omega)) | exact OutS.whole rfl rfl | (refine OpK.callH c1 hA rfl rfl rfl rfl hE ?_ rfl rfl ?_; focus ((repeat' (first | exact PsA.lit _ | exact PsA.ref rfl rfl | constructor)); all_goals (fail "ps"))) | refine ListO.go gOk hE ?_)
      all_goals (try simp only [adN_zero] at *)
      all_goals first
        | (exfalso; omega)
        | (refine Need.mk ?_; omega)
        | (refine Need.mk ?_; symm; apply dcB_false; intro hh; exact h1 (hh i hi2).1)
        | trace_state
  · repeat' (first | exact trivial | refine BS.d (fun h => ?_) (fun h => ?_) | refine BS.e (fun h => ?_) (fun h => ?_) | refine BS.ne (fun h => ?_) (fun h => ?_) | refine BS.n ?_ | refine BS.s (fun h => ?_) (fun h => ?_) | refine And.intro ?_ ?_ | (refine Need.mk ?_; first | with_reducible rfl | (show @Eq TC _ _; rfl) | omega | (simp only [adN_zero]; omega)) | exact OutS.whole rfl rfl | refine ListO.go gOk hE ?_)
    all_goals first
      | (exfalso; omega)
      | (refine Need.mk ?_; symm; apply dcB_true; exact fun j hj => hq j (by omega))
      | trace_state
end Go.Proofs.YtbfkdbbgbdihdacDoor
end

section
namespace Go.Proofs.YtbfkdbbgbdihdacDoor
open Go Go.Tr
set_option maxRecDepth 100000
set_option maxHeartbeats 4000000
set_option linter.unusedVariables false
set_option linter.unusedSimpArgs false
def mmP (b c : List Int) (g o : List (List Int)) : Prop := hpP b c ∧ lsOk g o = true ∧ (∀ j : Nat, j < 3 → ltP b c (g.getD j []) j) ∧ ∀ w j : Nat, w < 3 → j < 3 → ltP b c (o.getD (w * 3 + j) []) j
abbrev bM (b c : List Int) (g o : List (List Int)) : TRoot := .box 49 [.ref 1000000 0 b.length, .ref 1000001 0 c.length, .ref 1000002 0 g.length, .ref 1000003 0 o.length]
theorem lsOk_len {g o : List (List Int)} (h : lsOk g o = true) : g.length = 3 ∧ o.length = 9 := by
  unfold lsOk at h
  split at h
  · rename_i hh; exact ⟨hh.1, hh.2.1⟩
  · cases h
theorem OwnAtH_run (w c : Int) : RunT Tryd.prog 60 [ti w, ti c] [] [oi (if (0 ≤ w ∧ w ≤ 2) ∧ 0 ≤ c ∧ c ≤ 2 then w * 3 + c else -1)] [] := by
  have c1 := inH_run w 0 2
  have c2 := inH_run c 0 2
  refine RunT.of_vc gOk Tryd.func60 rfl rfl (Nat.le_of_ble_eq_true rfl) (by repeat' (first | exact trivial | exact ⟨_, rfl, Nat.le_refl _⟩ | exact Nat.le_of_ble_eq_true rfl | refine And.intro ?_ ?_)) (Nat.le_of_ble_eq_true rfl) rfl (fun F hE => ?_)
  repeat' (first | exact trivial | refine BS.d (fun h => ?_) (fun h => ?_) | refine BS.e (fun h => ?_) (fun h => ?_) | refine BS.ne (fun h => ?_) (fun h => ?_) | refine BS.n ?_ | refine BS.s (fun h => ?_) (fun h => ?_) | refine And.intro ?_ ?_ | (refine Need.mk ?_; first | with_reducible rfl | (show @Eq TC _ _; rfl) | omega | (simp only [adN_zero]; omega)) | exact OutS.whole rfl rfl | (refine OpK.call c1 rfl rfl rfl rfl hE ?_ rfl rfl ?_; focus ((repeat' (first | exact PsA.lit _ | exact PsA.ref rfl rfl | constructor)); all_goals (fail "ps"))) | (refine OpK.call c2 rfl rfl rfl rfl hE ?_ rfl rfl ?_; focus ((repeat' (first | exact PsA.lit _ | exact PsA.ref rfl rfl | constructor)); all_goals (fail "ps"))) | refine ListO.go gOk hE ?_)
  all_goals first | (exfalso; omega) | (refine Need.mk ?_; first | (rw [if_pos (by omega)]; done) | (rw [if_neg (by omega)]; done)) | trace_state
theorem MemOkS_run (e : Nat) (b c : List Int) (g o : List (List Int)) (hm : MmOk 1048576 b c g o) (hgo : g.length + o.length ≤ 1048576) (hf : g.flatten.length + o.flatten.length ≤ 1048576) (cL : RunT Tryd.prog 58 [.agg [.c (tSL e g), .c (tSL e o)]] [] [ob (lsOk g o)] []) : RunT Tryd.prog 23 [aMm e b c g o] [] [ob (dcB (mmP b c g o))] [] := by
  have c1 := HeapOkS_run b c hm.hb hm.hc
  by_cases h1 : hpP b c
  · rw [dcB_true h1] at c1
    cases h2 : lsOk g o with
    | false =>
      rw [h2] at cL
      rw [dcB_false (fun hh => by rw [hh.2.1] at h2; cases h2)]
      refine RunT.of_vc gOk Tryd.func23 rfl rfl (Nat.le_of_ble_eq_true rfl) (by repeat' (first | exact trivial | exact ⟨_, rfl, Nat.le_refl _⟩ | exact Nat.le_of_ble_eq_true rfl | refine And.intro ?_ ?_)) (Nat.le_of_ble_eq_true rfl) rfl (fun F hE => ?_)
      repeat' (first | exact trivial | refine BS.d (fun h => ?_) (fun h => ?_) | refine BS.e (fun h => ?_) (fun h => ?_) | refine BS.ne (fun h => ?_) (fun h => ?_) | refine BS.n ?_ | refine BS.s (fun h => ?_) (fun h => ?_) | refine And.intro ?_ ?_ | (refine Need.mk ?_; first | with_reducible rfl | (show @Eq TC _ _; rfl) | omega | (simp only [adN_zero]; omega)) | exact OutS.whole rfl rfl | (refine OpK.call c1 rfl rfl rfl rfl hE ?_ rfl rfl ?_; focus ((repeat' (first | exact PsA.lit _ | exact PsA.ref rfl rfl | constructor)); all_goals (fail "ps"))) | (refine OpK.call cL rfl rfl rfl rfl hE ?_ rfl rfl ?_; focus ((repeat' (first | exact PsA.lit _ | exact PsA.ref rfl rfl | constructor)); all_goals (fail "ps"))) | refine ListO.go gOk hE ?_)
    | true =>
      rw [h2] at cL
      obtain ⟨hg3, ho9⟩ := lsOk_len h2
      refine RunT.of_vc gOk Tryd.func23 rfl rfl (Nat.le_of_ble_eq_true rfl) (by repeat' (first | exact trivial | exact ⟨_, rfl, Nat.le_refl _⟩ | exact Nat.le_of_ble_eq_true rfl | refine And.intro ?_ ?_)) (Nat.le_of_ble_eq_true rfl) rfl (fun F hE => ?_)
      repeat' (first | exact trivial | refine BS.d (fun h => ?_) (fun h => ?_) | refine BS.e (fun h => ?_) (fun h => ?_) | refine BS.ne (fun h => ?_) (fun h => ?_) | refine BS.n ?_ | refine BS.s (fun h => ?_) (fun h => ?_) | refine And.intro ?_ ?_ | (refine Need.mk ?_; first | with_reducible rfl | (show @Eq TC _ _; rfl) | omega | (simp only [adN_zero]; omega)) | exact OutS.whole rfl rfl | (refine OpK.call c1 rfl rfl rfl rfl hE ?_ rfl rfl ?_; focus ((repeat' (first | exact PsA.lit _ | exact PsA.ref rfl rfl | constructor)); all_goals (fail "ps"))) | (refine OpK.call cL rfl rfl rfl rfl hE ?_ rfl rfl ?_; focus ((repeat' (first | exact PsA.lit _ | exact PsA.ref rfl rfl | constructor)); all_goals (fail "ps"))) | refine ListO.go gOk hE ?_)
      refine CodeK.loop gOk hE (fun i : Nat => ⟨[(1, .ptr 1 0 0), (3, vi i)], [(1, bM b c g o), (1000000, rI .fro false b), (1000001, rI .fro false c), (1000002, rSL .fro false e g), (1000003, rSL .fro false e o)]⟩) (fun i => i ≤ 3 ∧ ∀ j : Nat, j < i → ltP b c (g.getD j []) j ∧ ∀ w : Nat, w < 3 → ltP b c (o.getD (w * 3 + j) []) j) (fun i => 3 - i) 0 (by refine leT.of ?_ ?_ rfl <;> repeat' (first | exact trivial | refine And.intro rfl ?_ | refine And.intro (by simp) ?_)) ⟨Nat.zero_le _, fun j hj => absurd hj (Nat.not_lt_zero _)⟩ ?_
      rintro i ⟨hi, hq⟩
      by_cases hi2 : i < 3
      · have c2 := l9Listed_run b c (g.getD i []) i (by omega) h1.1 (hm.hg' i)
        by_cases hp : ltP b c (g.getD i []) i
        · rw [dcB_true hp] at c2
          repeat' (first | exact trivial | refine BS.d (fun h => ?_) (fun h => ?_) | refine BS.e (fun h => ?_) (fun h => ?_) | refine BS.ne (fun h => ?_) (fun h => ?_) | refine BS.n ?_ | refine BS.s (fun h => ?_) (fun h => ?_) | refine And.intro ?_ ?_ | (refine Need.mk ?_; first | with_reducible rfl | (show @Eq TC _ _; rfl) | omega | (simp only [adN_zero]; omega)) | exact OutS.whole rfl rfl | (refine CodeK.draw gOk hE rfl (fun _ _ h => h) (.take 0 (.take 2 (.take 3 (.take 5 (.take 9 (.alt 1 (.alt 4 (.take 6 (.take 7 (.alt 8 (.alt 10 (.take 11 .done) .stop) .stop))) .stop) (.alt 4 (.take 6 (.take 7 (.alt 1 (.alt 8 (.alt 10 (.take 11 .done) .stop) .stop) (.alt 8 (.alt 1 (.alt 10 (.take 11 .done) .stop) .stop) .stop)))) .stop))))))) ?_ ?_; focus (decide +kernel)) | (refine OpK.call c2 rfl rfl rfl rfl hE ?_ rfl rfl ?_; focus ((repeat' (first | exact PsA.lit _ | exact PsA.ref rfl rfl | constructor)); all_goals (fail "ps"))) | refine ListO.go gOk hE ?_)
          all_goals (try simp only [adN_zero] at *)
          all_goals first | (exfalso; omega) | (refine Need.mk ?_; omega) | skip
          all_goals (
            refine CodeK.loop gOk hE (fun w : Nat => ⟨[(1, .ptr 1 0 0), (3, vi i), (4, vi w)], [(1, bM b c g o), (1000000, rI .fro false b), (1000001, rI .fro false c), (1000002, rSL .fro false e g), (1000003, rSL .fro false e o)]⟩) (fun w => w ≤ 3 ∧ ∀ v : Nat, v < w → ltP b c (o.getD (v * 3 + i) []) i) (fun w => 3 - w) 0 (by refine leT.of ?_ ?_ rfl <;> repeat' (first | exact trivial | refine And.intro rfl ?_ | refine And.intro (by simp) ?_)) ⟨Nat.zero_le _, fun j hj => absurd hj (Nat.not_lt_zero _)⟩ ?_
            rintro w ⟨hw, hr⟩
            by_cases hw2 : w < 3
            · have c3 := OwnAtH_run w i
              rw [if_pos (by omega)] at c3
              have c4 := l9Listed_run b c (o.getD (w * 3 + i) []) i (by omega) h1.1 (hm.ho' (w * 3 + i))
              have ha : adN 0 ((w : Int) * 3 + (i : Int)) = w * 3 + i := by rw [adN_eq]; omega
              by_cases hp2 : ltP b c (o.getD (w * 3 + i) []) i
              · rw [dcB_true hp2] at c4
                repeat' (first | exact trivial | refine BS.d (fun h => ?_) (fun h => ?_) | refine BS.e (fun h => ?_) (fun h => ?_) | refine BS.ne (fun h => ?_) (fun h => ?_) | refine BS.n ?_ | refine BS.s (fun h => ?_) (fun h => ?_) | refine And.intro ?_ ?_ | (refine Need.mk ?_; first | with_reducible rfl | (show @Eq TC _ _; rfl) | omega | (simp only [adN_zero]; omega)) | exact OutS.whole rfl rfl | (refine CodeK.draw gOk hE rfl (fun _ _ h => h) (.take 0 (.take 2 (.take 3 (.take 5 (.take 6 (.take 11 (.alt 1 (.alt 4 (.alt 7 (.take 8 (.take 9 (.alt 10 (.alt 12 (.take 13 .done) .stop) .stop))) .stop) (.alt 7 (.alt 4 (.take 8 (.take 9 (.alt 10 (.alt 12 (.take 13 .done) .stop) .stop))) .stop) .stop)) (.alt 4 (.alt 1 (.alt 7 (.take 8 (.take 9 (.alt 10 (.alt 12 (.take 13 .done) .stop) .stop))) .stop) (.alt 7 (.take 8 (.take 9 (.alt 1 (.alt 10 (.alt 12 (.take 13 .done) .stop) .stop) (.alt 10 (.alt 1 (.alt 12 (.take 13 .done) .stop) .stop) .stop)))) .stop)) (.alt 7 (.alt 1 (.alt 4 (.take 8 (.take 9 (.alt 10 (.alt 12 (.take 13 .done) .stop) .stop))) .stop) (.alt 4 (.take 8 (.take 9 (.alt 1 (.alt 10 (.alt 12 (.take 13 .done) .stop) .stop) (.alt 10 (.alt 1 (.alt 12 (.take 13 .done) .stop) .stop) .stop)))) .stop)) .stop))))))))) ?_ ?_; focus (decide +kernel)) | (refine OpK.call c3 rfl rfl rfl rfl hE ?_ rfl rfl ?_; focus ((repeat' (first | exact PsA.lit _ | exact PsA.ref rfl rfl | constructor)); all_goals (fail "ps"))) | (refine OpK.call c4 rfl rfl rfl rfl hE ?_ rfl rfl ?_; focus ((repeat' (first | exact PsA.lit _ | exact PsA.ref rfl rfl | constructor)); all_goals (fail "ps"))) | refine ListO.go gOk hE ?_)
                all_goals (try simp only [adN_zero, ha] at *)
                all_goals first
                  | (exfalso; omega)
                  | (refine Need.mk ?_; omega)
                  | (refine ⟨w + 1, (by refine leT.of ?_ ?_ rfl <;> repeat' (first | exact trivial | refine And.intro rfl ?_ | refine And.intro (by simp) ?_)), ⟨by omega, fun j hj => (Nat.lt_or_ge j w).elim (hr j) (fun h9 => (show j = w by omega) ▸ hp2)⟩, by first | omega | (dsimp only; omega)⟩)
                  | trace_state
              · rw [dcB_false hp2] at c4
                repeat' (first | exact trivial | refine BS.d (fun h => ?_) (fun h => ?_) | refine BS.e (fun h => ?_) (fun h => ?_) | refine BS.ne (fun h => ?_) (fun h => ?_) | refine BS.n ?_ | refine BS.s (fun h => ?_) (fun h => ?_) | refine And.intro ?_ ?_ | (refine Need.mk ?_; first | with_reducible rfl | (show @Eq TC _ _; rfl) | omega | (simp only [adN_zero]; omega)) | exact OutS.whole rfl rfl | (refine CodeK.draw gOk hE rfl (fun _ _ h => h) (.take 0 (.take 2 (.take 3 (.take 5 (.take 6 (.take 11 (.alt 1 (.alt 4 (.alt 7 (.take 8 (.take 9 (.alt 10 (.alt 12 (.take 13 .done) .stop) .stop))) .stop) (.alt 7 (.alt 4 (.take 8 (.take 9 (.alt 10 (.alt 12 (.take 13 .done) .stop) .stop))) .stop) .stop)) (.alt 4 (.alt 1 (.alt 7 (.take 8 (.take 9 (.alt 10 (.alt 12 (.take 13 .done) .stop) .stop))) .stop) (.alt 7 (.take 8 (.take 9 (.alt 1 (.alt 10 (.alt 12 (.take 13 .done) .stop) .stop) (.alt 10 (.alt 1 (.alt 12 (.take 13 .done) .stop) .stop) .stop)))) .stop)) (.alt 7 (.alt 1 (.alt 4 (.take 8 (.take 9 (.alt 10 (.alt 12 (.take 13 .done) .stop) .stop))) .stop) (.alt 4 (.take 8 (.take 9 (.alt 1 (.alt 10 (.alt 12 (.take 13 .done) .stop) .stop) (.alt 10 (.alt 1 (.alt 12 (.take 13 .done) .stop) .stop) .stop)))) .stop)) .stop))))))))) ?_ ?_; focus (decide +kernel)) | (refine OpK.call c3 rfl rfl rfl rfl hE ?_ rfl rfl ?_; focus ((repeat' (first | exact PsA.lit _ | exact PsA.ref rfl rfl | constructor)); all_goals (fail "ps"))) | (refine OpK.call c4 rfl rfl rfl rfl hE ?_ rfl rfl ?_; focus ((repeat' (first | exact PsA.lit _ | exact PsA.ref rfl rfl | constructor)); all_goals (fail "ps"))) | refine ListO.go gOk hE ?_)
                all_goals (try simp only [adN_zero, ha] at *)
                all_goals first
                  | (exfalso; omega)
                  | (refine Need.mk ?_; omega)
                  | (refine Need.mk ?_; symm; apply dcB_false; intro hh; exact hp2 (hh.2.2.2 w i hw2 hi2))
                  | trace_state
            · repeat' (first | exact trivial | refine BS.d (fun h => ?_) (fun h => ?_) | refine BS.e (fun h => ?_) (fun h => ?_) | refine BS.ne (fun h => ?_) (fun h => ?_) | refine BS.n ?_ | refine BS.s (fun h => ?_) (fun h => ?_) | refine And.intro ?_ ?_ | (refine Need.mk ?_; first | with_reducible rfl | (show @Eq TC _ _; rfl) | omega | (simp only [adN_zero]; omega)) | exact OutS.whole rfl rfl | refine ListO.go gOk hE ?_)
              all_goals first
                | (exfalso; omega)
                | (refine Need.mk ?_; omega)
                | (refine ⟨i + 1, (by refine leT.of ?_ ?_ rfl <;> repeat' (first | exact trivial | refine And.intro rfl ?_ | refine And.intro (by simp) ?_)), ⟨by omega, fun j hj => (Nat.lt_or_ge j i).elim (hq j) (fun h9 => (show j = i by omega) ▸ ⟨hp, fun w' hw' => hr w' (by omega)⟩)⟩, by first | omega | (dsimp only; omega)⟩)
                | trace_state)
        · rw [dcB_false hp] at c2
          repeat' (first | exact trivial | refine BS.d (fun h => ?_) (fun h => ?_) | refine BS.e (fun h => ?_) (fun h => ?_) | refine BS.ne (fun h => ?_) (fun h => ?_) | refine BS.n ?_ | refine BS.s (fun h => ?_) (fun h => ?_) | refine And.intro ?_ ?_ | (refine Need.mk ?_; first | with_reducible rfl | (show @Eq TC _ _; rfl) | omega | (simp only [adN_zero]; omega)) | exact OutS.whole rfl rfl | (refine CodeK.draw gOk hE rfl (fun _ _ h => h) (.take 0 (.take 2 (.take 3 (.take 5 (.take 9 (.alt 1 (.alt 4 (.take 6 (.take 7 (.alt 8 (.alt 10 (.take 11 .done) .stop) .stop))) .stop) (.alt 4 (.take 6 (.take 7 (.alt 1 (.alt 8 (.alt 10 (.take 11 .done) .stop) .stop) (.alt 8 (.alt 1 (.alt 10 (.take 11 .done) .stop) .stop) .stop)))) .stop))))))) ?_ ?_; focus (decide +kernel)) | (refine OpK.call c2 rfl rfl rfl rfl hE ?_ rfl rfl ?_; focus ((repeat' (first | exact PsA.lit _ | exact PsA.ref rfl rfl | constructor)); all_goals (fail "ps"))) | refine ListO.go gOk hE ?_)
          all_goals (try simp only [adN_zero] at *)
          all_goals first
            | (exfalso; omega)
            | (refine Need.mk ?_; omega)
            | (refine Need.mk ?_; symm; apply dcB_false; intro hh; exact hp (hh.2.2.1 i hi2))
            | trace_state
      · repeat' (first | exact trivial | refine BS.d (fun h => ?_) (fun h => ?_) | refine BS.e (fun h => ?_) (fun h => ?_) | refine BS.ne (fun h => ?_) (fun h => ?_) | refine BS.n ?_ | refine BS.s (fun h => ?_) (fun h => ?_) | refine And.intro ?_ ?_ | (refine Need.mk ?_; first | with_reducible rfl | (show @Eq TC _ _; rfl) | omega | (simp only [adN_zero]; omega)) | exact OutS.whole rfl rfl | refine ListO.go gOk hE ?_)
        all_goals first
          | (exfalso; omega)
          | (refine Need.mk ?_; symm; apply dcB_true; exact ⟨h1, h2, fun j hj => (hq j (by omega)).1, fun w j hw hj => (hq j (by omega)).2 w hw⟩)
          | trace_state
  · rw [dcB_false h1] at c1
    rw [dcB_false (fun hh => h1 hh.1)]
    refine RunT.of_vc gOk Tryd.func23 rfl rfl (Nat.le_of_ble_eq_true rfl) (by repeat' (first | exact trivial | exact ⟨_, rfl, Nat.le_refl _⟩ | exact Nat.le_of_ble_eq_true rfl | refine And.intro ?_ ?_)) (Nat.le_of_ble_eq_true rfl) rfl (fun F hE => ?_)
    repeat' (first | exact trivial | refine BS.d (fun h => ?_) (fun h => ?_) | refine BS.e (fun h => ?_) (fun h => ?_) | refine BS.ne (fun h => ?_) (fun h => ?_) | refine BS.n ?_ | refine BS.s (fun h => ?_) (fun h => ?_) | refine And.intro ?_ ?_ | (refine Need.mk ?_; first | with_reducible rfl | (show @Eq TC _ _; rfl) | omega | (simp only [adN_zero]; omega)) | exact OutS.whole rfl rfl | (refine OpK.call c1 rfl rfl rfl rfl hE ?_ rfl rfl ?_; focus ((repeat' (first | exact PsA.lit _ | exact PsA.ref rfl rfl | constructor)); all_goals (fail "ps"))) | refine ListO.go gOk hE ?_)
end Go.Proofs.YtbfkdbbgbdihdacDoor
end

section
namespace Go.Proofs.YtbfkdbbgbdihdacDoor
open Go Go.Tr
set_option maxRecDepth 100000
set_option maxHeartbeats 4000000
set_option linter.unusedVariables false
set_option linter.unusedSimpArgs false
theorem MemOkI_run (e : Nat) (b c : List Int) (g o : List (List Int)) (hm : MmOk 1048576 b c g o) (hgo : g.length + o.length ≤ 1048576) (cL : RunT Tryd.prog 62 [.agg [.c (tSL e g), .c (tSL e o)]] [] [ob (lsOk g o)] []) : RunH Tryd.prog hT 25 [aMm e b c g o] [] [ob (dcB (mmP b c g o))] [] := by
  have c1 := HeapOkI_run b c hm.hb hm.hc
  by_cases h1 : hpP b c
  · rw [dcB_true h1] at c1
    cases h2 : lsOk g o with
    | false =>
      rw [h2] at cL
      rw [dcB_false (fun hh => by rw [hh.2.1] at h2; cases h2)]
      refine RunH.of_vc gOk Tryd.func25 rfl rfl (Nat.le_of_ble_eq_true rfl) (by repeat' (first | exact trivial | exact ⟨_, rfl, Nat.le_refl _⟩ | exact Nat.le_of_ble_eq_true rfl | refine And.intro ?_ ?_)) (Nat.le_of_ble_eq_true rfl) rfl (fun F hE hA => ?_)
      repeat' (first | exact trivial | refine BS.d (fun h => ?_) (fun h => ?_) | refine BS.e (fun h => ?_) (fun h => ?_) | refine BS.ne (fun h => ?_) (fun h => ?_) | refine BS.n ?_ | refine BS.s (fun h => ?_) (fun h => ?_) | refine And.intro ?_ ?_ | (refine Need.mk ?_; first | with_reducible rfl | (show @Eq TC _ _; rfl) | omega | (simp only [adN_zero]; omega)) | exact OutS.whole rfl rfl | (refine OpK.callH c1 hA rfl rfl rfl rfl hE ?_ rfl rfl ?_; focus ((repeat' (first | exact PsA.lit _ | exact PsA.ref rfl rfl | constructor)); all_goals (fail "ps"))) | (refine OpK.call cL rfl rfl rfl rfl hE ?_ rfl rfl ?_; focus ((repeat' (first | exact PsA.lit _ | exact PsA.ref rfl rfl | constructor)); all_goals (fail "ps"))) | refine ListO.go gOk hE ?_)
    | true =>
      rw [h2] at cL
      obtain ⟨hg3, ho9⟩ := lsOk_len h2
      refine RunH.of_vc gOk Tryd.func25 rfl rfl (Nat.le_of_ble_eq_true rfl) (by repeat' (first | exact trivial | exact ⟨_, rfl, Nat.le_refl _⟩ | exact Nat.le_of_ble_eq_true rfl | refine And.intro ?_ ?_)) (Nat.le_of_ble_eq_true rfl) rfl (fun F hE hA => ?_)
      repeat' (first | exact trivial | refine BS.d (fun h => ?_) (fun h => ?_) | refine BS.e (fun h => ?_) (fun h => ?_) | refine BS.ne (fun h => ?_) (fun h => ?_) | refine BS.n ?_ | refine BS.s (fun h => ?_) (fun h => ?_) | refine And.intro ?_ ?_ | (refine Need.mk ?_; first | with_reducible rfl | (show @Eq TC _ _; rfl) | omega | (simp only [adN_zero]; omega)) | exact OutS.whole rfl rfl | (refine OpK.callH c1 hA rfl rfl rfl rfl hE ?_ rfl rfl ?_; focus ((repeat' (first | exact PsA.lit _ | exact PsA.ref rfl rfl | constructor)); all_goals (fail "ps"))) | (refine OpK.call cL rfl rfl rfl rfl hE ?_ rfl rfl ?_; focus ((repeat' (first | exact PsA.lit _ | exact PsA.ref rfl rfl | constructor)); all_goals (fail "ps"))) | refine ListO.go gOk hE ?_)
      refine CodeK.loop gOk hE (fun i : Nat => ⟨[(1, .ptr 1 0 0), (19, vr 1000002 g.length), (20, vi g.length), (21, vi i)], [(1, bM b c g o), (1000000, rI .fro false b), (1000001, rI .fro false c), (1000002, rSL .fro false e g), (1000003, rSL .fro false e o)]⟩) (fun i => i ≤ 3 ∧ ∀ j : Nat, j < i → ltP b c (g.getD j []) j) (fun i => 3 - i) 0 (by refine leT.of ?_ ?_ rfl <;> repeat' (first | exact trivial | refine And.intro rfl ?_ | refine And.intro (by simp) ?_)) ⟨Nat.zero_le _, fun j hj => absurd hj (Nat.not_lt_zero _)⟩ ?_
      rintro i ⟨hi, hq⟩
      by_cases hi2 : i < 3
      · have c2 := listFits_run b c (g.getD i []) i (by omega) h1.1 (hm.hg' i)
        by_cases hp : ltP b c (g.getD i []) i
        · rw [dcB_true hp] at c2
          repeat' (first | exact trivial | refine BS.d (fun h => ?_) (fun h => ?_) | refine BS.e (fun h => ?_) (fun h => ?_) | refine BS.ne (fun h => ?_) (fun h => ?_) | refine BS.n ?_ | refine BS.s (fun h => ?_) (fun h => ?_) | refine And.intro ?_ ?_ | (refine Need.mk ?_; first | with_reducible rfl | (show @Eq TC _ _; rfl) | omega | (simp only [adN_zero]; omega)) | exact OutS.whole rfl rfl | (refine OpK.callH c2 hA rfl rfl rfl rfl hE ?_ rfl rfl ?_; focus ((repeat' (first | exact PsA.lit _ | exact PsA.ref rfl rfl | constructor)); all_goals (fail "ps"))) | refine ListO.go gOk hE ?_)
          all_goals (try simp only [adN_zero] at *)
          all_goals first
            | (exfalso; omega)
            | (refine Need.mk ?_; omega)
            | (refine ⟨i + 1, (by refine leT.of ?_ ?_ rfl <;> repeat' (first | exact trivial | refine And.intro rfl ?_ | refine And.intro (by simp) ?_)), ⟨by omega, fun j hj => (Nat.lt_or_ge j i).elim (hq j) (fun h9 => (show j = i by omega) ▸ hp)⟩, by first | omega | (dsimp only; omega)⟩)
            | trace_state
        · rw [dcB_false hp] at c2
          repeat' (first | exact trivial | refine BS.d (fun h => ?_) (fun h => ?_) | refine BS.e (fun h => ?_) (fun h => ?_) | refine BS.ne (fun h => ?_) (fun h => ?_) | refine BS.n ?_ | refine BS.s (fun h => ?_) (fun h => ?_) | refine And.intro ?_ ?_ | (refine Need.mk ?_; first | with_reducible rfl | (show @Eq TC _ _; rfl) | omega | (simp only [adN_zero]; omega)) | exact OutS.whole rfl rfl | (refine OpK.callH c2 hA rfl rfl rfl rfl hE ?_ rfl rfl ?_; focus ((repeat' (first | exact PsA.lit _ | exact PsA.ref rfl rfl | constructor)); all_goals (fail "ps"))) | refine ListO.go gOk hE ?_)
          all_goals (try simp only [adN_zero] at *)
          all_goals first
            | (exfalso; omega)
            | (refine Need.mk ?_; omega)
            | (refine Need.mk ?_; symm; apply dcB_false; intro hh; exact hp (hh.2.2.1 i hi2))
            | trace_state
      · repeat' (first | exact trivial | refine BS.d (fun h => ?_) (fun h => ?_) | refine BS.e (fun h => ?_) (fun h => ?_) | refine BS.ne (fun h => ?_) (fun h => ?_) | refine BS.n ?_ | refine BS.s (fun h => ?_) (fun h => ?_) | refine And.intro ?_ ?_ | (refine Need.mk ?_; first | with_reducible rfl | (show @Eq TC _ _; rfl) | omega | (simp only [adN_zero]; omega)) | exact OutS.whole rfl rfl | refine ListO.go gOk hE ?_)
        all_goals first | (exfalso; omega) | (refine Need.mk ?_; omega) | skip
        refine CodeK.loop gOk hE (fun i : Nat => ⟨[(1, .ptr 1 0 0), (35, vr 1000003 o.length), (36, vi o.length), (37, vi i)], [(1, bM b c g o), (1000000, rI .fro false b), (1000001, rI .fro false c), (1000002, rSL .fro false e g), (1000003, rSL .fro false e o)]⟩) (fun i => i ≤ 9 ∧ ∀ j : Nat, j < i → ltP b c (o.getD j []) ((j % 3 : Nat) : Int)) (fun i => 9 - i) 0 (by refine leT.of ?_ ?_ rfl <;> repeat' (first | exact trivial | refine And.intro rfl ?_ | refine And.intro (by simp) ?_)) ⟨Nat.zero_le _, fun j hj => absurd hj (Nat.not_lt_zero _)⟩ ?_
        rintro k ⟨hk, hr⟩
        by_cases hk2 : k < 9
        · have c2 := listFits_run b c (o.getD k []) ((k : Int).tmod 3) (by rw [Int.tmod_eq_emod_of_nonneg (by omega)]; omega) h1.1 (hm.ho' k)
          have hmod : (k : Int).tmod 3 = ((k % 3 : Nat) : Int) := by rw [Int.tmod_eq_emod_of_nonneg (by omega)]; omega
          by_cases hp : ltP b c (o.getD k []) ((k % 3 : Nat) : Int)
          · rw [hmod, dcB_true hp, ← hmod] at c2
            repeat' (first | exact trivial | refine BS.d (fun h => ?_) (fun h => ?_) | refine BS.e (fun h => ?_) (fun h => ?_) | refine BS.ne (fun h => ?_) (fun h => ?_) | refine BS.n ?_ | refine BS.s (fun h => ?_) (fun h => ?_) | refine And.intro ?_ ?_ | (refine Need.mk ?_; first | with_reducible rfl | (show @Eq TC _ _; rfl) | omega | (simp only [adN_zero]; omega)) | exact OutS.whole rfl rfl | (refine OpK.callH c2 hA rfl rfl rfl rfl hE ?_ rfl rfl ?_; focus ((repeat' (first | exact PsA.lit _ | exact PsA.ref rfl rfl | constructor)); all_goals (fail "ps"))) | refine ListO.go gOk hE ?_)
            all_goals (try simp only [adN_zero] at *)
            all_goals first
              | (exfalso; omega)
              | (refine Need.mk ?_; omega)
              | (refine ⟨k + 1, (by refine leT.of ?_ ?_ rfl <;> repeat' (first | exact trivial | refine And.intro rfl ?_ | refine And.intro (by simp) ?_)), ⟨by omega, fun j hj => (Nat.lt_or_ge j k).elim (hr j) (fun h9 => (show j = k by omega) ▸ hp)⟩, by first | omega | (dsimp only; omega)⟩)
              | trace_state
          · rw [hmod, dcB_false hp, ← hmod] at c2
            repeat' (first | exact trivial | refine BS.d (fun h => ?_) (fun h => ?_) | refine BS.e (fun h => ?_) (fun h => ?_) | refine BS.ne (fun h => ?_) (fun h => ?_) | refine BS.n ?_ | refine BS.s (fun h => ?_) (fun h => ?_) | refine And.intro ?_ ?_ | (refine Need.mk ?_; first | with_reducible rfl | (show @Eq TC _ _; rfl) | omega | (simp only [adN_zero]; omega)) | exact OutS.whole rfl rfl | (refine OpK.callH c2 hA rfl rfl rfl rfl hE ?_ rfl rfl ?_; focus ((repeat' (first | exact PsA.lit _ | exact PsA.ref rfl rfl | constructor)); all_goals (fail "ps"))) | refine ListO.go gOk hE ?_)
            all_goals (try simp only [adN_zero] at *)
            all_goals first
              | (exfalso; omega)
              | (refine Need.mk ?_; omega)
              | (refine Need.mk ?_; symm; apply dcB_false; intro hh; refine hp ?_; have h8 := hh.2.2.2 (k / 3) (k % 3) (by omega) (by omega); rw [show k / 3 * 3 + k % 3 = k by omega] at h8; exact h8)
              | trace_state
        · repeat' (first | exact trivial | refine BS.d (fun h => ?_) (fun h => ?_) | refine BS.e (fun h => ?_) (fun h => ?_) | refine BS.ne (fun h => ?_) (fun h => ?_) | refine BS.n ?_ | refine BS.s (fun h => ?_) (fun h => ?_) | refine And.intro ?_ ?_ | (refine Need.mk ?_; first | with_reducible rfl | (show @Eq TC _ _; rfl) | omega | (simp only [adN_zero]; omega)) | exact OutS.whole rfl rfl | refine ListO.go gOk hE ?_)
          all_goals first
            | (exfalso; omega)
            | (refine Need.mk ?_; symm; apply dcB_true; exact ⟨h1, h2, fun j hj => hq j (by omega), fun w j hw hj => by have h8 := hr (w * 3 + j) (by omega); rw [show (w * 3 + j) % 3 = j by omega] at h8; exact h8⟩)
            | trace_state
  · rw [dcB_false h1] at c1
    rw [dcB_false (fun hh => h1 hh.1)]
    refine RunH.of_vc gOk Tryd.func25 rfl rfl (Nat.le_of_ble_eq_true rfl) (by repeat' (first | exact trivial | exact ⟨_, rfl, Nat.le_refl _⟩ | exact Nat.le_of_ble_eq_true rfl | refine And.intro ?_ ?_)) (Nat.le_of_ble_eq_true rfl) rfl (fun F hE hA => ?_)
    repeat' (first | exact trivial | refine BS.d (fun h => ?_) (fun h => ?_) | refine BS.e (fun h => ?_) (fun h => ?_) | refine BS.ne (fun h => ?_) (fun h => ?_) | refine BS.n ?_ | refine BS.s (fun h => ?_) (fun h => ?_) | refine And.intro ?_ ?_ | (refine Need.mk ?_; first | with_reducible rfl | (show @Eq TC _ _; rfl) | omega | (simp only [adN_zero]; omega)) | exact OutS.whole rfl rfl | (refine OpK.callH c1 hA rfl rfl rfl rfl hE ?_ rfl rfl ?_; focus ((repeat' (first | exact PsA.lit _ | exact PsA.ref rfl rfl | constructor)); all_goals (fail "ps"))) | refine ListO.go gOk hE ?_)
end Go.Proofs.YtbfkdbbgbdihdacDoor
end

section
/- Equal values make equal endings. -/
namespace Go.Proofs.YtbfkdbbgbdihdacDoor
open Go
theorem ret_str {a b : ByteArray} (h : a = b) : Ending.returned (.string a) = .returned (.string b) := by rw [h]
theorem ret_int {k : IntKind} {a b : Int} (h : a = b) : Ending.returned (.int k a) = .returned (.int k b) := by rw [h]
theorem ret_bool {a b : Bool} (h : a = b) : Ending.returned (.bool a) = .returned (.bool b) := by rw [h]
theorem ret_ii {a b c d : Int} (h : a = c) (h' : b = d) : Ending.returned (.tuple #[.int .i64 a, .int .i64 b]) = .returned (.tuple #[.int .i64 c, .int .i64 d]) := by rw [h, h']
theorem ret_ib {a b : Int} {c d : Bool} (h : a = b) (h' : c = d) : Ending.returned (.tuple #[.int .i64 a, .bool c]) = .returned (.tuple #[.int .i64 b, .bool d]) := by rw [h, h']
theorem ret_vb {v : Value} {c d : Bool} (h' : c = d) : Ending.returned (.tuple #[v, .bool c]) = .returned (.tuple #[v, .bool d]) := by rw [h']
end Go.Proofs.YtbfkdbbgbdihdacDoor
end

section
/- What the listed table of slot sizes gives a walk. -/
namespace Go.Proofs.YtbfkdbbgbdihdacDoor
open Go Go.RowKit

theorem sizes_datum : (Rows.laid_loop_example_g01538_impl_slotSizes : DataW Unit) = Lib.tabData .i64 [8, 16, 40] := by kernel_rfl

/-- The table of slot sizes lies in its block. -/
def Tab (w : World) : Prop := ∃ t fr, w.heap[0]? = some (.cells #[.int .i64 8, .int .i64 16, .int .i64 40] t fr)

theorem tab_of_var {W : World} (h : W.var? Tryd.prog "loop.example/g01538/impl.slotSizes" = some #[.int .i64 8, .int .i64 16, .int .i64 40]) : Tab W := by
  unfold World.var? at h
  rw [show Tryd.prog.globalNamed "loop.example/g01538/impl.slotSizes" = some 0 by kernel_rfl] at h
  simp only [Option.bind_some] at h
  split at h
  · rename_i cs t fr hh
    injection h with h
    subst h
    exact ⟨t, fr, hh⟩
  · cases h

theorem tab_of_laid {W : World} {rest : List (String × DataW Unit)}
    (h : laidMet Tryd.prog (("loop.example/g01538/impl.slotSizes", Rows.laid_loop_example_g01538_impl_slotSizes) :: rest) W) : Tab W := by
  obtain ⟨ps, ⟨g0, t0, cs0, f0, p0, q0, hg0, ht0, hv0, hd0, _, _⟩, _⟩ := h
  obtain rfl := Option.some.inj ((show Tryd.prog.globalNamed "loop.example/g01538/impl.slotSizes" = some 0 by kernel_rfl).symm.trans hg0)
  obtain rfl := Option.some.inj ((show (Tryd.prog.globals[0]?).map (·.type) = some 99 by kernel_rfl).symm.trans ht0)
  rw [sizes_datum] at hd0
  refine tab_of_var ?_
  have e := Lib.cells_of_tab Tryd.underlying99 Tryd.underlying3 (by kernel_rfl) (by kernel_rfl) hd0
  rw [hv0, show cs0 = #[.int .i64 8, .int .i64 16, .int .i64 40] from Array.toList_inj.1 e]

theorem Tab.lt {w : World} (h : Tab w) : 0 < w.heap.size := by
  obtain ⟨t, fr, h⟩ := h
  exact (Array.getElem?_eq_some_iff.1 h).1
theorem Tab.below {w w' : World} (h : Tab w) (hb : Below w.heap.size w w') : Tab w' := by
  have hl := h.lt
  obtain ⟨t, fr, h⟩ := h
  exact ⟨t, fr, by rw [hb.block _ hl]; exact h⟩
theorem Tab.belowB {B : Nat} {w w' : World} (h : Tab w) (hB : 0 < B) (hb : Below B w w') : Tab w' := by
  obtain ⟨t, fr, h⟩ := h
  exact ⟨t, fr, by rw [hb.block _ hB]; exact h⟩
theorem Tab.c0 {w : World} (h : Tab w) : w.cell? ⟨0, 0, none⟩ = some (.int .i64 8) := by
  obtain ⟨t, fr, h⟩ := h
  rw [cell_of_row w _ 0 _ t fr h]; rfl
theorem Tab.c1 {w : World} (h : Tab w) : w.cell? ⟨0, 1, none⟩ = some (.int .i64 16) := by
  obtain ⟨t, fr, h⟩ := h
  rw [cell_of_row w _ 1 _ t fr h]; rfl
theorem Tab.c2 {w : World} (h : Tab w) : w.cell? ⟨0, 2, none⟩ = some (.int .i64 40) := by
  obtain ⟨t, fr, h⟩ := h
  rw [cell_of_row w _ 2 _ t fr h]; rfl
end Go.Proofs.YtbfkdbbgbdihdacDoor
end

section
/- A law's frame where a table is told. -/
namespace Go.Tr
open Go Go.RowKit
theorem RunP.args {P : Program} {hc : Hc} {f : FuncId} {args args' : List Ag} {ext : List Xr} {Post : List Ar → List Xr → Prop} (hs : AgsSim args args') (h : RunP P hc f args' ext Post) : RunP P hc f args ext Post := by
  intro w q A cargs he ha
  obtain ⟨f1, f2⟩ := hs.get
  refine h w q A cargs ⟨by rw [he.size, f1], fun i y hi => ?_, he.ext, he.lt⟩ ha
  obtain ⟨x, g1, g2⟩ := f2 i y hi
  obtain ⟨u, k1, k2⟩ := he.args i x g1
  exact ⟨u, k1, g2.rel k2⟩
section
variable {P : Program} {W : World}
theorem RunP.law {hc : Hc} {f : FuncId} {args : List Ag} {cargs : Array Value} (hrun : RunP P hc f args [] fun outs ext => outs = [.one (.lit (.bool true))] ∧ ext = []) (hc' : ∀ g j v, hc g j v → W.cell? ⟨g, j, none⟩ = some v ∧ scal v = true) (hsz : cargs.size = args.length)
    (hargs : ∀ (i : Nat) (x : Ag), args[i]? = some x → ∃ u, cargs[i]? = some u ∧ AgRel W (qAll W) (fun _ => ⟨none, 0⟩) i x u) :
    Calls P f cargs W fun e w' => e = .returned (.bool true) ∧ Below W.heap.size W w' := by
  refine (hrun W (qAll W) (fun _ => ⟨none, 0⟩) cargs ⟨hsz, hargs, fun ρ x h => by simp at h, fun b j x hx => ?_⟩ (fun g j v hm => ?_)).mono fun e w' h => ?_
  · unfold qAll at hx
    split at hx
    · rename_i hh; obtain ⟨v, hv⟩ := hh; exact World.block_lt_of_cell? W ⟨b, j, none⟩ hv
    · cases hx
  · obtain ⟨h1, h2⟩ := hc' g j v hm
    exact ⟨h1, h2, qAll_fro ⟨v, h1⟩⟩
  · obtain ⟨us, outs, ext, q', rfl, ⟨rfl, rfl⟩, hx⟩ := h
    match us, hx.size with
    | [u], _ =>
      obtain ⟨u', hu, hr⟩ := hx.outs 0 _ rfl
      injection hu with hu; subst hu
      obtain ⟨hr, _⟩ := hr
      refine ⟨by rw [hr]; rfl, hx.fr.os, hx.fr.tape, hx.fr.output, hx.fr.mt.size, fun k hk => ?_⟩
      have hkk : W.heap[k]? = some W.heap[k] := Array.getElem?_eq_getElem hk
      cases ho : W.heap[k] with
      | cells cur e fz =>
        rw [ho] at hkk
        obtain ⟨cur', h1, h2⟩ := hx.fr.mt.blk k cur e fz hkk
        rw [hkk, h1]
        have : cur' = cur := by
          apply Array.ext_getElem?
          intro j
          have := hx.fr.cell k j hk (qAll_wof k j)
          simpa [World.cell?, hkk, h1] using this
        rw [this]
      | _ => exact hx.fr.other k hk (fun cur e fz hh => by rw [hkk, ho] at hh; cases hh)
end
end Go.Tr
namespace Go.Proofs.YtbfkdbbgbdihdacDoor
open Go Go.Tr Go.RowKit
theorem hT_of {W : World} (ht : Tab W) : ∀ g j v, hT g j v → W.cell? ⟨g, j, none⟩ = some v ∧ scal v = true := by
  intro g j v h
  simp only [hT, hcL, List.mem_cons, List.not_mem_nil, or_false, Prod.mk.injEq] at h
  rcases h with ⟨rfl, rfl, rfl⟩ | ⟨rfl, rfl, rfl⟩ | ⟨rfl, rfl, rfl⟩
  · exact ⟨ht.c0, rfl⟩
  · exact ⟨ht.c1, rfl⟩
  · exact ⟨ht.c2, rfl⟩
end Go.Proofs.YtbfkdbbgbdihdacDoor
end

section
namespace Go.Proofs.YtbfkdbbgbdihdacDoor
open Go Go.Tr
set_option maxRecDepth 100000
set_option maxHeartbeats 4000000
set_option linter.unusedVariables false
set_option linter.unusedSimpArgs false
/-- A memory of bounded size. -/
structure MmT (b c : List Int) (g o : List (List Int)) : Prop where
  ok : MmOk 1048576 b c g o
  n : g.length + o.length ≤ 1048576
  f : g.flatten.length + o.flatten.length ≤ 1048576
  x : ∀ i, ((g ++ o).getD i []).length ≤ 1048576
theorem MmT.of_sz {b c : List Int} {g o : List (List Int)} {m : Int} (h0 : 0 ≤ m) (h1 : m ≤ 1048576) (h : ¬ szM b c g o m < 0) : MmT b c g o := by
  have k := MmOk.of_sz h0 h1 h
  have q := szH_le b c m h0
  unfold szM at h
  split at h
  · omega
  · obtain ⟨h2, h3, h4, h5⟩ := szL_ok (g := g) (o := o) (m := szH b c m) (by omega) (by omega) h
    exact ⟨k, by omega, by omega, h5⟩
theorem MmT.S {b c : List Int} {g o : List (List Int)} (h : MmT b c g o) (e : Nat) : RunT Tryd.prog 23 [aMm e b c g o] [] [ob (dcB (mmP b c g o))] [] :=
  MemOkS_run e b c g o h.ok h.n h.f (ListsOkS_run e e g o h.ok.hg h.ok.ho h.f)
theorem MmT.I {b c : List Int} {g o : List (List Int)} (h : MmT b c g o) (e : Nat) : RunH Tryd.prog hT 25 [aMm e b c g o] [] [ob (dcB (mmP b c g o))] [] :=
  MemOkI_run e b c g o h.ok h.n (ListsOkI_run e e g o h.n h.x)
theorem mem_of {e0x e0y e0z e0u n0x n0y n0z n0u : Nat} {row0x row0y row0z row0u : Nat → Nat → C} (hn0x : n0x ≤ 9223372036854775807) (h0x : ∀ i r d, i < n0x → ([.i] : List Dt)[r]? = some d → DtOk d (row0x i r)) (hn0y : n0y ≤ 9223372036854775807) (h0y : ∀ i r d, i < n0y → ([.i] : List Dt)[r]? = some d → DtOk d (row0y i r)) (hn0z : n0z ≤ 9223372036854775807) (h0z : ∀ i r d, i < n0z → ([.sl [.i]] : List Dt)[r]? = some d → DtOk d (row0z i r)) (hn0u : n0u ≤ 9223372036854775807) (h0u : ∀ i r d, i < n0u → ([.sl [.i]] : List Dt)[r]? = some d → DtOk d (row0u i r)) :
    ∃ b c g o, MmOk 9223372036854775807 b c g o ∧ CSame (.sl .fro e0x 1 n0x row0x) ((tI b).er .fro) ∧ CSame (.sl .fro e0y 1 n0y row0y) ((tI c).er .fro) ∧ CSame (.sl .fro e0z 1 n0z row0z) ((tSL 0 g).er .fro) ∧ CSame (.sl .fro e0u 1 n0u row0u) ((tSL 0 o).er .fro) := by
  obtain ⟨b, lb, pb, sb⟩ := ints_of (e := e0x) hn0x h0x
  obtain ⟨c, lc, pc, sc⟩ := ints_of (e := e0y) hn0y h0y
  obtain ⟨g, lg, pg, sg⟩ := lists_of (e := e0z) (e' := 0) hn0z h0z
  obtain ⟨o, lo, po, so⟩ := lists_of (e := e0u) (e' := 0) hn0u h0u
  exact ⟨b, c, g, o, ⟨by omega, by omega, by omega, by omega, getD_le fun x hx => (pg x hx).1, getD_le fun x hx => (po x hx).1⟩, sb, sc, sg, so⟩
theorem MemOk_law (b c : List Int) (g o : List (List Int)) (h1 : MmOk 9223372036854775807 b c g o) : RunH Tryd.prog hT 5 [aMm 0 b c g o] [] [ob true] [] := by
  have c0 := szMem_run 0 0 b c g o 1048576 (by decide) (by decide) h1.hb h1.hc h1.hg h1.hg' h1.ho h1.ho'
  by_cases hz : szM b c g o 1048576 < 0
  · generalize szM b c g o 1048576 = z at *
    refine RunH.of_vc gOk Tryd.func5 rfl rfl (Nat.le_of_ble_eq_true rfl) (by repeat' (first | exact trivial | exact ⟨_, rfl, Nat.le_refl _⟩ | exact Nat.le_of_ble_eq_true rfl | refine And.intro ?_ ?_)) (Nat.le_of_ble_eq_true rfl) rfl (fun F hE hA => ?_)
    repeat' (first | exact trivial | refine BS.d (fun h => ?_) (fun h => ?_) | refine BS.e (fun h => ?_) (fun h => ?_) | refine BS.ne (fun h => ?_) (fun h => ?_) | refine BS.n ?_ | refine BS.s (fun h => ?_) (fun h => ?_) | refine And.intro ?_ ?_ | (refine Need.mk ?_; first | with_reducible rfl | (show @Eq TC _ _; rfl) | omega | (simp only [adN_zero]; omega)) | exact OutS.whole rfl rfl | (refine OpK.call c0 rfl rfl rfl rfl hE ?_ rfl rfl ?_; focus ((repeat' (first | exact PsA.lit _ | exact PsA.ref rfl rfl | constructor)); all_goals (fail "ps"))) | refine ListO.go gOk hE ?_)
    all_goals first | exact Need.mk rfl | (exfalso; omega) | trace_state
  · have ht := MmT.of_sz (m := 1048576) (by decide) (by decide) hz
    generalize szM b c g o 1048576 = z at *
    have k := ht.ok
    have k3 := k.le (m' := 4000000) (by decide)
    have c1 := toMem_run 0 b c g o k.hb k.hc k.hg k.hg' k.ho k.ho'
    have c3 := ht.S 75
    have c4 := ht.I 75
    have c5 := eqMem_run 75 b c g o k3.hb k3.hc k3.hg k3.hg' k3.ho k3.ho'
    generalize dcB (mmP b c g o) = bb at *
    refine RunH.of_vc gOk Tryd.func5 rfl rfl (Nat.le_of_ble_eq_true rfl) (by repeat' (first | exact trivial | exact ⟨_, rfl, Nat.le_refl _⟩ | exact Nat.le_of_ble_eq_true rfl | refine And.intro ?_ ?_)) (Nat.le_of_ble_eq_true rfl) rfl (fun F hE hA => ?_)
    repeat' (first | exact trivial | refine BS.d (fun h => ?_) (fun h => ?_) | refine BS.e (fun h => ?_) (fun h => ?_) | refine BS.ne (fun h => ?_) (fun h => ?_) | refine BS.n ?_ | refine BS.s (fun h => ?_) (fun h => ?_) | refine And.intro ?_ ?_ | (refine Need.mk ?_; first | with_reducible rfl | (show @Eq TC _ _; rfl) | omega | (simp only [adN_zero]; omega)) | exact OutS.whole rfl rfl | (refine OpK.call c0 rfl rfl rfl rfl hE ?_ rfl rfl ?_; focus ((repeat' (first | exact PsA.lit _ | exact PsA.ref rfl rfl | constructor)); all_goals (fail "ps"))) | (refine OpK.call c1 rfl rfl rfl rfl hE ?_ rfl rfl ?_; focus ((repeat' (first | exact PsA.lit _ | exact PsA.ref rfl rfl | constructor)); all_goals (fail "ps"))) | (refine OpK.call c3 rfl rfl rfl rfl hE ?_ rfl rfl ?_; focus ((repeat' (first | exact PsA.lit _ | exact PsA.ref rfl rfl | constructor)); all_goals (fail "ps"))) | (refine OpK.callH c4 hA rfl rfl rfl rfl hE ?_ rfl rfl ?_; focus ((repeat' (first | exact PsA.lit _ | exact PsA.ref rfl rfl | constructor)); all_goals (fail "ps"))) | (refine OpK.call c5 rfl rfl rfl rfl hE ?_ rfl rfl ?_; focus ((repeat' (first | exact PsA.lit _ | exact PsA.ref rfl rfl | constructor)); all_goals (fail "ps"))) | (refine CodeK.draw gOk hE rfl (fun _ _ h => h) (.alt 0 (.alt 1 (.alt 2 (.alt 3 (.take 4 .done) .stop) .stop) .stop) (.alt 1 (.alt 0 (.alt 2 (.alt 3 (.take 4 .done) .stop) .stop) (.alt 2 (.alt 0 (.alt 3 (.take 4 .done) .stop) .stop) .stop)) .stop)) ?_ ?_; focus (decide +kernel)) | refine ListO.go gOk hE ?_)
    all_goals first | exact Need.mk rfl | (exfalso; omega) | exact absurd rfl h | (cases bb <;> simp_all; done) | trace_state
end Go.Proofs.YtbfkdbbgbdihdacDoor
end
