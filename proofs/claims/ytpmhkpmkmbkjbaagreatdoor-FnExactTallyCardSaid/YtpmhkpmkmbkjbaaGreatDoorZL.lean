import Derived.Test.YtpmhkpmkmbkjbaaGreatDoorZN
import Derived.Test.YtpmhkpmkmbkjbaaGreatDoorVZ
import Derived.Test.YtpmhkpmkmbkjbaaGreatDoorZO
section
namespace Go.Proofs.YtpmhkpmkmbkjbaaGreatDoor
open Go Go.Tr
set_option maxRecDepth 100000
set_option maxHeartbeats 4000000
set_option linter.unusedVariables false
set_option linter.unusedSimpArgs false
/-- The number of all rows. -/
def cnt : List (List Row) → Int
  | [] => 0
  | x :: l => x.length + cnt l
theorem cnt_nn : ∀ xs : List (List Row), 0 ≤ cnt xs
  | [] => Int.le_refl _
  | x :: l => by have := cnt_nn l; unfold cnt; omega
theorem cnt_drop {xs : List (List Row)} {i : Nat} (h : i < xs.length) : cnt (xs.drop i) = (xs.getD i []).length + cnt (xs.drop (i + 1)) := by
  rw [drop_cons [] h]; rfl
theorem LimboSizeI_run (e' e : Nat) (xs : List (List Row)) (hn : xs.length ≤ 1048576) (hcn : cnt xs ≤ 1048576) : RunT Tryz.prog 147 [.one (.c (tLL e' e xs))] [] [oi (cnt xs)] [] := by
  refine RunT.of_vc gOk Tryz.func147 rfl rfl (Nat.le_of_ble_eq_true rfl) (by repeat' (first | exact trivial | exact ⟨_, rfl, Nat.le_refl _⟩ | exact Nat.le_of_ble_eq_true rfl | refine And.intro ?_ ?_)) (Nat.le_of_ble_eq_true rfl) rfl (fun F hE => ?_)
  repeat' (first | exact trivial | refine BS.d (fun h => ?_) (fun h => ?_) | refine BS.e (fun h => ?_) (fun h => ?_) | refine BS.ne (fun h => ?_) (fun h => ?_) | refine BS.n ?_ | refine BS.s (fun h => ?_) (fun h => ?_) | refine And.intro ?_ ?_ | (refine Need.mk ?_; first | with_reducible rfl | (show @Eq TC _ _; rfl) | omega | (simp only [adN_zero]; omega)) | exact OutS.whole rfl rfl | refine ListO.go gOk hE ?_)
  refine CodeK.loop gOk hE (fun i : Nat × Int => ⟨[(0, vr 1000000 xs.length), (6, vr 1000000 xs.length), (7, vi xs.length), (3, vi i.2), (8, vi i.1)], [(1000000, rLL .fro false e' e xs)]⟩) (fun i => i.1 ≤ xs.length ∧ 0 ≤ i.2 ∧ cnt xs = i.2 + cnt (xs.drop i.1)) (fun i => xs.length - i.1) (0, 0) (by refine leT.of ?_ ?_ rfl <;> repeat' (first | exact trivial | refine And.intro rfl ?_ | refine And.intro (by simp) ?_)) ⟨Nat.zero_le _, by omega, by simp⟩ ?_
  rintro ⟨i, b⟩ ⟨hi, hb, hs⟩
  dsimp only at hi hb hs
  have nn := cnt_nn (xs.drop (i + 1))
  repeat' (first | exact trivial | refine BS.d (fun h => ?_) (fun h => ?_) | refine BS.e (fun h => ?_) (fun h => ?_) | refine BS.ne (fun h => ?_) (fun h => ?_) | refine BS.n ?_ | refine BS.s (fun h => ?_) (fun h => ?_) | refine And.intro ?_ ?_ | (refine Need.mk ?_; first | with_reducible rfl | (show @Eq TC _ _; rfl) | omega | (simp only [adN_zero]; omega)) | exact OutS.whole rfl rfl | refine ListO.go gOk hE ?_)
  · have hc := cnt_drop (xs := xs) (i := i) (by omega)
    refine Need.mk ?_
    simp only [adN_zero]; omega
  · have hc := cnt_drop (xs := xs) (i := i) (by omega)
    refine ⟨(i + 1, b + (xs.getD i []).length), (by refine leT.of ?_ ?_ rfl <;> repeat' (first | exact trivial | refine And.intro rfl ?_ | refine And.intro (by simp) ?_)), ⟨?_, ?_, ?_⟩, ?_⟩
    · dsimp only; omega
    · dsimp only; omega
    · dsimp only; omega
    · dsimp only; omega
  · refine Need.mk ?_
    rw [hs, List.drop_eq_nil_of_le (by omega)]; simp [cnt]
theorem rowFlat : ∀ (x : Row) (r : Nat), r < 2 → ∃ v, encR x r = .lit v ∧ encR x r = .lit v := fun x r _ => by cases r <;> exact ⟨_, rfl, rfl⟩
theorem rtake_flat {xs : List (List Row)} {i : Nat} (h : i < xs.length) : (xs.take (i + 1)).flatten = (xs.take i).flatten ++ xs.getD i [] := by
  rw [List.take_succ_eq_append_getElem h, List.flatten_append]
  congr 1
  simp [List.getD, h]
theorem flat_len (xs : List (List Row)) : (xs.flatten.length : Int) = cnt xs := by
  induction xs with
  | nil => rfl
  | cons x l ih => simp [cnt, ← ih]
theorem flat_le (xs : List (List Row)) (i : Nat) : ((xs.take i).flatten.length : Int) + cnt (xs.drop i) = cnt xs := by
  have h : cnt xs = cnt (xs.take i ++ xs.drop i) := by rw [List.take_append_drop]
  rw [h, ← flat_len, ← flat_len, List.flatten_append, List.length_append]; rfl
theorem l11All_run (e' e : Nat) (xs : List (List Row)) (hn : xs.length ≤ 1048576) (hcn : cnt xs ≤ 1048576) : RunT Tryz.prog 73 [.one (.c (tLL e' e xs))] [] [.one (tR 103 xs.flatten)] [] := by
  refine RunT.of_vc gOk Tryz.func73 rfl rfl (Nat.le_of_ble_eq_true rfl) (by repeat' (first | exact trivial | exact ⟨_, rfl, Nat.le_refl _⟩ | exact Nat.le_of_ble_eq_true rfl | refine And.intro ?_ ?_)) (Nat.le_of_ble_eq_true rfl) rfl (fun F hE => ?_)
  repeat' (first | exact trivial | refine BS.d (fun h => ?_) (fun h => ?_) | refine BS.e (fun h => ?_) (fun h => ?_) | refine BS.ne (fun h => ?_) (fun h => ?_) | refine BS.n ?_ | refine BS.s (fun h => ?_) (fun h => ?_) | refine And.intro ?_ ?_ | (refine Need.mk ?_; first | with_reducible rfl | (show @Eq TC _ _; rfl) | omega | (simp only [adN_zero]; omega)) | exact OutS.whole rfl rfl | refine ListO.go gOk hE ?_)
  refine CodeK.loop gOk hE (fun i : Nat => ⟨[(0, vr 1000000 xs.length), (3, vr 5 (xs.take i).flatten.length), (4, vi i)], [(5, rR .own true 103 (xs.take i).flatten), (1000000, rLL .fro false e' e xs)]⟩) (fun i => i ≤ xs.length) (fun i => xs.length - i) 0 (by refine leT.of ?_ ?_ rfl <;> repeat' (first | exact trivial | refine And.intro rfl ?_ | refine And.intro (by simp) ?_)) (Nat.zero_le _) ?_
  rintro i hi
  have hf := flat_le xs i
  have nn := cnt_nn (xs.drop (i + 1))
  repeat' (first | exact trivial | refine BS.d (fun h => ?_) (fun h => ?_) | refine BS.e (fun h => ?_) (fun h => ?_) | refine BS.ne (fun h => ?_) (fun h => ?_) | refine BS.n ?_ | refine BS.s (fun h => ?_) (fun h => ?_) | refine And.intro ?_ ?_ | (refine Need.mk ?_; first | with_reducible rfl | (show @Eq TC _ _; rfl) | omega | (simp only [adN_zero]; omega)) | exact OutS.whole rfl rfl | refine ListO.go gOk hE ?_)
  · have hc := cnt_drop (xs := xs) (i := i) (by omega)
    refine OpK.apps gOk (by rfl) (by rfl) (by rfl) (by rfl) (by rfl) (by rfl) (by rfl) (by rfl) (by rfl) (by rfl) (by first | rfl | simp) (by exact rowFlat) (by rfl) (by refine ⟨?_, ?_⟩ <;> (try unfold maxLen) <;> (try simp only [adN_zero]) <;> omega) ?_
    repeat' (first | exact trivial | refine BS.d (fun h => ?_) (fun h => ?_) | refine BS.e (fun h => ?_) (fun h => ?_) | refine BS.ne (fun h => ?_) (fun h => ?_) | refine BS.n ?_ | refine BS.s (fun h => ?_) (fun h => ?_) | refine And.intro ?_ ?_ | (refine Need.mk ?_; first | with_reducible rfl | (show @Eq TC _ _; rfl) | omega | (simp only [adN_zero]; omega)) | exact OutS.whole rfl rfl | refine ListO.go gOk hE ?_)
    all_goals (refine ⟨i + 1, (by refine leT.of ?_ ?_ rfl <;> repeat' (first | exact trivial | refine And.intro rfl ?_ | refine And.intro (by rw [rtake_flat (by omega)] <;> rfl) ?_)), ?_⟩; (refine And.intro ?_ ?_) <;> (first | omega | (dsimp only; omega) | trivial))
  · exact OutS.whole rfl (by rw [List.take_of_length_le (by omega)]; rfl)
end Go.Proofs.YtpmhkpmkmbkjbaaGreatDoor
end

section
namespace Go.Proofs.YtpmhkpmkmbkjbaaGreatDoor
open Go Go.Tr
set_option maxRecDepth 100000
set_option maxHeartbeats 4000000
set_option linter.unusedVariables false
set_option linter.unusedSimpArgs false
theorem epochOkL_run (x : Int) : RunT Tryz.prog 145 [ti x] [] [ob (decide (0 ≤ x ∧ x ≤ 100000))] [] := by
  refine RunT.of_vc gOk Tryz.func145 rfl rfl (Nat.le_of_ble_eq_true rfl) (by repeat' (first | exact trivial | exact ⟨_, rfl, Nat.le_refl _⟩ | exact Nat.le_of_ble_eq_true rfl | refine And.intro ?_ ?_)) (Nat.le_of_ble_eq_true rfl) rfl (fun F hE => ?_)
  repeat' (first | exact trivial | refine BS.d (fun h => ?_) (fun h => ?_) | refine BS.e (fun h => ?_) (fun h => ?_) | refine BS.ne (fun h => ?_) (fun h => ?_) | refine BS.n ?_ | refine BS.s (fun h => ?_) (fun h => ?_) | refine And.intro ?_ ?_ | (refine Need.mk ?_; first | with_reducible rfl | (show @Eq TC _ _; rfl) | omega | (simp only [adN_zero]; omega)) | exact OutS.whole rfl rfl | refine ListO.go gOk hE ?_)
  all_goals (refine Need.mk ?_; first | rfl | (symm; apply decide_eq_true; omega) | (symm; apply decide_eq_false; omega) | (apply decide_eq_decide.2; omega) | (simp only [beq_iff_eq, Bool.beq_eq_decide_eq] at *; apply decide_eq_decide.2; omega) | (simp; omega))
theorem allRows_run (e' e : Nat) (xs : List (List Row)) (hn : xs.length ≤ 1048576) (hcn : cnt xs ≤ 1048576) : RunT Tryz.prog 80 [.one (.c (tLL e' e xs))] [] [.one (tR 103 xs.flatten)] [] := by
  refine RunT.of_vc gOk Tryz.func80 rfl rfl (Nat.le_of_ble_eq_true rfl) (by repeat' (first | exact trivial | exact ⟨_, rfl, Nat.le_refl _⟩ | exact Nat.le_of_ble_eq_true rfl | refine And.intro ?_ ?_)) (Nat.le_of_ble_eq_true rfl) rfl (fun F hE => ?_)
  repeat' (first | exact trivial | refine BS.d (fun h => ?_) (fun h => ?_) | refine BS.e (fun h => ?_) (fun h => ?_) | refine BS.ne (fun h => ?_) (fun h => ?_) | refine BS.n ?_ | refine BS.s (fun h => ?_) (fun h => ?_) | refine And.intro ?_ ?_ | (refine Need.mk ?_; first | with_reducible rfl | (show @Eq TC _ _; rfl) | omega | (simp only [adN_zero]; omega)) | exact OutS.whole rfl rfl | refine ListO.go gOk hE ?_)
  refine CodeK.nilT gOk hE 3 900000 103 2 Row encR decR (0, 0) (by rfl) (by rfl) (by decide) ?_
  repeat' (first | exact trivial | refine BS.d (fun h => ?_) (fun h => ?_) | refine BS.e (fun h => ?_) (fun h => ?_) | refine BS.ne (fun h => ?_) (fun h => ?_) | refine BS.n ?_ | refine BS.s (fun h => ?_) (fun h => ?_) | refine And.intro ?_ ?_ | (refine Need.mk ?_; first | with_reducible rfl | (show @Eq TC _ _; rfl) | omega | (simp only [adN_zero]; omega)) | exact OutS.whole rfl rfl | refine ListO.go gOk hE ?_)
  refine CodeK.loop gOk hE (fun i : Nat => ⟨[(6, vr 1000000 xs.length), (3, vr 900000 (xs.take i).flatten.length), (7, vi xs.length), (8, vi i)], [(900000, rR .own true 103 (xs.take i).flatten), (1000000, rLL .fro false e' e xs)]⟩) (fun i => i ≤ xs.length) (fun i => xs.length - i) 0 (by refine leT.of ?_ ?_ rfl <;> repeat' (first | exact trivial | refine And.intro rfl ?_ | refine And.intro (by simp) ?_)) (Nat.zero_le _) ?_
  rintro i hi
  have hf := flat_le xs i
  have nn := cnt_nn (xs.drop (i + 1))
  repeat' (first | exact trivial | refine BS.d (fun h => ?_) (fun h => ?_) | refine BS.e (fun h => ?_) (fun h => ?_) | refine BS.ne (fun h => ?_) (fun h => ?_) | refine BS.n ?_ | refine BS.s (fun h => ?_) (fun h => ?_) | refine And.intro ?_ ?_ | (refine Need.mk ?_; first | with_reducible rfl | (show @Eq TC _ _; rfl) | omega | (simp only [adN_zero]; omega)) | exact OutS.whole rfl rfl | refine ListO.go gOk hE ?_)
  · have hc := cnt_drop (xs := xs) (i := i) (by omega)
    refine OpK.apps gOk (by rfl) (by rfl) (by rfl) (by rfl) (by rfl) (by rfl) (by rfl) (by rfl) (by rfl) (by rfl) (by first | rfl | simp) (by exact rowFlat) (by rfl) (by refine ⟨?_, ?_⟩ <;> (try unfold maxLen) <;> (try simp only [adN_zero]) <;> omega) ?_
    repeat' (first | exact trivial | refine BS.d (fun h => ?_) (fun h => ?_) | refine BS.e (fun h => ?_) (fun h => ?_) | refine BS.ne (fun h => ?_) (fun h => ?_) | refine BS.n ?_ | refine BS.s (fun h => ?_) (fun h => ?_) | refine And.intro ?_ ?_ | (refine Need.mk ?_; first | with_reducible rfl | (show @Eq TC _ _; rfl) | omega | (simp only [adN_zero]; omega)) | exact OutS.whole rfl rfl | refine ListO.go gOk hE ?_)
    all_goals (refine ⟨i + 1, (by refine leT.of ?_ ?_ rfl <;> repeat' (first | exact trivial | refine And.intro rfl ?_ | refine And.intro (by rw [rtake_flat (by omega)] <;> rfl) ?_)), ?_⟩; (refine And.intro ?_ ?_) <;> (first | omega | (dsimp only; omega) | trivial))
  · exact OutS.whole rfl (by rw [List.take_of_length_le (by omega)]; rfl)
end Go.Proofs.YtpmhkpmkmbkjbaaGreatDoor
end

section
namespace Go.Proofs.YtpmhkpmkmbkjbaaGreatDoor
open Go Go.Tr
set_option maxRecDepth 100000
set_option linter.unusedVariables false
set_option linter.unusedSimpArgs false
theorem hSlot_bd (x : Int) : hSlot x = -1 ∨ (0 ≤ hSlot x ∧ hSlot x < 24) := by
  unfold hSlot
  rcases hp : hOk x
  · exact .inl rfl
  · unfold hOk at hp
    have := of_decide_eq_true hp
    exact .inr (by simp only [if_true]; omega)
/-- Rows whose slots are told apart, the slots before them being these. -/
def okR : List Int → List Row → Bool
  | _, [] => true
  | s, r :: l => if hSlot r.1 = -1 ∨ ¬ (0 ≤ r.2 ∧ r.2 ≤ 100000) ∨ hSlot r.1 ∈ s then false else okR (s ++ [hSlot r.1]) l
def lOk (xs : List (List Row)) : Bool := if xs.length = 3 ∧ cnt xs ≤ 24 then okR [] xs.flatten else false
theorem okR_no {s : List Int} {r : Row} {l : List Row} (h : hSlot r.1 = -1 ∨ ¬ (0 ≤ r.2 ∧ r.2 ≤ 100000) ∨ hSlot r.1 ∈ s) : okR s (r :: l) = false := by
  rw [okR, if_pos h]
theorem okR_yes {s : List Int} {r : Row} {l : List Row} (h : ¬ (hSlot r.1 = -1 ∨ ¬ (0 ≤ r.2 ∧ r.2 ≤ 100000) ∨ hSlot r.1 ∈ s)) : okR s (r :: l) = okR (s ++ [hSlot r.1]) l := by
  rw [okR, if_neg h]
set_option maxHeartbeats 4000000 in
theorem LimboOkS_run (e' e : Nat) (xs : List (List Row)) (hn : xs.length ≤ 1048576) (hcn : cnt xs ≤ 1048576) : RunT Tryz.prog 71 [.one (.c (tLL e' e xs))] [] [ob (lOk xs)] [] := by
  have hfl := flat_len xs
  refine RunT.of_vc gOk Tryz.func71 rfl rfl (Nat.le_of_ble_eq_true rfl) (by repeat' (first | exact trivial | exact ⟨_, rfl, Nat.le_refl _⟩ | exact Nat.le_of_ble_eq_true rfl | refine And.intro ?_ ?_)) (Nat.le_of_ble_eq_true rfl) rfl (fun F hE => ?_)
  repeat' (first | exact trivial | refine BS.d (fun h => ?_) (fun h => ?_) | refine BS.e (fun h => ?_) (fun h => ?_) | refine BS.ne (fun h => ?_) (fun h => ?_) | refine BS.n ?_ | refine BS.s (fun h => ?_) (fun h => ?_) | refine And.intro ?_ ?_ | (refine Need.mk ?_; first | with_reducible rfl | (show @Eq TC _ _; rfl) | omega | (simp only [adN_zero]; omega)) | exact OutS.whole rfl rfl | refine ListO.go gOk hE ?_)
  refine OpK.call (l11All_run e' e xs hn hcn) rfl rfl rfl rfl hE (by repeat' (first | exact PsA.lit _ | exact PsA.ref rfl rfl | constructor)) rfl rfl ?_
  repeat' (first | exact trivial | refine BS.d (fun h => ?_) (fun h => ?_) | refine BS.e (fun h => ?_) (fun h => ?_) | refine BS.ne (fun h => ?_) (fun h => ?_) | refine BS.n ?_ | refine BS.s (fun h => ?_) (fun h => ?_) | refine And.intro ?_ ?_ | (refine Need.mk ?_; first | with_reducible rfl | (show @Eq TC _ _; rfl) | omega | (simp only [adN_zero]; omega)) | exact OutS.whole rfl rfl | refine ListO.go gOk hE ?_)
  · refine Need.mk ?_
    unfold lOk; rw [if_neg (by omega)]
  · refine Need.mk ?_
    unfold lOk; rw [if_neg (by omega)]
  · rename_i h1
    repeat' (first | exact trivial | refine BS.d (fun h => ?_) (fun h => ?_) | refine BS.e (fun h => ?_) (fun h => ?_) | refine BS.ne (fun h => ?_) (fun h => ?_) | refine BS.n ?_ | refine BS.s (fun h => ?_) (fun h => ?_) | refine And.intro ?_ ?_ | (refine Need.mk ?_; first | with_reducible rfl | (show @Eq TC _ _; rfl) | omega | (simp only [adN_zero]; omega)) | exact OutS.whole rfl rfl | refine ListO.go gOk hE ?_)
    have hlo : lOk xs = okR [] xs.flatten := by unfold lOk; rw [if_pos (by omega)]
    rw [hlo]
    generalize xs.flatten = R at *
    refine CodeK.loop gOk hE (fun i : Nat × List Int => ⟨[(3, vr 2001024 R.length), (4, vr 17 i.2.length), (5, vi i.1)], [(2001024, rR .own true 103 R), (17, rI .own true i.2)]⟩) (fun i => i.1 ≤ R.length ∧ i.2.length = i.1 ∧ okR [] R = okR i.2 (R.drop i.1)) (fun i => R.length - i.1) (0, []) (by refine leT.of ?_ ?_ rfl <;> repeat' (first | exact trivial | refine And.intro rfl ?_ | refine And.intro (by simp) ?_)) ⟨Nat.zero_le _, rfl, rfl⟩ ?_
    rintro ⟨i, s⟩ ⟨hi, hsl, hq⟩
    dsimp only at hi hsl hq
    by_cases hi2 : i < R.length
    · rw [drop_cons (0, 0) hi2] at hq
      have c1 := sHandleSlot_run (R.getD i (0, 0)).1
      have c2 := l1InB_run (R.getD i (0, 0)).2 0 100000
      have c3 := l8HasB_run s (hSlot (R.getD i (0, 0)).1) (by omega)
      have hb := hSlot_bd (R.getD i (0, 0)).1
      rcases hb with hb | hb
      · rw [hb] at c1 c3
        rw [okR_no (.inl hb)] at hq
        repeat' (first | exact trivial | refine BS.d (fun h => ?_) (fun h => ?_) | refine BS.e (fun h => ?_) (fun h => ?_) | refine BS.ne (fun h => ?_) (fun h => ?_) | refine BS.n ?_ | refine BS.s (fun h => ?_) (fun h => ?_) | refine And.intro ?_ ?_ | (refine Need.mk ?_; first | with_reducible rfl | (show @Eq TC _ _; rfl) | omega | (simp only [adN_zero]; omega)) | exact OutS.whole rfl rfl | (refine OpK.call c1 rfl rfl rfl rfl hE ?_ rfl rfl ?_; focus ((repeat' (first | exact PsA.lit _ | exact PsA.ref rfl rfl | constructor)); all_goals (fail "ps"))) | (refine OpK.call c2 rfl rfl rfl rfl hE ?_ rfl rfl ?_; focus ((repeat' (first | exact PsA.lit _ | exact PsA.ref rfl rfl | constructor)); all_goals (fail "ps"))) | (refine OpK.call c3 rfl rfl rfl rfl hE ?_ rfl rfl ?_; focus ((repeat' (first | exact PsA.lit _ | exact PsA.ref rfl rfl | constructor)); all_goals (fail "ps"))) | refine ListO.go gOk hE ?_)
        all_goals first | exact Need.mk hq.symm | exact Need.mk hq | (exfalso; omega) | trace_state
      · by_cases hep : 0 ≤ (R.getD i (0, 0)).2 ∧ (R.getD i (0, 0)).2 ≤ 100000
        · rw [decide_eq_true hep] at c2
          by_cases hin : hSlot (R.getD i (0, 0)).1 ∈ s
          · rw [decide_eq_true hin] at c3
            rw [okR_no (.inr (.inr hin))] at hq
            repeat' (first | exact trivial | refine BS.d (fun h => ?_) (fun h => ?_) | refine BS.e (fun h => ?_) (fun h => ?_) | refine BS.ne (fun h => ?_) (fun h => ?_) | refine BS.n ?_ | refine BS.s (fun h => ?_) (fun h => ?_) | refine And.intro ?_ ?_ | (refine Need.mk ?_; first | with_reducible rfl | (show @Eq TC _ _; rfl) | omega | (simp only [adN_zero]; omega)) | exact OutS.whole rfl rfl | (refine OpK.call c1 rfl rfl rfl rfl hE ?_ rfl rfl ?_; focus ((repeat' (first | exact PsA.lit _ | exact PsA.ref rfl rfl | constructor)); all_goals (fail "ps"))) | (refine OpK.call c2 rfl rfl rfl rfl hE ?_ rfl rfl ?_; focus ((repeat' (first | exact PsA.lit _ | exact PsA.ref rfl rfl | constructor)); all_goals (fail "ps"))) | (refine OpK.call c3 rfl rfl rfl rfl hE ?_ rfl rfl ?_; focus ((repeat' (first | exact PsA.lit _ | exact PsA.ref rfl rfl | constructor)); all_goals (fail "ps"))) | refine ListO.go gOk hE ?_)
            all_goals first | exact Need.mk hq.symm | exact Need.mk hq | (exfalso; omega) | trace_state
          · rw [decide_eq_false hin] at c3
            rw [okR_yes (by rintro (h | h | h) <;> first | omega | exact h hep | exact hin h)] at hq
            repeat' (first | exact trivial | refine BS.d (fun h => ?_) (fun h => ?_) | refine BS.e (fun h => ?_) (fun h => ?_) | refine BS.ne (fun h => ?_) (fun h => ?_) | refine BS.n ?_ | refine BS.s (fun h => ?_) (fun h => ?_) | refine And.intro ?_ ?_ | (refine Need.mk ?_; first | with_reducible rfl | (show @Eq TC _ _; rfl) | omega | (simp only [adN_zero]; omega)) | exact OutS.whole rfl rfl | (refine OpK.call c1 rfl rfl rfl rfl hE ?_ rfl rfl ?_; focus ((repeat' (first | exact PsA.lit _ | exact PsA.ref rfl rfl | constructor)); all_goals (fail "ps"))) | (refine OpK.call c2 rfl rfl rfl rfl hE ?_ rfl rfl ?_; focus ((repeat' (first | exact PsA.lit _ | exact PsA.ref rfl rfl | constructor)); all_goals (fail "ps"))) | (refine OpK.call c3 rfl rfl rfl rfl hE ?_ rfl rfl ?_; focus ((repeat' (first | exact PsA.lit _ | exact PsA.ref rfl rfl | constructor)); all_goals (fail "ps"))) | refine ListO.go gOk hE ?_)
            all_goals first | (exfalso; omega) | (exact ⟨by dsimp only; unfold maxLen; omega, by show (s.length + 1) * 8 ≤ 140737488355328; omega⟩) | skip
            repeat' (first | exact trivial | refine BS.d (fun h => ?_) (fun h => ?_) | refine BS.e (fun h => ?_) (fun h => ?_) | refine BS.ne (fun h => ?_) (fun h => ?_) | refine BS.n ?_ | refine BS.s (fun h => ?_) (fun h => ?_) | refine And.intro ?_ ?_ | (refine Need.mk ?_; first | with_reducible rfl | (show @Eq TC _ _; rfl) | omega | (simp only [adN_zero]; omega)) | exact OutS.whole rfl rfl | refine ListO.go gOk hE ?_)
            all_goals first | (exfalso; omega) | (exact ⟨by dsimp only; unfold maxLen; omega, by show (s.length + 1) * 8 ≤ 140737488355328; omega⟩) | skip
            exact ⟨(i + 1, s ++ [hSlot (R.getD i (0, 0)).1]), (by refine leT.of ?_ ?_ rfl <;> repeat' (first | exact trivial | refine And.intro rfl ?_ | refine And.intro (by simp) ?_)), ⟨hi2, by simp [hsl], hq⟩, by dsimp only; omega⟩
        · rw [decide_eq_false hep] at c2
          rw [okR_no (.inr (.inl hep))] at hq
          repeat' (first | exact trivial | refine BS.d (fun h => ?_) (fun h => ?_) | refine BS.e (fun h => ?_) (fun h => ?_) | refine BS.ne (fun h => ?_) (fun h => ?_) | refine BS.n ?_ | refine BS.s (fun h => ?_) (fun h => ?_) | refine And.intro ?_ ?_ | (refine Need.mk ?_; first | with_reducible rfl | (show @Eq TC _ _; rfl) | omega | (simp only [adN_zero]; omega)) | exact OutS.whole rfl rfl | (refine OpK.call c1 rfl rfl rfl rfl hE ?_ rfl rfl ?_; focus ((repeat' (first | exact PsA.lit _ | exact PsA.ref rfl rfl | constructor)); all_goals (fail "ps"))) | (refine OpK.call c2 rfl rfl rfl rfl hE ?_ rfl rfl ?_; focus ((repeat' (first | exact PsA.lit _ | exact PsA.ref rfl rfl | constructor)); all_goals (fail "ps"))) | (refine OpK.call c3 rfl rfl rfl rfl hE ?_ rfl rfl ?_; focus ((repeat' (first | exact PsA.lit _ | exact PsA.ref rfl rfl | constructor)); all_goals (fail "ps"))) | refine ListO.go gOk hE ?_)
          all_goals first | exact Need.mk hq.symm | exact Need.mk hq | (exfalso; omega) | trace_state
    · rw [List.drop_eq_nil_of_le (by omega)] at hq
      repeat' (first | exact trivial | refine BS.d (fun h => ?_) (fun h => ?_) | refine BS.e (fun h => ?_) (fun h => ?_) | refine BS.ne (fun h => ?_) (fun h => ?_) | refine BS.n ?_ | refine BS.s (fun h => ?_) (fun h => ?_) | refine And.intro ?_ ?_ | (refine Need.mk ?_; first | with_reducible rfl | (show @Eq TC _ _; rfl) | omega | (simp only [adN_zero]; omega)) | exact OutS.whole rfl rfl | (refine OpK.call (l11All_run e' e xs hn hcn) rfl rfl rfl rfl hE ?_ rfl rfl ?_; focus ((repeat' (first | exact PsA.lit _ | exact PsA.ref rfl rfl | constructor)); all_goals (fail "ps"))) | refine ListO.go gOk hE ?_)
      all_goals first | exact Need.mk hq.symm | exact Need.mk hq | (exfalso; omega) | trace_state
end Go.Proofs.YtpmhkpmkmbkjbaaGreatDoor
end

section
namespace Go.Proofs.YtpmhkpmkmbkjbaaGreatDoor
open Go Go.Tr
set_option maxRecDepth 100000
set_option linter.unusedVariables false
set_option linter.unusedSimpArgs false
theorem rseen_step {bs : List Bool} {s : List Int} {v : Int} (hbl : bs.length = 24) (hv : 0 ≤ v ∧ v < 24) (hbs : ∀ z : Nat, z < 24 → bs.getD z false = decide ((z : Int) ∈ s)) : ∀ z : Nat, z < 24 → (bs.set v.toNat true).getD z false = decide ((z : Int) ∈ s ++ [v]) := by
  intro z hz
  obtain ⟨n, rfl⟩ := Int.eq_ofNat_of_zero_le hv.1
  simp only [Int.toNat_natCast]
  by_cases e1 : n = z
  · subst e1
    rw [List.getD_eq_getElem?_getD, List.getElem?_set_self (by omega)]
    simp
  · rw [List.getD_eq_getElem?_getD, List.getElem?_set_ne e1, ← List.getD_eq_getElem?_getD, hbs z hz]
    apply decide_eq_decide.2
    simp; omega
set_option maxHeartbeats 4000000 in
theorem LimboOkI_run (e' e : Nat) (xs : List (List Row)) (hn : xs.length ≤ 1048576) (hcn : cnt xs ≤ 1048576) (hm : ∀ i, (xs.flatten.getD i (0, 0)).1 ≤ 9223372036854775807) : RunT Tryz.prog 78 [.one (.c (tLL e' e xs))] [] [ob (lOk xs)] [] := by
  have hfl := flat_len xs
  have c1 := LimboSizeI_run e' e xs hn hcn
  refine RunT.of_vc gOk Tryz.func78 rfl rfl (Nat.le_of_ble_eq_true rfl) (by repeat' (first | exact trivial | exact ⟨_, rfl, Nat.le_refl _⟩ | exact Nat.le_of_ble_eq_true rfl | refine And.intro ?_ ?_)) (Nat.le_of_ble_eq_true rfl) rfl (fun F hE => ?_)
  repeat' (first | exact trivial | refine BS.d (fun h => ?_) (fun h => ?_) | refine BS.e (fun h => ?_) (fun h => ?_) | refine BS.ne (fun h => ?_) (fun h => ?_) | refine BS.n ?_ | refine BS.s (fun h => ?_) (fun h => ?_) | refine And.intro ?_ ?_ | (refine Need.mk ?_; first | with_reducible rfl | (show @Eq TC _ _; rfl) | omega | (simp only [adN_zero]; omega)) | exact OutS.whole rfl rfl | (refine OpK.call c1 rfl rfl rfl rfl hE ?_ rfl rfl ?_; focus ((repeat' (first | exact PsA.lit _ | exact PsA.ref rfl rfl | constructor)); all_goals (fail "ps"))) | refine ListO.go gOk hE ?_)
  · refine Need.mk ?_
    unfold lOk; rw [if_neg (by omega)]
  · refine Need.mk ?_
    unfold lOk; rw [if_neg (by omega)]
  · repeat' (first | exact trivial | refine BS.d (fun h => ?_) (fun h => ?_) | refine BS.e (fun h => ?_) (fun h => ?_) | refine BS.ne (fun h => ?_) (fun h => ?_) | refine BS.n ?_ | refine BS.s (fun h => ?_) (fun h => ?_) | refine And.intro ?_ ?_ | (refine Need.mk ?_; first | with_reducible rfl | (show @Eq TC _ _; rfl) | omega | (simp only [adN_zero]; omega)) | exact OutS.whole rfl rfl | refine ListO.go gOk hE ?_)
    have hlo : lOk xs = okR [] xs.flatten := by unfold lOk; rw [if_pos (by omega)]
    rw [hlo]
    refine OpK.call (allRows_run e' e xs hn hcn) rfl rfl rfl rfl hE (by repeat' (first | exact PsA.lit _ | exact PsA.ref rfl rfl | constructor)) rfl rfl ?_
    repeat' (first | exact trivial | refine BS.d (fun h => ?_) (fun h => ?_) | refine BS.e (fun h => ?_) (fun h => ?_) | refine BS.ne (fun h => ?_) (fun h => ?_) | refine BS.n ?_ | refine BS.s (fun h => ?_) (fun h => ?_) | refine And.intro ?_ ?_ | (refine Need.mk ?_; first | with_reducible rfl | (show @Eq TC _ _; rfl) | omega | (simp only [adN_zero]; omega)) | exact OutS.whole rfl rfl | refine ListO.go gOk hE ?_)
    refine CodeK.arr gOk hE (κ := 3) 24 (by rfl) (by rfl) ?_
    generalize xs.flatten = R at *
    refine CodeK.loop gOk hE (fun i : Nat × List Int × List Bool => ⟨[(3, .ptr 3 0 0), (16, vr 2002048 R.length), (17, vi R.length), (18, vi i.1)], [(2002048, rR .own true 103 R), (3, arrR 152 24 i.2.2)]⟩) (fun i => i.1 ≤ R.length ∧ i.2.2.length = 24 ∧ (∀ z : Nat, z < 24 → i.2.2.getD z false = decide ((z : Int) ∈ i.2.1)) ∧ okR [] R = okR i.2.1 (R.drop i.1)) (fun i => R.length - i.1) (0, [], List.replicate 24 false) (by refine leT.of ?_ ?_ rfl <;> repeat' (first | exact trivial | refine And.intro rfl ?_ | refine And.intro (by first | rfl | (simp; done) | (simp <;> rfl)) ?_)) ⟨Nat.zero_le _, rfl, by decide, rfl⟩ ?_
    rintro ⟨i, s, bs⟩ ⟨hi, hbl, hbs, hq⟩
    dsimp only at hi hbl hbs hq
    by_cases hi2 : i < R.length
    · rw [drop_cons (0, 0) hi2] at hq
      have c2 := iHandleSlot_run (R.getD i (0, 0)).1 (hm i)
      have c3 := epochOkL_run (R.getD i (0, 0)).2
      have hb := hSlot_bd (R.getD i (0, 0)).1
      rcases hb with hb | hb
      · rw [hb] at c2
        rw [okR_no (.inl hb)] at hq
        repeat' (first | exact trivial | refine BS.d (fun h => ?_) (fun h => ?_) | refine BS.e (fun h => ?_) (fun h => ?_) | refine BS.ne (fun h => ?_) (fun h => ?_) | refine BS.n ?_ | refine BS.s (fun h => ?_) (fun h => ?_) | refine And.intro ?_ ?_ | (refine Need.mk ?_; first | with_reducible rfl | (show @Eq TC _ _; rfl) | omega | (simp only [adN_zero]; omega)) | exact OutS.whole rfl rfl | (refine OpK.call c2 rfl rfl rfl rfl hE ?_ rfl rfl ?_; focus ((repeat' (first | exact PsA.lit _ | exact PsA.ref rfl rfl | constructor)); all_goals (fail "ps"))) | (refine OpK.call c3 rfl rfl rfl rfl hE ?_ rfl rfl ?_; focus ((repeat' (first | exact PsA.lit _ | exact PsA.ref rfl rfl | constructor)); all_goals (fail "ps"))) | refine ListO.go gOk hE ?_)
        all_goals first | exact Need.mk hq.symm | exact Need.mk hq | (exfalso; omega) | trace_state
      · have hz := hbs (hSlot (R.getD i (0, 0)).1).toNat (by omega)
        rw [Int.toNat_of_nonneg hb.1] at hz
        repeat' (first | exact trivial | refine BS.d (fun h => ?_) (fun h => ?_) | refine BS.e (fun h => ?_) (fun h => ?_) | refine BS.ne (fun h => ?_) (fun h => ?_) | refine BS.n ?_ | refine BS.s (fun h => ?_) (fun h => ?_) | refine And.intro ?_ ?_ | (refine Need.mk ?_; first | with_reducible rfl | (show @Eq TC _ _; rfl) | omega | (simp only [adN_zero]; omega)) | exact OutS.whole rfl rfl | (refine OpK.call c2 rfl rfl rfl rfl hE ?_ rfl rfl ?_; focus ((repeat' (first | exact PsA.lit _ | exact PsA.ref rfl rfl | constructor)); all_goals (fail "ps"))) | (refine OpK.call c3 rfl rfl rfl rfl hE ?_ rfl rfl ?_; focus ((repeat' (first | exact PsA.lit _ | exact PsA.ref rfl rfl | constructor)); all_goals (fail "ps"))) | refine ListO.go gOk hE ?_)
        all_goals first | (exfalso; omega) | skip
        refine OpK.ldA gOk (by rfl) (by rfl) (by rfl) (by rfl) (by rfl) (by rfl) (by rfl) (by omega) ?_
        rw [show 0 + (hSlot (R.getD i (0, 0)).1).toNat * 1 = (hSlot (R.getD i (0, 0)).1).toNat by omega, hz]
        by_cases hin : hSlot (R.getD i (0, 0)).1 ∈ s
        · rw [decide_eq_true hin]
          rw [okR_no (.inr (.inr hin))] at hq
          rw [hq]
          repeat' (first | exact trivial | refine BS.d (fun h => ?_) (fun h => ?_) | refine BS.e (fun h => ?_) (fun h => ?_) | refine BS.ne (fun h => ?_) (fun h => ?_) | refine BS.n ?_ | refine BS.s (fun h => ?_) (fun h => ?_) | refine And.intro ?_ ?_ | (refine Need.mk ?_; first | with_reducible rfl | (show @Eq TC _ _; rfl) | omega | (simp only [adN_zero]; omega)) | exact OutS.whole rfl rfl | (refine OpK.call c2 rfl rfl rfl rfl hE ?_ rfl rfl ?_; focus ((repeat' (first | exact PsA.lit _ | exact PsA.ref rfl rfl | constructor)); all_goals (fail "ps"))) | (refine OpK.call c3 rfl rfl rfl rfl hE ?_ rfl rfl ?_; focus ((repeat' (first | exact PsA.lit _ | exact PsA.ref rfl rfl | constructor)); all_goals (fail "ps"))) | refine ListO.go gOk hE ?_)
          all_goals first | rfl | exact Need.mk rfl | (exfalso; omega) | trace_state
        · rw [decide_eq_false hin]
          by_cases hep : 0 ≤ (R.getD i (0, 0)).2 ∧ (R.getD i (0, 0)).2 ≤ 100000
          · rw [decide_eq_true hep] at c3
            rw [okR_yes (by rintro (h | h | h) <;> first | omega | exact h hep | exact hin h)] at hq
            repeat' (first | exact trivial | refine BS.d (fun h => ?_) (fun h => ?_) | refine BS.e (fun h => ?_) (fun h => ?_) | refine BS.ne (fun h => ?_) (fun h => ?_) | refine BS.n ?_ | refine BS.s (fun h => ?_) (fun h => ?_) | refine And.intro ?_ ?_ | (refine Need.mk ?_; first | with_reducible rfl | (show @Eq TC _ _; rfl) | omega | (simp only [adN_zero]; omega)) | exact OutS.whole rfl rfl | (refine OpK.call c2 rfl rfl rfl rfl hE ?_ rfl rfl ?_; focus ((repeat' (first | exact PsA.lit _ | exact PsA.ref rfl rfl | constructor)); all_goals (fail "ps"))) | (refine OpK.call c3 rfl rfl rfl rfl hE ?_ rfl rfl ?_; focus ((repeat' (first | exact PsA.lit _ | exact PsA.ref rfl rfl | constructor)); all_goals (fail "ps"))) | refine ListO.go gOk hE ?_)
            all_goals first | (exfalso; omega) | skip
            refine OpK.stA gOk (by rfl) (by rfl) (by rfl) (by rfl) (by rfl) (by rfl) (by rfl) (by omega) (by exact hbl.symm) ?_
            rw [show 0 + (hSlot (R.getD i (0, 0)).1).toNat * 1 = (hSlot (R.getD i (0, 0)).1).toNat by omega]
            repeat' (first | exact trivial | refine BS.d (fun h => ?_) (fun h => ?_) | refine BS.e (fun h => ?_) (fun h => ?_) | refine BS.ne (fun h => ?_) (fun h => ?_) | refine BS.n ?_ | refine BS.s (fun h => ?_) (fun h => ?_) | refine And.intro ?_ ?_ | (refine Need.mk ?_; first | with_reducible rfl | (show @Eq TC _ _; rfl) | omega | (simp only [adN_zero]; omega)) | exact OutS.whole rfl rfl | refine ListO.go gOk hE ?_)
            exact ⟨(i + 1, s ++ [hSlot (R.getD i (0, 0)).1], bs.set (hSlot (R.getD i (0, 0)).1).toNat true), (by refine leT.of ?_ ?_ rfl <;> repeat' (first | exact trivial | refine And.intro rfl ?_ | refine And.intro (by first | rfl | (simp; done) | (simp <;> rfl)) ?_)), ⟨hi2, by simp [hbl], rseen_step hbl hb hbs, hq⟩, by dsimp only; omega⟩
          · rw [decide_eq_false hep] at c3
            rw [okR_no (.inr (.inl hep))] at hq
            rw [hq]
            repeat' (first | exact trivial | refine BS.d (fun h => ?_) (fun h => ?_) | refine BS.e (fun h => ?_) (fun h => ?_) | refine BS.ne (fun h => ?_) (fun h => ?_) | refine BS.n ?_ | refine BS.s (fun h => ?_) (fun h => ?_) | refine And.intro ?_ ?_ | (refine Need.mk ?_; first | with_reducible rfl | (show @Eq TC _ _; rfl) | omega | (simp only [adN_zero]; omega)) | exact OutS.whole rfl rfl | (refine OpK.call c2 rfl rfl rfl rfl hE ?_ rfl rfl ?_; focus ((repeat' (first | exact PsA.lit _ | exact PsA.ref rfl rfl | constructor)); all_goals (fail "ps"))) | (refine OpK.call c3 rfl rfl rfl rfl hE ?_ rfl rfl ?_; focus ((repeat' (first | exact PsA.lit _ | exact PsA.ref rfl rfl | constructor)); all_goals (fail "ps"))) | refine ListO.go gOk hE ?_)
            all_goals first | rfl | exact Need.mk rfl | (exfalso; omega) | trace_state
    · rw [List.drop_eq_nil_of_le (by omega)] at hq
      repeat' (first | exact trivial | refine BS.d (fun h => ?_) (fun h => ?_) | refine BS.e (fun h => ?_) (fun h => ?_) | refine BS.ne (fun h => ?_) (fun h => ?_) | refine BS.n ?_ | refine BS.s (fun h => ?_) (fun h => ?_) | refine And.intro ?_ ?_ | (refine Need.mk ?_; first | with_reducible rfl | (show @Eq TC _ _; rfl) | omega | (simp only [adN_zero]; omega)) | exact OutS.whole rfl rfl | (refine OpK.call c1 rfl rfl rfl rfl hE ?_ rfl rfl ?_; focus ((repeat' (first | exact PsA.lit _ | exact PsA.ref rfl rfl | constructor)); all_goals (fail "ps"))) | refine ListO.go gOk hE ?_)
      all_goals first | exact Need.mk hq.symm | exact Need.mk hq | (exfalso; omega) | trace_state
end Go.Proofs.YtpmhkpmkmbkjbaaGreatDoor
end

section
namespace Go.Proofs.YtpmhkpmkmbkjbaaGreatDoor
open Go Go.Tr
set_option maxRecDepth 100000
set_option maxHeartbeats 4000000
set_option linter.unusedVariables false
set_option linter.unusedSimpArgs false
/-- The first of n places, from place i on, that has the property. -/
def rfirstP (p : Nat → Bool) : Nat → Nat → Option Nat
  | _, 0 => none
  | i, m + 1 => if p i then some i else rfirstP p (i + 1) m
theorem rfirstP_yes {p : Nat → Bool} {i m : Nat} (hm : 0 < m) (h : p i = true) : rfirstP p i m = some i := by
  cases m with
  | zero => omega
  | succ m => unfold rfirstP; rw [if_pos h]
theorem rfirstP_no {p : Nat → Bool} {i m : Nat} (hm : 0 < m) (h : p i = false) : rfirstP p i m = rfirstP p (i + 1) (m - 1) := by
  cases m with
  | zero => omega
  | succ m => rw [rfirstP, if_neg (by simp [h])]; rfl
theorem rfirstP_lt {p : Nat → Bool} : ∀ {m i j : Nat}, rfirstP p i m = some j → i ≤ j ∧ j < i + m ∧ p j = true
  | 0, i, j, h => by cases h
  | m + 1, i, j, h => by
    unfold rfirstP at h
    split at h
    · injection h with h; subst h; exact ⟨Nat.le_refl _, by omega, by assumption⟩
    · have := rfirstP_lt h; exact ⟨by omega, by omega, this.2.2⟩
theorem rfirstP_none {p : Nat → Bool} : ∀ {m i : Nat}, rfirstP p i m = none → ∀ j, i ≤ j → j < i + m → p j = false
  | 0, i, h, j, h1, h2 => by omega
  | m + 1, i, h, j, h1, h2 => by
    unfold rfirstP at h
    split at h
    · cases h
    · rename_i hp
      by_cases e : j = i
      · subst e; simpa using hp
      · exact rfirstP_none h j (by omega) (by omega)
def rplR : Option Nat → Int
  | some j => (j : Int)
  | none => -1
/-- The row's handle is one of this slot. -/
def rowAt (s : Int) (r : Row) : Bool := hOk r.1 && decide (hSlot r.1 = s)
def inLb (xs : List (List Row)) (s : Int) : Bool := (rfirstP (fun j => rowAt s (xs.flatten.getD j (0, 0))) 0 xs.flatten.length).isSome
theorem InLimbo1_run (x : Row) (s : Int) (g1 j1 : Nat) (hm : x.1 ≤ 9223372036854775807) (hs : 0 ≤ s) : RunH Tryz.prog (hcL [(g1, j1, .int .i64 s)]) 199 [.agg [.c (.lit (.int .i64 x.1)), .c (.lit (.int .i64 x.2))], .one (.c (.lit (.pointer (some ⟨g1, j1, none⟩))))] [] [ob (rowAt s x)] [] := by
  have c1 := iHandleSlot_run x.1 hm
  have hb : hSlot x.1 = if hOk x.1 then x.1 % 32 else -1 := rfl
  have hq : rowAt s x = decide (hSlot x.1 = s) := by
    unfold rowAt
    cases hk : hOk x.1 <;> rw [hk] at hb <;> simp at hb
    · rw [hb]; simp; omega
    · simp
  rw [hq]
  refine RunH.of_vc gOk Tryz.func199 rfl rfl (Nat.le_of_ble_eq_true rfl) (by repeat' (first | exact trivial | exact ⟨_, rfl, Nat.le_refl _⟩ | exact Nat.le_of_ble_eq_true rfl | refine And.intro ?_ ?_)) (Nat.le_of_ble_eq_true rfl) rfl (fun F hE hA => ?_)
  repeat' (first | exact trivial | refine BS.d (fun h => ?_) (fun h => ?_) | refine BS.e (fun h => ?_) (fun h => ?_) | refine BS.ne (fun h => ?_) (fun h => ?_) | refine BS.n ?_ | refine BS.s (fun h => ?_) (fun h => ?_) | refine And.intro ?_ ?_ | (refine Need.mk ?_; first | with_reducible rfl | (show @Eq TC _ _; rfl) | omega | (simp only [adN_zero]; omega)) | exact OutS.whole rfl rfl | (refine CodeK.draw gOk hE rfl (fun _ _ h => h) (.take 0 (.alt 1 (.alt 2 (.alt 3 (.take 4 (.take 5 .done)) .stop) (.alt 3 (.alt 2 (.take 4 (.take 5 .done)) .stop) .stop)) (.alt 3 (.alt 1 (.alt 2 (.take 4 (.take 5 .done)) .stop) .stop) .stop))) ?_ ?_; focus (decide +kernel)) | (refine OpK.call c1 rfl rfl rfl rfl hE ?_ rfl rfl ?_; focus ((repeat' (first | exact PsA.lit _ | exact PsA.ref rfl rfl | constructor)); all_goals (fail "ps"))) | (first | refine OpK.ldI gOk 0 hA rfl rfl rfl rfl rfl rfl rfl ?_ | refine OpK.ldI gOk 1 hA rfl rfl rfl rfl rfl rfl rfl ?_ | refine OpK.ldI gOk 2 hA rfl rfl rfl rfl rfl rfl rfl ?_) | refine ListO.go gOk hE ?_)
  all_goals (refine Need.mk ?_; simp_all [Bool.beq_eq_decide_eq])
theorem IndexRow_run {hc : Hc} {cf : Nat} {caps : Array Value} (p : Row → Bool) (e : Nat) (xs : List Row) (hn : xs.length ≤ 1048576) (hcs : ∀ v ∈ caps, scal v = true) (hf : ∀ i, RunH Tryz.prog hc cf ([.agg [.c (.lit (.int .i64 (xs.getD i (0, 0)).1)), .c (.lit (.int .i64 (xs.getD i (0, 0)).2))]] ++ capA caps) [] [ob (p (xs.getD i (0, 0)))] []) :
    RunH Tryz.prog hc 213 [.one (.c (tR e xs)), .one (.c (.lit (.func (.func cf) #[] caps)))] [] [oi (rplR (rfirstP (fun j => p (xs.getD j (0, 0))) 0 xs.length))] [] := by
  refine RunH.of_vc gOk Tryz.func213 rfl rfl (Nat.le_of_ble_eq_true rfl) (by repeat' (first | exact trivial | exact ⟨_, rfl, Nat.le_refl _⟩ | exact Nat.le_of_ble_eq_true rfl | refine And.intro ?_ ?_)) (Nat.le_of_ble_eq_true rfl) rfl (fun F hE hA => ?_)
  repeat' (first | exact trivial | refine BS.d (fun h => ?_) (fun h => ?_) | refine BS.e (fun h => ?_) (fun h => ?_) | refine BS.ne (fun h => ?_) (fun h => ?_) | refine BS.n ?_ | refine BS.s (fun h => ?_) (fun h => ?_) | refine And.intro ?_ ?_ | (refine Need.mk ?_; first | with_reducible rfl | (show @Eq TC _ _; rfl) | omega | (simp only [adN_zero]; omega)) | exact OutS.whole rfl rfl | refine ListO.go gOk hE ?_)
  refine CodeK.loop gOk hE (fun i : Nat => ⟨[(0, vr 1000000 xs.length), (1, .a (.lit (.func (.func cf) #[] caps))), (7, vi xs.length), (8, vi i)], [(1000000, rR .fro false e xs)]⟩) (fun i => i ≤ xs.length ∧ rfirstP (fun j => p (xs.getD j (0, 0))) 0 xs.length = rfirstP (fun j => p (xs.getD j (0, 0))) i (xs.length - i)) (fun i => xs.length - i) 0 (by refine leT.of ?_ ?_ rfl <;> repeat' (first | exact trivial | refine And.intro rfl ?_ | refine And.intro (by simp) ?_)) ⟨Nat.zero_le _, rfl⟩ ?_
  rintro i ⟨hi, hs⟩
  rcases hp : p (xs.getD i (0, 0))
  all_goals (have c1 := hf i; rw [hp] at c1)
  all_goals (repeat' (first | exact trivial | refine BS.d (fun h => ?_) (fun h => ?_) | refine BS.e (fun h => ?_) (fun h => ?_) | refine BS.ne (fun h => ?_) (fun h => ?_) | refine BS.n ?_ | refine BS.s (fun h => ?_) (fun h => ?_) | refine And.intro ?_ ?_ | (refine Need.mk ?_; first | with_reducible rfl | (show @Eq TC _ _; rfl) | omega | (simp only [adN_zero]; omega)) | exact OutS.whole rfl rfl | (refine OpK.callC c1 hA hcs rfl rfl rfl rfl hE ?_ rfl rfl ?_; focus ((repeat' (first | exact PsA.lit _ | exact PsA.ref rfl rfl | constructor)); all_goals (fail "ps"))) | refine ListO.go gOk hE ?_))
  all_goals (try simp only [adN_zero] at *)
  all_goals first
    | (exfalso; first | omega | (simp_all; done))
    | (refine Need.mk ?_; omega)
    | (refine Need.mk ?_; rw [hs, rfirstP_yes (by omega) hp]; rfl)
    | (refine Need.mk ?_; rw [hs, show xs.length - i = 0 by omega]; rfl)
    | (refine ⟨i + 1, (by refine leT.of ?_ ?_ rfl <;> repeat' (first | exact trivial | refine And.intro rfl ?_ | refine And.intro (by simp) ?_)), ⟨by omega, by rw [hs, rfirstP_no (by omega) hp, show xs.length - i - 1 = xs.length - (i + 1) by omega]⟩, by first | omega | (dsimp only; omega)⟩)
theorem ContainsRow_run {hc : Hc} {cf : Nat} {caps : Array Value} (p : Row → Bool) (e : Nat) (xs : List Row) (hn : xs.length ≤ 1048576) (hcs : ∀ v ∈ caps, scal v = true) (hf : ∀ i, RunH Tryz.prog hc cf ([.agg [.c (.lit (.int .i64 (xs.getD i (0, 0)).1)), .c (.lit (.int .i64 (xs.getD i (0, 0)).2))]] ++ capA caps) [] [ob (p (xs.getD i (0, 0)))] []) :
    RunH Tryz.prog hc 198 [.one (.c (tR e xs)), .one (.c (.lit (.func (.func cf) #[] caps)))] [] [ob (rfirstP (fun j => p (xs.getD j (0, 0))) 0 xs.length).isSome] [] := by
  have c1 := IndexRow_run p e xs hn hcs hf
  generalize rfirstP (fun j => p (xs.getD j (0, 0))) 0 xs.length = r at *
  refine RunH.of_vc gOk Tryz.func198 rfl rfl (Nat.le_of_ble_eq_true rfl) (by repeat' (first | exact trivial | exact ⟨_, rfl, Nat.le_refl _⟩ | exact Nat.le_of_ble_eq_true rfl | refine And.intro ?_ ?_)) (Nat.le_of_ble_eq_true rfl) rfl (fun F hE hA => ?_)
  repeat' (first | exact trivial | refine BS.d (fun h => ?_) (fun h => ?_) | refine BS.e (fun h => ?_) (fun h => ?_) | refine BS.ne (fun h => ?_) (fun h => ?_) | refine BS.n ?_ | refine BS.s (fun h => ?_) (fun h => ?_) | refine And.intro ?_ ?_ | (refine Need.mk ?_; first | with_reducible rfl | (show @Eq TC _ _; rfl) | omega | (simp only [adN_zero]; omega)) | exact OutS.whole rfl rfl | (refine OpK.callH c1 hA rfl rfl rfl rfl hE ?_ rfl rfl ?_; focus ((repeat' (first | exact PsA.lit _ | exact PsA.ref rfl rfl | constructor)); all_goals (fail "ps"))) | refine ListO.go gOk hE ?_)
  all_goals (refine Need.mk ?_; cases r <;> simp [rplR])
theorem InLimboI_run (e' e : Nat) (xs : List (List Row)) (s : Int) (hn : xs.length ≤ 1048576) (hcn : cnt xs ≤ 1048576) (hm : ∀ i, (xs.flatten.getD i (0, 0)).1 ≤ 9223372036854775807) : RunT Tryz.prog 153 [.one (.c (tLL e' e xs)), ti s] [] [ob (if 0 ≤ s ∧ s < 24 then inLb xs s else false)] [] := by
  refine RunH.toT ?_
  have c0 := slotOkB_run s
  by_cases hs : 0 ≤ s ∧ s < 24
  · rw [if_pos hs]
    rw [decide_eq_true hs] at c0
    have c2 := allRows_run e' e xs hn hcn
    have c1 : ∀ ps : List (Nat × Nat), ps.length = 1 → RunH Tryz.prog (hcU (hcL (hcOf ps [.int .i64 s])) hc0) 198 [.one (.c (tR 103 xs.flatten)), .one (.c (.lit (.func (.func 199) #[] (ptrs ps))))] [] [ob (inLb xs s)] [] := by
      intro ps hps
      match ps, hps with
      | [(g1, j1)], _ =>
        exact (ContainsRow_run (caps := ptrs [(g1, j1)]) (rowAt s) _ xs.flatten (by have := flat_len xs; omega) (ptrs_scal _) (fun i => InLimbo1_run _ s g1 j1 (hm i) hs.1)).mono (fun g j v hm => .inl hm)
    refine RunH.of_vc gOk Tryz.func153 rfl rfl (Nat.le_of_ble_eq_true rfl) (by repeat' (first | exact trivial | exact ⟨_, rfl, Nat.le_refl _⟩ | exact Nat.le_of_ble_eq_true rfl | refine And.intro ?_ ?_)) (Nat.le_of_ble_eq_true rfl) rfl (fun F hE hA => ?_)
    repeat' (first | exact trivial | refine BS.d (fun h => ?_) (fun h => ?_) | refine BS.e (fun h => ?_) (fun h => ?_) | refine BS.ne (fun h => ?_) (fun h => ?_) | refine BS.n ?_ | refine BS.s (fun h => ?_) (fun h => ?_) | refine And.intro ?_ ?_ | (refine Need.mk ?_; first | with_reducible rfl | (show @Eq TC _ _; rfl) | omega | (simp only [adN_zero]; omega)) | exact OutS.whole rfl rfl | (refine OpK.call c0 rfl rfl rfl rfl hE ?_ rfl rfl ?_; focus ((repeat' (first | exact PsA.lit _ | exact PsA.ref rfl rfl | constructor)); all_goals (fail "ps"))) | (refine OpK.call c2 rfl rfl rfl rfl hE ?_ rfl rfl ?_; focus ((repeat' (first | exact PsA.lit _ | exact PsA.ref rfl rfl | constructor)); all_goals (fail "ps"))) | refine ListO.go gOk hE ?_)
    all_goals first | exact absurd rfl h | skip
    (refine ListK.mkCall (args := (fun v => [.one (.c (tR 103 xs.flatten)), .one (.c (.lit v))])) rfl rfl rfl rfl (.cons rfl rfl .nil) hA c1 rfl rfl rfl rfl rfl hE ?_ rfl rfl ?_ gOk; focus (intro v; (repeat' (first | exact PsA.lit _ | exact PsA.ref rfl rfl | constructor)); all_goals (fail "ps")))
    repeat' (first | exact trivial | refine BS.d (fun h => ?_) (fun h => ?_) | refine BS.e (fun h => ?_) (fun h => ?_) | refine BS.ne (fun h => ?_) (fun h => ?_) | refine BS.n ?_ | refine BS.s (fun h => ?_) (fun h => ?_) | refine And.intro ?_ ?_ | (refine Need.mk ?_; first | with_reducible rfl | (show @Eq TC _ _; rfl) | omega | (simp only [adN_zero]; omega)) | exact OutS.whole rfl rfl | refine ListO.go gOk hE ?_)
  · rw [if_neg hs]
    rw [decide_eq_false hs] at c0
    refine RunH.of_vc gOk Tryz.func153 rfl rfl (Nat.le_of_ble_eq_true rfl) (by repeat' (first | exact trivial | exact ⟨_, rfl, Nat.le_refl _⟩ | exact Nat.le_of_ble_eq_true rfl | refine And.intro ?_ ?_)) (Nat.le_of_ble_eq_true rfl) rfl (fun F hE hA => ?_)
    repeat' (first | exact trivial | refine BS.d (fun h => ?_) (fun h => ?_) | refine BS.e (fun h => ?_) (fun h => ?_) | refine BS.ne (fun h => ?_) (fun h => ?_) | refine BS.n ?_ | refine BS.s (fun h => ?_) (fun h => ?_) | refine And.intro ?_ ?_ | (refine Need.mk ?_; first | with_reducible rfl | (show @Eq TC _ _; rfl) | omega | (simp only [adN_zero]; omega)) | exact OutS.whole rfl rfl | (refine OpK.call c0 rfl rfl rfl rfl hE ?_ rfl rfl ?_; focus ((repeat' (first | exact PsA.lit _ | exact PsA.ref rfl rfl | constructor)); all_goals (fail "ps"))) | refine ListO.go gOk hE ?_)
    all_goals first | exact absurd rfl h | trace_state
theorem hSlot_bdL {h : Int} (hk : hOk h = true) : 0 ≤ hSlot h ∧ hSlot h < 24 := by
  unfold hSlot; rw [hk]; simp
  unfold hOk at hk
  simp only [decide_eq_true_eq] at hk
  omega
theorem inLb_out (xs : List (List Row)) (s : Int) (hs : ¬ (0 ≤ s ∧ s < 24)) : inLb xs s = false := by
  unfold inLb
  cases h : rfirstP (fun j => rowAt s (xs.flatten.getD j (0, 0))) 0 xs.flatten.length with
  | none => rfl
  | some j =>
    exfalso
    obtain ⟨_, _, h3⟩ := rfirstP_lt h
    unfold rowAt at h3
    simp only [Bool.and_eq_true, decide_eq_true_eq] at h3
    have := hSlot_bdL h3.1
    omega
theorem InLimboS_run (e' e : Nat) (xs : List (List Row)) (s : Int) (hn : xs.length ≤ 1048576) (hcn : cnt xs ≤ 1048576) : RunT Tryz.prog 152 [.one (.c (tLL e' e xs)), ti s] [] [ob (inLb xs s)] [] := by
  have hfl := flat_len xs
  have c0 := l11All_run e' e xs hn hcn
  unfold inLb
  refine RunT.of_vc gOk Tryz.func152 rfl rfl (Nat.le_of_ble_eq_true rfl) (by repeat' (first | exact trivial | exact ⟨_, rfl, Nat.le_refl _⟩ | exact Nat.le_of_ble_eq_true rfl | refine And.intro ?_ ?_)) (Nat.le_of_ble_eq_true rfl) rfl (fun F hE => ?_)
  repeat' (first | exact trivial | refine BS.d (fun h => ?_) (fun h => ?_) | refine BS.e (fun h => ?_) (fun h => ?_) | refine BS.ne (fun h => ?_) (fun h => ?_) | refine BS.n ?_ | refine BS.s (fun h => ?_) (fun h => ?_) | refine And.intro ?_ ?_ | (refine Need.mk ?_; first | with_reducible rfl | (show @Eq TC _ _; rfl) | omega | (simp only [adN_zero]; omega)) | exact OutS.whole rfl rfl | (refine OpK.call c0 rfl rfl rfl rfl hE ?_ rfl rfl ?_; focus ((repeat' (first | exact PsA.lit _ | exact PsA.ref rfl rfl | constructor)); all_goals (fail "ps"))) | refine ListO.go gOk hE ?_)
  generalize xs.flatten = R at *
  refine CodeK.loop gOk hE (fun i : Nat => ⟨[(1, vi s), (5, vr 2001024 R.length), (6, vi i)], [(2001024, rR .own true 103 R)]⟩) (fun i => i ≤ R.length ∧ rfirstP (fun j => rowAt s (R.getD j (0, 0))) 0 R.length = rfirstP (fun j => rowAt s (R.getD j (0, 0))) i (R.length - i)) (fun i => R.length - i) 0 (by refine leT.of ?_ ?_ rfl <;> repeat' (first | exact trivial | refine And.intro rfl ?_ | refine And.intro (by simp) ?_)) ⟨Nat.zero_le _, rfl⟩ ?_
  rintro i ⟨hi, hs⟩
  have c1 := sHandleOk_run (R.getD i (0, 0)).1
  have c2 := sHandleSlot_run (R.getD i (0, 0)).1
  have hpq : rowAt s (R.getD i (0, 0)) = (hOk (R.getD i (0, 0)).1 && decide (hSlot (R.getD i (0, 0)).1 = s)) := rfl
  rcases hk : hOk (R.getD i (0, 0)).1 <;> by_cases hp : hSlot (R.getD i (0, 0)).1 = s
  all_goals (rw [hk] at c1 hpq; first | rw [decide_eq_true hp] at hpq | rw [decide_eq_false hp] at hpq)
  all_goals (have hp0 := hpq; simp only [Bool.and_true, Bool.and_false, Bool.true_and, Bool.false_and] at hp0)
  all_goals (repeat' (first | exact trivial | refine BS.d (fun h => ?_) (fun h => ?_) | refine BS.e (fun h => ?_) (fun h => ?_) | refine BS.ne (fun h => ?_) (fun h => ?_) | refine BS.n ?_ | refine BS.s (fun h => ?_) (fun h => ?_) | refine And.intro ?_ ?_ | (refine Need.mk ?_; first | with_reducible rfl | (show @Eq TC _ _; rfl) | omega | (simp only [adN_zero]; omega)) | exact OutS.whole rfl rfl | (refine OpK.call c1 rfl rfl rfl rfl hE ?_ rfl rfl ?_; focus ((repeat' (first | exact PsA.lit _ | exact PsA.ref rfl rfl | constructor)); all_goals (fail "ps"))) | (refine OpK.call c2 rfl rfl rfl rfl hE ?_ rfl rfl ?_; focus ((repeat' (first | exact PsA.lit _ | exact PsA.ref rfl rfl | constructor)); all_goals (fail "ps"))) | refine ListO.go gOk hE ?_))
  all_goals (try simp only [adN_zero] at *)
  all_goals first
    | (exfalso; first | omega | (simp_all; done))
    | (refine Need.mk ?_; omega)
    | (refine Need.mk ?_; rw [hs, rfirstP_yes (by omega) hp0]; rfl)
    | (refine Need.mk ?_; rw [hs, show R.length - i = 0 by omega]; rfl)
    | (refine ⟨i + 1, (by refine leT.of ?_ ?_ rfl <;> repeat' (first | exact trivial | refine And.intro rfl ?_ | refine And.intro (by simp) ?_)), ⟨by omega, by rw [hs, rfirstP_no (by omega) hp0, show R.length - i - 1 = R.length - (i + 1) by omega]⟩, by first | omega | (dsimp only; omega)⟩)
end Go.Proofs.YtpmhkpmkmbkjbaaGreatDoor
end
