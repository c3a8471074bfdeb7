import Derived.Test.YtbfkdbbgbdihdaaTF
namespace Go.Proofs.Ytbfkdbbgbdihdaa
open Go Go.Tr
set_option maxRecDepth 100000
set_option maxHeartbeats 4000000
set_option linter.unusedVariables false
set_option linter.unusedSimpArgs false
theorem l8HasT_run (xs : List Int) (x : Int) (hn : xs.length ≤ 4000000) : RunT Try.prog 60 [.one (.c (tI xs)), ti x] [] [ob (decide (x ∈ xs))] [] := by
  refine RunT.of_vc gOk Try.func60 rfl rfl (Nat.le_of_ble_eq_true rfl) (by repeat' (first | exact trivial | exact ⟨_, rfl, Nat.le_refl _⟩ | exact Nat.le_of_ble_eq_true rfl | refine And.intro ?_ ?_)) (Nat.le_of_ble_eq_true rfl) rfl (fun F hE => ?_)
  repeat' (first | exact trivial | refine BS.d (fun h => ?_) (fun h => ?_) | refine BS.e (fun h => ?_) (fun h => ?_) | refine BS.ne (fun h => ?_) (fun h => ?_) | refine BS.n ?_ | refine BS.s (fun h => ?_) (fun h => ?_) | refine And.intro ?_ ?_ | (refine Need.mk ?_; first | with_reducible rfl | (show @Eq TC _ _; rfl) | omega | (simp only [adN_zero]; omega)) | exact OutS.whole rfl rfl)
  refine CodeK.loop gOk hE (fun i : Nat => ⟨[(0, vr 1000000 xs.length), (1, vi x), (5, vi i)], [(1000000, rI .fro false xs)]⟩) (fun i => i ≤ xs.length ∧ ∀ j, j < i → xs.getD j 0 ≠ x) (fun i => xs.length - i) 0 (by refine leT.of ?_ ?_ rfl <;> repeat' (first | exact trivial | refine And.intro rfl ?_ | refine And.intro (by simp) ?_)) ⟨Nat.zero_le _, fun j hj => absurd hj (Nat.not_lt_zero _)⟩ ?_
  rintro i ⟨hi, hq⟩
  by_cases hp : xs.getD i 0 = x
  all_goals (repeat' (first | exact trivial | refine BS.d (fun h => ?_) (fun h => ?_) | refine BS.e (fun h => ?_) (fun h => ?_) | refine BS.ne (fun h => ?_) (fun h => ?_) | refine BS.n ?_ | refine BS.s (fun h => ?_) (fun h => ?_) | refine And.intro ?_ ?_ | (refine Need.mk ?_; first | with_reducible rfl | (show @Eq TC _ _; rfl) | omega | (simp only [adN_zero]; omega)) | exact OutS.whole rfl rfl))
  all_goals (try simp only [adN_zero] at *)
  all_goals first
    | (exfalso; first | omega | (simp_all; done))
    | (refine Need.mk ?_; symm; apply decide_eq_true; rw [← hp, List.getD_eq_getElem?_getD, List.getElem?_eq_getElem (by omega)]; exact List.getElem_mem _)
    | (refine Need.mk ?_; symm; apply decide_eq_false; intro hm; obtain ⟨j, hj, hj2⟩ := List.getElem_of_mem hm; exact hq j (by omega) (by rw [List.getD_eq_getElem?_getD, List.getElem?_eq_getElem hj]; exact hj2))
    | (refine ⟨i + 1, (by refine leT.of ?_ ?_ rfl <;> repeat' (first | exact trivial | refine And.intro rfl ?_ | refine And.intro (by simp) ?_)), ⟨by omega, fun j hj => (Nat.lt_or_ge j i).elim (hq j) (fun h9 => (show j = i by omega) ▸ hp)⟩, by first | omega | (dsimp only; omega)⟩)
theorem IndexI_run (xs : List Int) (x : Int) (hn : xs.length ≤ 4000000) : ∃ r : Int, (0 ≤ r ↔ x ∈ xs) ∧ RunT Try.prog 83 [.one (.c (tI xs)), ti x] [] [oi r] [] := by
  refine ⟨plR (firstP (fun j => decide (xs.getD j 0 = x)) 0 xs.length), ?_, ?_⟩
  · cases h : firstP (fun j => decide (xs.getD j 0 = x)) 0 xs.length with
    | none =>
      refine ⟨fun h => absurd h (by show ¬ (0 : Int) ≤ -1; omega), fun hm => ?_⟩
      obtain ⟨j, hj, hj2⟩ := List.getElem_of_mem hm
      exact absurd (firstP_none h j (Nat.zero_le _) (by omega)) (by simp [List.getD_eq_getElem?_getD, List.getElem?_eq_getElem hj, hj2])
    | some j =>
      obtain ⟨_, h2, h3⟩ := firstP_lt h
      refine ⟨fun _ => ?_, fun _ => (by show (0 : Int) ≤ (j : Int); omega)⟩
      have h4 : xs.getD j 0 = x := of_decide_eq_true h3
      rw [← h4, List.getD_eq_getElem?_getD, List.getElem?_eq_getElem (by omega)]; exact List.getElem_mem _
  · refine RunT.of_vc gOk Try.func83 rfl rfl (Nat.le_of_ble_eq_true rfl) (by repeat' (first | exact trivial | exact ⟨_, rfl, Nat.le_refl _⟩ | exact Nat.le_of_ble_eq_true rfl | refine And.intro ?_ ?_)) (Nat.le_of_ble_eq_true rfl) rfl (fun F hE => ?_)
    repeat' (first | exact trivial | refine BS.d (fun h => ?_) (fun h => ?_) | refine BS.e (fun h => ?_) (fun h => ?_) | refine BS.ne (fun h => ?_) (fun h => ?_) | refine BS.n ?_ | refine BS.s (fun h => ?_) (fun h => ?_) | refine And.intro ?_ ?_ | (refine Need.mk ?_; first | with_reducible rfl | (show @Eq TC _ _; rfl) | omega | (simp only [adN_zero]; omega)) | exact OutS.whole rfl rfl)
    refine CodeK.loop gOk hE (fun i : Nat => ⟨[(0, vr 1000000 xs.length), (1, vi x), (7, vi xs.length), (8, vi i)], [(1000000, rI .fro false xs)]⟩) (fun i => i ≤ xs.length ∧ firstP (fun j => decide (xs.getD j 0 = x)) 0 xs.length = firstP (fun j => decide (xs.getD j 0 = x)) i (xs.length - i)) (fun i => xs.length - i) 0 (by refine leT.of ?_ ?_ rfl <;> repeat' (first | exact trivial | refine And.intro rfl ?_ | refine And.intro (by simp) ?_)) ⟨Nat.zero_le _, rfl⟩ ?_
    rintro i ⟨hi, hs⟩
    by_cases hp : xs.getD i 0 = x
    all_goals (repeat' (first | exact trivial | refine BS.d (fun h => ?_) (fun h => ?_) | refine BS.e (fun h => ?_) (fun h => ?_) | refine BS.ne (fun h => ?_) (fun h => ?_) | refine BS.n ?_ | refine BS.s (fun h => ?_) (fun h => ?_) | refine And.intro ?_ ?_ | (refine Need.mk ?_; first | with_reducible rfl | (show @Eq TC _ _; rfl) | omega | (simp only [adN_zero]; omega)) | exact OutS.whole rfl rfl))
    all_goals (try simp only [adN_zero] at *)
    all_goals first
      | (exfalso; first | omega | (simp_all; done))
      | (refine Need.mk ?_; rw [hs, firstP_yes (by omega) (decide_eq_true hp)]; rfl)
      | (refine Need.mk ?_; rw [hs, show xs.length - i = 0 by omega]; rfl)
      | (refine ⟨i + 1, (by refine leT.of ?_ ?_ rfl <;> repeat' (first | exact trivial | refine And.intro rfl ?_ | refine And.intro (by simp) ?_)), ⟨by omega, by rw [hs, firstP_no (by omega) (decide_eq_false hp), show xs.length - i - 1 = xs.length - (i + 1) by omega]⟩, by first | omega | (dsimp only; omega)⟩)
theorem ContainsI_run (xs : List Int) (x : Int) (hn : xs.length ≤ 4000000) : RunT Try.prog 62 [.one (.c (tI xs)), ti x] [] [ob (decide (x ∈ xs))] [] := by
  obtain ⟨r, h1, c1⟩ := IndexI_run xs x hn
  refine RunT.of_vc gOk Try.func62 rfl rfl (Nat.le_of_ble_eq_true rfl) (by repeat' (first | exact trivial | exact ⟨_, rfl, Nat.le_refl _⟩ | exact Nat.le_of_ble_eq_true rfl | refine And.intro ?_ ?_)) (Nat.le_of_ble_eq_true rfl) rfl (fun F hE => ?_)
  repeat' (first | exact trivial | refine BS.d (fun h => ?_) (fun h => ?_) | refine BS.e (fun h => ?_) (fun h => ?_) | refine BS.ne (fun h => ?_) (fun h => ?_) | refine BS.n ?_ | refine BS.s (fun h => ?_) (fun h => ?_) | refine And.intro ?_ ?_ | (refine Need.mk ?_; first | with_reducible rfl | (show @Eq TC _ _; rfl) | omega | (simp only [adN_zero]; omega)) | exact OutS.whole rfl rfl | (refine OpK.call c1 rfl rfl rfl rfl hE ?_ rfl rfl ?_; focus ((repeat' (first | exact PsA.lit _ | exact PsA.ref rfl rfl | constructor)); all_goals (fail "ps"))))
  all_goals (refine Need.mk ?_; exact decide_eq_decide.2 h1)
/-- The batch has told that it succeeded. -/
def cmt (xs : List TEvT) (s : Int) : Bool := decide (0 ≤ plc xs 3 s) && decide ((xs.getD (plc xs 3 s).toNat zTEv).2.2.2.1 = 0)
theorem committed_run (e eC eR : Nat) (xs : List TEvT) (s : Int) (hn : xs.length ≤ 1048576) : RunT Try.prog 61 [.one (.c (tTEv e eC eR xs)), ti s] [] [ob (cmt xs s)] [] := by
  have c1 := PlaceOfI_run e eC eR xs 3 s hn
  have hb := plc_bd xs 3 s
  unfold cmt
  generalize plc xs 3 s = r at *
  by_cases hr : 0 ≤ r
  · obtain ⟨m, rfl⟩ := Int.eq_ofNat_of_zero_le hr
    refine RunT.of_vc gOk Try.func61 rfl rfl (Nat.le_of_ble_eq_true rfl) (by repeat' (first | exact trivial | exact ⟨_, rfl, Nat.le_refl _⟩ | exact Nat.le_of_ble_eq_true rfl | refine And.intro ?_ ?_)) (Nat.le_of_ble_eq_true rfl) rfl (fun F hE => ?_)
    repeat' (first | exact trivial | refine BS.d (fun h => ?_) (fun h => ?_) | refine BS.e (fun h => ?_) (fun h => ?_) | refine BS.ne (fun h => ?_) (fun h => ?_) | refine BS.n ?_ | refine BS.s (fun h => ?_) (fun h => ?_) | refine And.intro ?_ ?_ | (refine Need.mk ?_; first | with_reducible rfl | (show @Eq TC _ _; rfl) | omega | (simp only [adN_zero]; omega)) | exact OutS.whole rfl rfl | (refine OpK.call c1 rfl rfl rfl rfl hE ?_ rfl rfl ?_; focus ((repeat' (first | exact PsA.lit _ | exact PsA.ref rfl rfl | constructor)); all_goals (fail "ps"))))
    all_goals (try simp only [adN_zero] at *)
    all_goals first | (exfalso; omega) | (refine Need.mk ?_; omega) | (refine Need.mk ?_; simp [Bool.beq_eq_decide_eq])
  · refine RunT.of_vc gOk Try.func61 rfl rfl (Nat.le_of_ble_eq_true rfl) (by repeat' (first | exact trivial | exact ⟨_, rfl, Nat.le_refl _⟩ | exact Nat.le_of_ble_eq_true rfl | refine And.intro ?_ ?_)) (Nat.le_of_ble_eq_true rfl) rfl (fun F hE => ?_)
    repeat' (first | exact trivial | refine BS.d (fun h => ?_) (fun h => ?_) | refine BS.e (fun h => ?_) (fun h => ?_) | refine BS.ne (fun h => ?_) (fun h => ?_) | refine BS.n ?_ | refine BS.s (fun h => ?_) (fun h => ?_) | refine And.intro ?_ ?_ | (refine Need.mk ?_; first | with_reducible rfl | (show @Eq TC _ _; rfl) | omega | (simp only [adN_zero]; omega)) | exact OutS.whole rfl rfl | (refine OpK.call c1 rfl rfl rfl rfl hE ?_ rfl rfl ?_; focus ((repeat' (first | exact PsA.lit _ | exact PsA.ref rfl rfl | constructor)); all_goals (fail "ps"))))
    all_goals first | (exfalso; omega) | (refine Need.mk ?_; simp [hr])
def oTk (xs : List TEvT) (acc : List Int) (e : TEvT) : Bool := decide (e.1 = 2) && (cmt xs e.2.2.1 && !decide (e.2.2.1 ∈ acc))
/-- The serials of the points, each once, of the batches that succeeded. -/
def ordN (xs : List TEvT) : Nat → List Int
  | 0 => []
  | i + 1 => if oTk xs (ordN xs i) (xs.getD i zTEv) then ordN xs i ++ [(xs.getD i zTEv).2.2.1] else ordN xs i
theorem ordN_le (xs : List TEvT) : ∀ i, (ordN xs i).length ≤ i
  | 0 => Nat.le_refl _
  | i + 1 => by have := ordN_le xs i; unfold ordN; split <;> simp <;> omega
theorem ordN_ok (xs : List TEvT) : ∀ i, ∀ s ∈ ordN xs i, 0 ≤ plc xs 3 s
  | 0, s, h => by cases h
  | i + 1, s, h => by
    unfold ordN at h
    split at h
    · rename_i ht
      rcases List.mem_append.1 h with h | h
      · exact ordN_ok xs i s h
      · obtain rfl := List.mem_singleton.1 h
        unfold oTk cmt at ht
        simp only [Bool.and_eq_true, decide_eq_true_eq] at ht
        exact ht.2.1.1
    · exact ordN_ok xs i s h
theorem OrderS_run (e eC eR : Nat) (xs : List TEvT) (hn : xs.length ≤ 1048576) : RunT Try.prog 27 [.one (.c (tTEv e eC eR xs))] [] [.one (tI (ordN xs xs.length))] [] := by
  refine RunT.of_vc gOk Try.func27 rfl rfl (Nat.le_of_ble_eq_true rfl) (by repeat' (first | exact trivial | exact ⟨_, rfl, Nat.le_refl _⟩ | exact Nat.le_of_ble_eq_true rfl | refine And.intro ?_ ?_)) (Nat.le_of_ble_eq_true rfl) rfl (fun F hE => ?_)
  repeat' (first | exact trivial | refine BS.d (fun h => ?_) (fun h => ?_) | refine BS.e (fun h => ?_) (fun h => ?_) | refine BS.ne (fun h => ?_) (fun h => ?_) | refine BS.n ?_ | refine BS.s (fun h => ?_) (fun h => ?_) | refine And.intro ?_ ?_ | (refine Need.mk ?_; first | with_reducible rfl | (show @Eq TC _ _; rfl) | omega | (simp only [adN_zero]; omega)) | exact OutS.whole rfl rfl)
  refine CodeK.loop gOk hE (fun i : Nat => ⟨[(0, vr 1000000 xs.length), (3, vr 6 (ordN xs i).length), (4, vi i)], [(6, rI .own true (ordN xs i)), (1000000, rTEv .fro false e eC eR xs)]⟩) (fun i => i ≤ xs.length) (fun i => xs.length - i) 0 (by refine leT.of ?_ ?_ rfl <;> repeat' (first | exact trivial | refine And.intro rfl ?_ | refine And.intro (by first | rfl | (simp [ordN]; done)) ?_)) (Nat.zero_le _) ?_
  rintro i hi
  have hl := ordN_le xs i
  have hb := plc_bd xs 3 (xs.getD i zTEv).2.2.1
  have c1 := l8HasT_run (ordN xs i) (xs.getD i zTEv).2.2.1 (by omega)
  have c2 := PlaceOfS_run e eC eR xs 3 (xs.getD i zTEv).2.2.1 hn
  have hN : ordN xs (i + 1) = if oTk xs (ordN xs i) (xs.getD i zTEv) then ordN xs i ++ [(xs.getD i zTEv).2.2.1] else ordN xs i := rfl
  unfold oTk cmt at hN
  generalize plc xs 3 (xs.getD i zTEv).2.2.1 = r at *
  by_cases hr : 0 ≤ r
  · obtain ⟨m, rfl⟩ := Int.eq_ofNat_of_zero_le hr
    rw [show ((m : Nat) : Int).toNat = m from rfl, decide_eq_true hr, Bool.true_and] at hN
    by_cases h1 : (xs.getD i zTEv).1 = 2 <;> by_cases h2 : (xs.getD i zTEv).2.2.1 ∈ ordN xs i <;> by_cases h3 : (xs.getD m zTEv).2.2.2.1 = 0
    all_goals simp only [h1, h2, h3, decide_true, decide_false, Bool.not_true, Bool.not_false, Bool.and_true, Bool.and_false, Bool.true_and, Bool.false_and, if_true, if_false, Bool.false_eq_true] at hN c1
    all_goals (repeat' (first | exact trivial | refine BS.d (fun h => ?_) (fun h => ?_) | refine BS.e (fun h => ?_) (fun h => ?_) | refine BS.ne (fun h => ?_) (fun h => ?_) | refine BS.n ?_ | refine BS.s (fun h => ?_) (fun h => ?_) | refine And.intro ?_ ?_ | (refine Need.mk ?_; first | with_reducible rfl | (show @Eq TC _ _; rfl) | omega | (simp only [adN_zero]; omega)) | exact OutS.whole rfl rfl | (refine OpK.call c1 rfl rfl rfl rfl hE ?_ rfl rfl ?_; focus ((repeat' (first | exact PsA.lit _ | exact PsA.ref rfl rfl | constructor)); all_goals (fail "ps"))) | (refine OpK.call c2 rfl rfl rfl rfl hE ?_ rfl rfl ?_; focus ((repeat' (first | exact PsA.lit _ | exact PsA.ref rfl rfl | constructor)); all_goals (fail "ps")))))
    all_goals (try simp only [adN_zero] at *)
    all_goals first
      | (exfalso; first | omega | contradiction)
      | (refine Need.mk ?_; omega)
      | (refine Need.mk ?_; refine ⟨?_, ?_⟩ <;> (try unfold maxLen) <;> omega)
      | (refine OutS.whole rfl ?_; rw [show xs.length = i by omega]; rfl)
      | skip
    all_goals (repeat' (first | exact trivial | refine BS.d (fun h => ?_) (fun h => ?_) | refine BS.e (fun h => ?_) (fun h => ?_) | refine BS.ne (fun h => ?_) (fun h => ?_) | refine BS.n ?_ | refine BS.s (fun h => ?_) (fun h => ?_) | refine And.intro ?_ ?_ | (refine Need.mk ?_; first | with_reducible rfl | (show @Eq TC _ _; rfl) | omega | (simp only [adN_zero]; omega)) | exact OutS.whole rfl rfl))
    all_goals (refine ⟨i + 1, (by refine leT.of ?_ ?_ rfl <;> repeat' (first | exact trivial | refine And.intro rfl ?_ | refine And.intro (by rw [hN]; first | rfl | (simp; done)) ?_)), ?_⟩; (refine And.intro ?_ ?_) <;> (first | omega | (dsimp only; omega) | trivial))
  · rw [decide_eq_false hr] at hN
    simp only [Bool.false_and, Bool.and_false, Bool.false_eq_true, if_false] at hN
    by_cases h1 : (xs.getD i zTEv).1 = 2 <;> by_cases h2 : (xs.getD i zTEv).2.2.1 ∈ ordN xs i
    all_goals simp only [h2, decide_true, decide_false] at c1
    all_goals (repeat' (first | exact trivial | refine BS.d (fun h => ?_) (fun h => ?_) | refine BS.e (fun h => ?_) (fun h => ?_) | refine BS.ne (fun h => ?_) (fun h => ?_) | refine BS.n ?_ | refine BS.s (fun h => ?_) (fun h => ?_) | refine And.intro ?_ ?_ | (refine Need.mk ?_; first | with_reducible rfl | (show @Eq TC _ _; rfl) | omega | (simp only [adN_zero]; omega)) | exact OutS.whole rfl rfl | (refine OpK.call c1 rfl rfl rfl rfl hE ?_ rfl rfl ?_; focus ((repeat' (first | exact PsA.lit _ | exact PsA.ref rfl rfl | constructor)); all_goals (fail "ps"))) | (refine OpK.call c2 rfl rfl rfl rfl hE ?_ rfl rfl ?_; focus ((repeat' (first | exact PsA.lit _ | exact PsA.ref rfl rfl | constructor)); all_goals (fail "ps")))))
    all_goals (try simp only [adN_zero] at *)
    all_goals first
      | (exfalso; first | omega | contradiction)
      | (refine Need.mk ?_; omega)
      | (refine OutS.whole rfl ?_; rw [show xs.length = i by omega]; rfl)
      | skip
    all_goals (refine ⟨i + 1, (by refine leT.of ?_ ?_ rfl <;> repeat' (first | exact trivial | refine And.intro rfl ?_ | refine And.intro (by rw [hN]; first | rfl | (simp; done)) ?_)), ?_⟩; (refine And.intro ?_ ?_) <;> (first | omega | (dsimp only; omega) | trivial))
end Go.Proofs.Ytbfkdbbgbdihdaa
