import Derived.Test.YtbfkdbbgbdihdaaLOD
namespace Go.Proofs.Ytbfkdbbgbdihdaa
open Go Go.Tr
set_option maxRecDepth 100000
set_option linter.unusedVariables false
set_option linter.unusedSimpArgs false
/-- The handles of the rows of this bucket. -/
def bk (k : Int) (l : List Row) : List Int := (l.filter fun r => decide (Int.tmod r.2 3 = k)).map Prod.fst
def lBk (xs : List (List Row)) (w k : Int) : List Int := if lOk xs = true ∧ 0 ≤ w ∧ w ≤ 2 then bk k (xs.getD w.toNat []) else []
theorem bk_take {k : Int} {l : List Row} {i : Nat} (h : i < l.length) : bk k (l.take (i + 1)) = if Int.tmod (l.getD i (0, 0)).2 3 = k then bk k (l.take i) ++ [(l.getD i (0, 0)).1] else bk k (l.take i) := by
  have e1 : l.getD i (0, 0) = l[i] := by simp [List.getD, h]
  rw [e1, List.take_succ_eq_append_getElem h]
  unfold bk
  rw [List.filter_append, List.map_append]
  split <;> simp [*]
theorem bk_le (k : Int) (l : List Row) (i : Nat) : (bk k (l.take i)).length ≤ i := by
  unfold bk
  rw [List.length_map]
  exact Nat.le_trans (List.length_filter_le _ _) (by rw [List.length_take]; omega)
theorem lOk_three {xs : List (List Row)} (h : lOk xs = true) : xs.length = 3 := by
  unfold lOk at h
  split at h
  · omega
  · cases h
theorem workerOk_run (x : Int) : RunT Try.prog 44 [ti x] [] [ob (decide (0 ≤ x ∧ x ≤ 2))] [] := by
  refine RunT.of_vc gOk Try.func44 rfl rfl (Nat.le_of_ble_eq_true rfl) (by repeat' (first | exact trivial | exact ⟨_, rfl, Nat.le_refl _⟩ | exact Nat.le_of_ble_eq_true rfl | refine And.intro ?_ ?_)) (Nat.le_of_ble_eq_true rfl) rfl (fun F hE => ?_)
  repeat' (first | exact trivial | refine BS.d (fun h => ?_) (fun h => ?_) | refine BS.e (fun h => ?_) (fun h => ?_) | refine BS.ne (fun h => ?_) (fun h => ?_) | refine BS.n ?_ | refine BS.s (fun h => ?_) (fun h => ?_) | refine And.intro ?_ ?_ | (refine Need.mk ?_; first | with_reducible rfl | (show @Eq TC _ _; rfl) | omega | (simp only [adN_zero]; omega)) | exact OutS.whole rfl rfl | refine ListO.go gOk hE ?_)
  all_goals (refine Need.mk ?_; first | rfl | (symm; apply decide_eq_true; omega) | (symm; apply decide_eq_false; omega) | (apply decide_eq_decide.2; omega) | (simp only [beq_iff_eq, Bool.beq_eq_decide_eq] at *; apply decide_eq_decide.2; omega) | (simp; omega))
set_option maxHeartbeats 4000000 in
theorem BucketS_run (e' e : Nat) (xs : List (List Row)) (w k : Int) (hn : xs.length ≤ 1048576) (hcn : cnt xs ≤ 1048576) (hx : ∀ i, (xs.getD i []).length ≤ 1048576) : RunT Try.prog 12 [.one (.c (tLL e' e xs)), ti w, ti k] [] [.one (tI 3 (lBk xs w k))] [] := by
  have c1 := LimboOkS_run e' e xs hn hcn
  have c2 := l1In_run w 0 2
  by_cases hw : lOk xs = true ∧ 0 ≤ w ∧ w ≤ 2
  · obtain ⟨m, rfl⟩ := Int.eq_ofNat_of_zero_le hw.2.1
    have hl : lBk xs m k = bk k (xs.getD m []) := by unfold lBk; rw [if_pos hw]; rfl
    rw [hw.1] at c1
    rw [decide_eq_true hw.2] at c2
    have h3 := lOk_three hw.1
    have hm : m < xs.length := by omega
    have hxw := hx m
    rw [hl]
    refine RunT.of_vc gOk Try.func12 rfl rfl (Nat.le_of_ble_eq_true rfl) (by repeat' (first | exact trivial | exact ⟨_, rfl, Nat.le_refl _⟩ | exact Nat.le_of_ble_eq_true rfl | refine And.intro ?_ ?_)) (Nat.le_of_ble_eq_true rfl) rfl (fun F hE => ?_)
    repeat' (first | exact trivial | refine BS.d (fun h => ?_) (fun h => ?_) | refine BS.e (fun h => ?_) (fun h => ?_) | refine BS.ne (fun h => ?_) (fun h => ?_) | refine BS.n ?_ | refine BS.s (fun h => ?_) (fun h => ?_) | refine And.intro ?_ ?_ | (refine Need.mk ?_; first | with_reducible rfl | (show @Eq TC _ _; rfl) | omega | (simp only [adN_zero]; omega)) | exact OutS.whole rfl rfl | (refine OpK.call c1 rfl rfl rfl rfl hE ?_ rfl rfl ?_; focus ((repeat' (first | exact PsA.lit _ | exact PsA.ref rfl rfl | constructor)); all_goals (fail "ps"))) | (refine OpK.call c2 rfl rfl rfl rfl hE ?_ rfl rfl ?_; focus ((repeat' (first | exact PsA.lit _ | exact PsA.ref rfl rfl | constructor)); all_goals (fail "ps"))) | refine ListO.go gOk hE ?_)
    refine CodeK.loop gOk hE (fun i : Nat => ⟨[(0, vr 1000000 xs.length), (1, vi m), (2, vi k), (7, vr 9 (bk k ((xs.getD m []).take i)).length), (8, vi i)], [(9, rI .own true 3 (bk k ((xs.getD m []).take i))), (1000000, rLL .fro false e' e xs)]⟩) (fun i => i ≤ (xs.getD m []).length) (fun i => (xs.getD m []).length - i) 0 (by refine leT.of ?_ ?_ rfl <;> repeat' (first | exact trivial | refine And.intro rfl ?_ | refine And.intro (by simp [bk]) ?_)) (Nat.zero_le _) ?_
    rintro i hi
    have hbl := bk_le k (xs.getD m []) i
    by_cases hi2 : i < (xs.getD m []).length
    · have hbt := bk_take (k := k) hi2
      by_cases hk : Int.tmod ((xs.getD m []).getD i (0, 0)).2 3 = k
      · rw [if_pos hk] at hbt
        repeat' (first | exact trivial | refine BS.d (fun h => ?_) (fun h => ?_) | refine BS.e (fun h => ?_) (fun h => ?_) | refine BS.ne (fun h => ?_) (fun h => ?_) | refine BS.n ?_ | refine BS.s (fun h => ?_) (fun h => ?_) | refine And.intro ?_ ?_ | (refine Need.mk ?_; first | with_reducible rfl | (show @Eq TC _ _; rfl) | omega | (simp only [adN_zero]; omega)) | exact OutS.whole rfl rfl | (refine OpK.call c1 rfl rfl rfl rfl hE ?_ rfl rfl ?_; focus ((repeat' (first | exact PsA.lit _ | exact PsA.ref rfl rfl | constructor)); all_goals (fail "ps"))) | (refine OpK.call c2 rfl rfl rfl rfl hE ?_ rfl rfl ?_; focus ((repeat' (first | exact PsA.lit _ | exact PsA.ref rfl rfl | constructor)); all_goals (fail "ps"))) | refine ListO.go gOk hE ?_)
        all_goals first | (exfalso; simp only [adN_zero] at *; omega) | (refine Need.mk ?_; simp only [adN_zero] at *; omega) | (refine Need.mk ?_; refine ⟨?_, ?_⟩ <;> (try unfold maxLen) <;> (try simp only [adN_zero] at *) <;> omega) | skip
        all_goals (try simp only [adN_zero])
        repeat' (first | exact trivial | refine BS.d (fun h => ?_) (fun h => ?_) | refine BS.e (fun h => ?_) (fun h => ?_) | refine BS.ne (fun h => ?_) (fun h => ?_) | refine BS.n ?_ | refine BS.s (fun h => ?_) (fun h => ?_) | refine And.intro ?_ ?_ | (refine Need.mk ?_; first | with_reducible rfl | (show @Eq TC _ _; rfl) | omega | (simp only [adN_zero]; omega)) | exact OutS.whole rfl rfl | refine ListO.go gOk hE ?_)
        all_goals (refine ⟨i + 1, (by refine leT.of ?_ ?_ rfl <;> repeat' (first | exact trivial | refine And.intro rfl ?_ | refine And.intro (by rw [hbt]; first | rfl | (simp; done) | (simp <;> rfl)) ?_)), ?_⟩; (refine And.intro ?_ ?_) <;> (first | omega | (dsimp only; omega) | trivial))
      · rw [if_neg hk] at hbt
        repeat' (first | exact trivial | refine BS.d (fun h => ?_) (fun h => ?_) | refine BS.e (fun h => ?_) (fun h => ?_) | refine BS.ne (fun h => ?_) (fun h => ?_) | refine BS.n ?_ | refine BS.s (fun h => ?_) (fun h => ?_) | refine And.intro ?_ ?_ | (refine Need.mk ?_; first | with_reducible rfl | (show @Eq TC _ _; rfl) | omega | (simp only [adN_zero]; omega)) | exact OutS.whole rfl rfl | (refine OpK.call c1 rfl rfl rfl rfl hE ?_ rfl rfl ?_; focus ((repeat' (first | exact PsA.lit _ | exact PsA.ref rfl rfl | constructor)); all_goals (fail "ps"))) | (refine OpK.call c2 rfl rfl rfl rfl hE ?_ rfl rfl ?_; focus ((repeat' (first | exact PsA.lit _ | exact PsA.ref rfl rfl | constructor)); all_goals (fail "ps"))) | refine ListO.go gOk hE ?_)
        all_goals first | (exfalso; simp only [adN_zero] at *; first | omega | (apply hk; assumption)) | (refine Need.mk ?_; simp only [adN_zero] at *; omega) | (refine Need.mk ?_; refine ⟨?_, ?_⟩ <;> (try unfold maxLen) <;> (try simp only [adN_zero] at *) <;> omega) | skip
        all_goals (refine ⟨i + 1, (by refine leT.of ?_ ?_ rfl <;> repeat' (first | exact trivial | refine And.intro rfl ?_ | refine And.intro (by rw [hbt]; first | rfl | (simp; done) | (simp <;> rfl)) ?_)), ?_⟩; (refine And.intro ?_ ?_) <;> (first | omega | (dsimp only; omega) | trivial))
    · repeat' (first | exact trivial | refine BS.d (fun h => ?_) (fun h => ?_) | refine BS.e (fun h => ?_) (fun h => ?_) | refine BS.ne (fun h => ?_) (fun h => ?_) | refine BS.n ?_ | refine BS.s (fun h => ?_) (fun h => ?_) | refine And.intro ?_ ?_ | (refine Need.mk ?_; first | with_reducible rfl | (show @Eq TC _ _; rfl) | omega | (simp only [adN_zero]; omega)) | exact OutS.whole rfl rfl | (refine OpK.call c1 rfl rfl rfl rfl hE ?_ rfl rfl ?_; focus ((repeat' (first | exact PsA.lit _ | exact PsA.ref rfl rfl | constructor)); all_goals (fail "ps"))) | (refine OpK.call c2 rfl rfl rfl rfl hE ?_ rfl rfl ?_; focus ((repeat' (first | exact PsA.lit _ | exact PsA.ref rfl rfl | constructor)); all_goals (fail "ps"))) | refine ListO.go gOk hE ?_)
      all_goals first | (exfalso; simp only [adN_zero] at *; omega) | (refine Need.mk ?_; simp only [adN_zero] at *; omega) | exact OutS.whole rfl (by rw [List.take_of_length_le (by omega)]; rfl) | trace_state
  · have hl : lBk xs w k = [] := by unfold lBk; rw [if_neg hw]
    rw [hl]
    refine RunT.of_vc gOk Try.func12 rfl rfl (Nat.le_of_ble_eq_true rfl) (by repeat' (first | exact trivial | exact ⟨_, rfl, Nat.le_refl _⟩ | exact Nat.le_of_ble_eq_true rfl | refine And.intro ?_ ?_)) (Nat.le_of_ble_eq_true rfl) rfl (fun F hE => ?_)
    repeat' (first | exact trivial | refine BS.d (fun h => ?_) (fun h => ?_) | refine BS.e (fun h => ?_) (fun h => ?_) | refine BS.ne (fun h => ?_) (fun h => ?_) | refine BS.n ?_ | refine BS.s (fun h => ?_) (fun h => ?_) | refine And.intro ?_ ?_ | (refine Need.mk ?_; first | with_reducible rfl | (show @Eq TC _ _; rfl) | omega | (simp only [adN_zero]; omega)) | exact OutS.whole rfl rfl | (refine OpK.call c1 rfl rfl rfl rfl hE ?_ rfl rfl ?_; focus ((repeat' (first | exact PsA.lit _ | exact PsA.ref rfl rfl | constructor)); all_goals (fail "ps"))) | (refine OpK.call c2 rfl rfl rfl rfl hE ?_ rfl rfl ?_; focus ((repeat' (first | exact PsA.lit _ | exact PsA.ref rfl rfl | constructor)); all_goals (fail "ps"))) | refine ListO.go gOk hE ?_)
    all_goals first | exact OutS.whole rfl rfl | exact absurd (by constructor <;> assumption) hw | trace_state
set_option maxHeartbeats 4000000 in
theorem BucketI_run (e' e : Nat) (xs : List (List Row)) (w k : Int) (hn : xs.length ≤ 1048576) (hcn : cnt xs ≤ 1048576) (hx : ∀ i, (xs.getD i []).length ≤ 1048576) (hmx : ∀ i, (xs.flatten.getD i (0, 0)).1 ≤ 9223372036854775807) : RunT Try.prog 14 [.one (.c (tLL e' e xs)), ti w, ti k] [] [.one (tI 3 (lBk xs w k))] [] := by
  have c1 := LimboOkI_run e' e xs hn hcn hmx
  have c2 := workerOk_run w
  by_cases hw : lOk xs = true ∧ 0 ≤ w ∧ w ≤ 2
  · obtain ⟨m, rfl⟩ := Int.eq_ofNat_of_zero_le hw.2.1
    have hl : lBk xs m k = bk k (xs.getD m []) := by unfold lBk; rw [if_pos hw]; rfl
    rw [hw.1] at c1
    rw [decide_eq_true hw.2] at c2
    have h3 := lOk_three hw.1
    have hm : m < xs.length := by omega
    have hxw := hx m
    rw [hl]
    refine RunT.of_vc gOk Try.func14 rfl rfl (Nat.le_of_ble_eq_true rfl) (by repeat' (first | exact trivial | exact ⟨_, rfl, Nat.le_refl _⟩ | exact Nat.le_of_ble_eq_true rfl | refine And.intro ?_ ?_)) (Nat.le_of_ble_eq_true rfl) rfl (fun F hE => ?_)
    repeat' (first | exact trivial | refine BS.d (fun h => ?_) (fun h => ?_) | refine BS.e (fun h => ?_) (fun h => ?_) | refine BS.ne (fun h => ?_) (fun h => ?_) | refine BS.n ?_ | refine BS.s (fun h => ?_) (fun h => ?_) | refine And.intro ?_ ?_ | (refine Need.mk ?_; first | with_reducible rfl | (show @Eq TC _ _; rfl) | omega | (simp only [adN_zero]; omega)) | exact OutS.whole rfl rfl | (refine OpK.call c1 rfl rfl rfl rfl hE ?_ rfl rfl ?_; focus ((repeat' (first | exact PsA.lit _ | exact PsA.ref rfl rfl | constructor)); all_goals (fail "ps"))) | (refine OpK.call c2 rfl rfl rfl rfl hE ?_ rfl rfl ?_; focus ((repeat' (first | exact PsA.lit _ | exact PsA.ref rfl rfl | constructor)); all_goals (fail "ps"))) | refine ListO.go gOk hE ?_)
    all_goals first | (refine Need.mk ?_; simp only [adN_zero] at *; omega) | skip
    refine CodeK.nilT gOk hE 7 900000 3 1 Int encI decI 0 (by rfl) (by rfl) (by decide) ?_
    repeat' (first | exact trivial | refine BS.d (fun h => ?_) (fun h => ?_) | refine BS.e (fun h => ?_) (fun h => ?_) | refine BS.ne (fun h => ?_) (fun h => ?_) | refine BS.n ?_ | refine BS.s (fun h => ?_) (fun h => ?_) | refine And.intro ?_ ?_ | (refine Need.mk ?_; first | with_reducible rfl | (show @Eq TC _ _; rfl) | omega | (simp only [adN_zero]; omega)) | exact OutS.whole rfl rfl | refine ListO.go gOk hE ?_)
    all_goals (try simp only [adN_zero])
    refine CodeK.loop gOk hE (fun i : Nat => ⟨[(2, vi k), (7, vr 900000 (bk k ((xs.getD m []).take i)).length), (22, vr 3022000 (xs.getD m []).length), (23, vi (xs.getD m []).length), (24, vi i)], [(900000, rI .own true 3 (bk k ((xs.getD m []).take i))), (3022000, rR .fro false e' (xs.getD m []))]⟩) (fun i => i ≤ (xs.getD m []).length) (fun i => (xs.getD m []).length - i) 0 (by refine leT.of ?_ ?_ rfl <;> repeat' (first | exact trivial | refine And.intro rfl ?_ | refine And.intro (by first | rfl | (simp [bk]; done) | (simp [bk] <;> rfl)) ?_)) (Nat.zero_le _) ?_
    rintro i hi
    have hbl := bk_le k (xs.getD m []) i
    by_cases hi2 : i < (xs.getD m []).length
    · have hbt := bk_take (k := k) hi2
      by_cases hk : Int.tmod ((xs.getD m []).getD i (0, 0)).2 3 = k
      · rw [if_pos hk] at hbt
        repeat' (first | exact trivial | refine BS.d (fun h => ?_) (fun h => ?_) | refine BS.e (fun h => ?_) (fun h => ?_) | refine BS.ne (fun h => ?_) (fun h => ?_) | refine BS.n ?_ | refine BS.s (fun h => ?_) (fun h => ?_) | refine And.intro ?_ ?_ | (refine Need.mk ?_; first | with_reducible rfl | (show @Eq TC _ _; rfl) | omega | (simp only [adN_zero]; omega)) | exact OutS.whole rfl rfl | (refine OpK.call c1 rfl rfl rfl rfl hE ?_ rfl rfl ?_; focus ((repeat' (first | exact PsA.lit _ | exact PsA.ref rfl rfl | constructor)); all_goals (fail "ps"))) | (refine OpK.call c2 rfl rfl rfl rfl hE ?_ rfl rfl ?_; focus ((repeat' (first | exact PsA.lit _ | exact PsA.ref rfl rfl | constructor)); all_goals (fail "ps"))) | refine ListO.go gOk hE ?_)
        all_goals first | (exfalso; (try simp only [adN_zero] at *); first | omega | contradiction) | (refine Need.mk ?_; simp only [adN_zero] at *; omega) | (refine Need.mk ?_; refine ⟨?_, ?_⟩ <;> (try unfold maxLen) <;> (try simp only [adN_zero] at *) <;> omega) | skip
        all_goals (try simp only [adN_zero])
        repeat' (first | exact trivial | refine BS.d (fun h => ?_) (fun h => ?_) | refine BS.e (fun h => ?_) (fun h => ?_) | refine BS.ne (fun h => ?_) (fun h => ?_) | refine BS.n ?_ | refine BS.s (fun h => ?_) (fun h => ?_) | refine And.intro ?_ ?_ | (refine Need.mk ?_; first | with_reducible rfl | (show @Eq TC _ _; rfl) | omega | (simp only [adN_zero]; omega)) | exact OutS.whole rfl rfl | refine ListO.go gOk hE ?_)
        all_goals (refine ⟨i + 1, (by refine leT.of ?_ ?_ rfl <;> repeat' (first | exact trivial | refine And.intro rfl ?_ | refine And.intro (by rw [hbt]; first | rfl | (simp; done) | (simp <;> rfl)) ?_)), ?_⟩; (refine And.intro ?_ ?_) <;> (first | omega | (dsimp only; omega) | trivial))
      · rw [if_neg hk] at hbt
        repeat' (first | exact trivial | refine BS.d (fun h => ?_) (fun h => ?_) | refine BS.e (fun h => ?_) (fun h => ?_) | refine BS.ne (fun h => ?_) (fun h => ?_) | refine BS.n ?_ | refine BS.s (fun h => ?_) (fun h => ?_) | refine And.intro ?_ ?_ | (refine Need.mk ?_; first | with_reducible rfl | (show @Eq TC _ _; rfl) | omega | (simp only [adN_zero]; omega)) | exact OutS.whole rfl rfl | (refine OpK.call c1 rfl rfl rfl rfl hE ?_ rfl rfl ?_; focus ((repeat' (first | exact PsA.lit _ | exact PsA.ref rfl rfl | constructor)); all_goals (fail "ps"))) | (refine OpK.call c2 rfl rfl rfl rfl hE ?_ rfl rfl ?_; focus ((repeat' (first | exact PsA.lit _ | exact PsA.ref rfl rfl | constructor)); all_goals (fail "ps"))) | refine ListO.go gOk hE ?_)
        all_goals first | (exfalso; (try simp only [adN_zero] at *); first | omega | (apply hk; assumption)) | (refine Need.mk ?_; simp only [adN_zero] at *; omega) | (refine Need.mk ?_; refine ⟨?_, ?_⟩ <;> (try unfold maxLen) <;> (try simp only [adN_zero] at *) <;> omega) | skip
        all_goals (refine ⟨i + 1, (by refine leT.of ?_ ?_ rfl <;> repeat' (first | exact trivial | refine And.intro rfl ?_ | refine And.intro (by rw [hbt]; first | rfl | (simp; done) | (simp <;> rfl)) ?_)), ?_⟩; (refine And.intro ?_ ?_) <;> (first | omega | (dsimp only; omega) | trivial))
    · repeat' (first | exact trivial | refine BS.d (fun h => ?_) (fun h => ?_) | refine BS.e (fun h => ?_) (fun h => ?_) | refine BS.ne (fun h => ?_) (fun h => ?_) | refine BS.n ?_ | refine BS.s (fun h => ?_) (fun h => ?_) | refine And.intro ?_ ?_ | (refine Need.mk ?_; first | with_reducible rfl | (show @Eq TC _ _; rfl) | omega | (simp only [adN_zero]; omega)) | exact OutS.whole rfl rfl | (refine OpK.call c1 rfl rfl rfl rfl hE ?_ rfl rfl ?_; focus ((repeat' (first | exact PsA.lit _ | exact PsA.ref rfl rfl | constructor)); all_goals (fail "ps"))) | (refine OpK.call c2 rfl rfl rfl rfl hE ?_ rfl rfl ?_; focus ((repeat' (first | exact PsA.lit _ | exact PsA.ref rfl rfl | constructor)); all_goals (fail "ps"))) | refine ListO.go gOk hE ?_)
      all_goals first | (exfalso; (try simp only [adN_zero] at *); omega) | (refine Need.mk ?_; simp only [adN_zero] at *; omega) | exact OutS.whole rfl (by rw [List.take_of_length_le (by omega)]; rfl) | trace_state
  · have hl : lBk xs w k = [] := by unfold lBk; rw [if_neg hw]
    rw [hl]
    refine RunT.of_vc gOk Try.func14 rfl rfl (Nat.le_of_ble_eq_true rfl) (by repeat' (first | exact trivial | exact ⟨_, rfl, Nat.le_refl _⟩ | exact Nat.le_of_ble_eq_true rfl | refine And.intro ?_ ?_)) (Nat.le_of_ble_eq_true rfl) rfl (fun F hE => ?_)
    repeat' (first | exact trivial | refine BS.d (fun h => ?_) (fun h => ?_) | refine BS.e (fun h => ?_) (fun h => ?_) | refine BS.ne (fun h => ?_) (fun h => ?_) | refine BS.n ?_ | refine BS.s (fun h => ?_) (fun h => ?_) | refine And.intro ?_ ?_ | (refine Need.mk ?_; first | with_reducible rfl | (show @Eq TC _ _; rfl) | omega | (simp only [adN_zero]; omega)) | exact OutS.whole rfl rfl | (refine OpK.call c1 rfl rfl rfl rfl hE ?_ rfl rfl ?_; focus ((repeat' (first | exact PsA.lit _ | exact PsA.ref rfl rfl | constructor)); all_goals (fail "ps"))) | (refine OpK.call c2 rfl rfl rfl rfl hE ?_ rfl rfl ?_; focus ((repeat' (first | exact PsA.lit _ | exact PsA.ref rfl rfl | constructor)); all_goals (fail "ps"))) | refine ListO.go gOk hE ?_)
    all_goals first | exact absurd ⟨‹lOk xs = true›, ‹0 ≤ w ∧ w ≤ 2›⟩ hw | exact Need.mk ⟨rfl, rfl, rfl⟩ | trace_state
end Go.Proofs.Ytbfkdbbgbdihdaa
