import Derived.Test.YtbfkdbbgbdihdabUE
namespace Go.Proofs.Ytbfkdbbgbdihdab
open Go Go.Tr
set_option maxRecDepth 100000
set_option maxHeartbeats 4000000
set_option linter.unusedVariables false
set_option linter.unusedSimpArgs false
/-- The first of n places, from place i on, that has the property. -/
def firstP (p : Nat → Bool) : Nat → Nat → Option Nat
  | _, 0 => none
  | i, m + 1 => if p i then some i else firstP p (i + 1) m
theorem firstP_yes {p : Nat → Bool} {i m : Nat} (hm : 0 < m) (h : p i = true) : firstP p i m = some i := by
  cases m with
  | zero => omega
  | succ m => unfold firstP; rw [if_pos h]
theorem firstP_no {p : Nat → Bool} {i m : Nat} (hm : 0 < m) (h : p i = false) : firstP p i m = firstP p (i + 1) (m - 1) := by
  cases m with
  | zero => omega
  | succ m => rw [firstP, if_neg (by simp [h])]; rfl
def plR : Option Nat → Int
  | some j => (j : Int)
  | none => -1
theorem firstP_lt {p : Nat → Bool} : ∀ {m i j : Nat}, firstP p i m = some j → i ≤ j ∧ j < i + m ∧ p j = true
  | 0, i, j, h => by cases h
  | m + 1, i, j, h => by
    unfold firstP at h
    split at h
    · injection h with h; subst h; exact ⟨Nat.le_refl _, by omega, by assumption⟩
    · have := firstP_lt h; exact ⟨by omega, by omega, this.2.2⟩
theorem firstP_none {p : Nat → Bool} : ∀ {m i : Nat}, firstP p i m = none → ∀ j, i ≤ j → j < i + m → p j = false
  | 0, i, h, j, h1, h2 => by omega
  | m + 1, i, h, j, h1, h2 => by
    unfold firstP at h
    split at h
    · cases h
    · rename_i hp
      by_cases e : j = i
      · subst e; simpa using hp
      · exact firstP_none h j (by omega) (by omega)
theorem l8HasT_run (xs : List Int) (x : Int) (hn : xs.length ≤ 4000000) : RunT Try.prog 35 [.one (.c (tI xs)), ti x] [] [ob (decide (x ∈ xs))] [] := by
  refine RunT.of_vc gOk Try.func35 rfl rfl (Nat.le_of_ble_eq_true rfl) (by repeat' (first | exact trivial | exact ⟨_, rfl, Nat.le_refl _⟩ | exact Nat.le_of_ble_eq_true rfl | refine And.intro ?_ ?_)) (Nat.le_of_ble_eq_true rfl) rfl (fun F hE => ?_)
  repeat' (first | exact trivial | refine BS.d (fun h => ?_) (fun h => ?_) | refine BS.e (fun h => ?_) (fun h => ?_) | refine BS.ne (fun h => ?_) (fun h => ?_) | refine BS.n ?_ | refine BS.s (fun h => ?_) (fun h => ?_) | refine And.intro ?_ ?_ | (refine Need.mk ?_; first | with_reducible rfl | (show @Eq TC _ _; rfl) | omega | (simp only [adN_zero]; omega)) | exact OutS.whole rfl rfl)
  refine CodeK.loop gOk hE (fun i : Nat => ⟨[(0, vr 1000000 xs.length), (1, vi x), (5, vi i)], [(1000000, rI .fro false xs)]⟩) (fun i => i ≤ xs.length ∧ ∀ j, j < i → xs.getD j 0 ≠ x) (fun i => xs.length - i) 0 (by refine leT.of ?_ ?_ rfl <;> repeat' (first | exact trivial | refine And.intro rfl ?_ | refine And.intro (by simp) ?_)) ⟨Nat.zero_le _, fun j hj => absurd hj (Nat.not_lt_zero _)⟩ ?_
  rintro i ⟨hi, hq⟩
  by_cases hp : xs.getD i 0 = x
  all_goals (repeat' (first | exact trivial | refine BS.d (fun h => ?_) (fun h => ?_) | refine BS.e (fun h => ?_) (fun h => ?_) | refine BS.ne (fun h => ?_) (fun h => ?_) | refine BS.n ?_ | refine BS.s (fun h => ?_) (fun h => ?_) | refine And.intro ?_ ?_ | (refine Need.mk ?_; first | with_reducible rfl | (show @Eq TC _ _; rfl) | omega | (simp only [adN_zero]; omega)) | exact OutS.whole rfl rfl))
  all_goals (try simp only [adN_zero] at *)
  all_goals first
    | (exfalso; first | omega | (simp_all; done))
    | (refine Need.mk ?_; symm; apply decide_eq_true; rw [← hp, List.getD_eq_getElem?_getD, List.getElem?_eq_getElem (by omega)]; exact List.getElem_mem _)
    | (refine Need.mk ?_; symm; apply decide_eq_false; intro hm; obtain ⟨j, hj, hj2⟩ := List.getElem_of_mem hm; exact hq j (by omega) (by rw [List.getD_eq_getElem?_getD, List.getElem?_eq_getElem hj]; exact hj2))
    | (refine ⟨i + 1, (by refine leT.of ?_ ?_ rfl <;> repeat' (first | exact trivial | refine And.intro rfl ?_ | refine And.intro (by simp) ?_)), ⟨by omega, fun j hj => (Nat.lt_or_ge j i).elim (hq j) (fun h9 => (show j = i by omega) ▸ hp)⟩, by first | omega | (dsimp only; omega)⟩)
theorem IndexI_run (xs : List Int) (x : Int) (hn : xs.length ≤ 4000000) : ∃ r : Int, (0 ≤ r ↔ x ∈ xs) ∧ RunT Try.prog 60 [.one (.c (tI xs)), ti x] [] [oi r] [] := by
  refine ⟨plR (firstP (fun j => decide (xs.getD j 0 = x)) 0 xs.length), ?_, ?_⟩
  · cases h : firstP (fun j => decide (xs.getD j 0 = x)) 0 xs.length with
    | none =>
      refine ⟨fun h => absurd h (by show ¬ (0 : Int) ≤ -1; omega), fun hm => ?_⟩
      obtain ⟨j, hj, hj2⟩ := List.getElem_of_mem hm
      exact absurd (firstP_none h j (Nat.zero_le _) (by omega)) (by simp [List.getD_eq_getElem?_getD, List.getElem?_eq_getElem hj, hj2])
    | some j =>
      obtain ⟨_, h2, h3⟩ := firstP_lt h
      refine ⟨fun _ => ?_, fun _ => (by show (0 : Int) ≤ (j : Int); omega)⟩
      have h4 : xs.getD j 0 = x := of_decide_eq_true h3
      rw [← h4, List.getD_eq_getElem?_getD, List.getElem?_eq_getElem (by omega)]; exact List.getElem_mem _
  · refine RunT.of_vc gOk Try.func60 rfl rfl (Nat.le_of_ble_eq_true rfl) (by repeat' (first | exact trivial | exact ⟨_, rfl, Nat.le_refl _⟩ | exact Nat.le_of_ble_eq_true rfl | refine And.intro ?_ ?_)) (Nat.le_of_ble_eq_true rfl) rfl (fun F hE => ?_)
    repeat' (first | exact trivial | refine BS.d (fun h => ?_) (fun h => ?_) | refine BS.e (fun h => ?_) (fun h => ?_) | refine BS.ne (fun h => ?_) (fun h => ?_) | refine BS.n ?_ | refine BS.s (fun h => ?_) (fun h => ?_) | refine And.intro ?_ ?_ | (refine Need.mk ?_; first | with_reducible rfl | (show @Eq TC _ _; rfl) | omega | (simp only [adN_zero]; omega)) | exact OutS.whole rfl rfl)
    refine CodeK.loop gOk hE (fun i : Nat => ⟨[(0, vr 1000000 xs.length), (1, vi x), (7, vi xs.length), (8, vi i)], [(1000000, rI .fro false xs)]⟩) (fun i => i ≤ xs.length ∧ firstP (fun j => decide (xs.getD j 0 = x)) 0 xs.length = firstP (fun j => decide (xs.getD j 0 = x)) i (xs.length - i)) (fun i => xs.length - i) 0 (by refine leT.of ?_ ?_ rfl <;> repeat' (first | exact trivial | refine And.intro rfl ?_ | refine And.intro (by simp) ?_)) ⟨Nat.zero_le _, rfl⟩ ?_
    rintro i ⟨hi, hs⟩
    by_cases hp : xs.getD i 0 = x
    all_goals (repeat' (first | exact trivial | refine BS.d (fun h => ?_) (fun h => ?_) | refine BS.e (fun h => ?_) (fun h => ?_) | refine BS.ne (fun h => ?_) (fun h => ?_) | refine BS.n ?_ | refine BS.s (fun h => ?_) (fun h => ?_) | refine And.intro ?_ ?_ | (refine Need.mk ?_; first | with_reducible rfl | (show @Eq TC _ _; rfl) | omega | (simp only [adN_zero]; omega)) | exact OutS.whole rfl rfl))
    all_goals (try simp only [adN_zero] at *)
    all_goals first
      | (exfalso; first | omega | (simp_all; done))
      | (refine Need.mk ?_; rw [hs, firstP_yes (by omega) (decide_eq_true hp)]; rfl)
      | (refine Need.mk ?_; rw [hs, show xs.length - i = 0 by omega]; rfl)
      | (refine ⟨i + 1, (by refine leT.of ?_ ?_ rfl <;> repeat' (first | exact trivial | refine And.intro rfl ?_ | refine And.intro (by simp) ?_)), ⟨by omega, by rw [hs, firstP_no (by omega) (decide_eq_false hp), show xs.length - i - 1 = xs.length - (i + 1) by omega]⟩, by first | omega | (dsimp only; omega)⟩)
theorem ContainsI_run (xs : List Int) (x : Int) (hn : xs.length ≤ 4000000) : RunT Try.prog 40 [.one (.c (tI xs)), ti x] [] [ob (decide (x ∈ xs))] [] := by
  obtain ⟨r, h1, c1⟩ := IndexI_run xs x hn
  refine RunT.of_vc gOk Try.func40 rfl rfl (Nat.le_of_ble_eq_true rfl) (by repeat' (first | exact trivial | exact ⟨_, rfl, Nat.le_refl _⟩ | exact Nat.le_of_ble_eq_true rfl | refine And.intro ?_ ?_)) (Nat.le_of_ble_eq_true rfl) rfl (fun F hE => ?_)
  repeat' (first | exact trivial | refine BS.d (fun h => ?_) (fun h => ?_) | refine BS.e (fun h => ?_) (fun h => ?_) | refine BS.ne (fun h => ?_) (fun h => ?_) | refine BS.n ?_ | refine BS.s (fun h => ?_) (fun h => ?_) | refine And.intro ?_ ?_ | (refine Need.mk ?_; first | with_reducible rfl | (show @Eq TC _ _; rfl) | omega | (simp only [adN_zero]; omega)) | exact OutS.whole rfl rfl | (refine OpK.call c1 rfl rfl rfl rfl hE ?_ rfl rfl ?_; focus ((repeat' (first | exact PsA.lit _ | exact PsA.ref rfl rfl | constructor)); all_goals (fail "ps"))))
  all_goals (refine Need.mk ?_; exact decide_eq_decide.2 h1)
theorem ContainsI_told {hc : Hc} (xs : List Int) (x : Int) (hn : xs.length ≤ 4000000) : RunH Try.prog hc 40 [.one (.c (tI xs)), ti x] [] [ob (decide (x ∈ xs))] [] := (ContainsI_run xs x hn).toH hc
theorem OnList_told {hc : Hc} (gs os : List Hdr) (xss : List (List Int)) (x : Int) (A1 A2 : Option Addr) (n1 n2 c1 c2 : Nat) (h1 : RowTold hc A1 n1 c1 1 Hdr encH dH gs) (h2 : RowTold hc A2 n2 c2 1 Hdr encH dH os) (hn : gs.length + os.length ≤ 1048576) (hX : Hs hc (gs ++ os) xss) (hx : ∀ i, (xss.getD i []).length ≤ 1048576) :
    RunH Try.prog hc 16 [.agg [.c (.lit (.slice A1 n1 c1)), .c (.lit (.slice A2 n2 c2))], ti x] [] [ob (decide (x ∈ xss.flatten))] [] := by
  have cC := Concat_run gs os A1 A2 n1 n2 c1 c2 h1 h2 hn
  have hlen : (gs ++ os).length ≤ 1048576 := by simp; omega
  have hxl := hX.len
  refine RunH.of_vc gOk Try.func16 rfl rfl (Nat.le_of_ble_eq_true rfl) (by repeat' (first | exact trivial | exact ⟨_, rfl, Nat.le_refl _⟩ | exact Nat.le_of_ble_eq_true rfl | refine And.intro ?_ ?_)) (Nat.le_of_ble_eq_true rfl) rfl (fun F hE hA => ?_)
  repeat' (first | exact trivial | refine BS.d (fun h => ?_) (fun h => ?_) | refine BS.e (fun h => ?_) (fun h => ?_) | refine BS.ne (fun h => ?_) (fun h => ?_) | refine BS.n ?_ | refine BS.s (fun h => ?_) (fun h => ?_) | refine And.intro ?_ ?_ | (refine Need.mk ?_; first | with_reducible rfl | (show @Eq TC _ _; rfl) | omega | (simp only [adN_zero]; omega)) | exact OutS.whole rfl rfl | (refine OpK.bs2 gOk rfl rfl rfl rfl rfl rfl rfl rfl rfl rfl (by decide) ?_) | (refine OpK.callH cC hA rfl rfl rfl rfl hE ?_ rfl rfl ?_; focus ((repeat' (first | exact PsA.lit _ | exact PsA.ref rfl rfl | constructor)); all_goals (fail "ps"))))
  generalize gs ++ os = hs at *
  refine CodeK.loop gOk hE (fun i : Nat => ⟨[(1, vi x), (12, vr 2001536 hs.length), (13, vi hs.length), (14, vi i)], [(2001536, rH .own true 52 hs)]⟩) (fun i => i ≤ hs.length ∧ ∀ j, j < i → x ∉ xss.getD j []) (fun i => hs.length - i) 0 (by refine leT.of ?_ ?_ rfl <;> repeat' (first | exact trivial | refine And.intro rfl ?_ | refine And.intro (by simp) ?_)) ⟨Nat.zero_le _, fun j hj => absurd hj (Nat.not_lt_zero _)⟩ ?_
  rintro i ⟨hi, hq⟩
  by_cases hi2 : i < hs.length
  · have hT := hX.at_ i hi2
    have hTl := hT.len
    have c1 := ContainsI_run (xss.getD i []) x (by have := hx i; omega)
    by_cases hin : x ∈ xss.getD i []
    · rw [decide_eq_true hin] at c1
      repeat' (first | exact trivial | refine BS.d (fun h => ?_) (fun h => ?_) | refine BS.e (fun h => ?_) (fun h => ?_) | refine BS.ne (fun h => ?_) (fun h => ?_) | refine BS.n ?_ | refine BS.s (fun h => ?_) (fun h => ?_) | refine And.intro ?_ ?_ | (refine Need.mk ?_; first | with_reducible rfl | (show @Eq TC _ _; rfl) | omega | (simp only [adN_zero]; omega)) | exact OutS.whole rfl rfl | (refine OpK.tell gOk hA hE 19 5000 3 decI hT rfl rfl rfl rfl rfl ?_) | (refine OpK.call c1 rfl rfl rfl rfl hE (.cons (.one (.ref rfl hTl)) (.cons (.one (.lit _)) .nil)) rfl rfl ?_))
      all_goals (try simp only [adN_zero] at *)
      all_goals first
        | (exfalso; omega)
        | (refine Need.mk ?_; omega)
        | (refine Need.mk ?_; symm; apply decide_eq_true; rw [List.mem_flatten]; refine ⟨_, ?_, hin⟩; rw [List.getD_eq_getElem?_getD, List.getElem?_eq_getElem (by omega)]; exact List.getElem_mem _)
    · rw [decide_eq_false hin] at c1
      repeat' (first | exact trivial | refine BS.d (fun h => ?_) (fun h => ?_) | refine BS.e (fun h => ?_) (fun h => ?_) | refine BS.ne (fun h => ?_) (fun h => ?_) | refine BS.n ?_ | refine BS.s (fun h => ?_) (fun h => ?_) | refine And.intro ?_ ?_ | (refine Need.mk ?_; first | with_reducible rfl | (show @Eq TC _ _; rfl) | omega | (simp only [adN_zero]; omega)) | exact OutS.whole rfl rfl | (refine OpK.tell gOk hA hE 19 5000 3 decI hT rfl rfl rfl rfl rfl ?_) | (refine OpK.call c1 rfl rfl rfl rfl hE (.cons (.one (.ref rfl hTl)) (.cons (.one (.lit _)) .nil)) rfl rfl ?_))
      all_goals (try simp only [adN_zero] at *)
      all_goals first
        | (exfalso; omega)
        | (refine Need.mk ?_; omega)
        | (refine ⟨i + 1, (by refine leT.of ?_ ?_ rfl <;> repeat' (first | exact trivial | refine And.intro rfl ?_ | refine And.intro (by simp) ?_)), ⟨by omega, fun j hj => (Nat.lt_or_ge j i).elim (hq j) (fun h9 => (show j = i by omega) ▸ hin)⟩, by first | omega | (dsimp only; omega)⟩)
  · repeat' (first | exact trivial | refine BS.d (fun h => ?_) (fun h => ?_) | refine BS.e (fun h => ?_) (fun h => ?_) | refine BS.ne (fun h => ?_) (fun h => ?_) | refine BS.n ?_ | refine BS.s (fun h => ?_) (fun h => ?_) | refine And.intro ?_ ?_ | (refine Need.mk ?_; first | with_reducible rfl | (show @Eq TC _ _; rfl) | omega | (simp only [adN_zero]; omega)) | exact OutS.whole rfl rfl | (refine OpK.call cC rfl rfl rfl rfl hE ?_ rfl rfl ?_; focus ((repeat' (first | exact PsA.lit _ | exact PsA.ref rfl rfl | constructor)); all_goals (fail "ps"))))
    all_goals (try simp only [adN_zero] at *)
    all_goals first
      | (exfalso; omega)
      | (refine Need.mk ?_; symm; apply decide_eq_false; intro hm; obtain ⟨l, hl, hl2⟩ := List.mem_flatten.1 hm; obtain ⟨j, hj, rfl⟩ := List.getElem_of_mem hl; exact hq j (by omega) (by rw [List.getD_eq_getElem?_getD, List.getElem?_eq_getElem hj]; exact hl2))
theorem OnListI_run (e e' : Nat) (g o : List (List Int)) (x : Int) (hgo : g.length + o.length ≤ 1048576) (hx : ∀ i, ((g ++ o).getD i []).length ≤ 1048576) : RunT Try.prog 16 [.agg [.c (tSL e g), .c (tSL e' o)], ti x] [] [ob (decide (x ∈ (g ++ o).flatten))] [] := by
  refine of_told ⟨_, Try.func16, rfl, rfl⟩ (fun hc gs os A1 A2 n1 n2 c1 c2 t1 t2 s1 s2 => ?_)
  exact OnList_told gs os (g ++ o) x A1 A2 n1 n2 c1 c2 t1 t2 (by rw [s1.len, s2.len]; exact hgo) (s1.append s2) hx
theorem intFlat : ∀ (x : Int) (r : Nat), r < 1 → ∃ v, encI x r = .lit v ∧ encI x r = .lit v := fun x r _ => ⟨_, rfl, rfl⟩
theorem take_flat {xs : List (List Int)} {i : Nat} (h : i < xs.length) : (xs.take (i + 1)).flatten = (xs.take i).flatten ++ xs.getD i [] := by
  rw [List.take_succ_eq_append_getElem h, List.flatten_append]
  congr 1
  simp [List.getD, h]
theorem take_le (xs : List (List Int)) (i : Nat) : (xs.take i).flatten.length ≤ xs.flatten.length := by
  conv => rhs; rw [← List.take_append_drop i xs]
  rw [List.flatten_append, List.length_append]; omega
theorem l8All_run (e e' : Nat) (g o : List (List Int)) (hg : g.length ≤ 1048576) (ho : o.length ≤ 1048576) (hf : g.flatten.length + o.flatten.length ≤ 1048576) : RunT Try.prog 33 [.agg [.c (tSL e g), .c (tSL e' o)]] [] [.one (tI (g ++ o).flatten)] [] := by
  rw [List.flatten_append]
  refine RunT.of_vc gOk Try.func33 rfl rfl (Nat.le_of_ble_eq_true rfl) (by repeat' (first | exact trivial | exact ⟨_, rfl, Nat.le_refl _⟩ | exact Nat.le_of_ble_eq_true rfl | refine And.intro ?_ ?_)) (Nat.le_of_ble_eq_true rfl) rfl (fun F hE => ?_)
  repeat' (first | exact trivial | refine BS.d (fun h => ?_) (fun h => ?_) | refine BS.e (fun h => ?_) (fun h => ?_) | refine BS.ne (fun h => ?_) (fun h => ?_) | refine BS.n ?_ | refine BS.s (fun h => ?_) (fun h => ?_) | refine And.intro ?_ ?_ | (refine Need.mk ?_; first | with_reducible rfl | (show @Eq TC _ _; rfl) | omega | (simp only [adN_zero]; omega)) | exact OutS.whole rfl rfl)
  refine CodeK.loop gOk hE (fun i : Nat => ⟨[(1, .ptr 1 0 0), (3, vr 6 (g.take i).flatten.length), (4, vi i)], [(6, rI .own true (g.take i).flatten), (1, .box 29 [.ref 1000000 0 g.length, .ref 1000001 0 o.length]), (1000000, rSL .fro false e g), (1000001, rSL .fro false e' o)]⟩) (fun i => i ≤ g.length) (fun i => g.length - i) 0 (by refine leT.of ?_ ?_ rfl <;> repeat' (first | exact trivial | refine And.intro rfl ?_ | refine And.intro (by first | rfl | (simp; done) | (simp <;> rfl)) ?_)) (Nat.zero_le _) ?_
  rintro i hi
  have hl := take_le g i
  have hl2 := take_le g (i + 1)
  by_cases hi2 : i < g.length
  · have ht := take_flat hi2
    rw [ht, List.length_append] at hl2
    repeat' (first | exact trivial | refine BS.d (fun h => ?_) (fun h => ?_) | refine BS.e (fun h => ?_) (fun h => ?_) | refine BS.ne (fun h => ?_) (fun h => ?_) | refine BS.n ?_ | refine BS.s (fun h => ?_) (fun h => ?_) | refine And.intro ?_ ?_ | (refine Need.mk ?_; first | with_reducible rfl | (show @Eq TC _ _; rfl) | omega | (simp only [adN_zero]; omega)) | exact OutS.whole rfl rfl)
    all_goals (try simp only [adN_zero] at *)
    all_goals first | (exfalso; omega) | (refine Need.mk ?_; omega) | skip
    refine OpK.apps gOk (by rfl) (by rfl) (by rfl) (by rfl) (by rfl) (by rfl) (by rfl) (by rfl) (by rfl) (by rfl) (by first | rfl | simp) (by exact intFlat) (by rfl) (by refine ⟨?_, ?_⟩ <;> (try unfold maxLen) <;> (try simp only [adN_zero]) <;> omega) ?_
    repeat' (first | exact trivial | refine BS.d (fun h => ?_) (fun h => ?_) | refine BS.e (fun h => ?_) (fun h => ?_) | refine BS.ne (fun h => ?_) (fun h => ?_) | refine BS.n ?_ | refine BS.s (fun h => ?_) (fun h => ?_) | refine And.intro ?_ ?_ | (refine Need.mk ?_; first | with_reducible rfl | (show @Eq TC _ _; rfl) | omega | (simp only [adN_zero]; omega)) | exact OutS.whole rfl rfl)
    all_goals (try simp only [adN_zero] at *)
    all_goals (refine ⟨i + 1, (by refine leT.of ?_ ?_ rfl <;> repeat' (first | exact trivial | refine And.intro rfl ?_ | refine And.intro (by rw [ht]; first | rfl | (simp; done) | (simp <;> rfl)) ?_)), ?_⟩; (refine And.intro ?_ ?_) <;> (first | omega | (dsimp only; omega) | trivial))
  · rw [show (g.take i) = g from List.take_of_length_le (by omega)]
    repeat' (first | exact trivial | refine BS.d (fun h => ?_) (fun h => ?_) | refine BS.e (fun h => ?_) (fun h => ?_) | refine BS.ne (fun h => ?_) (fun h => ?_) | refine BS.n ?_ | refine BS.s (fun h => ?_) (fun h => ?_) | refine And.intro ?_ ?_ | (refine Need.mk ?_; first | with_reducible rfl | (show @Eq TC _ _; rfl) | omega | (simp only [adN_zero]; omega)) | exact OutS.whole rfl rfl)
    all_goals (try simp only [adN_zero] at *)
    all_goals first | (exfalso; omega) | skip
    refine CodeK.loop gOk hE (fun i : Nat => ⟨[(1, .ptr 1 0 0), (3, vr 6 (g.flatten ++ (o.take i).flatten).length), (5, vi i)], [(6, rI .own true (g.flatten ++ (o.take i).flatten)), (1, .box 29 [.ref 1000000 0 g.length, .ref 1000001 0 o.length]), (1000000, rSL .fro false e g), (1000001, rSL .fro false e' o)]⟩) (fun i => i ≤ o.length) (fun i => o.length - i) 0 (by refine leT.of ?_ ?_ rfl <;> repeat' (first | exact trivial | refine And.intro rfl ?_ | refine And.intro (by first | rfl | (simp; done) | (simp <;> rfl)) ?_)) (Nat.zero_le _) ?_
    rintro k hk
    have kl := take_le o k
    have kl2 := take_le o (k + 1)
    by_cases hk2 : k < o.length
    · have ht := take_flat hk2
      rw [ht, List.length_append] at kl2
      have kq : (g.flatten ++ (o.take k).flatten).length = g.flatten.length + (o.take k).flatten.length := List.length_append
      repeat' (first | exact trivial | refine BS.d (fun h => ?_) (fun h => ?_) | refine BS.e (fun h => ?_) (fun h => ?_) | refine BS.ne (fun h => ?_) (fun h => ?_) | refine BS.n ?_ | refine BS.s (fun h => ?_) (fun h => ?_) | refine And.intro ?_ ?_ | (refine Need.mk ?_; first | with_reducible rfl | (show @Eq TC _ _; rfl) | omega | (simp only [adN_zero]; omega)) | exact OutS.whole rfl rfl)
      all_goals (try simp only [adN_zero] at *)
      all_goals first | (exfalso; omega) | (refine Need.mk ?_; omega) | skip
      refine OpK.apps gOk (by rfl) (by rfl) (by rfl) (by rfl) (by rfl) (by rfl) (by rfl) (by rfl) (by rfl) (by rfl) (by first | rfl | simp) (by exact intFlat) (by rfl) (by refine ⟨?_, ?_⟩ <;> (try unfold maxLen) <;> (try simp only [adN_zero]) <;> omega) ?_
      repeat' (first | exact trivial | refine BS.d (fun h => ?_) (fun h => ?_) | refine BS.e (fun h => ?_) (fun h => ?_) | refine BS.ne (fun h => ?_) (fun h => ?_) | refine BS.n ?_ | refine BS.s (fun h => ?_) (fun h => ?_) | refine And.intro ?_ ?_ | (refine Need.mk ?_; first | with_reducible rfl | (show @Eq TC _ _; rfl) | omega | (simp only [adN_zero]; omega)) | exact OutS.whole rfl rfl)
      all_goals (try simp only [adN_zero] at *)
      all_goals (refine ⟨k + 1, (by refine leT.of ?_ ?_ rfl <;> repeat' (first | exact trivial | refine And.intro rfl ?_ | refine And.intro (by rw [ht, ← List.append_assoc]; first | rfl | (simp; done) | (simp <;> rfl)) ?_)), ?_⟩; (refine And.intro ?_ ?_) <;> (first | omega | (dsimp only; omega) | trivial))
    · repeat' (first | exact trivial | refine BS.d (fun h => ?_) (fun h => ?_) | refine BS.e (fun h => ?_) (fun h => ?_) | refine BS.ne (fun h => ?_) (fun h => ?_) | refine BS.n ?_ | refine BS.s (fun h => ?_) (fun h => ?_) | refine And.intro ?_ ?_ | (refine Need.mk ?_; first | with_reducible rfl | (show @Eq TC _ _; rfl) | omega | (simp only [adN_zero]; omega)) | exact OutS.whole rfl rfl)
      all_goals first | (exfalso; omega) | exact OutS.whole rfl (by rw [List.take_of_length_le (by omega)]; rfl)
theorem OnListS_run (e e' : Nat) (g o : List (List Int)) (x : Int) (hg : g.length ≤ 1048576) (ho : o.length ≤ 1048576) (hf : g.flatten.length + o.flatten.length ≤ 1048576) : RunT Try.prog 15 [.agg [.c (tSL e g), .c (tSL e' o)], ti x] [] [ob (decide (x ∈ (g ++ o).flatten))] [] := by
  have c1 := l8All_run e e' g o hg ho hf
  have c2 := l8HasT_run (g ++ o).flatten x (by rw [List.flatten_append, List.length_append]; omega)
  refine RunT.of_vc gOk Try.func15 rfl rfl (Nat.le_of_ble_eq_true rfl) (by repeat' (first | exact trivial | exact ⟨_, rfl, Nat.le_refl _⟩ | exact Nat.le_of_ble_eq_true rfl | refine And.intro ?_ ?_)) (Nat.le_of_ble_eq_true rfl) rfl (fun F hE => ?_)
  repeat' (first | exact trivial | refine BS.d (fun h => ?_) (fun h => ?_) | refine BS.e (fun h => ?_) (fun h => ?_) | refine BS.ne (fun h => ?_) (fun h => ?_) | refine BS.n ?_ | refine BS.s (fun h => ?_) (fun h => ?_) | refine And.intro ?_ ?_ | (refine Need.mk ?_; first | with_reducible rfl | (show @Eq TC _ _; rfl) | omega | (simp only [adN_zero]; omega)) | exact OutS.whole rfl rfl | (refine OpK.call c1 rfl rfl rfl rfl hE ?_ rfl rfl ?_; focus ((repeat' (first | exact PsA.lit _ | exact PsA.ref rfl rfl | constructor)); all_goals (fail "ps"))) | (refine OpK.call c2 rfl rfl rfl rfl hE ?_ rfl rfl ?_; focus ((repeat' (first | exact PsA.lit _ | exact PsA.ref rfl rfl | constructor)); all_goals (fail "ps"))))
end Go.Proofs.Ytbfkdbbgbdihdab
