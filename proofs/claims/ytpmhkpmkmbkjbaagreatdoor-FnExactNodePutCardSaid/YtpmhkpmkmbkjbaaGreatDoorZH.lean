import Derived.Test.YtpmhkpmkmbkjbaaGreatDoorZD
import Derived.Test.YtpmhkpmkmbkjbaaGreatDoorZE
import Derived.Test.YtpmhkpmkmbkjbaaGreatDoorZO
section
namespace Go.Proofs.YtpmhkpmkmbkjbaaGreatDoor
open Go Go.Tr
set_option maxRecDepth 100000
set_option maxHeartbeats 4000000
set_option linter.unusedVariables false
set_option linter.unusedSimpArgs false
theorem IndexI_run (xs : List Int) (x : Int) (hn : xs.length ≤ 4000000) : ∃ r : Int, (0 ≤ r ↔ x ∈ xs) ∧ RunT Tryz.prog 207 [.one (.c (tI xs)), ti x] [] [oi r] [] := by
  refine ⟨plR (firstP (fun j => decide (xs.getD j 0 = x)) 0 xs.length), ?_, ?_⟩
  · cases h : firstP (fun j => decide (xs.getD j 0 = x)) 0 xs.length with
    | none =>
      refine ⟨fun h => absurd h (by show ¬ (0 : Int) ≤ -1; omega), fun hm => ?_⟩
      obtain ⟨j, hj, hj2⟩ := List.getElem_of_mem hm
      exact absurd (firstP_none h j (Nat.zero_le _) (by omega)) (by simp [List.getD_eq_getElem?_getD, List.getElem?_eq_getElem hj, hj2])
    | some j =>
      obtain ⟨_, h2, h3⟩ := firstP_lt h
      refine ⟨fun _ => ?_, fun _ => (by show (0 : Int) ≤ (j : Int); omega)⟩
      have h4 : xs.getD j 0 = x := of_decide_eq_true h3
      rw [← h4, List.getD_eq_getElem?_getD, List.getElem?_eq_getElem (by omega)]; exact List.getElem_mem _
  · refine RunT.of_vc gOk Tryz.func207 rfl rfl (Nat.le_of_ble_eq_true rfl) (by repeat' (first | exact trivial | exact ⟨_, rfl, Nat.le_refl _⟩ | exact Nat.le_of_ble_eq_true rfl | refine And.intro ?_ ?_)) (Nat.le_of_ble_eq_true rfl) rfl (fun F hE => ?_)
    repeat' (first | exact trivial | refine BS.d (fun h => ?_) (fun h => ?_) | refine BS.e (fun h => ?_) (fun h => ?_) | refine BS.ne (fun h => ?_) (fun h => ?_) | refine BS.n ?_ | refine BS.s (fun h => ?_) (fun h => ?_) | refine And.intro ?_ ?_ | (refine Need.mk ?_; first | with_reducible rfl | (show @Eq TC _ _; rfl) | omega | (simp only [adN_zero]; omega)) | exact OutS.whole rfl rfl | refine ListO.go gOk hE ?_)
    refine CodeK.loop gOk hE (fun i : Nat => ⟨[(0, vr 1000000 xs.length), (1, vi x), (7, vi xs.length), (8, vi i)], [(1000000, rI .fro false xs)]⟩) (fun i => i ≤ xs.length ∧ firstP (fun j => decide (xs.getD j 0 = x)) 0 xs.length = firstP (fun j => decide (xs.getD j 0 = x)) i (xs.length - i)) (fun i => xs.length - i) 0 (by refine leT.of ?_ ?_ rfl <;> repeat' (first | exact trivial | refine And.intro rfl ?_ | refine And.intro (by simp) ?_)) ⟨Nat.zero_le _, rfl⟩ ?_
    rintro i ⟨hi, hs⟩
    by_cases hp : xs.getD i 0 = x
    all_goals (repeat' (first | exact trivial | refine BS.d (fun h => ?_) (fun h => ?_) | refine BS.e (fun h => ?_) (fun h => ?_) | refine BS.ne (fun h => ?_) (fun h => ?_) | refine BS.n ?_ | refine BS.s (fun h => ?_) (fun h => ?_) | refine And.intro ?_ ?_ | (refine Need.mk ?_; first | with_reducible rfl | (show @Eq TC _ _; rfl) | omega | (simp only [adN_zero]; omega)) | exact OutS.whole rfl rfl | refine ListO.go gOk hE ?_))
    all_goals (try simp only [adN_zero] at *)
    all_goals first
      | (exfalso; first | omega | (simp_all; done))
      | (refine Need.mk ?_; rw [hs, firstP_yes (by omega) (decide_eq_true hp)]; rfl)
      | (refine Need.mk ?_; rw [hs, show xs.length - i = 0 by omega]; rfl)
      | (refine ⟨i + 1, (by refine leT.of ?_ ?_ rfl <;> repeat' (first | exact trivial | refine And.intro rfl ?_ | refine And.intro (by simp) ?_)), ⟨by omega, by rw [hs, firstP_no (by omega) (decide_eq_false hp), show xs.length - i - 1 = xs.length - (i + 1) by omega]⟩, by first | omega | (dsimp only; omega)⟩)
theorem ContainsI_run (xs : List Int) (x : Int) (hn : xs.length ≤ 4000000) : RunT Tryz.prog 205 [.one (.c (tI xs)), ti x] [] [ob (decide (x ∈ xs))] [] := by
  obtain ⟨r, h1, c1⟩ := IndexI_run xs x hn
  refine RunT.of_vc gOk Tryz.func205 rfl rfl (Nat.le_of_ble_eq_true rfl) (by repeat' (first | exact trivial | exact ⟨_, rfl, Nat.le_refl _⟩ | exact Nat.le_of_ble_eq_true rfl | refine And.intro ?_ ?_)) (Nat.le_of_ble_eq_true rfl) rfl (fun F hE => ?_)
  repeat' (first | exact trivial | refine BS.d (fun h => ?_) (fun h => ?_) | refine BS.e (fun h => ?_) (fun h => ?_) | refine BS.ne (fun h => ?_) (fun h => ?_) | refine BS.n ?_ | refine BS.s (fun h => ?_) (fun h => ?_) | refine And.intro ?_ ?_ | (refine Need.mk ?_; first | with_reducible rfl | (show @Eq TC _ _; rfl) | omega | (simp only [adN_zero]; omega)) | exact OutS.whole rfl rfl | (refine OpK.call c1 rfl rfl rfl rfl hE ?_ rfl rfl ?_; focus ((repeat' (first | exact PsA.lit _ | exact PsA.ref rfl rfl | constructor)); all_goals (fail "ps"))) | refine ListO.go gOk hE ?_)
  all_goals (refine Need.mk ?_; exact decide_eq_decide.2 h1)
theorem ContainsI_told {hc : Hc} (xs : List Int) (x : Int) (hn : xs.length ≤ 4000000) : RunH Tryz.prog hc 205 [.one (.c (tI xs)), ti x] [] [ob (decide (x ∈ xs))] [] := (ContainsI_run xs x hn).toH hc
theorem OnList_told {hc : Hc} (gs os : List Hdr) (xss : List (List Int)) (x : Int) (A1 A2 : Option Addr) (n1 n2 c1 c2 : Nat) (h1 : RowTold hc A1 n1 c1 1 Hdr encH dH gs) (h2 : RowTold hc A2 n2 c2 1 Hdr encH dH os) (hn : gs.length + os.length ≤ 1048576) (hX : Hs hc (gs ++ os) xss) (hx : ∀ i, (xss.getD i []).length ≤ 1048576) :
    RunH Tryz.prog hc 163 [.agg [.c (.lit (.slice A1 n1 c1)), .c (.lit (.slice A2 n2 c2))], ti x] [] [ob (decide (x ∈ xss.flatten))] [] := by
  have cC := Concat_run gs os A1 A2 n1 n2 c1 c2 h1 h2 hn
  have hlen : (gs ++ os).length ≤ 1048576 := by simp; omega
  have hxl := hX.len
  refine RunH.of_vc gOk Tryz.func163 rfl rfl (Nat.le_of_ble_eq_true rfl) (by repeat' (first | exact trivial | exact ⟨_, rfl, Nat.le_refl _⟩ | exact Nat.le_of_ble_eq_true rfl | refine And.intro ?_ ?_)) (Nat.le_of_ble_eq_true rfl) rfl (fun F hE hA => ?_)
  repeat' (first | exact trivial | refine BS.d (fun h => ?_) (fun h => ?_) | refine BS.e (fun h => ?_) (fun h => ?_) | refine BS.ne (fun h => ?_) (fun h => ?_) | refine BS.n ?_ | refine BS.s (fun h => ?_) (fun h => ?_) | refine And.intro ?_ ?_ | (refine Need.mk ?_; first | with_reducible rfl | (show @Eq TC _ _; rfl) | omega | (simp only [adN_zero]; omega)) | exact OutS.whole rfl rfl | (refine OpK.bs2 gOk rfl rfl rfl rfl rfl rfl rfl rfl rfl rfl (by decide) ?_) | (refine OpK.callH cC hA rfl rfl rfl rfl hE ?_ rfl rfl ?_; focus ((repeat' (first | exact PsA.lit _ | exact PsA.ref rfl rfl | constructor)); all_goals (fail "ps"))) | refine ListO.go gOk hE ?_)
  generalize gs ++ os = hs at *
  refine CodeK.loop gOk hE (fun i : Nat => ⟨[(1, vi x), (12, vr 2001536 hs.length), (13, vi hs.length), (14, vi i)], [(2001536, rH .own true 136 hs)]⟩) (fun i => i ≤ hs.length ∧ ∀ j, j < i → x ∉ xss.getD j []) (fun i => hs.length - i) 0 (by refine leT.of ?_ ?_ rfl <;> repeat' (first | exact trivial | refine And.intro rfl ?_ | refine And.intro (by simp) ?_)) ⟨Nat.zero_le _, fun j hj => absurd hj (Nat.not_lt_zero _)⟩ ?_
  rintro i ⟨hi, hq⟩
  by_cases hi2 : i < hs.length
  · have hT := hX.at_ i hi2
    have hTl := hT.len
    have c1 := ContainsI_run (xss.getD i []) x (by have := hx i; omega)
    by_cases hin : x ∈ xss.getD i []
    · rw [decide_eq_true hin] at c1
      repeat' (first | exact trivial | refine BS.d (fun h => ?_) (fun h => ?_) | refine BS.e (fun h => ?_) (fun h => ?_) | refine BS.ne (fun h => ?_) (fun h => ?_) | refine BS.n ?_ | refine BS.s (fun h => ?_) (fun h => ?_) | refine And.intro ?_ ?_ | (refine Need.mk ?_; first | with_reducible rfl | (show @Eq TC _ _; rfl) | omega | (simp only [adN_zero]; omega)) | exact OutS.whole rfl rfl | (refine OpK.tell gOk hA hE 19 5000 3 decI hT rfl rfl rfl rfl rfl ?_) | (refine OpK.call c1 rfl rfl rfl rfl hE (.cons (.one (.ref rfl hTl)) (.cons (.one (.lit _)) .nil)) rfl rfl ?_) | refine ListO.go gOk hE ?_)
      all_goals (try simp only [adN_zero] at *)
      all_goals first
        | (exfalso; omega)
        | (refine Need.mk ?_; omega)
        | (refine Need.mk ?_; symm; apply decide_eq_true; rw [List.mem_flatten]; refine ⟨_, ?_, hin⟩; rw [List.getD_eq_getElem?_getD, List.getElem?_eq_getElem (by omega)]; exact List.getElem_mem _)
    · rw [decide_eq_false hin] at c1
      repeat' (first | exact trivial | refine BS.d (fun h => ?_) (fun h => ?_) | refine BS.e (fun h => ?_) (fun h => ?_) | refine BS.ne (fun h => ?_) (fun h => ?_) | refine BS.n ?_ | refine BS.s (fun h => ?_) (fun h => ?_) | refine And.intro ?_ ?_ | (refine Need.mk ?_; first | with_reducible rfl | (show @Eq TC _ _; rfl) | omega | (simp only [adN_zero]; omega)) | exact OutS.whole rfl rfl | (refine OpK.tell gOk hA hE 19 5000 3 decI hT rfl rfl rfl rfl rfl ?_) | (refine OpK.call c1 rfl rfl rfl rfl hE (.cons (.one (.ref rfl hTl)) (.cons (.one (.lit _)) .nil)) rfl rfl ?_) | refine ListO.go gOk hE ?_)
      all_goals (try simp only [adN_zero] at *)
      all_goals first
        | (exfalso; omega)
        | (refine Need.mk ?_; omega)
        | (refine ⟨i + 1, (by refine leT.of ?_ ?_ rfl <;> repeat' (first | exact trivial | refine And.intro rfl ?_ | refine And.intro (by simp) ?_)), ⟨by omega, fun j hj => (Nat.lt_or_ge j i).elim (hq j) (fun h9 => (show j = i by omega) ▸ hin)⟩, by first | omega | (dsimp only; omega)⟩)
  · repeat' (first | exact trivial | refine BS.d (fun h => ?_) (fun h => ?_) | refine BS.e (fun h => ?_) (fun h => ?_) | refine BS.ne (fun h => ?_) (fun h => ?_) | refine BS.n ?_ | refine BS.s (fun h => ?_) (fun h => ?_) | refine And.intro ?_ ?_ | (refine Need.mk ?_; first | with_reducible rfl | (show @Eq TC _ _; rfl) | omega | (simp only [adN_zero]; omega)) | exact OutS.whole rfl rfl | (refine OpK.call cC rfl rfl rfl rfl hE ?_ rfl rfl ?_; focus ((repeat' (first | exact PsA.lit _ | exact PsA.ref rfl rfl | constructor)); all_goals (fail "ps"))) | refine ListO.go gOk hE ?_)
    all_goals (try simp only [adN_zero] at *)
    all_goals first
      | (exfalso; omega)
      | (refine Need.mk ?_; symm; apply decide_eq_false; intro hm; obtain ⟨l, hl, hl2⟩ := List.mem_flatten.1 hm; obtain ⟨j, hj, rfl⟩ := List.getElem_of_mem hl; exact hq j (by omega) (by rw [List.getD_eq_getElem?_getD, List.getElem?_eq_getElem hj]; exact hl2))
theorem OnListI_run (e e' : Nat) (g o : List (List Int)) (x : Int) (hgo : g.length + o.length ≤ 1048576) (hx : ∀ i, ((g ++ o).getD i []).length ≤ 1048576) : RunT Tryz.prog 163 [.agg [.c (tSL e g), .c (tSL e' o)], ti x] [] [ob (decide (x ∈ (g ++ o).flatten))] [] := by
  refine of_told ⟨_, Tryz.func163, rfl, rfl⟩ (fun hc gs os A1 A2 n1 n2 c1 c2 t1 t2 s1 s2 => ?_)
  exact OnList_told gs os (g ++ o) x A1 A2 n1 n2 c1 c2 t1 t2 (by rw [s1.len, s2.len]; exact hgo) (s1.append s2) hx
theorem OnListS_run (e e' : Nat) (g o : List (List Int)) (x : Int) (hg : g.length ≤ 1048576) (ho : o.length ≤ 1048576) (hf : g.flatten.length + o.flatten.length ≤ 1048576) : RunT Tryz.prog 186 [.agg [.c (tSL e g), .c (tSL e' o)], ti x] [] [ob (decide (x ∈ (g ++ o).flatten))] [] := by
  have c1 := l8All_run e e' g o hg ho hf
  have c2 := l8HasT_run (g ++ o).flatten x (by rw [List.flatten_append, List.length_append]; omega)
  refine RunT.of_vc gOk Tryz.func186 rfl rfl (Nat.le_of_ble_eq_true rfl) (by repeat' (first | exact trivial | exact ⟨_, rfl, Nat.le_refl _⟩ | exact Nat.le_of_ble_eq_true rfl | refine And.intro ?_ ?_)) (Nat.le_of_ble_eq_true rfl) rfl (fun F hE => ?_)
  repeat' (first | exact trivial | refine BS.d (fun h => ?_) (fun h => ?_) | refine BS.e (fun h => ?_) (fun h => ?_) | refine BS.ne (fun h => ?_) (fun h => ?_) | refine BS.n ?_ | refine BS.s (fun h => ?_) (fun h => ?_) | refine And.intro ?_ ?_ | (refine Need.mk ?_; first | with_reducible rfl | (show @Eq TC _ _; rfl) | omega | (simp only [adN_zero]; omega)) | exact OutS.whole rfl rfl | (refine OpK.call c1 rfl rfl rfl rfl hE ?_ rfl rfl ?_; focus ((repeat' (first | exact PsA.lit _ | exact PsA.ref rfl rfl | constructor)); all_goals (fail "ps"))) | (refine OpK.call c2 rfl rfl rfl rfl hE ?_ rfl rfl ?_; focus ((repeat' (first | exact PsA.lit _ | exact PsA.ref rfl rfl | constructor)); all_goals (fail "ps"))) | refine ListO.go gOk hE ?_)
end Go.Proofs.YtpmhkpmkmbkjbaaGreatDoor
end

section
/- The state of a slot. -/
namespace Go.Proofs.YtpmhkpmkmbkjbaaGreatDoor
open Go Go.Tr
set_option maxRecDepth 100000
set_option maxHeartbeats 4000000
set_option linter.unusedVariables false
set_option linter.unusedSimpArgs false
def stN (b c : List Int) (g o : List (List Int)) (s : Int) : Int := if clIn c s = -1 then 0 else if s ∈ (g ++ o).flatten then 1 else if gnIn b c s = 7 then 2 else 3
theorem gn_bd {b c : List Int} {s : Int} (h : hpP b c) (hs : clIn c s ≠ -1) : 1 ≤ gnIn b c s ∧ gnIn b c s ≤ 7 := by
  have hk := clIn_some hs
  obtain ⟨p, hp⟩ := Int.eq_ofNat_of_zero_le (show 0 ≤ s / 4 by omega)
  obtain ⟨i, hi⟩ := Int.eq_ofNat_of_zero_le (show 0 ≤ s % 4 by omega)
  have hp2 : (s / 4).toNat = p := by omega
  have h1 := h.2 p (by omega)
  have hcl : c.getD p 0 = clIn c s := by rw [← hk.2.2.1, hp2]
  unfold pgP at h1
  rw [hcl, if_neg (by omega)] at h1
  have h2 := h1.2 i (by rw [hcl]; omega)
  rw [slA_at (by omega) (by omega), show (p : Int) * 4 + i = s by omega] at h2
  exact h2
theorem gn_zero {b c : List Int} {s : Int} (hs : clIn c s = -1) : gnIn b c s = 0 := if_pos hs
theorem l9State_run (e : Nat) (b c : List Int) (g o : List (List Int)) (s : Int) (h : MmT b c g o) (hp : hpP b c) : RunT Tryz.prog 130 [aMm e b c g o, ti s] [] [oi (stN b c g o s)] [] := by
  have c1 := l7Class_run b c s hp.1.2.1
  have c2 := OnListS_run e e g o s h.ok.hg h.ok.ho h.f
  unfold stN
  by_cases h1 : clIn c s = -1
  · rw [if_pos h1]
    rw [h1] at c1
    refine RunT.of_vc gOk Tryz.func130 rfl rfl (Nat.le_of_ble_eq_true rfl) (by repeat' (first | exact trivial | exact ⟨_, rfl, Nat.le_refl _⟩ | exact Nat.le_of_ble_eq_true rfl | refine And.intro ?_ ?_)) (Nat.le_of_ble_eq_true rfl) rfl (fun F hE => ?_)
    repeat' (first | exact trivial | refine BS.d (fun h => ?_) (fun h => ?_) | refine BS.e (fun h => ?_) (fun h => ?_) | refine BS.ne (fun h => ?_) (fun h => ?_) | refine BS.n ?_ | refine BS.s (fun h => ?_) (fun h => ?_) | refine And.intro ?_ ?_ | (refine Need.mk ?_; first | with_reducible rfl | (show @Eq TC _ _; rfl) | omega | (simp only [adN_zero]; omega)) | exact OutS.whole rfl rfl | (refine OpK.call c1 rfl rfl rfl rfl hE ?_ rfl rfl ?_; focus ((repeat' (first | exact PsA.lit _ | exact PsA.ref rfl rfl | constructor)); all_goals (fail "ps"))) | refine ListO.go gOk hE ?_)
  · have hk := clIn_some h1
    have c3 := l7Gen_run b c s hp.1 h1
    have hb := gn_bd hp h1
    rw [if_neg h1]
    by_cases h2 : s ∈ (g ++ o).flatten
    · rw [decide_eq_true h2] at c2
      rw [if_pos h2]
      refine RunT.of_vc gOk Tryz.func130 rfl rfl (Nat.le_of_ble_eq_true rfl) (by repeat' (first | exact trivial | exact ⟨_, rfl, Nat.le_refl _⟩ | exact Nat.le_of_ble_eq_true rfl | refine And.intro ?_ ?_)) (Nat.le_of_ble_eq_true rfl) rfl (fun F hE => ?_)
      repeat' (first | exact trivial | refine BS.d (fun h => ?_) (fun h => ?_) | refine BS.e (fun h => ?_) (fun h => ?_) | refine BS.ne (fun h => ?_) (fun h => ?_) | refine BS.n ?_ | refine BS.s (fun h => ?_) (fun h => ?_) | refine And.intro ?_ ?_ | (refine Need.mk ?_; first | with_reducible rfl | (show @Eq TC _ _; rfl) | omega | (simp only [adN_zero]; omega)) | exact OutS.whole rfl rfl | (refine OpK.call c1 rfl rfl rfl rfl hE ?_ rfl rfl ?_; focus ((repeat' (first | exact PsA.lit _ | exact PsA.ref rfl rfl | constructor)); all_goals (fail "ps"))) | (refine OpK.call c2 rfl rfl rfl rfl hE ?_ rfl rfl ?_; focus ((repeat' (first | exact PsA.lit _ | exact PsA.ref rfl rfl | constructor)); all_goals (fail "ps"))) | refine ListO.go gOk hE ?_)
      all_goals first | exact Need.mk rfl | (exfalso; omega) | trace_state
    · rw [decide_eq_false h2] at c2
      rw [if_neg h2]
      refine RunT.of_vc gOk Tryz.func130 rfl rfl (Nat.le_of_ble_eq_true rfl) (by repeat' (first | exact trivial | exact ⟨_, rfl, Nat.le_refl _⟩ | exact Nat.le_of_ble_eq_true rfl | refine And.intro ?_ ?_)) (Nat.le_of_ble_eq_true rfl) rfl (fun F hE => ?_)
      repeat' (first | exact trivial | refine BS.d (fun h => ?_) (fun h => ?_) | refine BS.e (fun h => ?_) (fun h => ?_) | refine BS.ne (fun h => ?_) (fun h => ?_) | refine BS.n ?_ | refine BS.s (fun h => ?_) (fun h => ?_) | refine And.intro ?_ ?_ | (refine Need.mk ?_; first | with_reducible rfl | (show @Eq TC _ _; rfl) | omega | (simp only [adN_zero]; omega)) | exact OutS.whole rfl rfl | (refine OpK.call c1 rfl rfl rfl rfl hE ?_ rfl rfl ?_; focus ((repeat' (first | exact PsA.lit _ | exact PsA.ref rfl rfl | constructor)); all_goals (fail "ps"))) | (refine OpK.call c2 rfl rfl rfl rfl hE ?_ rfl rfl ?_; focus ((repeat' (first | exact PsA.lit _ | exact PsA.ref rfl rfl | constructor)); all_goals (fail "ps"))) | (refine OpK.call c3 rfl rfl rfl rfl hE ?_ rfl rfl ?_; focus ((repeat' (first | exact PsA.lit _ | exact PsA.ref rfl rfl | constructor)); all_goals (fail "ps"))) | refine ListO.go gOk hE ?_)
      all_goals first | (exfalso; omega) | (refine Need.mk ?_; first | (rw [if_pos (by omega)]; done) | (rw [if_neg (by omega)]; done)) | trace_state
theorem stateIn_run (e : Nat) (b c : List Int) (g o : List (List Int)) (s : Int) (h : MmT b c g o) (hp : hpP b c) : RunH Tryz.prog hT 149 [aMm e b c g o, ti s] [] [oi (stN b c g o s)] [] := by
  have c1 := classIn_run b c s hp.1.2.1
  have c2 := OnListI_run e e g o s h.n h.x
  have c3 := genIn_run b c s hp.1
  unfold stN
  by_cases h1 : clIn c s = -1
  · rw [if_pos h1]
    refine RunH.of_vc gOk Tryz.func149 rfl rfl (Nat.le_of_ble_eq_true rfl) (by repeat' (first | exact trivial | exact ⟨_, rfl, Nat.le_refl _⟩ | exact Nat.le_of_ble_eq_true rfl | refine And.intro ?_ ?_)) (Nat.le_of_ble_eq_true rfl) rfl (fun F hE hA => ?_)
    repeat' (first | exact trivial | refine BS.d (fun h => ?_) (fun h => ?_) | refine BS.e (fun h => ?_) (fun h => ?_) | refine BS.ne (fun h => ?_) (fun h => ?_) | refine BS.n ?_ | refine BS.s (fun h => ?_) (fun h => ?_) | refine And.intro ?_ ?_ | (refine Need.mk ?_; first | with_reducible rfl | (show @Eq TC _ _; rfl) | omega | (simp only [adN_zero]; omega)) | exact OutS.whole rfl rfl | (refine OpK.callH c1 hA rfl rfl rfl rfl hE ?_ rfl rfl ?_; focus ((repeat' (first | exact PsA.lit _ | exact PsA.ref rfl rfl | constructor)); all_goals (fail "ps"))) | refine ListO.go gOk hE ?_)
    all_goals first | exact Need.mk rfl | (exfalso; omega) | trace_state
  · have hk := clIn_some h1
    rw [if_neg h1]
    by_cases h2 : s ∈ (g ++ o).flatten
    · rw [decide_eq_true h2] at c2
      rw [if_pos h2]
      refine RunH.of_vc gOk Tryz.func149 rfl rfl (Nat.le_of_ble_eq_true rfl) (by repeat' (first | exact trivial | exact ⟨_, rfl, Nat.le_refl _⟩ | exact Nat.le_of_ble_eq_true rfl | refine And.intro ?_ ?_)) (Nat.le_of_ble_eq_true rfl) rfl (fun F hE hA => ?_)
      repeat' (first | exact trivial | refine BS.d (fun h => ?_) (fun h => ?_) | refine BS.e (fun h => ?_) (fun h => ?_) | refine BS.ne (fun h => ?_) (fun h => ?_) | refine BS.n ?_ | refine BS.s (fun h => ?_) (fun h => ?_) | refine And.intro ?_ ?_ | (refine Need.mk ?_; first | with_reducible rfl | (show @Eq TC _ _; rfl) | omega | (simp only [adN_zero]; omega)) | exact OutS.whole rfl rfl | (refine OpK.callH c1 hA rfl rfl rfl rfl hE ?_ rfl rfl ?_; focus ((repeat' (first | exact PsA.lit _ | exact PsA.ref rfl rfl | constructor)); all_goals (fail "ps"))) | (refine OpK.call c2 rfl rfl rfl rfl hE ?_ rfl rfl ?_; focus ((repeat' (first | exact PsA.lit _ | exact PsA.ref rfl rfl | constructor)); all_goals (fail "ps"))) | refine ListO.go gOk hE ?_)
      all_goals first | exact Need.mk rfl | (exfalso; omega) | trace_state
    · rw [decide_eq_false h2] at c2
      rw [if_neg h2]
      refine RunH.of_vc gOk Tryz.func149 rfl rfl (Nat.le_of_ble_eq_true rfl) (by repeat' (first | exact trivial | exact ⟨_, rfl, Nat.le_refl _⟩ | exact Nat.le_of_ble_eq_true rfl | refine And.intro ?_ ?_)) (Nat.le_of_ble_eq_true rfl) rfl (fun F hE hA => ?_)
      repeat' (first | exact trivial | refine BS.d (fun h => ?_) (fun h => ?_) | refine BS.e (fun h => ?_) (fun h => ?_) | refine BS.ne (fun h => ?_) (fun h => ?_) | refine BS.n ?_ | refine BS.s (fun h => ?_) (fun h => ?_) | refine And.intro ?_ ?_ | (refine Need.mk ?_; first | with_reducible rfl | (show @Eq TC _ _; rfl) | omega | (simp only [adN_zero]; omega)) | exact OutS.whole rfl rfl | (refine OpK.callH c1 hA rfl rfl rfl rfl hE ?_ rfl rfl ?_; focus ((repeat' (first | exact PsA.lit _ | exact PsA.ref rfl rfl | constructor)); all_goals (fail "ps"))) | (refine OpK.call c2 rfl rfl rfl rfl hE ?_ rfl rfl ?_; focus ((repeat' (first | exact PsA.lit _ | exact PsA.ref rfl rfl | constructor)); all_goals (fail "ps"))) | (refine OpK.callH c3 hA rfl rfl rfl rfl hE ?_ rfl rfl ?_; focus ((repeat' (first | exact PsA.lit _ | exact PsA.ref rfl rfl | constructor)); all_goals (fail "ps"))) | refine ListO.go gOk hE ?_)
      all_goals first | (exfalso; omega) | (refine Need.mk ?_; first | (rw [if_pos (by omega)]; done) | (rw [if_neg (by omega)]; done)) | trace_state
end Go.Proofs.YtpmhkpmkmbkjbaaGreatDoor
end

section
namespace Go.Proofs.YtpmhkpmkmbkjbaaGreatDoor
open Go Go.Tr
set_option maxRecDepth 100000
set_option maxHeartbeats 4000000
set_option linter.unusedVariables false
set_option linter.unusedSimpArgs false
theorem sHandleGen_run (x : Int) : RunT Tryz.prog 132 [ti x] [] [oi (hGen x)] [] := by
  have c1 := sHandleOk_run x
  unfold hGen
  cases hk : hOk x with
  | true =>
    have := hOk_iff.1 hk
    rw [hk] at c1
    refine RunT.of_vc gOk Tryz.func132 rfl rfl (Nat.le_of_ble_eq_true rfl) (by repeat' (first | exact trivial | exact ⟨_, rfl, Nat.le_refl _⟩ | exact Nat.le_of_ble_eq_true rfl | refine And.intro ?_ ?_)) (Nat.le_of_ble_eq_true rfl) rfl (fun F hE => ?_)
    repeat' (first | exact trivial | refine BS.d (fun h => ?_) (fun h => ?_) | refine BS.e (fun h => ?_) (fun h => ?_) | refine BS.ne (fun h => ?_) (fun h => ?_) | refine BS.n ?_ | refine BS.s (fun h => ?_) (fun h => ?_) | refine And.intro ?_ ?_ | (refine Need.mk ?_; first | with_reducible rfl | (show @Eq TC _ _; rfl) | omega | (simp only [adN_zero]; omega)) | exact OutS.whole rfl rfl | (refine OpK.call c1 rfl rfl rfl rfl hE ?_ rfl rfl ?_; focus ((repeat' (first | exact PsA.lit _ | exact PsA.ref rfl rfl | constructor)); all_goals (fail "ps"))) | refine ListO.go gOk hE ?_)
    all_goals (refine Need.mk ?_; rw [Int.tdiv_eq_ediv_of_nonneg (by omega), wr_in (by omega)]; rfl)
  | false =>
    rw [hk] at c1
    refine RunT.of_vc gOk Tryz.func132 rfl rfl (Nat.le_of_ble_eq_true rfl) (by repeat' (first | exact trivial | exact ⟨_, rfl, Nat.le_refl _⟩ | exact Nat.le_of_ble_eq_true rfl | refine And.intro ?_ ?_)) (Nat.le_of_ble_eq_true rfl) rfl (fun F hE => ?_)
    repeat' (first | exact trivial | refine BS.d (fun h => ?_) (fun h => ?_) | refine BS.e (fun h => ?_) (fun h => ?_) | refine BS.ne (fun h => ?_) (fun h => ?_) | refine BS.n ?_ | refine BS.s (fun h => ?_) (fun h => ?_) | refine And.intro ?_ ?_ | (refine Need.mk ?_; first | with_reducible rfl | (show @Eq TC _ _; rfl) | omega | (simp only [adN_zero]; omega)) | exact OutS.whole rfl rfl | (refine OpK.call c1 rfl rfl rfl rfl hE ?_ rfl rfl ?_; focus ((repeat' (first | exact PsA.lit _ | exact PsA.ref rfl rfl | constructor)); all_goals (fail "ps"))) | refine ListO.go gOk hE ?_)
    all_goals exact Need.mk rfl
theorem iHandleGen_run (x : Int) (hm : x ≤ 9223372036854775807) : RunT Tryz.prog 93 [ti x] [] [oi (hGen x)] [] := by
  have c1 := iHandleOk_run x hm
  unfold hGen
  cases hk : hOk x with
  | true =>
    have := hOk_iff.1 hk
    rw [hk] at c1
    refine RunT.of_vc gOk Tryz.func93 rfl rfl (Nat.le_of_ble_eq_true rfl) (by repeat' (first | exact trivial | exact ⟨_, rfl, Nat.le_refl _⟩ | exact Nat.le_of_ble_eq_true rfl | refine And.intro ?_ ?_)) (Nat.le_of_ble_eq_true rfl) rfl (fun F hE => ?_)
    repeat' (first | exact trivial | refine BS.d (fun h => ?_) (fun h => ?_) | refine BS.e (fun h => ?_) (fun h => ?_) | refine BS.ne (fun h => ?_) (fun h => ?_) | refine BS.n ?_ | refine BS.s (fun h => ?_) (fun h => ?_) | refine And.intro ?_ ?_ | (refine Need.mk ?_; first | with_reducible rfl | (show @Eq TC _ _; rfl) | omega | (simp only [adN_zero]; omega)) | exact OutS.whole rfl rfl | (refine OpK.call c1 rfl rfl rfl rfl hE ?_ rfl rfl ?_; focus ((repeat' (first | exact PsA.lit _ | exact PsA.ref rfl rfl | constructor)); all_goals (fail "ps"))) | refine ListO.go gOk hE ?_)
    all_goals (refine Need.mk ?_; rw [Int.tdiv_eq_ediv_of_nonneg (by omega), wr_in (by omega)]; rfl)
  | false =>
    rw [hk] at c1
    refine RunT.of_vc gOk Tryz.func93 rfl rfl (Nat.le_of_ble_eq_true rfl) (by repeat' (first | exact trivial | exact ⟨_, rfl, Nat.le_refl _⟩ | exact Nat.le_of_ble_eq_true rfl | refine And.intro ?_ ?_)) (Nat.le_of_ble_eq_true rfl) rfl (fun F hE => ?_)
    repeat' (first | exact trivial | refine BS.d (fun h => ?_) (fun h => ?_) | refine BS.e (fun h => ?_) (fun h => ?_) | refine BS.ne (fun h => ?_) (fun h => ?_) | refine BS.n ?_ | refine BS.s (fun h => ?_) (fun h => ?_) | refine And.intro ?_ ?_ | (refine Need.mk ?_; first | with_reducible rfl | (show @Eq TC _ _; rfl) | omega | (simp only [adN_zero]; omega)) | exact OutS.whole rfl rfl | (refine OpK.call c1 rfl rfl rfl rfl hE ?_ rfl rfl ?_; focus ((repeat' (first | exact PsA.lit _ | exact PsA.ref rfl rfl | constructor)); all_goals (fail "ps"))) | refine ListO.go gOk hE ?_)
    all_goals exact Need.mk rfl
end Go.Proofs.YtpmhkpmkmbkjbaaGreatDoor
end

section
/- Whether a handle is valid. -/
namespace Go.Proofs.YtpmhkpmkmbkjbaaGreatDoor
open Go Go.Tr
set_option maxRecDepth 100000
set_option maxHeartbeats 4000000
set_option linter.unusedVariables false
set_option linter.unusedSimpArgs false
def vlB (b c : List Int) (g o : List (List Int)) (x : Int) : Bool := hOk x && decide (stN b c g o (hSlot x) = 3) && decide (gnIn b c (hSlot x) = hGen x)
theorem stN_cl {b c : List Int} {g o : List (List Int)} {s : Int} (h : stN b c g o s = 3) : clIn c s ≠ -1 := by
  intro hh; unfold stN at h; rw [if_pos hh] at h; cases h
theorem l9Valid_run (e : Nat) (b c : List Int) (g o : List (List Int)) (x : Int) (h : MmT b c g o) (hp : hpP b c) : RunT Tryz.prog 59 [aMm e b c g o, ti x] [] [ob (vlB b c g o x)] [] := by
  have c1 := sHandleOk_run x
  have c2 := sHandleSlot_run x
  have c3 := l9State_run e b c g o (hSlot x) h hp
  have c5 := sHandleGen_run x
  unfold vlB
  cases hk : hOk x with
  | false =>
    rw [hk] at c1
    refine RunT.of_vc gOk Tryz.func59 rfl rfl (Nat.le_of_ble_eq_true rfl) (by repeat' (first | exact trivial | exact ⟨_, rfl, Nat.le_refl _⟩ | exact Nat.le_of_ble_eq_true rfl | refine And.intro ?_ ?_)) (Nat.le_of_ble_eq_true rfl) rfl (fun F hE => ?_)
    repeat' (first | exact trivial | refine BS.d (fun h => ?_) (fun h => ?_) | refine BS.e (fun h => ?_) (fun h => ?_) | refine BS.ne (fun h => ?_) (fun h => ?_) | refine BS.n ?_ | refine BS.s (fun h => ?_) (fun h => ?_) | refine And.intro ?_ ?_ | (refine Need.mk ?_; first | with_reducible rfl | (show @Eq TC _ _; rfl) | omega | (simp only [adN_zero]; omega)) | exact OutS.whole rfl rfl | (refine CodeK.draw gOk hE rfl (fun _ _ h => h) (.take 0 (.alt 1 (.take 2 (.take 4 (.alt 3 (.alt 5 (.alt 6 (.take 7 (.take 8 (.take 9 (.take 10 (.take 12 (.take 15 (.alt 11 (.alt 13 (.alt 14 (.alt 16 (.take 17 (.take 18 (.take 19 .done))) .stop) .stop) .stop) (.alt 13 (.alt 11 (.alt 14 (.alt 16 (.take 17 (.take 18 (.take 19 .done))) .stop) .stop) .stop) .stop)))))))) .stop) .stop) (.alt 5 (.alt 3 (.alt 6 (.take 7 (.take 8 (.take 9 (.take 10 (.take 12 (.take 15 (.alt 11 (.alt 13 (.alt 14 (.alt 16 (.take 17 (.take 18 (.take 19 .done))) .stop) .stop) .stop) (.alt 13 (.alt 11 (.alt 14 (.alt 16 (.take 17 (.take 18 (.take 19 .done))) .stop) .stop) .stop) .stop)))))))) .stop) .stop) .stop)))) .stop)) ?_ ?_; focus (decide +kernel)) | (refine OpK.call c1 rfl rfl rfl rfl hE ?_ rfl rfl ?_; focus ((repeat' (first | exact PsA.lit _ | exact PsA.ref rfl rfl | constructor)); all_goals (fail "ps"))) | refine ListO.go gOk hE ?_)
    all_goals first | exact Need.mk rfl | (exfalso; omega) | trace_state
  | true =>
    rw [hk] at c1
    by_cases h3 : stN b c g o (hSlot x) = 3
    · have c4 := l7Gen_run b c (hSlot x) hp.1 (stN_cl h3)
      rw [h3] at c3
      rw [decide_eq_true h3]
      refine RunT.of_vc gOk Tryz.func59 rfl rfl (Nat.le_of_ble_eq_true rfl) (by repeat' (first | exact trivial | exact ⟨_, rfl, Nat.le_refl _⟩ | exact Nat.le_of_ble_eq_true rfl | refine And.intro ?_ ?_)) (Nat.le_of_ble_eq_true rfl) rfl (fun F hE => ?_)
      repeat' (first | exact trivial | refine BS.d (fun h => ?_) (fun h => ?_) | refine BS.e (fun h => ?_) (fun h => ?_) | refine BS.ne (fun h => ?_) (fun h => ?_) | refine BS.n ?_ | refine BS.s (fun h => ?_) (fun h => ?_) | refine And.intro ?_ ?_ | (refine Need.mk ?_; first | with_reducible rfl | (show @Eq TC _ _; rfl) | omega | (simp only [adN_zero]; omega)) | exact OutS.whole rfl rfl | (refine CodeK.draw gOk hE rfl (fun _ _ h => h) (.take 0 (.alt 1 (.take 2 (.take 4 (.alt 3 (.alt 5 (.alt 6 (.take 7 (.take 8 (.take 9 (.take 10 (.take 12 (.take 15 (.alt 11 (.alt 13 (.alt 14 (.alt 16 (.take 17 (.take 18 (.take 19 .done))) .stop) .stop) .stop) (.alt 13 (.alt 11 (.alt 14 (.alt 16 (.take 17 (.take 18 (.take 19 .done))) .stop) .stop) .stop) .stop)))))))) .stop) .stop) (.alt 5 (.alt 3 (.alt 6 (.take 7 (.take 8 (.take 9 (.take 10 (.take 12 (.take 15 (.alt 11 (.alt 13 (.alt 14 (.alt 16 (.take 17 (.take 18 (.take 19 .done))) .stop) .stop) .stop) (.alt 13 (.alt 11 (.alt 14 (.alt 16 (.take 17 (.take 18 (.take 19 .done))) .stop) .stop) .stop) .stop)))))))) .stop) .stop) .stop)))) .stop)) ?_ ?_; focus (decide +kernel)) | (refine OpK.call c1 rfl rfl rfl rfl hE ?_ rfl rfl ?_; focus ((repeat' (first | exact PsA.lit _ | exact PsA.ref rfl rfl | constructor)); all_goals (fail "ps"))) | (refine OpK.call c2 rfl rfl rfl rfl hE ?_ rfl rfl ?_; focus ((repeat' (first | exact PsA.lit _ | exact PsA.ref rfl rfl | constructor)); all_goals (fail "ps"))) | (refine OpK.call c3 rfl rfl rfl rfl hE ?_ rfl rfl ?_; focus ((repeat' (first | exact PsA.lit _ | exact PsA.ref rfl rfl | constructor)); all_goals (fail "ps"))) | (refine OpK.call c4 rfl rfl rfl rfl hE ?_ rfl rfl ?_; focus ((repeat' (first | exact PsA.lit _ | exact PsA.ref rfl rfl | constructor)); all_goals (fail "ps"))) | (refine OpK.call c5 rfl rfl rfl rfl hE ?_ rfl rfl ?_; focus ((repeat' (first | exact PsA.lit _ | exact PsA.ref rfl rfl | constructor)); all_goals (fail "ps"))) | refine ListO.go gOk hE ?_)
      all_goals first | (refine Need.mk ?_; rw [Bool.beq_eq_decide_eq]; rfl) | exact Need.mk rfl | (exfalso; omega) | trace_state
    · rw [decide_eq_false h3]
      generalize stN b c g o (hSlot x) = z at *
      refine RunT.of_vc gOk Tryz.func59 rfl rfl (Nat.le_of_ble_eq_true rfl) (by repeat' (first | exact trivial | exact ⟨_, rfl, Nat.le_refl _⟩ | exact Nat.le_of_ble_eq_true rfl | refine And.intro ?_ ?_)) (Nat.le_of_ble_eq_true rfl) rfl (fun F hE => ?_)
      repeat' (first | exact trivial | refine BS.d (fun h => ?_) (fun h => ?_) | refine BS.e (fun h => ?_) (fun h => ?_) | refine BS.ne (fun h => ?_) (fun h => ?_) | refine BS.n ?_ | refine BS.s (fun h => ?_) (fun h => ?_) | refine And.intro ?_ ?_ | (refine Need.mk ?_; first | with_reducible rfl | (show @Eq TC _ _; rfl) | omega | (simp only [adN_zero]; omega)) | exact OutS.whole rfl rfl | (refine CodeK.draw gOk hE rfl (fun _ _ h => h) (.take 0 (.alt 1 (.take 2 (.take 4 (.alt 3 (.alt 5 (.alt 6 (.take 7 (.take 8 (.take 9 (.take 10 (.take 12 (.take 15 (.alt 11 (.alt 13 (.alt 14 (.alt 16 (.take 17 (.take 18 (.take 19 .done))) .stop) .stop) .stop) (.alt 13 (.alt 11 (.alt 14 (.alt 16 (.take 17 (.take 18 (.take 19 .done))) .stop) .stop) .stop) .stop)))))))) .stop) .stop) (.alt 5 (.alt 3 (.alt 6 (.take 7 (.take 8 (.take 9 (.take 10 (.take 12 (.take 15 (.alt 11 (.alt 13 (.alt 14 (.alt 16 (.take 17 (.take 18 (.take 19 .done))) .stop) .stop) .stop) (.alt 13 (.alt 11 (.alt 14 (.alt 16 (.take 17 (.take 18 (.take 19 .done))) .stop) .stop) .stop) .stop)))))))) .stop) .stop) .stop)))) .stop)) ?_ ?_; focus (decide +kernel)) | (refine OpK.call c1 rfl rfl rfl rfl hE ?_ rfl rfl ?_; focus ((repeat' (first | exact PsA.lit _ | exact PsA.ref rfl rfl | constructor)); all_goals (fail "ps"))) | (refine OpK.call c2 rfl rfl rfl rfl hE ?_ rfl rfl ?_; focus ((repeat' (first | exact PsA.lit _ | exact PsA.ref rfl rfl | constructor)); all_goals (fail "ps"))) | (refine OpK.call c3 rfl rfl rfl rfl hE ?_ rfl rfl ?_; focus ((repeat' (first | exact PsA.lit _ | exact PsA.ref rfl rfl | constructor)); all_goals (fail "ps"))) | (refine OpK.call c5 rfl rfl rfl rfl hE ?_ rfl rfl ?_; focus ((repeat' (first | exact PsA.lit _ | exact PsA.ref rfl rfl | constructor)); all_goals (fail "ps"))) | refine ListO.go gOk hE ?_)
      all_goals first | exact Need.mk rfl | (exfalso; omega) | trace_state
theorem validIn_run (e : Nat) (b c : List Int) (g o : List (List Int)) (x : Int) (h : MmT b c g o) (hp : hpP b c) (hx : x ≤ 9223372036854775807) : RunH Tryz.prog hT 81 [aMm e b c g o, ti x] [] [ob (vlB b c g o x)] [] := by
  have c2 := iHandleSlot_run x hx
  have c3 := stateIn_run e b c g o (hSlot x) h hp
  have c4 := genIn_run b c (hSlot x) hp.1
  have c5 := iHandleGen_run x hx
  have hq : vlB b c g o x = (decide (stN b c g o (hSlot x) = 3) && decide (gnIn b c (hSlot x) = hGen x)) := by
    unfold vlB
    cases hk : hOk x with
    | true => rfl
    | false =>
      have e1 : hSlot x = -1 := by unfold hSlot; rw [hk]; rfl
      have e2 : clIn c (-1) = -1 := clIn_no (by omega)
      have e3 : stN b c g o (-1) = 0 := by unfold stN; rw [if_pos e2]
      rw [e1, e3]; rfl
  rw [hq]
  by_cases h3 : stN b c g o (hSlot x) = 3
  · rw [h3] at c3
    rw [decide_eq_true h3]
    refine RunH.of_vc gOk Tryz.func81 rfl rfl (Nat.le_of_ble_eq_true rfl) (by repeat' (first | exact trivial | exact ⟨_, rfl, Nat.le_refl _⟩ | exact Nat.le_of_ble_eq_true rfl | refine And.intro ?_ ?_)) (Nat.le_of_ble_eq_true rfl) rfl (fun F hE hA => ?_)
    repeat' (first | exact trivial | refine BS.d (fun h => ?_) (fun h => ?_) | refine BS.e (fun h => ?_) (fun h => ?_) | refine BS.ne (fun h => ?_) (fun h => ?_) | refine BS.n ?_ | refine BS.s (fun h => ?_) (fun h => ?_) | refine And.intro ?_ ?_ | (refine Need.mk ?_; first | with_reducible rfl | (show @Eq TC _ _; rfl) | omega | (simp only [adN_zero]; omega)) | exact OutS.whole rfl rfl | (refine OpK.call c2 rfl rfl rfl rfl hE ?_ rfl rfl ?_; focus ((repeat' (first | exact PsA.lit _ | exact PsA.ref rfl rfl | constructor)); all_goals (fail "ps"))) | (refine OpK.callH c3 hA rfl rfl rfl rfl hE ?_ rfl rfl ?_; focus ((repeat' (first | exact PsA.lit _ | exact PsA.ref rfl rfl | constructor)); all_goals (fail "ps"))) | (refine OpK.callH c4 hA rfl rfl rfl rfl hE ?_ rfl rfl ?_; focus ((repeat' (first | exact PsA.lit _ | exact PsA.ref rfl rfl | constructor)); all_goals (fail "ps"))) | (refine OpK.call c5 rfl rfl rfl rfl hE ?_ rfl rfl ?_; focus ((repeat' (first | exact PsA.lit _ | exact PsA.ref rfl rfl | constructor)); all_goals (fail "ps"))) | refine ListO.go gOk hE ?_)
    all_goals first | (refine Need.mk ?_; rw [Bool.beq_eq_decide_eq]; rfl) | exact Need.mk rfl | (exfalso; omega) | trace_state
  · rw [decide_eq_false h3]
    generalize stN b c g o (hSlot x) = z at *
    refine RunH.of_vc gOk Tryz.func81 rfl rfl (Nat.le_of_ble_eq_true rfl) (by repeat' (first | exact trivial | exact ⟨_, rfl, Nat.le_refl _⟩ | exact Nat.le_of_ble_eq_true rfl | refine And.intro ?_ ?_)) (Nat.le_of_ble_eq_true rfl) rfl (fun F hE hA => ?_)
    repeat' (first | exact trivial | refine BS.d (fun h => ?_) (fun h => ?_) | refine BS.e (fun h => ?_) (fun h => ?_) | refine BS.ne (fun h => ?_) (fun h => ?_) | refine BS.n ?_ | refine BS.s (fun h => ?_) (fun h => ?_) | refine And.intro ?_ ?_ | (refine Need.mk ?_; first | with_reducible rfl | (show @Eq TC _ _; rfl) | omega | (simp only [adN_zero]; omega)) | exact OutS.whole rfl rfl | (refine OpK.call c2 rfl rfl rfl rfl hE ?_ rfl rfl ?_; focus ((repeat' (first | exact PsA.lit _ | exact PsA.ref rfl rfl | constructor)); all_goals (fail "ps"))) | (refine OpK.callH c3 hA rfl rfl rfl rfl hE ?_ rfl rfl ?_; focus ((repeat' (first | exact PsA.lit _ | exact PsA.ref rfl rfl | constructor)); all_goals (fail "ps"))) | (refine OpK.callH c4 hA rfl rfl rfl rfl hE ?_ rfl rfl ?_; focus ((repeat' (first | exact PsA.lit _ | exact PsA.ref rfl rfl | constructor)); all_goals (fail "ps"))) | (refine OpK.call c5 rfl rfl rfl rfl hE ?_ rfl rfl ?_; focus ((repeat' (first | exact PsA.lit _ | exact PsA.ref rfl rfl | constructor)); all_goals (fail "ps"))) | refine ListO.go gOk hE ?_)
    all_goals first | exact Need.mk rfl | (exfalso; omega) | trace_state
end Go.Proofs.YtpmhkpmkmbkjbaaGreatDoor
end
