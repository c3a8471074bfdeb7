import Derived.Test.YtnclkdpocjhphaaZLA
import Derived.Test.YtnclkdpocjhphaaVZ
section
/- A slot is given back to a list of one's own. -/
namespace Go.Proofs.Ytnclkdpocjhphaa
open Go Go.Tr
set_option maxRecDepth 100000
set_option maxHeartbeats 4000000
set_option linter.unusedVariables false
set_option linter.unusedSimpArgs false
theorem l8Give_run (e e' : Nat) (g o : List (List Int)) (w c : Nat) (s : Int) (hw : w ≤ 2) (hc : c ≤ 2) (hg : g.length = 3) (ho : o.length = 9) (hgc : (g.getD c []).length ≤ 1048576) (how : (o.getD (w * 3 + c) []).length ≤ 1048576) :
    RunT Try.prog 76 [.agg [.m (tSL e g), .m (tSL e' o)], ti w, ti c, ti s] [] [.agg [tSL e (if 2 ≤ (o.getD (w * 3 + c) []).length then g.set c (g.getD c [] ++ [s]) else g), tSL e' (if 2 ≤ (o.getD (w * 3 + c) []).length then o else o.set (w * 3 + c) (o.getD (w * 3 + c) [] ++ [s]))]] [] := by
  have c1 := OwnAtH_run w c
  rw [if_pos (by omega), show (w : Int) * 3 + c = ((w * 3 + c : Nat) : Int) by omega] at c1
  have hm8 : w * 3 + c < 9 := by omega
  generalize w * 3 + c = m at *
  by_cases hf : 2 ≤ (o.getD m []).length
  · rw [if_pos hf, if_pos hf]
    refine RunT.of_vc gOk Try.func76 rfl rfl (Nat.le_of_ble_eq_true rfl) (by repeat' (first | exact trivial | exact ⟨_, rfl, Nat.le_refl _⟩ | exact Nat.le_of_ble_eq_true rfl | refine And.intro ?_ ?_)) (Nat.le_of_ble_eq_true rfl) rfl (fun F hE => ?_)
    repeat' (first | exact trivial | refine BS.d (fun h => ?_) (fun h => ?_) | refine BS.e (fun h => ?_) (fun h => ?_) | refine BS.ne (fun h => ?_) (fun h => ?_) | refine BS.n ?_ | refine BS.s (fun h => ?_) (fun h => ?_) | refine And.intro ?_ ?_ | (refine Need.mk ?_; first | with_reducible rfl | (show @Eq TC _ _; rfl) | omega | (simp only [adN_zero]; omega)) | exact OutS.whole rfl rfl | (refine CodeK.open_ gOk hE 5000 1000000 (adN 0 (c : Int)) 0 rfl ?_ ?_ rfl rfl rfl rfl ?_) | (refine OpK.ldO gOk rfl rfl rfl rfl rfl rfl rfl (by (try simp only [adN_zero]); omega) (by decide) ?_) | (refine OpK.stNS gOk (g.getD c [] ++ [s]) rfl rfl rfl rfl rfl rfl rfl rfl rfl (by (try simp only [adN_zero]); omega) (StN.ref rfl rfl rfl rfl rfl StN.nil) ?_) | (refine OpK.call c1 rfl rfl rfl rfl hE ?_ rfl rfl ?_; focus ((repeat' (first | exact PsA.lit _ | exact PsA.ref rfl rfl | constructor)); all_goals (fail "ps"))) | (refine CodeK.draw gOk hE rfl (fun _ _ h => h) (.take 0 (.take 2 (.take 3 (.take 5 (.take 9 (.alt 1 (.alt 4 (.take 6 (.take 7 (.alt 8 (.alt 10 (.alt 11 (.take 12 (.take 13 (.alt 14 .done .stop))) .stop) .stop) (.alt 10 (.alt 8 (.alt 11 (.take 12 (.take 13 (.alt 14 .done .stop))) .stop) .stop) .stop)))) (.alt 10 (.alt 4 (.take 6 (.take 7 (.alt 8 (.alt 11 (.take 12 (.take 13 (.alt 14 .done .stop))) .stop) .stop))) .stop) .stop)) (.alt 4 (.take 6 (.take 7 (.alt 1 (.alt 8 (.alt 10 (.alt 11 (.take 12 (.take 13 (.alt 14 .done .stop))) .stop) .stop) (.alt 10 (.alt 8 (.alt 11 (.take 12 (.take 13 (.alt 14 .done .stop))) .stop) .stop) .stop)) (.alt 8 (.alt 1 (.alt 10 (.alt 11 (.take 12 (.take 13 (.alt 14 .done .stop))) .stop) .stop) (.alt 10 (.alt 1 (.alt 11 (.take 12 (.take 13 (.alt 14 .done .stop))) .stop) (.alt 11 (.alt 1 (.take 12 (.take 13 (.alt 14 .done .stop))) .stop) .stop)) .stop)) (.alt 10 (.alt 1 (.alt 8 (.alt 11 (.take 12 (.take 13 (.alt 14 .done .stop))) .stop) .stop) (.alt 8 (.alt 1 (.alt 11 (.take 12 (.take 13 (.alt 14 .done .stop))) .stop) (.alt 11 (.alt 1 (.take 12 (.take 13 (.alt 14 .done .stop))) .stop) .stop)) .stop)) .stop))))) (.alt 10 (.alt 1 (.alt 4 (.take 6 (.take 7 (.alt 8 (.alt 11 (.take 12 (.take 13 (.alt 14 .done .stop))) .stop) .stop))) .stop) (.alt 4 (.take 6 (.take 7 (.alt 1 (.alt 8 (.alt 11 (.take 12 (.take 13 (.alt 14 .done .stop))) .stop) .stop) (.alt 8 (.alt 1 (.alt 11 (.take 12 (.take 13 (.alt 14 .done .stop))) .stop) (.alt 11 (.alt 1 (.take 12 (.take 13 (.alt 14 .done .stop))) .stop) .stop)) .stop)))) .stop)) .stop)))))))) ?_ ?_; focus (decide +kernel)) | refine ListO.go gOk hE ?_)
    all_goals (try simp only [adN_zero] at *)
    all_goals first
      | exact Nat.zero_lt_one
      | omega
      | (exfalso; omega)
      | (refine Need.mk ?_; first | omega | (refine ⟨?_, ?_⟩ <;> (try unfold maxLen) <;> omega))
      | exact Need.mk rfl
      | exact OutS.whole rfl rfl
      | exact OutS.whole (by simp) rfl
      | trace_state
  · rw [if_neg hf, if_neg hf]
    refine RunT.of_vc gOk Try.func76 rfl rfl (Nat.le_of_ble_eq_true rfl) (by repeat' (first | exact trivial | exact ⟨_, rfl, Nat.le_refl _⟩ | exact Nat.le_of_ble_eq_true rfl | refine And.intro ?_ ?_)) (Nat.le_of_ble_eq_true rfl) rfl (fun F hE => ?_)
    repeat' (first | exact trivial | refine BS.d (fun h => ?_) (fun h => ?_) | refine BS.e (fun h => ?_) (fun h => ?_) | refine BS.ne (fun h => ?_) (fun h => ?_) | refine BS.n ?_ | refine BS.s (fun h => ?_) (fun h => ?_) | refine And.intro ?_ ?_ | (refine Need.mk ?_; first | with_reducible rfl | (show @Eq TC _ _; rfl) | omega | (simp only [adN_zero]; omega)) | exact OutS.whole rfl rfl | (refine ListO.openK gOk hE 1000001 5000 rfl rfl rfl rfl rfl rfl rfl rfl (by (try simp only [adN_zero]); omega) (by decide) rfl rfl rfl rfl ?_) | (refine OpK.ldO gOk rfl rfl rfl rfl rfl rfl rfl (by (try simp only [adN_zero]); omega) (by decide) ?_) | (refine OpK.stNS gOk (o.getD m [] ++ [s]) rfl rfl rfl rfl rfl rfl rfl rfl rfl (by (try simp only [adN_zero]); omega) (StN.ref rfl rfl rfl rfl rfl StN.nil) ?_) | (refine OpK.call c1 rfl rfl rfl rfl hE ?_ rfl rfl ?_; focus ((repeat' (first | exact PsA.lit _ | exact PsA.ref rfl rfl | constructor)); all_goals (fail "ps"))) | (refine CodeK.draw gOk hE rfl (fun _ _ h => h) (.take 0 (.take 2 (.take 3 (.take 5 (.take 9 (.alt 1 (.alt 4 (.take 6 (.take 7 (.alt 8 (.alt 10 (.alt 11 (.take 12 (.take 13 (.alt 14 .done .stop))) .stop) .stop) (.alt 10 (.alt 8 (.alt 11 (.take 12 (.take 13 (.alt 14 .done .stop))) .stop) .stop) .stop)))) (.alt 10 (.alt 4 (.take 6 (.take 7 (.alt 8 (.alt 11 (.take 12 (.take 13 (.alt 14 .done .stop))) .stop) .stop))) .stop) .stop)) (.alt 4 (.take 6 (.take 7 (.alt 1 (.alt 8 (.alt 10 (.alt 11 (.take 12 (.take 13 (.alt 14 .done .stop))) .stop) .stop) (.alt 10 (.alt 8 (.alt 11 (.take 12 (.take 13 (.alt 14 .done .stop))) .stop) .stop) .stop)) (.alt 8 (.alt 1 (.alt 10 (.alt 11 (.take 12 (.take 13 (.alt 14 .done .stop))) .stop) .stop) (.alt 10 (.alt 1 (.alt 11 (.take 12 (.take 13 (.alt 14 .done .stop))) .stop) (.alt 11 (.alt 1 (.take 12 (.take 13 (.alt 14 .done .stop))) .stop) .stop)) .stop)) (.alt 10 (.alt 1 (.alt 8 (.alt 11 (.take 12 (.take 13 (.alt 14 .done .stop))) .stop) .stop) (.alt 8 (.alt 1 (.alt 11 (.take 12 (.take 13 (.alt 14 .done .stop))) .stop) (.alt 11 (.alt 1 (.take 12 (.take 13 (.alt 14 .done .stop))) .stop) .stop)) .stop)) .stop))))) (.alt 10 (.alt 1 (.alt 4 (.take 6 (.take 7 (.alt 8 (.alt 11 (.take 12 (.take 13 (.alt 14 .done .stop))) .stop) .stop))) .stop) (.alt 4 (.take 6 (.take 7 (.alt 1 (.alt 8 (.alt 11 (.take 12 (.take 13 (.alt 14 .done .stop))) .stop) .stop) (.alt 8 (.alt 1 (.alt 11 (.take 12 (.take 13 (.alt 14 .done .stop))) .stop) (.alt 11 (.alt 1 (.take 12 (.take 13 (.alt 14 .done .stop))) .stop) .stop)) .stop)))) .stop)) .stop)))))))) ?_ ?_; focus (decide +kernel)) | refine ListO.go gOk hE ?_)
    all_goals (try simp only [adN_zero] at *)
    all_goals first
      | exact Nat.zero_lt_one
      | omega
      | (exfalso; omega)
      | (refine Need.mk ?_; first | omega | (refine ⟨?_, ?_⟩ <;> (try unfold maxLen) <;> omega))
      | exact Need.mk rfl
      | exact OutS.whole rfl rfl
      | exact OutS.whole (by simp) rfl
      | trace_state
end Go.Proofs.Ytnclkdpocjhphaa
end

section
namespace Go.Proofs.Ytnclkdpocjhphaa
open Go Go.Tr
set_option maxRecDepth 100000
set_option maxHeartbeats 4000000
set_option linter.unusedVariables false
set_option linter.unusedSimpArgs false
theorem l8HasB_run (xs : List Int) (x : Int) (hn : xs.length ≤ 4000000) : RunT Try.prog 74 [.one (.c (tI xs)), ti x] [] [ob (decide (x ∈ xs))] [] := by
  refine RunT.of_vc gOk Try.func74 rfl rfl (Nat.le_of_ble_eq_true rfl) (by repeat' (first | exact trivial | exact ⟨_, rfl, Nat.le_refl _⟩ | exact Nat.le_of_ble_eq_true rfl | refine And.intro ?_ ?_)) (Nat.le_of_ble_eq_true rfl) rfl (fun F hE => ?_)
  repeat' (first | exact trivial | refine BS.d (fun h => ?_) (fun h => ?_) | refine BS.e (fun h => ?_) (fun h => ?_) | refine BS.ne (fun h => ?_) (fun h => ?_) | refine BS.n ?_ | refine BS.s (fun h => ?_) (fun h => ?_) | refine And.intro ?_ ?_ | (refine Need.mk ?_; first | with_reducible rfl | (show @Eq TC _ _; rfl) | omega | (simp only [adN_zero]; omega)) | exact OutS.whole rfl rfl | refine ListO.go gOk hE ?_)
  refine CodeK.loop gOk hE (fun i : Nat => ⟨[(0, vr 1000000 xs.length), (1, vi x), (5, vi i)], [(1000000, rI .fro false xs)]⟩) (fun i => i ≤ xs.length ∧ ∀ j, j < i → xs.getD j 0 ≠ x) (fun i => xs.length - i) 0 (by refine leT.of ?_ ?_ rfl <;> repeat' (first | exact trivial | refine And.intro rfl ?_ | refine And.intro (by simp) ?_)) ⟨Nat.zero_le _, fun j hj => absurd hj (Nat.not_lt_zero _)⟩ ?_
  rintro i ⟨hi, hq⟩
  by_cases hp : xs.getD i 0 = x
  all_goals (repeat' (first | exact trivial | refine BS.d (fun h => ?_) (fun h => ?_) | refine BS.e (fun h => ?_) (fun h => ?_) | refine BS.ne (fun h => ?_) (fun h => ?_) | refine BS.n ?_ | refine BS.s (fun h => ?_) (fun h => ?_) | refine And.intro ?_ ?_ | (refine Need.mk ?_; first | with_reducible rfl | (show @Eq TC _ _; rfl) | omega | (simp only [adN_zero]; omega)) | exact OutS.whole rfl rfl | refine ListO.go gOk hE ?_))
  all_goals (try simp only [adN_zero] at *)
  all_goals first
    | (exfalso; first | omega | (simp_all; done))
    | (refine Need.mk ?_; symm; apply decide_eq_true; rw [← hp, List.getD_eq_getElem?_getD, List.getElem?_eq_getElem (by omega)]; exact List.getElem_mem _)
    | (refine Need.mk ?_; symm; apply decide_eq_false; intro hm; obtain ⟨j, hj, hj2⟩ := List.getElem_of_mem hm; exact hq j (by omega) (by rw [List.getD_eq_getElem?_getD, List.getElem?_eq_getElem hj]; exact hj2))
    | (refine ⟨i + 1, (by refine leT.of ?_ ?_ rfl <;> repeat' (first | exact trivial | refine And.intro rfl ?_ | refine And.intro (by simp) ?_)), ⟨by omega, fun j hj => (Nat.lt_or_ge j i).elim (hq j) (fun h9 => (show j = i by omega) ▸ hp)⟩, by first | omega | (dsimp only; omega)⟩)
end Go.Proofs.Ytnclkdpocjhphaa
end

section
/- Give of the other package. -/
namespace Go.Proofs.Ytnclkdpocjhphaa
open Go Go.Tr
set_option maxRecDepth 100000
set_option maxHeartbeats 40000000
set_option linter.unusedVariables false
set_option linter.unusedSimpArgs false
theorem GiveS_run (e : Nat) (g o : List (List Int)) (w c s : Int) (hg : g.length ≤ 1048576) (ho : o.length ≤ 1048576) (hg' : ∀ i, (g.getD i []).length ≤ 1048576) (ho' : ∀ i, (o.getD i []).length ≤ 1048576) (hf : g.flatten.length + o.flatten.length ≤ 1048576) :
    RunT Try.prog 22 [.agg [.c (tSL e g), .c (tSL e o)], ti w, ti c, ti s] [] [.agg [tSL 115 (gvG g o w c s), tSL 115 (gvO g o w c s)], ob (gvB g o w c s)] [] := by
  have c1 := l8CopyG_run e g o hg ho hg' ho'
  have c2 : RunT Try.prog 61 [ti w, ti c] [] [oi (owX w c)] [] := OwnAtH_run w c
  have c3 := l1InB_run s 0 23
  have c4 := ListsOkS_run e e g o hg ho hf
  have c5 := l8All_run e e g o hg ho hf
  have c6 := l8HasB_run (g ++ o).flatten s (by rw [List.flatten_append, List.length_append]; omega)
  rw [show decide (0 ≤ s ∧ s ≤ 23) = decide (0 ≤ s ∧ s < 24) from decide_eq_decide.2 (by omega)] at c3
  cases hb : gvB g o w c s with
  | false =>
    obtain ⟨e1, e2⟩ := gv_no hb
    rw [e1, e2]
    unfold gvB at hb
    generalize owX w c = at_ at *
    generalize decide (s ∈ (g ++ o).flatten) = q5 at *
    generalize lsOk g o = q4 at *
    generalize hq3 : decide (0 ≤ s ∧ s < 24) = q3 at *
    cases q3 <;> cases q4 <;> cases q5
    all_goals (refine RunT.of_vc gOk Try.func22 rfl rfl (Nat.le_of_ble_eq_true rfl) (by repeat' (first | exact trivial | exact ⟨_, rfl, Nat.le_refl _⟩ | exact Nat.le_of_ble_eq_true rfl | refine And.intro ?_ ?_)) (Nat.le_of_ble_eq_true rfl) rfl (fun F hE => ?_))
    all_goals (repeat' (first | exact trivial | refine BS.d (fun h => ?_) (fun h => ?_) | refine BS.e (fun h => ?_) (fun h => ?_) | refine BS.ne (fun h => ?_) (fun h => ?_) | refine BS.n ?_ | refine BS.s (fun h => ?_) (fun h => ?_) | refine And.intro ?_ ?_ | (refine Need.mk ?_; first | with_reducible rfl | (show @Eq TC _ _; rfl) | omega | (simp only [adN_zero]; omega)) | exact OutS.whole rfl rfl | (refine OpK.call c1 rfl rfl rfl rfl hE ?_ rfl rfl ?_; focus ((repeat' (first | exact PsA.lit _ | exact PsA.ref rfl rfl | constructor)); all_goals (fail "ps"))) | (refine OpK.call c2 rfl rfl rfl rfl hE ?_ rfl rfl ?_; focus ((repeat' (first | exact PsA.lit _ | exact PsA.ref rfl rfl | constructor)); all_goals (fail "ps"))) | (refine OpK.call c3 rfl rfl rfl rfl hE ?_ rfl rfl ?_; focus ((repeat' (first | exact PsA.lit _ | exact PsA.ref rfl rfl | constructor)); all_goals (fail "ps"))) | (refine OpK.call c4 rfl rfl rfl rfl hE ?_ rfl rfl ?_; focus ((repeat' (first | exact PsA.lit _ | exact PsA.ref rfl rfl | constructor)); all_goals (fail "ps"))) | (refine OpK.call c5 rfl rfl rfl rfl hE ?_ rfl rfl ?_; focus ((repeat' (first | exact PsA.lit _ | exact PsA.ref rfl rfl | constructor)); all_goals (fail "ps"))) | (refine OpK.call c6 rfl rfl rfl rfl hE ?_ rfl rfl ?_; focus ((repeat' (first | exact PsA.lit _ | exact PsA.ref rfl rfl | constructor)); all_goals (fail "ps"))) | refine ListO.go gOk hE ?_))
    all_goals first | exact Need.mk rfl | exact OutS.whole rfl rfl | (exfalso; omega) | (exfalso; simp_all; done) | (exfalso; simp_all; omega) | trace_state
  | true =>
    have hb0 := hb
    unfold gvB at hb0
    simp only [Bool.and_eq_true, decide_eq_true_eq, Bool.not_eq_true'] at hb0
    obtain ⟨h1, h2, h3, h4⟩ := hb0
    obtain ⟨hw, hc, hat, ha8⟩ := owX_ok h1
    obtain ⟨l1, l2⟩ := lsLen h3
    rw [decide_eq_true h2] at c3
    rw [h3] at c4
    rw [h4] at c6
    obtain ⟨wn, rfl⟩ := Int.eq_ofNat_of_zero_le hw.1
    obtain ⟨cn, rfl⟩ := Int.eq_ofNat_of_zero_le hc.1
    have hm : (owX wn cn).toNat = wn * 3 + cn := by omega
    have c7 := (l8Give_run 115 115 g o wn cn s (by omega) (by omega) l1 l2 (hg' cn) (ho' (wn * 3 + cn))).toH hc0
    rw [show gvG g o wn cn s = if 2 ≤ (o.getD (wn * 3 + cn) []).length then g.set cn (g.getD cn [] ++ [s]) else g by unfold gvG; simp only [hb, true_and, hm, Int.toNat_natCast],
      show gvO g o wn cn s = if 2 ≤ (o.getD (wn * 3 + cn) []).length then o else o.set (wn * 3 + cn) (o.getD (wn * 3 + cn) [] ++ [s]) by
        unfold gvO; simp only [hb, true_and, hm]; by_cases q : 2 ≤ (o.getD (wn * 3 + cn) []).length
        · rw [if_pos q, if_neg (fun h => h q)]
        · rw [if_neg q, if_pos q]]
    have c2h := c2
    generalize (if 2 ≤ (o.getD (wn * 3 + cn) []).length then g.set cn (g.getD cn [] ++ [s]) else g) = ng at *
    generalize (if 2 ≤ (o.getD (wn * 3 + cn) []).length then o else o.set (wn * 3 + cn) (o.getD (wn * 3 + cn) [] ++ [s])) = no at *
    generalize owX wn cn = ow at *
    refine RunH.toT ?_
    refine RunH.of_vc gOk Try.func22 rfl rfl (Nat.le_of_ble_eq_true rfl) (by repeat' (first | exact trivial | exact ⟨_, rfl, Nat.le_refl _⟩ | exact Nat.le_of_ble_eq_true rfl | refine And.intro ?_ ?_)) (Nat.le_of_ble_eq_true rfl) rfl (fun F hE hA => ?_)
    repeat' (first | exact trivial | refine BS.d (fun h => ?_) (fun h => ?_) | refine BS.e (fun h => ?_) (fun h => ?_) | refine BS.ne (fun h => ?_) (fun h => ?_) | refine BS.n ?_ | refine BS.s (fun h => ?_) (fun h => ?_) | refine And.intro ?_ ?_ | (refine Need.mk ?_; first | with_reducible rfl | (show @Eq TC _ _; rfl) | omega | (simp only [adN_zero]; omega)) | exact OutS.whole rfl rfl | (refine OpK.call c1 rfl rfl rfl rfl hE ?_ rfl rfl ?_; focus ((repeat' (first | exact PsA.lit _ | exact PsA.ref rfl rfl | constructor)); all_goals (fail "ps"))) | (refine OpK.call c2 rfl rfl rfl rfl hE ?_ rfl rfl ?_; focus ((repeat' (first | exact PsA.lit _ | exact PsA.ref rfl rfl | constructor)); all_goals (fail "ps"))) | (refine OpK.call c3 rfl rfl rfl rfl hE ?_ rfl rfl ?_; focus ((repeat' (first | exact PsA.lit _ | exact PsA.ref rfl rfl | constructor)); all_goals (fail "ps"))) | (refine OpK.call c4 rfl rfl rfl rfl hE ?_ rfl rfl ?_; focus ((repeat' (first | exact PsA.lit _ | exact PsA.ref rfl rfl | constructor)); all_goals (fail "ps"))) | (refine OpK.call c5 rfl rfl rfl rfl hE ?_ rfl rfl ?_; focus ((repeat' (first | exact PsA.lit _ | exact PsA.ref rfl rfl | constructor)); all_goals (fail "ps"))) | (refine OpK.call c6 rfl rfl rfl rfl hE ?_ rfl rfl ?_; focus ((repeat' (first | exact PsA.lit _ | exact PsA.ref rfl rfl | constructor)); all_goals (fail "ps"))) | (refine OpK.callG [] [(2001536, 0, 0), (2001537, 0, 1)] c7 hA rfl rfl rfl rfl hE (List.forall_mem_cons.2 ⟨rfl, List.forall_mem_cons.2 ⟨rfl, fun _ h => nomatch h⟩⟩) (fun _ h => nomatch h) (fun _ h => nomatch h) List.nodup_nil (QsVs.cons (.agg (.cons (.m rfl rfl (.whole rfl rfl)) (.cons (.m rfl rfl (.whole rfl rfl)) .nil))) (.cons (.one (.c (.lit _) rfl)) (.cons (.one (.c (.lit _) rfl)) (.cons (.one (.c (.lit _) rfl)) .nil)))) rfl rfl ?_) | refine ListO.go gOk hE ?_)
    all_goals first
      | (exfalso; omega)
      | exact Need.mk rfl
      | exact OutS.whole rfl rfl
      | (refine Need.mk ?_; first | omega | (refine ⟨?_, ?_⟩ <;> (try unfold maxLen) <;> omega))
      | trace_state
end Go.Proofs.Ytnclkdpocjhphaa
end

section
/- Two equal answers of Give, in fresh memory: the law. -/
namespace Go.Proofs.Ytnclkdpocjhphaa
open Go Go.Tr
set_option maxRecDepth 100000
set_option maxHeartbeats 40000000
set_option linter.unusedVariables false
set_option linter.unusedSimpArgs false
theorem Give_law (g o : List (List Int)) (w c s : Int) (hg : g.length ≤ 9223372036854775807) (ho : o.length ≤ 9223372036854775807) (ig : ∀ i, (g.getD i []).length ≤ 9223372036854775807) (io : ∀ i, (o.getD i []).length ≤ 9223372036854775807) : RunT Try.prog 5 [.agg [.c (tSL 0 g), .c (tSL 0 o)], ti w, ti c, ti s] [] [ob true] [] := by
  have c0 := szLists_run 0 g o 1048576 (by decide) (by decide) hg ig ho io
  by_cases hz : (if szSLs g 1048576 < 0 then (-1 : Int) else szSLs o (szSLs g 1048576)) < 0
  · generalize (if szSLs g 1048576 < 0 then (-1 : Int) else szSLs o (szSLs g 1048576)) = b at *
    refine RunT.of_vc gOk Try.func5 rfl rfl (Nat.le_of_ble_eq_true rfl) (by repeat' (first | exact trivial | exact ⟨_, rfl, Nat.le_refl _⟩ | exact Nat.le_of_ble_eq_true rfl | refine And.intro ?_ ?_)) (Nat.le_of_ble_eq_true rfl) rfl (fun F hE => ?_)
    repeat' (first | exact trivial | refine BS.d (fun h => ?_) (fun h => ?_) | refine BS.e (fun h => ?_) (fun h => ?_) | refine BS.ne (fun h => ?_) (fun h => ?_) | refine BS.n ?_ | refine BS.s (fun h => ?_) (fun h => ?_) | refine And.intro ?_ ?_ | (refine Need.mk ?_; first | with_reducible rfl | (show @Eq TC _ _; rfl) | omega | (simp only [adN_zero]; omega)) | exact OutS.whole rfl rfl | (refine OpK.call c0 rfl rfl rfl rfl hE ?_ rfl rfl ?_; focus ((repeat' (first | exact PsA.lit _ | exact PsA.ref rfl rfl | constructor)); all_goals (fail "ps"))) | refine ListO.go gOk hE ?_)
    all_goals first | exact absurd (by assumption) (by assumption) | (exfalso; omega) | trace_state
  · obtain ⟨hb, kg, ko, kgo⟩ := szL_ok (by decide) (by decide) hz
    generalize (if szSLs g 1048576 < 0 then (-1 : Int) else szSLs o (szSLs g 1048576)) = b at *
    have c1 := toLists_run 0 g o (by omega) kg (by omega) ko
    have c3 := GiveS_run 115 g o w c s (by omega) (by omega) kg ko (by omega)
    have c4 := GiveI_run 115 g o w c s (by omega) (by omega) kg ko (by omega) kgo
    have c5 := eqLists_run 115 g o (by omega) (fun i => by have := kg i; omega) (by omega) (fun i => by have := ko i; omega)
    have hk : LkOk g o := LkOk.of (by omega) (by omega) (by omega)
    have hk2 : LkOk (gvG g o w c s) (gvO g o w c s) := by
      cases hv : gvB g o w c s with
      | false => obtain ⟨e1, e2⟩ := gv_no hv; rw [e1, e2]; exact hk
      | true =>
        have hv0 := hv
        unfold gvB at hv0
        simp only [Bool.and_eq_true, decide_eq_true_eq] at hv0
        obtain ⟨l1, l2⟩ := lsLen hv0.2.2.1
        unfold gvG gvO
        by_cases q : 2 ≤ (o.getD (owX w c).toNat []).length
        · rw [if_pos ⟨hv, q⟩, if_neg (fun h => h.2 q)]
          refine LkOk.of (by rw [List.length_set]; omega) (by omega) ?_
          have := lset_flat g c.toNat 1 (g.getD c.toNat [] ++ [s]) (by simp)
          omega
        · rw [if_neg (fun h => q h.2), if_pos ⟨hv, q⟩]
          refine LkOk.of (by omega) (by rw [List.length_set]; omega) ?_
          have := lset_flat o (owX w c).toNat 1 (o.getD (owX w c).toNat [] ++ [s]) (by simp)
          omega
    generalize gvG g o w c s = ng at *
    generalize gvO g o w c s = no at *
    generalize gvB g o w c s = cc at *
    have c6 := eqLists_run 115 ng no (Nat.le_trans hk2.hg (by decide)) (fun i => Nat.le_trans (hk2.hg' i) (by decide)) (Nat.le_trans hk2.ho (by decide)) (fun i => Nat.le_trans (hk2.ho' i) (by decide))
    have m0 := markLk_run 115 115 g o hk
    have m1 := markLk_run 115 115 ng no hk2
    have d1 := heldLk_run 115 115 ng no hk2
    have z0 := lZ_bd (g := g) (o := o)
    have z1 := lZ_bd (g := ng) (o := no)
    generalize lZ g o = zz0 at *
    generalize lZ ng no = zz1 at *
    refine RunT.of_vc gOk Try.func5 rfl rfl (Nat.le_of_ble_eq_true rfl) (by repeat' (first | exact trivial | exact ⟨_, rfl, Nat.le_refl _⟩ | exact Nat.le_of_ble_eq_true rfl | refine And.intro ?_ ?_)) (Nat.le_of_ble_eq_true rfl) rfl (fun F hE => ?_)
    repeat' (first | exact trivial | refine BS.d (fun h => ?_) (fun h => ?_) | refine BS.e (fun h => ?_) (fun h => ?_) | refine BS.ne (fun h => ?_) (fun h => ?_) | refine BS.n ?_ | refine BS.s (fun h => ?_) (fun h => ?_) | refine And.intro ?_ ?_ | (refine Need.mk ?_; first | with_reducible rfl | (show @Eq TC _ _; rfl) | omega | (simp only [adN_zero]; omega)) | exact OutS.whole rfl rfl | (refine OpK.call c0 rfl rfl rfl rfl hE ?_ rfl rfl ?_; focus ((repeat' (first | exact PsA.lit _ | exact PsA.ref rfl rfl | constructor)); all_goals (fail "ps"))) | (refine OpK.call c1 rfl rfl rfl rfl hE ?_ rfl rfl ?_; focus ((repeat' (first | exact PsA.lit _ | exact PsA.ref rfl rfl | constructor)); all_goals (fail "ps"))) | (refine OpK.call c3 rfl rfl rfl rfl hE ?_ rfl rfl ?_; focus ((repeat' (first | exact PsA.lit _ | exact PsA.ref rfl rfl | constructor)); all_goals (fail "ps"))) | (refine OpK.call c4 rfl rfl rfl rfl hE ?_ rfl rfl ?_; focus ((repeat' (first | exact PsA.lit _ | exact PsA.ref rfl rfl | constructor)); all_goals (fail "ps"))) | (refine OpK.call c5 rfl rfl rfl rfl hE ?_ rfl rfl ?_; focus ((repeat' (first | exact PsA.lit _ | exact PsA.ref rfl rfl | constructor)); all_goals (fail "ps"))) | (refine OpK.call c6 rfl rfl rfl rfl hE ?_ rfl rfl ?_; focus ((repeat' (first | exact PsA.lit _ | exact PsA.ref rfl rfl | constructor)); all_goals (fail "ps"))) | (refine OpK.call d1 rfl rfl rfl rfl hE ?_ rfl rfl ?_; focus ((repeat' (first | exact PsA.lit _ | exact PsA.ref rfl rfl | exact PsA.ref rfl (mkL_len _ _ _ _).symm | constructor)); all_goals (fail "ps"))) | (refine CodeK.draw gOk hE rfl (fun _ _ h => h) (.alt 0 (.alt 1 (.alt 2 (.alt 3 (.take 4 .done) .stop) .stop) .stop) (.alt 1 (.alt 0 (.alt 2 (.alt 3 (.take 4 .done) .stop) .stop) (.alt 2 (.alt 0 (.alt 3 (.take 4 .done) .stop) .stop) .stop)) .stop)) ?_ ?_; focus (decide +kernel)) | (refine OpK.callBs [bSL 115 2004480 g (lG g), bSL 115 2004481 o (lO g o)] m0 rfl rfl rfl rfl hE (List.forall_mem_cons.2 ⟨BtOk.sl rfl (mkL_len _ _ _ _), List.forall_mem_cons.2 ⟨BtOk.sl rfl (mkL_len _ _ _ _), fun _ h => nomatch h⟩⟩) (List.forall_mem_cons.2 ⟨rfl, List.forall_mem_cons.2 ⟨rfl, fun _ h => nomatch h⟩⟩) (show List.Nodup [2004480, 2004481] by decide) (QsVs.cons (.agg (.cons (.h rfl rfl rfl) (.cons (.h rfl rfl rfl) .nil))) (.cons (.one (.c (.lit _) rfl)) .nil)) rfl rfl ?_) | (refine OpK.callBs [bSL 115 2005248 ng (lG ng), bSL 115 2005249 no (lO ng no)] m1 rfl rfl rfl rfl hE (List.forall_mem_cons.2 ⟨BtOk.sl rfl (mkL_len _ _ _ _), List.forall_mem_cons.2 ⟨BtOk.sl rfl (mkL_len _ _ _ _), fun _ h => nomatch h⟩⟩) (List.forall_mem_cons.2 ⟨rfl, List.forall_mem_cons.2 ⟨rfl, fun _ h => nomatch h⟩⟩) (show List.Nodup [2005248, 2005249] by decide) (QsVs.cons (.agg (.cons (.h rfl rfl rfl) (.cons (.h rfl rfl rfl) .nil))) (.cons (.one (.c (.lit _) rfl)) .nil)) rfl rfl ?_) | refine ListO.go gOk hE ?_)
    all_goals first | exact Need.mk rfl | (exfalso; omega) | exact absurd rfl h | (cases cc <;> simp_all; done) | (simp_all; done) | trace_state
end Go.Proofs.Ytnclkdpocjhphaa
end
