import Derived.Test.YtbfkdbbgbdihdabUC
namespace Go.Proofs.Ytbfkdbbgbdihdab
open Go Go.Tr
set_option maxRecDepth 100000
set_option maxHeartbeats 4000000
set_option linter.unusedVariables false
set_option linter.unusedSimpArgs false
/-- Slots that are told apart, the slots before them being these. -/
def okS : List Int → List Int → Bool
  | _, [] => true
  | s, x :: l => if (0 ≤ x ∧ x < 24) ∧ x ∉ s then okS (s ++ [x]) l else false
theorem okS_no {s : List Int} {x : Int} {l : List Int} (h : ¬ ((0 ≤ x ∧ x < 24) ∧ x ∉ s)) : okS s (x :: l) = false := by rw [okS, if_neg h]
theorem okS_yes {s : List Int} {x : Int} {l : List Int} (h : (0 ≤ x ∧ x < 24) ∧ x ∉ s) : okS s (x :: l) = okS (s ++ [x]) l := by rw [okS, if_pos h]
theorem seen_step {bs : List Bool} {s : List Int} {v : Int} (hbl : bs.length = 24) (hv : 0 ≤ v ∧ v < 24) (hbs : ∀ z : Nat, z < 24 → bs.getD z false = decide ((z : Int) ∈ s)) : ∀ z : Nat, z < 24 → (bs.set v.toNat true).getD z false = decide ((z : Int) ∈ s ++ [v]) := by
  intro z hz
  obtain ⟨n, rfl⟩ := Int.eq_ofNat_of_zero_le hv.1
  simp only [Int.toNat_natCast]
  by_cases e1 : n = z
  · subst e1
    rw [List.getD_eq_getElem?_getD, List.getElem?_set_self (by omega)]
    simp
  · rw [List.getD_eq_getElem?_getD, List.getElem?_set_ne e1, ← List.getD_eq_getElem?_getD, hbs z hz]
    apply decide_eq_decide.2
    simp; omega
theorem slotOk_run (x : Int) : RunT Try.prog 51 [ti x] [] [ob (decide (0 ≤ x ∧ x < 24))] [] := by
  refine RunT.of_vc gOk Try.func51 rfl rfl (Nat.le_of_ble_eq_true rfl) (by repeat' (first | exact trivial | exact ⟨_, rfl, Nat.le_refl _⟩ | exact Nat.le_of_ble_eq_true rfl | refine And.intro ?_ ?_)) (Nat.le_of_ble_eq_true rfl) rfl (fun F hE => ?_)
  repeat' (first | exact trivial | refine BS.d (fun h => ?_) (fun h => ?_) | refine BS.e (fun h => ?_) (fun h => ?_) | refine BS.ne (fun h => ?_) (fun h => ?_) | refine BS.n ?_ | refine BS.s (fun h => ?_) (fun h => ?_) | refine And.intro ?_ ?_ | (refine Need.mk ?_; first | with_reducible rfl | (show @Eq TC _ _; rfl) | omega | (simp only [adN_zero]; omega)) | exact OutS.whole rfl rfl)
  all_goals (refine Need.mk ?_; first | rfl | (symm; apply decide_eq_true; omega) | (symm; apply decide_eq_false; omega) | (apply decide_eq_decide.2; omega))
/-- A row of headers, each of which tells a row of numbers. -/
structure Hs (hc : Hc) (hs : List Hdr) (xss : List (List Int)) : Prop where
  len : hs.length = xss.length
  at_ : ∀ i, i < hs.length → RowTold hc (hs.getD i dH).1 (hs.getD i dH).2.1 (hs.getD i dH).2.2 1 Int encI 0 (xss.getD i [])
theorem eachSlot_told {hc : Hc} (gs os : List Hdr) (xss : List (List Int)) (A1 A2 : Option Addr) (n1 n2 c1 c2 : Nat) (h1 : RowTold hc A1 n1 c1 1 Hdr encH dH gs) (h2 : RowTold hc A2 n2 c2 1 Hdr encH dH os) (hn : gs.length + os.length ≤ 1048576) (hX : Hs hc (gs ++ os) xss) (hx : ∀ i, (xss.getD i []).length ≤ 1048576) :
    RunH Try.prog hc 37 [.agg [.c (.lit (.slice A1 n1 c1)), .c (.lit (.slice A2 n2 c2))]] [] [ob (okS [] xss.flatten)] [] := by
  have cC := Concat_run gs os A1 A2 n1 n2 c1 c2 h1 h2 hn
  have hlen : (gs ++ os).length ≤ 1048576 := by simp; omega
  refine RunH.of_vc gOk Try.func37 rfl rfl (Nat.le_of_ble_eq_true rfl) (by repeat' (first | exact trivial | exact ⟨_, rfl, Nat.le_refl _⟩ | exact Nat.le_of_ble_eq_true rfl | refine And.intro ?_ ?_)) (Nat.le_of_ble_eq_true rfl) rfl (fun F hE hA => ?_)
  repeat' (first | exact trivial | refine BS.d (fun h => ?_) (fun h => ?_) | refine BS.e (fun h => ?_) (fun h => ?_) | refine BS.ne (fun h => ?_) (fun h => ?_) | refine BS.n ?_ | refine BS.s (fun h => ?_) (fun h => ?_) | refine And.intro ?_ ?_ | (refine Need.mk ?_; first | with_reducible rfl | (show @Eq TC _ _; rfl) | omega | (simp only [adN_zero]; omega)) | exact OutS.whole rfl rfl | (refine OpK.bs2 gOk rfl rfl rfl rfl rfl rfl rfl rfl rfl rfl (by decide) ?_) | (refine OpK.callH cC hA rfl rfl rfl rfl hE ?_ rfl rfl ?_; focus ((repeat' (first | exact PsA.lit _ | exact PsA.ref rfl rfl | constructor)); all_goals (fail "ps"))))
  generalize gs ++ os = hs at *
  refine CodeK.arr gOk hE (κ := 3) 24 (by rfl) (by rfl) ?_
  refine CodeK.loop gOk hE (fun i : Nat × List Int × List Bool => ⟨[(3, .ptr 3 0 0), (13, vr 2001664 hs.length), (14, vi hs.length), (15, vi i.1)], [(2001664, rH .own true 52 hs), (3, arrR 74 24 i.2.2)]⟩) (fun i => i.1 ≤ hs.length ∧ i.2.2.length = 24 ∧ (∀ z : Nat, z < 24 → i.2.2.getD z false = decide ((z : Int) ∈ i.2.1)) ∧ okS [] xss.flatten = okS i.2.1 (xss.drop i.1).flatten) (fun i => hs.length - i.1) (0, [], List.replicate 24 false) (by refine leT.of ?_ ?_ rfl <;> repeat' (first | exact trivial | refine And.intro rfl ?_ | refine And.intro (by first | rfl | (simp; done) | (simp <;> rfl)) ?_)) ⟨Nat.zero_le _, rfl, by decide, rfl⟩ ?_
  rintro ⟨i, s, bs⟩ ⟨hi, hbl, hbs, hq⟩
  dsimp only at hi hbl hbs hq
  by_cases hi2 : i < hs.length
  · have hT := hX.at_ i hi2
    have hTl := hT.len
    have hxi := hx i
    have hxl := hX.len
    rw [drop_cons [] (by omega), List.flatten_cons] at hq
    obtain ⟨R, hR⟩ : ∃ R, R = (xss.drop (i + 1)).flatten := ⟨_, rfl⟩
    rw [← hR] at hq
    repeat' (first | exact trivial | refine BS.d (fun h => ?_) (fun h => ?_) | refine BS.e (fun h => ?_) (fun h => ?_) | refine BS.ne (fun h => ?_) (fun h => ?_) | refine BS.n ?_ | refine BS.s (fun h => ?_) (fun h => ?_) | refine And.intro ?_ ?_ | (refine Need.mk ?_; first | with_reducible rfl | (show @Eq TC _ _; rfl) | omega | (simp only [adN_zero]; omega)) | exact OutS.whole rfl rfl | (refine ListK.tell gOk hA hE 20 5000 3 decI hT rfl rfl rfl ?_))
    all_goals (try simp only [adN_zero] at *)
    all_goals first | (exfalso; omega) | (refine Need.mk ?_; omega) | skip
    refine CodeK.loop gOk hE (fun k : Nat × List Int × List Bool => ⟨[(3, .ptr 3 0 0), (13, vr 2001664 hs.length), (14, vi hs.length), (15, vi i), (20, vr 5000 (hs.getD i dH).2.1), (21, vi (hs.getD i dH).2.1), (22, vi k.1)], [(2001664, rH .own true 52 hs), (3, arrR 74 24 k.2.2), (5000, rI .fro false (xss.getD i []))]⟩) (fun k => k.1 ≤ (xss.getD i []).length ∧ k.2.2.length = 24 ∧ (∀ z : Nat, z < 24 → k.2.2.getD z false = decide ((z : Int) ∈ k.2.1)) ∧ okS [] xss.flatten = okS k.2.1 ((xss.getD i []).drop k.1 ++ R)) (fun k => (xss.getD i []).length - k.1) (0, s, bs) (by refine leT.of ?_ ?_ rfl <;> repeat' (first | exact trivial | refine And.intro rfl ?_ | refine And.intro (by first | rfl | (simp; done) | (simp <;> rfl)) ?_)) ⟨Nat.zero_le _, hbl, hbs, hq⟩ ?_
    rintro ⟨k, s', bs'⟩ ⟨hk, hbl', hbs', hq'⟩
    dsimp only at hk hbl' hbs' hq'
    by_cases hk2 : k < (xss.getD i []).length
    · rw [drop_cons 0 hk2, List.cons_append] at hq'
      have c2 := slotOk_run ((xss.getD i []).getD k 0)
      by_cases hv : 0 ≤ ((xss.getD i []).getD k 0) ∧ ((xss.getD i []).getD k 0) < 24
      · rw [decide_eq_true hv] at c2
        have hz := hbs' ((xss.getD i []).getD k 0).toNat (by omega)
        rw [Int.toNat_of_nonneg hv.1] at hz
        repeat' (first | exact trivial | refine BS.d (fun h => ?_) (fun h => ?_) | refine BS.e (fun h => ?_) (fun h => ?_) | refine BS.ne (fun h => ?_) (fun h => ?_) | refine BS.n ?_ | refine BS.s (fun h => ?_) (fun h => ?_) | refine And.intro ?_ ?_ | (refine Need.mk ?_; first | with_reducible rfl | (show @Eq TC _ _; rfl) | omega | (simp only [adN_zero]; omega)) | exact OutS.whole rfl rfl | (refine OpK.call c2 rfl rfl rfl rfl hE ?_ rfl rfl ?_; focus ((repeat' (first | exact PsA.lit _ | exact PsA.ref rfl rfl | constructor)); all_goals (fail "ps"))))
        all_goals (try simp only [adN_zero] at *)
        all_goals first | (exfalso; omega) | (refine Need.mk ?_; omega) | skip
        refine OpK.ldA gOk (by rfl) (by rfl) (by rfl) (by rfl) (by rfl) (by rfl) (by rfl) (by omega) ?_
        rw [show 0 + ((xss.getD i []).getD k 0).toNat * 1 = ((xss.getD i []).getD k 0).toNat by omega, hz]
        by_cases hin : ((xss.getD i []).getD k 0) ∈ s'
        · rw [decide_eq_true hin]
          rw [okS_no (fun h => h.2 hin)] at hq'
          rw [hq']
          repeat' (first | exact trivial | refine BS.d (fun h => ?_) (fun h => ?_) | refine BS.e (fun h => ?_) (fun h => ?_) | refine BS.ne (fun h => ?_) (fun h => ?_) | refine BS.n ?_ | refine BS.s (fun h => ?_) (fun h => ?_) | refine And.intro ?_ ?_ | (refine Need.mk ?_; first | with_reducible rfl | (show @Eq TC _ _; rfl) | omega | (simp only [adN_zero]; omega)) | exact OutS.whole rfl rfl | (refine OpK.call c2 rfl rfl rfl rfl hE ?_ rfl rfl ?_; focus ((repeat' (first | exact PsA.lit _ | exact PsA.ref rfl rfl | constructor)); all_goals (fail "ps"))))
          all_goals first | rfl | exact Need.mk rfl | (exfalso; omega) | trace_state
        · rw [decide_eq_false hin]
          rw [okS_yes ⟨hv, hin⟩] at hq'
          repeat' (first | exact trivial | refine BS.d (fun h => ?_) (fun h => ?_) | refine BS.e (fun h => ?_) (fun h => ?_) | refine BS.ne (fun h => ?_) (fun h => ?_) | refine BS.n ?_ | refine BS.s (fun h => ?_) (fun h => ?_) | refine And.intro ?_ ?_ | (refine Need.mk ?_; first | with_reducible rfl | (show @Eq TC _ _; rfl) | omega | (simp only [adN_zero]; omega)) | exact OutS.whole rfl rfl | (refine OpK.call c2 rfl rfl rfl rfl hE ?_ rfl rfl ?_; focus ((repeat' (first | exact PsA.lit _ | exact PsA.ref rfl rfl | constructor)); all_goals (fail "ps"))))
          all_goals (try simp only [adN_zero] at *)
          all_goals first | (exfalso; omega) | (refine Need.mk ?_; omega) | skip
          refine OpK.stA gOk (by rfl) (by rfl) (by rfl) (by rfl) (by rfl) (by rfl) (by rfl) (by omega) (by exact hbl'.symm) ?_
          rw [show 0 + ((xss.getD i []).getD k 0).toNat * 1 = ((xss.getD i []).getD k 0).toNat by omega]
          repeat' (first | exact trivial | refine BS.d (fun h => ?_) (fun h => ?_) | refine BS.e (fun h => ?_) (fun h => ?_) | refine BS.ne (fun h => ?_) (fun h => ?_) | refine BS.n ?_ | refine BS.s (fun h => ?_) (fun h => ?_) | refine And.intro ?_ ?_ | (refine Need.mk ?_; first | with_reducible rfl | (show @Eq TC _ _; rfl) | omega | (simp only [adN_zero]; omega)) | exact OutS.whole rfl rfl)
          all_goals (try simp only [adN_zero] at *)
          all_goals first
            | (refine Need.mk ?_; omega)
            | exact ⟨(k + 1, s' ++ [((xss.getD i []).getD k 0)], bs'.set ((xss.getD i []).getD k 0).toNat true), (by refine leT.of ?_ ?_ rfl <;> repeat' (first | exact trivial | refine And.intro rfl ?_ | refine And.intro (by first | rfl | (simp; done) | (simp <;> rfl)) ?_)), ⟨hk2, by simp [hbl'], seen_step hbl' hv hbs', hq'⟩, by dsimp only; omega⟩
      · rw [decide_eq_false hv] at c2
        rw [okS_no (fun h => hv h.1)] at hq'
        rw [hq']
        repeat' (first | exact trivial | refine BS.d (fun h => ?_) (fun h => ?_) | refine BS.e (fun h => ?_) (fun h => ?_) | refine BS.ne (fun h => ?_) (fun h => ?_) | refine BS.n ?_ | refine BS.s (fun h => ?_) (fun h => ?_) | refine And.intro ?_ ?_ | (refine Need.mk ?_; first | with_reducible rfl | (show @Eq TC _ _; rfl) | omega | (simp only [adN_zero]; omega)) | exact OutS.whole rfl rfl | (refine OpK.call c2 rfl rfl rfl rfl hE ?_ rfl rfl ?_; focus ((repeat' (first | exact PsA.lit _ | exact PsA.ref rfl rfl | constructor)); all_goals (fail "ps"))))
        all_goals (try simp only [adN_zero] at *)
        all_goals first | (exfalso; omega) | (refine Need.mk ?_; omega) | skip
    · rw [List.drop_eq_nil_of_le (by omega), List.nil_append, hR] at hq'
      repeat' (first | exact trivial | refine BS.d (fun h => ?_) (fun h => ?_) | refine BS.e (fun h => ?_) (fun h => ?_) | refine BS.ne (fun h => ?_) (fun h => ?_) | refine BS.n ?_ | refine BS.s (fun h => ?_) (fun h => ?_) | refine And.intro ?_ ?_ | (refine Need.mk ?_; first | with_reducible rfl | (show @Eq TC _ _; rfl) | omega | (simp only [adN_zero]; omega)) | exact OutS.whole rfl rfl | (refine OpK.call cC rfl rfl rfl rfl hE ?_ rfl rfl ?_; focus ((repeat' (first | exact PsA.lit _ | exact PsA.ref rfl rfl | constructor)); all_goals (fail "ps"))))
      all_goals (try simp only [adN_zero] at *)
      all_goals first
        | (exfalso; omega)
        | (refine Need.mk ?_; omega)
        | exact ⟨(i + 1, s', bs'), (by refine leT.of ?_ ?_ rfl <;> repeat' (first | exact trivial | refine And.intro rfl ?_ | refine And.intro (by first | rfl | (simp; done) | (simp <;> rfl)) ?_)), ⟨hi2, hbl', hbs', hq'⟩, by dsimp only; omega⟩
  · rw [List.drop_eq_nil_of_le (by have := hX.len; omega)] at hq
    repeat' (first | exact trivial | refine BS.d (fun h => ?_) (fun h => ?_) | refine BS.e (fun h => ?_) (fun h => ?_) | refine BS.ne (fun h => ?_) (fun h => ?_) | refine BS.n ?_ | refine BS.s (fun h => ?_) (fun h => ?_) | refine And.intro ?_ ?_ | (refine Need.mk ?_; first | with_reducible rfl | (show @Eq TC _ _; rfl) | omega | (simp only [adN_zero]; omega)) | exact OutS.whole rfl rfl | (refine OpK.call cC rfl rfl rfl rfl hE ?_ rfl rfl ?_; focus ((repeat' (first | exact PsA.lit _ | exact PsA.ref rfl rfl | constructor)); all_goals (fail "ps"))))
    all_goals first | exact Need.mk hq.symm | exact Need.mk hq | (exfalso; omega) | trace_state
end Go.Proofs.Ytbfkdbbgbdihdab
