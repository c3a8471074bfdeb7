import Derived.Test.YtbfkdbbgbdihdaaTG
namespace Go.Proofs.Ytbfkdbbgbdihdaa
open Go Go.Tr
set_option maxRecDepth 100000
set_option maxHeartbeats 4000000
set_option linter.unusedVariables false
set_option linter.unusedSimpArgs false
/-- No serial was called behind the tell of a later one. -/
def stP (xs : List TEvT) (o : List Int) (i : Nat) : Prop := ∀ k, k < i → ¬ plc xs 3 (o.getD i 0) < plc xs 1 (o.getD k 0)
noncomputable def stR (xs : List TEvT) (o : List Int) : Bool := allP o.length (stP xs o)
def lcN (xs : List TEvT) (o : List Int) : Nat → Int
  | 0 => -1
  | i + 1 => if lcN xs o i < plc xs 1 (o.getD i 0) then plc xs 1 (o.getD i 0) else lcN xs o i
theorem lcN_bd (xs : List TEvT) (o : List Int) : ∀ i, -1 ≤ lcN xs o i ∧ ∀ t : Int, 0 ≤ t → (t < lcN xs o i ↔ ∃ k, k < i ∧ t < plc xs 1 (o.getD k 0))
  | 0 => ⟨Int.le_refl _, fun t ht => ⟨fun h => by unfold lcN at h; omega, fun ⟨k, hk, _⟩ => absurd hk (Nat.not_lt_zero _)⟩⟩
  | i + 1 => by
    obtain ⟨h1, h2⟩ := lcN_bd xs o i
    unfold lcN
    refine ⟨by split <;> omega, fun t ht => ?_⟩
    have := h2 t ht
    split
    · refine ⟨fun h => ⟨i, Nat.lt_succ_self _, h⟩, fun ⟨k, hk, hk2⟩ => ?_⟩
      by_cases e : k = i
      · subst e; exact hk2
      · have := this.2 ⟨k, by omega, hk2⟩; omega
    · refine ⟨fun h => ?_, fun ⟨k, hk, hk2⟩ => ?_⟩
      · obtain ⟨k, hk, hk2⟩ := this.1 h; exact ⟨k, by omega, hk2⟩
      · by_cases e : k = i
        · subst e; omega
        · exact this.2 ⟨k, by omega, hk2⟩
theorem mem_getD {o : List Int} {i : Nat} (h : i < o.length) : o.getD i 0 ∈ o := by
  rw [List.getD_eq_getElem?_getD, List.getElem?_eq_getElem h]; exact List.getElem_mem _
theorem StrictS_run (e eC eR : Nat) (xs : List TEvT) (hn : xs.length ≤ 1048576) : RunT Try.prog 32 [.one (.c (tTEv e eC eR xs))] [] [ob (stR xs (ordN xs xs.length))] [] := by
  have c0 := OrderS_run e eC eR xs hn
  have hl := ordN_le xs xs.length
  have hok := ordN_ok xs xs.length
  unfold stR
  generalize ordN xs xs.length = o at *
  refine RunT.of_vc gOk Try.func32 rfl rfl (Nat.le_of_ble_eq_true rfl) (by repeat' (first | exact trivial | exact ⟨_, rfl, Nat.le_refl _⟩ | exact Nat.le_of_ble_eq_true rfl | refine And.intro ?_ ?_)) (Nat.le_of_ble_eq_true rfl) rfl (fun F hE => ?_)
  repeat' (first | exact trivial | refine BS.d (fun h => ?_) (fun h => ?_) | refine BS.e (fun h => ?_) (fun h => ?_) | refine BS.ne (fun h => ?_) (fun h => ?_) | refine BS.n ?_ | refine BS.s (fun h => ?_) (fun h => ?_) | refine And.intro ?_ ?_ | (refine Need.mk ?_; first | with_reducible rfl | (show @Eq TC _ _; rfl) | omega | (simp only [adN_zero]; omega)) | exact OutS.whole rfl rfl | (refine OpK.call c0 rfl rfl rfl rfl hE ?_ rfl rfl ?_; focus ((repeat' (first | exact PsA.lit _ | exact PsA.ref rfl rfl | constructor)); all_goals (fail "ps"))))
  refine CodeK.loop gOk hE (fun i : Nat => ⟨[(0, vr 1000000 xs.length), (3, vr 2000896 o.length), (4, vi i)], [(2000896, rI .own true o), (1000000, rTEv .fro false e eC eR xs)]⟩) (fun i => i ≤ o.length ∧ ∀ j, j < i → stP xs o j) (fun i => o.length - i) 0 (by refine leT.of ?_ ?_ rfl <;> repeat' (first | exact trivial | refine And.intro rfl ?_ | refine And.intro (by simp) ?_)) ⟨Nat.zero_le _, fun j hj => absurd hj (Nat.not_lt_zero _)⟩ ?_
  rintro i ⟨hi, hs⟩
  repeat' (first | exact trivial | refine BS.d (fun h => ?_) (fun h => ?_) | refine BS.e (fun h => ?_) (fun h => ?_) | refine BS.ne (fun h => ?_) (fun h => ?_) | refine BS.n ?_ | refine BS.s (fun h => ?_) (fun h => ?_) | refine And.intro ?_ ?_ | (refine Need.mk ?_; first | with_reducible rfl | (show @Eq TC _ _; rfl) | omega | (simp only [adN_zero]; omega)) | exact OutS.whole rfl rfl)
  all_goals (try simp only [adN_zero] at *)
  · refine CodeK.loop gOk hE (fun k : Nat => ⟨[(0, vr 1000000 xs.length), (3, vr 2000896 o.length), (4, vi i), (5, vi k)], [(2000896, rI .own true o), (1000000, rTEv .fro false e eC eR xs)]⟩) (fun k => k ≤ i ∧ ∀ m, m < k → ¬ plc xs 3 (o.getD i 0) < plc xs 1 (o.getD m 0)) (fun k => i - k) 0 (by refine leT.of ?_ ?_ rfl <;> repeat' (first | exact trivial | refine And.intro rfl ?_ | refine And.intro (by simp) ?_)) ⟨Nat.zero_le _, fun j hj => absurd hj (Nat.not_lt_zero _)⟩ ?_
    rintro k ⟨hk, ht⟩
    have c1 := InTimeS_run e eC eR xs (o.getD i 0) (o.getD k 0) hn
    have hi2 : i < o.length := by omega
    have hp := hok _ (mem_getD hi2)
    by_cases hc : plc xs 3 (o.getD i 0) < plc xs 1 (o.getD k 0)
    · rw [decide_eq_true ⟨hp, by omega, hc⟩] at c1
      repeat' (first | exact trivial | refine BS.d (fun h => ?_) (fun h => ?_) | refine BS.e (fun h => ?_) (fun h => ?_) | refine BS.ne (fun h => ?_) (fun h => ?_) | refine BS.n ?_ | refine BS.s (fun h => ?_) (fun h => ?_) | refine And.intro ?_ ?_ | (refine Need.mk ?_; first | with_reducible rfl | (show @Eq TC _ _; rfl) | omega | (simp only [adN_zero]; omega)) | exact OutS.whole rfl rfl | (refine CodeK.draw gOk hE rfl (fun _ _ h => h) (.take 0 (.take 1 (.take 2 (.take 3 (.take 5 (.take 6 (.take 7 (.alt 4 (.alt 8 (.alt 9 .done .stop) .stop) (.alt 8 (.alt 4 (.alt 9 .done .stop) .stop) .stop))))))))) ?_ ?_; focus (decide +kernel)) | (refine OpK.call c1 rfl rfl rfl rfl hE ?_ rfl rfl ?_; focus ((repeat' (first | exact PsA.lit _ | exact PsA.ref rfl rfl | constructor)); all_goals (fail "ps"))))
      all_goals (try simp only [adN_zero] at *)
      all_goals first
        | (exfalso; omega)
        | (refine Need.mk ?_; omega)
        | (refine Need.mk ?_; exact (allP_false (i := i) hi2 (fun hq => hq k (by omega) hc)).symm)
        | (refine ⟨i + 1, (by refine leT.of ?_ ?_ rfl <;> repeat' (first | exact trivial | refine And.intro rfl ?_ | refine And.intro (by simp) ?_)), ⟨by omega, fun j hj => (Nat.lt_or_ge j i).elim (hs j) (fun h9 => (show j = i by omega) ▸ fun m hm => ht m (by omega))⟩, by first | omega | (dsimp only; omega)⟩)
    · rw [decide_eq_false (fun hq => hc hq.2.2)] at c1
      repeat' (first | exact trivial | refine BS.d (fun h => ?_) (fun h => ?_) | refine BS.e (fun h => ?_) (fun h => ?_) | refine BS.ne (fun h => ?_) (fun h => ?_) | refine BS.n ?_ | refine BS.s (fun h => ?_) (fun h => ?_) | refine And.intro ?_ ?_ | (refine Need.mk ?_; first | with_reducible rfl | (show @Eq TC _ _; rfl) | omega | (simp only [adN_zero]; omega)) | exact OutS.whole rfl rfl | (refine CodeK.draw gOk hE rfl (fun _ _ h => h) (.take 0 (.take 1 (.take 2 (.take 3 (.take 5 (.take 6 (.take 7 (.alt 4 (.alt 8 (.alt 9 .done .stop) .stop) (.alt 8 (.alt 4 (.alt 9 .done .stop) .stop) .stop))))))))) ?_ ?_; focus (decide +kernel)) | (refine OpK.call c1 rfl rfl rfl rfl hE ?_ rfl rfl ?_; focus ((repeat' (first | exact PsA.lit _ | exact PsA.ref rfl rfl | constructor)); all_goals (fail "ps"))))
      all_goals (try simp only [adN_zero] at *)
      all_goals first
        | (exfalso; omega)
        | (refine Need.mk ?_; omega)
        | (have h9 : k < i := by omega
           refine ⟨k + 1, (by refine leT.of ?_ ?_ rfl <;> repeat' (first | exact trivial | refine And.intro rfl ?_ | refine And.intro (by simp) ?_)), ⟨by omega, fun m hm => (Nat.lt_or_ge m k).elim (ht m) (fun h9 => (show m = k by omega) ▸ hc)⟩, by first | omega | (dsimp only; omega)⟩)
        | (refine ⟨i + 1, (by refine leT.of ?_ ?_ rfl <;> repeat' (first | exact trivial | refine And.intro rfl ?_ | refine And.intro (by simp) ?_)), ⟨by omega, fun j hj => (Nat.lt_or_ge j i).elim (hs j) (fun h9 => (show j = i by omega) ▸ fun m hm => ht m (by omega))⟩, by first | omega | (dsimp only; omega)⟩)
  · refine Need.mk ?_
    exact (allP_true fun j hj => hs j (by omega)).symm
theorem OrderI_run (e eC eR : Nat) (xs : List TEvT) (hn : xs.length ≤ 1048576) : RunT Try.prog 28 [.one (.c (tTEv e eC eR xs))] [] [.one (tI (ordN xs xs.length))] [] := by
  refine RunT.of_vc gOk Try.func28 rfl rfl (Nat.le_of_ble_eq_true rfl) (by repeat' (first | exact trivial | exact ⟨_, rfl, Nat.le_refl _⟩ | exact Nat.le_of_ble_eq_true rfl | refine And.intro ?_ ?_)) (Nat.le_of_ble_eq_true rfl) rfl (fun F hE => ?_)
  repeat' (first | exact trivial | refine BS.d (fun h => ?_) (fun h => ?_) | refine BS.e (fun h => ?_) (fun h => ?_) | refine BS.ne (fun h => ?_) (fun h => ?_) | refine BS.n ?_ | refine BS.s (fun h => ?_) (fun h => ?_) | refine And.intro ?_ ?_ | (refine Need.mk ?_; first | with_reducible rfl | (show @Eq TC _ _; rfl) | omega | (simp only [adN_zero]; omega)) | exact OutS.whole rfl rfl)
  refine CodeK.nilT gOk hE 3 900000 3 1 Int encI decI 0 (by rfl) (by rfl) (by decide) ?_
  repeat' (first | exact trivial | refine BS.d (fun h => ?_) (fun h => ?_) | refine BS.e (fun h => ?_) (fun h => ?_) | refine BS.ne (fun h => ?_) (fun h => ?_) | refine BS.n ?_ | refine BS.s (fun h => ?_) (fun h => ?_) | refine And.intro ?_ ?_ | (refine Need.mk ?_; first | with_reducible rfl | (show @Eq TC _ _; rfl) | omega | (simp only [adN_zero]; omega)) | exact OutS.whole rfl rfl)
  refine CodeK.loop gOk hE (fun i : Nat => ⟨[(0, vr 1000000 xs.length), (3, vr 900000 (ordN xs i).length), (6, vr 1000000 xs.length), (7, vi xs.length), (8, vi i)], [(900000, rI .own true (ordN xs i)), (1000000, rTEv .fro false e eC eR xs)]⟩) (fun i => i ≤ xs.length) (fun i => xs.length - i) 0 (by refine leT.of ?_ ?_ rfl <;> repeat' (first | exact trivial | refine And.intro rfl ?_ | refine And.intro (by first | rfl | (simp [ordN]; done)) ?_)) (Nat.zero_le _) ?_
  rintro i hi
  have hl := ordN_le xs i
  have c1 := ContainsI_run (ordN xs i) (xs.getD i zTEv).2.2.1 (by omega)
  have c2 := committed_run e eC eR xs (xs.getD i zTEv).2.2.1 hn
  have hN : ordN xs (i + 1) = if oTk xs (ordN xs i) (xs.getD i zTEv) then ordN xs i ++ [(xs.getD i zTEv).2.2.1] else ordN xs i := rfl
  unfold oTk at hN
  rcases h3 : cmt xs (xs.getD i zTEv).2.2.1 <;> by_cases h1 : (xs.getD i zTEv).1 = 2 <;> by_cases h2 : (xs.getD i zTEv).2.2.1 ∈ ordN xs i
  all_goals rw [h3] at c2
  all_goals simp only [h1, h2, h3, decide_true, decide_false, Bool.not_true, Bool.not_false, Bool.and_true, Bool.and_false, Bool.true_and, Bool.false_and, if_true, if_false, Bool.false_eq_true] at hN c1
  all_goals (repeat' (first | exact trivial | refine BS.d (fun h => ?_) (fun h => ?_) | refine BS.e (fun h => ?_) (fun h => ?_) | refine BS.ne (fun h => ?_) (fun h => ?_) | refine BS.n ?_ | refine BS.s (fun h => ?_) (fun h => ?_) | refine And.intro ?_ ?_ | (refine Need.mk ?_; first | with_reducible rfl | (show @Eq TC _ _; rfl) | omega | (simp only [adN_zero]; omega)) | exact OutS.whole rfl rfl | (refine OpK.call c1 rfl rfl rfl rfl hE ?_ rfl rfl ?_; focus ((repeat' (first | exact PsA.lit _ | exact PsA.ref rfl rfl | constructor)); all_goals (fail "ps"))) | (refine OpK.call c2 rfl rfl rfl rfl hE ?_ rfl rfl ?_; focus ((repeat' (first | exact PsA.lit _ | exact PsA.ref rfl rfl | constructor)); all_goals (fail "ps")))))
  all_goals (try simp only [adN_zero] at *)
  all_goals first
    | (exfalso; first | omega | contradiction)
    | (refine Need.mk ?_; omega)
    | (refine Need.mk ?_; refine ⟨?_, ?_⟩ <;> (try unfold maxLen) <;> omega)
    | (refine OutS.whole rfl ?_; rw [show xs.length = i by omega]; rfl)
    | skip
  all_goals (repeat' (first | exact trivial | refine BS.d (fun h => ?_) (fun h => ?_) | refine BS.e (fun h => ?_) (fun h => ?_) | refine BS.ne (fun h => ?_) (fun h => ?_) | refine BS.n ?_ | refine BS.s (fun h => ?_) (fun h => ?_) | refine And.intro ?_ ?_ | (refine Need.mk ?_; first | with_reducible rfl | (show @Eq TC _ _; rfl) | omega | (simp only [adN_zero]; omega)) | exact OutS.whole rfl rfl))
  all_goals (refine ⟨i + 1, (by refine leT.of ?_ ?_ rfl <;> repeat' (first | exact trivial | refine And.intro rfl ?_ | refine And.intro (by rw [hN]; first | rfl | (simp; done)) ?_)), ?_⟩; (refine And.intro ?_ ?_) <;> (first | omega | (dsimp only; omega) | trivial))
theorem StrictI_run (e eC eR : Nat) (xs : List TEvT) (hn : xs.length ≤ 1048576) : RunT Try.prog 33 [.one (.c (tTEv e eC eR xs))] [] [ob (stR xs (ordN xs xs.length))] [] := by
  have c0 := OrderI_run e eC eR xs hn
  have hl := ordN_le xs xs.length
  have hok := ordN_ok xs xs.length
  unfold stR
  generalize ordN xs xs.length = o at *
  refine RunT.of_vc gOk Try.func33 rfl rfl (Nat.le_of_ble_eq_true rfl) (by repeat' (first | exact trivial | exact ⟨_, rfl, Nat.le_refl _⟩ | exact Nat.le_of_ble_eq_true rfl | refine And.intro ?_ ?_)) (Nat.le_of_ble_eq_true rfl) rfl (fun F hE => ?_)
  repeat' (first | exact trivial | refine BS.d (fun h => ?_) (fun h => ?_) | refine BS.e (fun h => ?_) (fun h => ?_) | refine BS.ne (fun h => ?_) (fun h => ?_) | refine BS.n ?_ | refine BS.s (fun h => ?_) (fun h => ?_) | refine And.intro ?_ ?_ | (refine Need.mk ?_; first | with_reducible rfl | (show @Eq TC _ _; rfl) | omega | (simp only [adN_zero]; omega)) | exact OutS.whole rfl rfl | (refine OpK.call c0 rfl rfl rfl rfl hE ?_ rfl rfl ?_; focus ((repeat' (first | exact PsA.lit _ | exact PsA.ref rfl rfl | constructor)); all_goals (fail "ps"))))
  refine CodeK.loop gOk hE (fun i : Nat => ⟨[(0, vr 1000000 xs.length), (3, vi (lcN xs o i)), (7, vr 2000896 o.length), (8, vi o.length), (9, vi i)], [(2000896, rI .own true o), (1000000, rTEv .fro false e eC eR xs)]⟩) (fun i => i ≤ o.length ∧ ∀ j, j < i → stP xs o j) (fun i => o.length - i) 0 (by refine leT.of ?_ ?_ rfl <;> repeat' (first | exact trivial | refine And.intro rfl ?_ | refine And.intro (by first | rfl | simp [lcN]) ?_)) ⟨Nat.zero_le _, fun j hj => absurd hj (Nat.not_lt_zero _)⟩ ?_
  rintro i ⟨hi, hs⟩
  have c1 := PlaceOfI_run e eC eR xs 3 (o.getD i 0) hn
  have c2 := PlaceOfI_run e eC eR xs 1 (o.getD i 0) hn
  have hb := plc_bd xs 3 (o.getD i 0)
  have hb2 := plc_bd xs 1 (o.getD i 0)
  have hc := (lcN_bd xs o i).2 (plc xs 3 (o.getD i 0))
  have hN : lcN xs o (i + 1) = if lcN xs o i < plc xs 1 (o.getD i 0) then plc xs 1 (o.getD i 0) else lcN xs o i := rfl
  repeat' (first | exact trivial | refine BS.d (fun h => ?_) (fun h => ?_) | refine BS.e (fun h => ?_) (fun h => ?_) | refine BS.ne (fun h => ?_) (fun h => ?_) | refine BS.n ?_ | refine BS.s (fun h => ?_) (fun h => ?_) | refine And.intro ?_ ?_ | (refine Need.mk ?_; first | with_reducible rfl | (show @Eq TC _ _; rfl) | omega | (simp only [adN_zero]; omega)) | exact OutS.whole rfl rfl | (refine OpK.call c1 rfl rfl rfl rfl hE ?_ rfl rfl ?_; focus ((repeat' (first | exact PsA.lit _ | exact PsA.ref rfl rfl | constructor)); all_goals (fail "ps"))) | (refine OpK.call c2 rfl rfl rfl rfl hE ?_ rfl rfl ?_; focus ((repeat' (first | exact PsA.lit _ | exact PsA.ref rfl rfl | constructor)); all_goals (fail "ps"))) | (refine OpK.max rfl rfl rfl rfl rfl ?_))
  all_goals (try simp only [adN_zero] at *)
  all_goals first
    | (exfalso; omega)
    | (refine Need.mk ?_; omega)
    | (refine Need.mk ?_; have hi2 : i < o.length := by omega
       obtain ⟨k, hk, hk2⟩ := (hc (hok _ (mem_getD hi2))).1 (by assumption)
       exact (allP_false (i := i) hi2 (fun hq => hq k hk hk2)).symm)
    | (refine Need.mk ?_; exact (allP_true fun j hj => hs j (by omega)).symm)
    | (have hi2 : i < o.length := by omega
       refine ⟨i + 1, (by refine leT.of ?_ ?_ rfl <;> repeat' (first | exact trivial | refine And.intro rfl ?_ | refine And.intro (by first | rfl | (rw [hN]; rfl) | (simp [hN]; done)) ?_)), ⟨by omega, fun j hj => (Nat.lt_or_ge j i).elim (hs j) (fun h9 => (show j = i by omega) ▸ fun m hm hlt => absurd ((hc (hok _ (mem_getD hi2))).2 ⟨m, hm, hlt⟩) (by assumption))⟩, by first | omega | (dsimp only; omega)⟩)
theorem Strict_law (xs : List TEvT) (hn : xs.length ≤ 9223372036854775807) (hx : ∀ i, (xs.getD i zTEv).2.2.2.2.1.length ≤ 9223372036854775807 ∧ (xs.getD i zTEv).2.2.2.2.2.length ≤ 9223372036854775807) : RunT Try.prog 8 [.one (.c (tTEv 0 0 0 xs))] [] [ob true] [] := by
  refine RunT.of_vc gOk Try.func8 rfl rfl (Nat.le_of_ble_eq_true rfl) (by repeat' (first | exact trivial | exact ⟨_, rfl, Nat.le_refl _⟩ | exact Nat.le_of_ble_eq_true rfl | refine And.intro ?_ ?_)) (Nat.le_of_ble_eq_true rfl) rfl (fun F hE => ?_)
  repeat' (first | exact trivial | refine BS.d (fun h => ?_) (fun h => ?_) | refine BS.e (fun h => ?_) (fun h => ?_) | refine BS.ne (fun h => ?_) (fun h => ?_) | refine BS.n ?_ | refine BS.s (fun h => ?_) (fun h => ?_) | refine And.intro ?_ ?_ | (refine Need.mk ?_; first | with_reducible rfl | (show @Eq TC _ _; rfl) | omega | (simp only [adN_zero]; omega)) | exact OutS.whole rfl rfl)
  refine OpK.call (szTEvS_run 0 0 0 xs 1048576 (by omega) (by omega) hn hx) rfl rfl rfl rfl hE (by repeat' (first | exact PsA.lit _ | exact PsA.ref rfl rfl | constructor)) rfl rfl ?_
  repeat' (first | exact trivial | refine BS.d (fun h => ?_) (fun h => ?_) | refine BS.e (fun h => ?_) (fun h => ?_) | refine BS.ne (fun h => ?_) (fun h => ?_) | refine BS.n ?_ | refine BS.s (fun h => ?_) (fun h => ?_) | refine And.intro ?_ ?_ | (refine Need.mk ?_; first | with_reducible rfl | (show @Eq TC _ _; rfl) | omega | (simp only [adN_zero]; omega)) | exact OutS.whole rfl rfl)
  have hz : ¬ szTL xs 1048576 < 0 := by assumption
  obtain ⟨hm, hy⟩ := szTL_ok hz
  have c1 := toTEvS_run 0 0 0 xs hm hy
  have c2 := StrictS_run 78 103 105 xs hm
  have c3 := StrictI_run 78 103 105 xs hm
  have c4 := eqTEvS_run 78 103 105 xs (by omega) (fun i => by have := hy i; omega)
  generalize stR xs (ordN xs xs.length) = bb at *
  repeat' (first | exact trivial | refine BS.d (fun h => ?_) (fun h => ?_) | refine BS.e (fun h => ?_) (fun h => ?_) | refine BS.ne (fun h => ?_) (fun h => ?_) | refine BS.n ?_ | refine BS.s (fun h => ?_) (fun h => ?_) | refine And.intro ?_ ?_ | (refine Need.mk ?_; first | with_reducible rfl | (show @Eq TC _ _; rfl) | omega | (simp only [adN_zero]; omega)) | exact OutS.whole rfl rfl | (refine OpK.call c1 rfl rfl rfl rfl hE ?_ rfl rfl ?_; focus ((repeat' (first | exact PsA.lit _ | exact PsA.ref rfl rfl | constructor)); all_goals (fail "ps"))) | (refine OpK.call c2 rfl rfl rfl rfl hE ?_ rfl rfl ?_; focus ((repeat' (first | exact PsA.lit _ | exact PsA.ref rfl rfl | constructor)); all_goals (fail "ps"))) | (refine OpK.call c3 rfl rfl rfl rfl hE ?_ rfl rfl ?_; focus ((repeat' (first | exact PsA.lit _ | exact PsA.ref rfl rfl | constructor)); all_goals (fail "ps"))) | (refine OpK.call c4 rfl rfl rfl rfl hE ?_ rfl rfl ?_; focus ((repeat' (first | exact PsA.lit _ | exact PsA.ref rfl rfl | constructor)); all_goals (fail "ps"))))
  all_goals first | exact absurd rfl h | (cases bb <;> simp_all; done) | trace_state
end Go.Proofs.Ytbfkdbbgbdihdaa
