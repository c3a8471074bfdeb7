import Derived.Test.YtpmhkpmkmbkjbaaGreatDoorZQ
section
/- Where a slot is. -/
namespace Go.Proofs.YtpmhkpmkmbkjbaaGreatDoor
open Go Go.Tr
set_option maxRecDepth 100000
set_option maxHeartbeats 4000000
set_option linter.unusedVariables false
set_option linter.unusedSimpArgs false
noncomputable def whX (b c : List Int) (g o : List (List Int)) (l : List (List Row)) (s : Int) : Int := if stN b c g o s = 3 then (if inLb l s = true then 3 else 4) else stN b c g o s
noncomputable def whB (b c : List Int) (g o : List (List Int)) (E : Int) (ps : List PinT) (l : List (List Row)) (z : List Int) (s : Int) : Int := if bsB b c g o E ps l z = true then whX b c g o l s else 0
theorem stN_bdW (b c : List Int) (g o : List (List Int)) (s : Int) : 0 ≤ stN b c g o s ∧ stN b c g o s ≤ 3 := by
  unfold stN
  split
  · omega
  · split
    · omega
    · split <;> omega
theorem whX_bd (b c : List Int) (g o : List (List Int)) (l : List (List Row)) (s : Int) : 0 ≤ whX b c g o l s ∧ whX b c g o l s ≤ 4 := by
  have := stN_bdW b c g o s
  unfold whX
  split
  · split <;> omega
  · omega
theorem l13Where_run (e eP eR eL : Nat) (b c : List Int) (g o : List (List Int)) (E : Int) (ps : List PinT) (l : List (List Row)) (z : List Int) (s : Int) (h : BsT b c g o ps l z) (hp : hpP b c) : RunT Tryz.prog 84 [aBs e eP eR eL b c g o E ps l z, ti s] [] [oi (whX b c g o l s)] [] := by
  have c1 := l9State_run e b c g o s h.mt hp
  have c2 := InLimboS_run eR eL l s h.ok.hl h.cn
  unfold whX
  by_cases h3 : stN b c g o s = 3
  · rw [h3] at c1
    rw [if_pos h3]
    cases hq : inLb l s
    all_goals (rw [hq] at c2)
    all_goals (refine RunT.of_vc gOk Tryz.func84 rfl rfl (Nat.le_of_ble_eq_true rfl) (by repeat' (first | exact trivial | exact ⟨_, rfl, Nat.le_refl _⟩ | exact Nat.le_of_ble_eq_true rfl | refine And.intro ?_ ?_)) (Nat.le_of_ble_eq_true rfl) rfl (fun F hE => ?_))
    all_goals (repeat' (first | exact trivial | refine BS.d (fun h => ?_) (fun h => ?_) | refine BS.e (fun h => ?_) (fun h => ?_) | refine BS.ne (fun h => ?_) (fun h => ?_) | refine BS.n ?_ | refine BS.s (fun h => ?_) (fun h => ?_) | refine And.intro ?_ ?_ | (refine Need.mk ?_; first | with_reducible rfl | (show @Eq TC _ _; rfl) | omega | (simp only [adN_zero]; omega)) | exact OutS.whole rfl rfl | (refine OpK.call c1 rfl rfl rfl rfl hE ?_ rfl rfl ?_; focus ((repeat' (first | exact PsA.lit _ | exact PsA.ref rfl rfl | constructor)); all_goals (fail "ps"))) | (refine OpK.call c2 rfl rfl rfl rfl hE ?_ rfl rfl ?_; focus ((repeat' (first | exact PsA.lit _ | exact PsA.ref rfl rfl | constructor)); all_goals (fail "ps"))) | refine ListO.go gOk hE ?_))
    all_goals first | exact Need.mk rfl | (refine Need.mk ?_; simp [h3]; done) | trace_state
  · rw [if_neg h3]
    generalize stN b c g o s = q at *
    refine RunT.of_vc gOk Tryz.func84 rfl rfl (Nat.le_of_ble_eq_true rfl) (by repeat' (first | exact trivial | exact ⟨_, rfl, Nat.le_refl _⟩ | exact Nat.le_of_ble_eq_true rfl | refine And.intro ?_ ?_)) (Nat.le_of_ble_eq_true rfl) rfl (fun F hE => ?_)
    repeat' (first | exact trivial | refine BS.d (fun h => ?_) (fun h => ?_) | refine BS.e (fun h => ?_) (fun h => ?_) | refine BS.ne (fun h => ?_) (fun h => ?_) | refine BS.n ?_ | refine BS.s (fun h => ?_) (fun h => ?_) | refine And.intro ?_ ?_ | (refine Need.mk ?_; first | with_reducible rfl | (show @Eq TC _ _; rfl) | omega | (simp only [adN_zero]; omega)) | exact OutS.whole rfl rfl | (refine OpK.call c1 rfl rfl rfl rfl hE ?_ rfl rfl ?_; focus ((repeat' (first | exact PsA.lit _ | exact PsA.ref rfl rfl | constructor)); all_goals (fail "ps"))) | refine ListO.go gOk hE ?_)
    all_goals first | exact Need.mk rfl | (exfalso; omega) | trace_state
theorem where_run (e eP eR eL : Nat) (b c : List Int) (g o : List (List Int)) (E : Int) (ps : List PinT) (l : List (List Row)) (z : List Int) (s : Int) (h : BsT b c g o ps l z) (hp : hpP b c) : RunH Tryz.prog hT 85 [aBs e eP eR eL b c g o E ps l z, ti s] [] [oi (whX b c g o l s)] [] := by
  have c1 := stateIn_run e b c g o s h.mt hp
  have c2 := InLimboI_run eR eL l s h.ok.hl h.cn h.mx
  have hb := stN_bdW b c g o s
  unfold whX
  by_cases h3 : stN b c g o s = 3
  · have hk := clIn_some (stN_cl h3)
    rw [h3] at c1
    rw [if_pos h3]
    rw [if_pos hk.1] at c2
    cases hq : inLb l s
    all_goals (rw [hq] at c2)
    all_goals (refine RunH.of_vc gOk Tryz.func85 rfl rfl (Nat.le_of_ble_eq_true rfl) (by repeat' (first | exact trivial | exact ⟨_, rfl, Nat.le_refl _⟩ | exact Nat.le_of_ble_eq_true rfl | refine And.intro ?_ ?_)) (Nat.le_of_ble_eq_true rfl) rfl (fun F hE hA => ?_))
    all_goals (repeat' (first | exact trivial | refine BS.d (fun h => ?_) (fun h => ?_) | refine BS.e (fun h => ?_) (fun h => ?_) | refine BS.ne (fun h => ?_) (fun h => ?_) | refine BS.n ?_ | refine BS.s (fun h => ?_) (fun h => ?_) | refine And.intro ?_ ?_ | (refine Need.mk ?_; first | with_reducible rfl | (show @Eq TC _ _; rfl) | omega | (simp only [adN_zero]; omega)) | exact OutS.whole rfl rfl | (refine OpK.callH c1 hA rfl rfl rfl rfl hE ?_ rfl rfl ?_; focus ((repeat' (first | exact PsA.lit _ | exact PsA.ref rfl rfl | constructor)); all_goals (fail "ps"))) | (refine OpK.call c2 rfl rfl rfl rfl hE ?_ rfl rfl ?_; focus ((repeat' (first | exact PsA.lit _ | exact PsA.ref rfl rfl | constructor)); all_goals (fail "ps"))) | refine ListO.go gOk hE ?_))
    all_goals first | exact Need.mk rfl | (exfalso; omega) | (exfalso; contradiction) | trace_state
  · rw [if_neg h3]
    generalize stN b c g o s = q at *
    refine RunH.of_vc gOk Tryz.func85 rfl rfl (Nat.le_of_ble_eq_true rfl) (by repeat' (first | exact trivial | exact ⟨_, rfl, Nat.le_refl _⟩ | exact Nat.le_of_ble_eq_true rfl | refine And.intro ?_ ?_)) (Nat.le_of_ble_eq_true rfl) rfl (fun F hE hA => ?_)
    repeat' (first | exact trivial | refine BS.d (fun h => ?_) (fun h => ?_) | refine BS.e (fun h => ?_) (fun h => ?_) | refine BS.ne (fun h => ?_) (fun h => ?_) | refine BS.n ?_ | refine BS.s (fun h => ?_) (fun h => ?_) | refine And.intro ?_ ?_ | (refine Need.mk ?_; first | with_reducible rfl | (show @Eq TC _ _; rfl) | omega | (simp only [adN_zero]; omega)) | exact OutS.whole rfl rfl | (refine OpK.callH c1 hA rfl rfl rfl rfl hE ?_ rfl rfl ?_; focus ((repeat' (first | exact PsA.lit _ | exact PsA.ref rfl rfl | constructor)); all_goals (fail "ps"))) | refine ListO.go gOk hE ?_)
    all_goals first | exact Need.mk rfl | (exfalso; omega) | (refine Need.mk ?_; omega) | trace_state
theorem WhereS_run (e eP eR eL : Nat) (b c : List Int) (g o : List (List Int)) (E : Int) (ps : List PinT) (l : List (List Row)) (z : List Int) (s : Int) (h : BsT b c g o ps l z) : RunT Tryz.prog 28 [aBs e eP eR eL b c g o E ps l z, ti s] [] [oi (whB b c g o E ps l z s)] [] := by
  have c1 := BaseOkS_run e eP eR eL b c g o E ps l z h
  unfold whB
  cases hb : bsB b c g o E ps l z with
  | true =>
    have c2 := l13Where_run e eP eR eL b c g o E ps l z s h (bsB_mm hb).1
    rw [hb] at c1
    rw [if_pos rfl]
    refine RunT.of_vc gOk Tryz.func28 rfl rfl (Nat.le_of_ble_eq_true rfl) (by repeat' (first | exact trivial | exact ⟨_, rfl, Nat.le_refl _⟩ | exact Nat.le_of_ble_eq_true rfl | refine And.intro ?_ ?_)) (Nat.le_of_ble_eq_true rfl) rfl (fun F hE => ?_)
    repeat' (first | exact trivial | refine BS.d (fun h => ?_) (fun h => ?_) | refine BS.e (fun h => ?_) (fun h => ?_) | refine BS.ne (fun h => ?_) (fun h => ?_) | refine BS.n ?_ | refine BS.s (fun h => ?_) (fun h => ?_) | refine And.intro ?_ ?_ | (refine Need.mk ?_; first | with_reducible rfl | (show @Eq TC _ _; rfl) | omega | (simp only [adN_zero]; omega)) | exact OutS.whole rfl rfl | (refine OpK.call c1 rfl rfl rfl rfl hE ?_ rfl rfl ?_; focus ((repeat' (first | exact PsA.lit _ | exact PsA.ref rfl rfl | constructor)); all_goals (fail "ps"))) | (refine OpK.call c2 rfl rfl rfl rfl hE ?_ rfl rfl ?_; focus ((repeat' (first | exact PsA.lit _ | exact PsA.ref rfl rfl | constructor)); all_goals (fail "ps"))) | refine ListO.go gOk hE ?_)
    all_goals first | exact Need.mk rfl | trace_state
  | false =>
    rw [hb] at c1
    rw [if_neg (by decide)]
    refine RunT.of_vc gOk Tryz.func28 rfl rfl (Nat.le_of_ble_eq_true rfl) (by repeat' (first | exact trivial | exact ⟨_, rfl, Nat.le_refl _⟩ | exact Nat.le_of_ble_eq_true rfl | refine And.intro ?_ ?_)) (Nat.le_of_ble_eq_true rfl) rfl (fun F hE => ?_)
    repeat' (first | exact trivial | refine BS.d (fun h => ?_) (fun h => ?_) | refine BS.e (fun h => ?_) (fun h => ?_) | refine BS.ne (fun h => ?_) (fun h => ?_) | refine BS.n ?_ | refine BS.s (fun h => ?_) (fun h => ?_) | refine And.intro ?_ ?_ | (refine Need.mk ?_; first | with_reducible rfl | (show @Eq TC _ _; rfl) | omega | (simp only [adN_zero]; omega)) | exact OutS.whole rfl rfl | (refine OpK.call c1 rfl rfl rfl rfl hE ?_ rfl rfl ?_; focus ((repeat' (first | exact PsA.lit _ | exact PsA.ref rfl rfl | constructor)); all_goals (fail "ps"))) | refine ListO.go gOk hE ?_)
    all_goals first | exact Need.mk rfl | trace_state
theorem WhereI_run (e eP eR eL : Nat) (b c : List Int) (g o : List (List Int)) (E : Int) (ps : List PinT) (l : List (List Row)) (z : List Int) (s : Int) (h : BsT b c g o ps l z) : RunH Tryz.prog hT 29 [aBs e eP eR eL b c g o E ps l z, ti s] [] [oi (whB b c g o E ps l z s)] [] := by
  have c1 := BaseOkI_run e eP eR eL b c g o E ps l z h
  unfold whB
  cases hb : bsB b c g o E ps l z with
  | true =>
    have c2 := where_run e eP eR eL b c g o E ps l z s h (bsB_mm hb).1
    rw [hb] at c1
    rw [if_pos rfl]
    refine RunH.of_vc gOk Tryz.func29 rfl rfl (Nat.le_of_ble_eq_true rfl) (by repeat' (first | exact trivial | exact ⟨_, rfl, Nat.le_refl _⟩ | exact Nat.le_of_ble_eq_true rfl | refine And.intro ?_ ?_)) (Nat.le_of_ble_eq_true rfl) rfl (fun F hE hA => ?_)
    repeat' (first | exact trivial | refine BS.d (fun h => ?_) (fun h => ?_) | refine BS.e (fun h => ?_) (fun h => ?_) | refine BS.ne (fun h => ?_) (fun h => ?_) | refine BS.n ?_ | refine BS.s (fun h => ?_) (fun h => ?_) | refine And.intro ?_ ?_ | (refine Need.mk ?_; first | with_reducible rfl | (show @Eq TC _ _; rfl) | omega | (simp only [adN_zero]; omega)) | exact OutS.whole rfl rfl | (refine OpK.callH c1 hA rfl rfl rfl rfl hE ?_ rfl rfl ?_; focus ((repeat' (first | exact PsA.lit _ | exact PsA.ref rfl rfl | constructor)); all_goals (fail "ps"))) | (refine OpK.callH c2 hA rfl rfl rfl rfl hE ?_ rfl rfl ?_; focus ((repeat' (first | exact PsA.lit _ | exact PsA.ref rfl rfl | constructor)); all_goals (fail "ps"))) | refine ListO.go gOk hE ?_)
    all_goals first | exact Need.mk rfl | trace_state
  | false =>
    rw [hb] at c1
    rw [if_neg (by decide)]
    refine RunH.of_vc gOk Tryz.func29 rfl rfl (Nat.le_of_ble_eq_true rfl) (by repeat' (first | exact trivial | exact ⟨_, rfl, Nat.le_refl _⟩ | exact Nat.le_of_ble_eq_true rfl | refine And.intro ?_ ?_)) (Nat.le_of_ble_eq_true rfl) rfl (fun F hE hA => ?_)
    repeat' (first | exact trivial | refine BS.d (fun h => ?_) (fun h => ?_) | refine BS.e (fun h => ?_) (fun h => ?_) | refine BS.ne (fun h => ?_) (fun h => ?_) | refine BS.n ?_ | refine BS.s (fun h => ?_) (fun h => ?_) | refine And.intro ?_ ?_ | (refine Need.mk ?_; first | with_reducible rfl | (show @Eq TC _ _; rfl) | omega | (simp only [adN_zero]; omega)) | exact OutS.whole rfl rfl | (refine OpK.callH c1 hA rfl rfl rfl rfl hE ?_ rfl rfl ?_; focus ((repeat' (first | exact PsA.lit _ | exact PsA.ref rfl rfl | constructor)); all_goals (fail "ps"))) | refine ListO.go gOk hE ?_)
    all_goals first | exact Need.mk rfl | trace_state
end Go.Proofs.YtpmhkpmkmbkjbaaGreatDoor
end

section
/- How many slots are where. -/
namespace Go.Proofs.YtpmhkpmkmbkjbaaGreatDoor
open Go Go.Tr
set_option maxRecDepth 100000
set_option maxHeartbeats 4000000
set_option linter.unusedVariables false
set_option linter.unusedSimpArgs false
/-- How many of the first slots are in each state. -/
def tlL (f : Nat → Int) : Nat → List Int
  | 0 => [0, 0, 0, 0, 0]
  | k + 1 => (tlL f k).set (f k).toNat ((tlL f k).getD (f k).toNat 0 + 1)
theorem tlL_ok (f : Nat → Int) : ∀ k : Nat, (tlL f k).length = 5 ∧ ∀ i, 0 ≤ (tlL f k).getD i 0 ∧ (tlL f k).getD i 0 ≤ k
  | 0 => ⟨rfl, fun i => by
      match i with
      | 0 => exact ⟨Int.le_refl _, Int.le_refl _⟩
      | 1 => exact ⟨Int.le_refl _, Int.le_refl _⟩
      | 2 => exact ⟨Int.le_refl _, Int.le_refl _⟩
      | 3 => exact ⟨Int.le_refl _, Int.le_refl _⟩
      | 4 => exact ⟨Int.le_refl _, Int.le_refl _⟩
      | _ + 5 => exact ⟨Int.le_refl _, Int.le_refl _⟩⟩
  | k + 1 => by
    obtain ⟨h1, h2⟩ := tlL_ok f k
    unfold tlL
    refine ⟨by simp [h1], fun i => ?_⟩
    have a1 := h2 (f k).toNat
    have a2 := h2 i
    by_cases e : (f k).toNat = i
    · by_cases hl : i < (tlL f k).length
      · rw [e, List.getD_eq_getElem?_getD, List.getElem?_set_self hl]
        rw [e] at a1
        show 0 ≤ (tlL f k).getD i 0 + 1 ∧ (tlL f k).getD i 0 + 1 ≤ ((k + 1 : Nat) : Int)
        omega
      · rw [List.getD_eq_getElem?_getD, List.getElem?_eq_none (by simp; omega)]
        show (0 : Int) ≤ 0 ∧ (0 : Int) ≤ ((k + 1 : Nat) : Int)
        omega
    · rw [List.getD_eq_getElem?_getD, List.getElem?_set_ne e, ← List.getD_eq_getElem?_getD]
      omega
theorem tlL_zero (f : Nat → Int) : tlL f 0 = [0, 0, 0, 0, 0] := rfl
theorem tlL_succ (f : Nat → Int) (k q : Nat) (h : f k = q) : tlL f (k + 1) = (tlL f k).set q ((tlL f k).getD q 0 + 1) := by
  show (tlL f k).set (f k).toNat ((tlL f k).getD (f k).toNat 0 + 1) = _
  rw [h]; rfl
attribute [irreducible] tlL
noncomputable abbrev tlF (b c : List Int) (g o : List (List Int)) (l : List (List Row)) (k : Nat) : Int := whX b c g o l k
noncomputable def tlT (b c : List Int) (g o : List (List Int)) (E : Int) (ps : List PinT) (l : List (List Row)) (z : List Int) : List Int := if bsB b c g o E ps l z = true then tlL (tlF b c g o l) 24 else [0, 0, 0, 0, 0]
theorem tlT_len (b c : List Int) (g o : List (List Int)) (E : Int) (ps : List PinT) (l : List (List Row)) (z : List Int) : (tlT b c g o E ps l z).length = 5 := by
  unfold tlT
  split
  · exact (tlL_ok _ _).1
  · rfl
theorem TallyS_run (e eP eR eL : Nat) (b c : List Int) (g o : List (List Int)) (E : Int) (ps : List PinT) (l : List (List Row)) (z : List Int) (h : BsT b c g o ps l z) : RunT Tryz.prog 30 [aBs e eP eR eL b c g o E ps l z] [] [.one (tI (tlT b c g o E ps l z))] [] := by
  have c1 := BaseOkS_run e eP eR eL b c g o E ps l z h
  unfold tlT
  cases hm : bsB b c g o E ps l z with
  | true =>
    have hp := (bsB_mm hm).1
    rw [hm] at c1
    rw [if_pos rfl]
    have hnn : (tlL (tlF b c g o l) 24).length = 5 := (tlL_ok _ 24).1
    generalize hL : tlL (tlF b c g o l) 24 = L at *
    refine RunT.of_vc gOk Tryz.func30 rfl rfl (Nat.le_of_ble_eq_true rfl) (by repeat' (first | exact trivial | exact ⟨_, rfl, Nat.le_refl _⟩ | exact Nat.le_of_ble_eq_true rfl | refine And.intro ?_ ?_)) (Nat.le_of_ble_eq_true rfl) rfl (fun F hE => ?_)
    repeat' (first | exact trivial | refine BS.d (fun h => ?_) (fun h => ?_) | refine BS.e (fun h => ?_) (fun h => ?_) | refine BS.ne (fun h => ?_) (fun h => ?_) | refine BS.n ?_ | refine BS.s (fun h => ?_) (fun h => ?_) | refine And.intro ?_ ?_ | (refine Need.mk ?_; first | with_reducible rfl | (show @Eq TC _ _; rfl) | omega | (simp only [adN_zero]; omega)) | exact OutS.whole rfl rfl | (refine OpK.call c1 rfl rfl rfl rfl hE ?_ rfl rfl ?_; focus ((repeat' (first | exact PsA.lit _ | exact PsA.ref rfl rfl | constructor)); all_goals (fail "ps"))) | refine ListO.go gOk hE ?_)
    refine CodeK.loop gOk hE (fun i : Nat => ⟨[(1, .ptr 1 0 0), (3, vr 7 5), (4, vb true), (5, vi i)], [(7, rI .own true (tlL (tlF b c g o l) i)), (1, bBs e eP eR eL b c g o E ps l z), (1000000, rI .fro false b), (1000001, rI .fro false c), (1000002, rSL .fro false e g), (1000003, rSL .fro false e o), (1000004, rPin .fro false eP ps), (1000005, rLL .fro false eR eL l), (1000006, rI .fro false z)]⟩) (fun i => i ≤ 24) (fun i => 24 - i) 0 (by refine leT.of ?_ ?_ rfl <;> repeat' (first | exact trivial | refine And.intro rfl ?_ | refine And.intro (by first | rfl | (rw [tlL_zero]; rfl)) ?_)) (Nat.zero_le _) ?_
    rintro i hi
    have hc := tlL_ok (tlF b c g o l) i
    by_cases hi2 : i < 24
    · have c2 := l13Where_run e eP eR eL b c g o E ps l z i h hp
      have hs := whX_bd b c g o l i
      obtain ⟨q, hq⟩ := Int.eq_ofNat_of_zero_le hs.1
      have hb := hc.2 q
      have hN := tlL_succ (tlF b c g o l) i q hq
      rw [hq] at c2
      repeat' (first | exact trivial | refine BS.d (fun h => ?_) (fun h => ?_) | refine BS.e (fun h => ?_) (fun h => ?_) | refine BS.ne (fun h => ?_) (fun h => ?_) | refine BS.n ?_ | refine BS.s (fun h => ?_) (fun h => ?_) | refine And.intro ?_ ?_ | (refine Need.mk ?_; first | with_reducible rfl | (show @Eq TC _ _; rfl) | omega | (simp only [adN_zero]; omega)) | exact OutS.whole rfl rfl | (refine OpK.call c1 rfl rfl rfl rfl hE ?_ rfl rfl ?_; focus ((repeat' (first | exact PsA.lit _ | exact PsA.ref rfl rfl | constructor)); all_goals (fail "ps"))) | (refine OpK.call c2 rfl rfl rfl rfl hE ?_ rfl rfl ?_; focus ((repeat' (first | exact PsA.lit _ | exact PsA.ref rfl rfl | constructor)); all_goals (fail "ps"))) | refine ListO.go gOk hE ?_)
      all_goals (try simp only [adN_zero] at *)
      all_goals first
        | (exfalso; omega)
        | (refine Need.mk ?_; omega)
        | (refine ⟨i + 1, (by refine leT.of ?_ ?_ rfl <;> repeat' (first | exact trivial | refine And.intro rfl ?_ | refine And.intro (by first | rfl | (rw [hN]; rfl) | (simp; done)) ?_)), by omega, by first | omega | (dsimp only; omega)⟩)
        | trace_state
    · have hiL : tlL (tlF b c g o l) i = L := by rw [show i = 24 by omega]; exact hL
      rw [hiL]
      repeat' (first | exact trivial | refine BS.d (fun h => ?_) (fun h => ?_) | refine BS.e (fun h => ?_) (fun h => ?_) | refine BS.ne (fun h => ?_) (fun h => ?_) | refine BS.n ?_ | refine BS.s (fun h => ?_) (fun h => ?_) | refine And.intro ?_ ?_ | (refine Need.mk ?_; first | with_reducible rfl | (show @Eq TC _ _; rfl) | omega | (simp only [adN_zero]; omega)) | exact OutS.whole rfl rfl | refine ListO.go gOk hE ?_)
      all_goals first | (exfalso; omega) | (refine Need.mk ?_; omega) | exact OutS.whole rfl rfl | exact OutS.whole hnn.symm rfl | trace_state
  | false =>
    rw [hm] at c1
    rw [if_neg (by decide)]
    refine RunT.of_vc gOk Tryz.func30 rfl rfl (Nat.le_of_ble_eq_true rfl) (by repeat' (first | exact trivial | exact ⟨_, rfl, Nat.le_refl _⟩ | exact Nat.le_of_ble_eq_true rfl | refine And.intro ?_ ?_)) (Nat.le_of_ble_eq_true rfl) rfl (fun F hE => ?_)
    repeat' (first | exact trivial | refine BS.d (fun h => ?_) (fun h => ?_) | refine BS.e (fun h => ?_) (fun h => ?_) | refine BS.ne (fun h => ?_) (fun h => ?_) | refine BS.n ?_ | refine BS.s (fun h => ?_) (fun h => ?_) | refine And.intro ?_ ?_ | (refine Need.mk ?_; first | with_reducible rfl | (show @Eq TC _ _; rfl) | omega | (simp only [adN_zero]; omega)) | exact OutS.whole rfl rfl | (refine OpK.call c1 rfl rfl rfl rfl hE ?_ rfl rfl ?_; focus ((repeat' (first | exact PsA.lit _ | exact PsA.ref rfl rfl | constructor)); all_goals (fail "ps"))) | refine ListO.go gOk hE ?_)
    refine CodeK.loop gOk hE (fun i : Nat => ⟨[(3, vr 7 5), (4, vb false), (5, vi 0)], [(7, rI .own true [0, 0, 0, 0, 0])]⟩) (fun i => i ≤ 24) (fun i => 24 - i) 0 (by refine leT.of ?_ ?_ rfl <;> repeat' (first | exact trivial | refine And.intro rfl ?_ | refine And.intro (by first | rfl | (simp; done)) ?_)) (Nat.zero_le _) ?_
    rintro i hi
    repeat' (first | exact trivial | refine BS.d (fun h => ?_) (fun h => ?_) | refine BS.e (fun h => ?_) (fun h => ?_) | refine BS.ne (fun h => ?_) (fun h => ?_) | refine BS.n ?_ | refine BS.s (fun h => ?_) (fun h => ?_) | refine And.intro ?_ ?_ | (refine Need.mk ?_; first | with_reducible rfl | (show @Eq TC _ _; rfl) | omega | (simp only [adN_zero]; omega)) | exact OutS.whole rfl rfl | refine ListO.go gOk hE ?_)
    all_goals first | (exfalso; omega) | exact OutS.whole rfl rfl | trace_state
theorem TallyI_run (e eP eR eL : Nat) (b c : List Int) (g o : List (List Int)) (E : Int) (ps : List PinT) (l : List (List Row)) (z : List Int) (h : BsT b c g o ps l z) : RunH Tryz.prog hT 31 [aBs e eP eR eL b c g o E ps l z] [] [.one (tI (tlT b c g o E ps l z))] [] := by
  have c1 := BaseOkI_run e eP eR eL b c g o E ps l z h
  unfold tlT
  cases hm : bsB b c g o E ps l z with
  | true =>
    have hp := (bsB_mm hm).1
    rw [hm] at c1
    rw [if_pos rfl]
    have hnn : (tlL (tlF b c g o l) 24).length = 5 := (tlL_ok _ 24).1
    generalize hL : tlL (tlF b c g o l) 24 = L at *
    refine RunH.of_vc gOk Tryz.func31 rfl rfl (Nat.le_of_ble_eq_true rfl) (by repeat' (first | exact trivial | exact ⟨_, rfl, Nat.le_refl _⟩ | exact Nat.le_of_ble_eq_true rfl | refine And.intro ?_ ?_)) (Nat.le_of_ble_eq_true rfl) rfl (fun F hE hA => ?_)
    repeat' (first | exact trivial | refine BS.d (fun h => ?_) (fun h => ?_) | refine BS.e (fun h => ?_) (fun h => ?_) | refine BS.ne (fun h => ?_) (fun h => ?_) | refine BS.n ?_ | refine BS.s (fun h => ?_) (fun h => ?_) | refine And.intro ?_ ?_ | (refine Need.mk ?_; first | with_reducible rfl | (show @Eq TC _ _; rfl) | omega | (simp only [adN_zero]; omega)) | exact OutS.whole rfl rfl | (refine OpK.callH c1 hA rfl rfl rfl rfl hE ?_ rfl rfl ?_; focus ((repeat' (first | exact PsA.lit _ | exact PsA.ref rfl rfl | constructor)); all_goals (fail "ps"))) | refine ListO.go gOk hE ?_)
    refine CodeK.loop gOk hE (fun i : Nat => ⟨[(1, .ptr 1 0 0), (3, vr 5 5), (10, vi i)], [(5, rI .own true (tlL (tlF b c g o l) i)), (1, bBs e eP eR eL b c g o E ps l z), (1000000, rI .fro false b), (1000001, rI .fro false c), (1000002, rSL .fro false e g), (1000003, rSL .fro false e o), (1000004, rPin .fro false eP ps), (1000005, rLL .fro false eR eL l), (1000006, rI .fro false z)]⟩) (fun i => i ≤ 24) (fun i => 24 - i) 0 (by refine leT.of ?_ ?_ rfl <;> repeat' (first | exact trivial | refine And.intro rfl ?_ | refine And.intro (by first | rfl | (rw [tlL_zero]; rfl)) ?_)) (Nat.zero_le _) ?_
    rintro i hi
    have hc := tlL_ok (tlF b c g o l) i
    by_cases hi2 : i < 24
    · have c2 := where_run e eP eR eL b c g o E ps l z i h hp
      have hs := whX_bd b c g o l i
      obtain ⟨q, hq⟩ := Int.eq_ofNat_of_zero_le hs.1
      have hb := hc.2 q
      have hN := tlL_succ (tlF b c g o l) i q hq
      rw [hq] at c2
      repeat' (first | exact trivial | refine BS.d (fun h => ?_) (fun h => ?_) | refine BS.e (fun h => ?_) (fun h => ?_) | refine BS.ne (fun h => ?_) (fun h => ?_) | refine BS.n ?_ | refine BS.s (fun h => ?_) (fun h => ?_) | refine And.intro ?_ ?_ | (refine Need.mk ?_; first | with_reducible rfl | (show @Eq TC _ _; rfl) | omega | (simp only [adN_zero]; omega)) | exact OutS.whole rfl rfl | (refine OpK.callH c2 hA rfl rfl rfl rfl hE ?_ rfl rfl ?_; focus ((repeat' (first | exact PsA.lit _ | exact PsA.ref rfl rfl | constructor)); all_goals (fail "ps"))) | refine ListO.go gOk hE ?_)
      all_goals (try simp only [adN_zero] at *)
      all_goals first
        | (exfalso; omega)
        | (refine Need.mk ?_; omega)
        | (refine ⟨i + 1, (by refine leT.of ?_ ?_ rfl <;> repeat' (first | exact trivial | refine And.intro rfl ?_ | refine And.intro (by first | rfl | (rw [hN]; rfl) | (simp; done)) ?_)), by omega, by first | omega | (dsimp only; omega)⟩)
        | trace_state
    · have hiL : tlL (tlF b c g o l) i = L := by rw [show i = 24 by omega]; exact hL
      rw [hiL]
      repeat' (first | exact trivial | refine BS.d (fun h => ?_) (fun h => ?_) | refine BS.e (fun h => ?_) (fun h => ?_) | refine BS.ne (fun h => ?_) (fun h => ?_) | refine BS.n ?_ | refine BS.s (fun h => ?_) (fun h => ?_) | refine And.intro ?_ ?_ | (refine Need.mk ?_; first | with_reducible rfl | (show @Eq TC _ _; rfl) | omega | (simp only [adN_zero]; omega)) | exact OutS.whole rfl rfl | refine ListO.go gOk hE ?_)
      all_goals first | (exfalso; omega) | (refine Need.mk ?_; omega) | exact OutS.whole rfl rfl | exact OutS.whole hnn.symm rfl | trace_state
  | false =>
    rw [hm] at c1
    rw [if_neg (by decide)]
    refine RunH.of_vc gOk Tryz.func31 rfl rfl (Nat.le_of_ble_eq_true rfl) (by repeat' (first | exact trivial | exact ⟨_, rfl, Nat.le_refl _⟩ | exact Nat.le_of_ble_eq_true rfl | refine And.intro ?_ ?_)) (Nat.le_of_ble_eq_true rfl) rfl (fun F hE hA => ?_)
    repeat' (first | exact trivial | refine BS.d (fun h => ?_) (fun h => ?_) | refine BS.e (fun h => ?_) (fun h => ?_) | refine BS.ne (fun h => ?_) (fun h => ?_) | refine BS.n ?_ | refine BS.s (fun h => ?_) (fun h => ?_) | refine And.intro ?_ ?_ | (refine Need.mk ?_; first | with_reducible rfl | (show @Eq TC _ _; rfl) | omega | (simp only [adN_zero]; omega)) | exact OutS.whole rfl rfl | (refine OpK.callH c1 hA rfl rfl rfl rfl hE ?_ rfl rfl ?_; focus ((repeat' (first | exact PsA.lit _ | exact PsA.ref rfl rfl | constructor)); all_goals (fail "ps"))) | refine ListO.go gOk hE ?_)
    all_goals first | exact OutS.whole rfl rfl | exact OutS.whole hnn.symm rfl | trace_state
end Go.Proofs.YtpmhkpmkmbkjbaaGreatDoor
end
