import Derived.Test.YtbfkdbbgbdihdacDoorZF
import Derived.Test.YtbfkdbbgbdihdacDoorZG
section
/- Counts. -/
namespace Go.Proofs.YtbfkdbbgbdihdacDoor
open Go Go.Tr
set_option maxRecDepth 100000
set_option maxHeartbeats 4000000
set_option linter.unusedVariables false
set_option linter.unusedSimpArgs false
/-- How many of the first slots are in each state. -/
def cnL (f : Nat → Int) : Nat → List Int
  | 0 => [0, 0, 0, 0]
  | k + 1 => (cnL f k).set (f k).toNat ((cnL f k).getD (f k).toNat 0 + 1)
theorem cnL_ok (f : Nat → Int) : ∀ k : Nat, (cnL f k).length = 4 ∧ ∀ i, 0 ≤ (cnL f k).getD i 0 ∧ (cnL f k).getD i 0 ≤ k
  | 0 => ⟨rfl, fun i => by
      match i with
      | 0 => exact ⟨Int.le_refl _, Int.le_refl _⟩
      | 1 => exact ⟨Int.le_refl _, Int.le_refl _⟩
      | 2 => exact ⟨Int.le_refl _, Int.le_refl _⟩
      | 3 => exact ⟨Int.le_refl _, Int.le_refl _⟩
      | _ + 4 => exact ⟨Int.le_refl _, Int.le_refl _⟩⟩
  | k + 1 => by
    obtain ⟨h1, h2⟩ := cnL_ok f k
    unfold cnL
    refine ⟨by simp [h1], fun i => ?_⟩
    have a1 := h2 (f k).toNat
    have a2 := h2 i
    by_cases e : (f k).toNat = i
    · by_cases hl : i < (cnL f k).length
      · rw [e, List.getD_eq_getElem?_getD, List.getElem?_set_self hl]
        rw [e] at a1
        show 0 ≤ (cnL f k).getD i 0 + 1 ∧ (cnL f k).getD i 0 + 1 ≤ ((k + 1 : Nat) : Int)
        omega
      · rw [List.getD_eq_getElem?_getD, List.getElem?_eq_none (by simp; omega)]
        show (0 : Int) ≤ 0 ∧ (0 : Int) ≤ ((k + 1 : Nat) : Int)
        omega
    · rw [List.getD_eq_getElem?_getD, List.getElem?_set_ne e, ← List.getD_eq_getElem?_getD]
      omega
theorem cnL_zero (f : Nat → Int) : cnL f 0 = [0, 0, 0, 0] := rfl
theorem cnL_succ (f : Nat → Int) (k q : Nat) (h : f k = q) : cnL f (k + 1) = (cnL f k).set q ((cnL f k).getD q 0 + 1) := by
  show (cnL f k).set (f k).toNat ((cnL f k).getD (f k).toNat 0 + 1) = _
  rw [h]; rfl
attribute [irreducible] cnL
theorem stN_bd (b c : List Int) (g o : List (List Int)) (s : Int) : 0 ≤ stN b c g o s ∧ stN b c g o s ≤ 3 := by
  unfold stN
  split
  · omega
  · split
    · omega
    · split <;> omega
abbrev ctF (b c : List Int) (g o : List (List Int)) (k : Nat) : Int := stN b c g o k
noncomputable def ctL (b c : List Int) (g o : List (List Int)) : List Int := if dcB (mmP b c g o) then cnL (ctF b c g o) 24 else [0, 0, 0, 0]
theorem CountsS_run (e : Nat) (b c : List Int) (g o : List (List Int)) (h : MmT b c g o) : RunT Tryd.prog 31 [aMm e b c g o] [] [.one (tI (ctL b c g o))] [] := by
  have c1 := h.S e
  unfold ctL
  by_cases hm : mmP b c g o
  · rw [dcB_true hm] at c1
    rw [dcB_true hm, if_pos rfl]
    have hnn : (cnL (ctF b c g o) 24).length = 4 := (cnL_ok _ 24).1
    generalize hL : cnL (ctF b c g o) 24 = L at *
    refine RunT.of_vc gOk Tryd.func31 rfl rfl (Nat.le_of_ble_eq_true rfl) (by repeat' (first | exact trivial | exact ⟨_, rfl, Nat.le_refl _⟩ | exact Nat.le_of_ble_eq_true rfl | refine And.intro ?_ ?_)) (Nat.le_of_ble_eq_true rfl) rfl (fun F hE => ?_)
    repeat' (first | exact trivial | refine BS.d (fun h => ?_) (fun h => ?_) | refine BS.e (fun h => ?_) (fun h => ?_) | refine BS.ne (fun h => ?_) (fun h => ?_) | refine BS.n ?_ | refine BS.s (fun h => ?_) (fun h => ?_) | refine And.intro ?_ ?_ | (refine Need.mk ?_; first | with_reducible rfl | (show @Eq TC _ _; rfl) | omega | (simp only [adN_zero]; omega)) | exact OutS.whole rfl rfl | refine ListO.go gOk hE ?_)
    refine CodeK.loop gOk hE (fun i : Nat => ⟨[(1, .ptr 1 0 0), (3, vr 6 4), (4, vi i)], [(6, rI .own true (cnL (ctF b c g o) i)), (1, bM b c g o), (1000000, rI .fro false b), (1000001, rI .fro false c), (1000002, rSL .fro false e g), (1000003, rSL .fro false e o)]⟩) (fun i => i ≤ 24) (fun i => 24 - i) 0 (by refine leT.of ?_ ?_ rfl <;> repeat' (first | exact trivial | refine And.intro rfl ?_ | refine And.intro (by first | rfl | (rw [cnL_zero]; rfl)) ?_)) (Nat.zero_le _) ?_
    rintro i hi
    have hc := cnL_ok (ctF b c g o) i
    by_cases hi2 : i < 24
    · have c2 := l9State_run e b c g o i h hm.1
      have hs := stN_bd b c g o i
      obtain ⟨q, hq⟩ := Int.eq_ofNat_of_zero_le hs.1
      have hb := hc.2 q
      have hN := cnL_succ (ctF b c g o) i q hq
      rw [hq] at c2
      repeat' (first | exact trivial | refine BS.d (fun h => ?_) (fun h => ?_) | refine BS.e (fun h => ?_) (fun h => ?_) | refine BS.ne (fun h => ?_) (fun h => ?_) | refine BS.n ?_ | refine BS.s (fun h => ?_) (fun h => ?_) | refine And.intro ?_ ?_ | (refine Need.mk ?_; first | with_reducible rfl | (show @Eq TC _ _; rfl) | omega | (simp only [adN_zero]; omega)) | exact OutS.whole rfl rfl | (refine OpK.call c1 rfl rfl rfl rfl hE ?_ rfl rfl ?_; focus ((repeat' (first | exact PsA.lit _ | exact PsA.ref rfl rfl | constructor)); all_goals (fail "ps"))) | (refine OpK.call c2 rfl rfl rfl rfl hE ?_ rfl rfl ?_; focus ((repeat' (first | exact PsA.lit _ | exact PsA.ref rfl rfl | constructor)); all_goals (fail "ps"))) | refine ListO.go gOk hE ?_)
      all_goals (try simp only [adN_zero] at *)
      all_goals first
        | (exfalso; omega)
        | (refine Need.mk ?_; omega)
        | (refine ⟨i + 1, (by refine leT.of ?_ ?_ rfl <;> repeat' (first | exact trivial | refine And.intro rfl ?_ | refine And.intro (by first | rfl | (rw [hN]; rfl) | (simp; done)) ?_)), by omega, by first | omega | (dsimp only; omega)⟩)
        | trace_state
    · have hiL : cnL (ctF b c g o) i = L := by rw [show i = 24 by omega]; exact hL
      rw [hiL]
      repeat' (first | exact trivial | refine BS.d (fun h => ?_) (fun h => ?_) | refine BS.e (fun h => ?_) (fun h => ?_) | refine BS.ne (fun h => ?_) (fun h => ?_) | refine BS.n ?_ | refine BS.s (fun h => ?_) (fun h => ?_) | refine And.intro ?_ ?_ | (refine Need.mk ?_; first | with_reducible rfl | (show @Eq TC _ _; rfl) | omega | (simp only [adN_zero]; omega)) | exact OutS.whole rfl rfl | (refine OpK.call c1 rfl rfl rfl rfl hE ?_ rfl rfl ?_; focus ((repeat' (first | exact PsA.lit _ | exact PsA.ref rfl rfl | constructor)); all_goals (fail "ps"))) | refine ListO.go gOk hE ?_)
      all_goals first | (exfalso; omega) | (refine Need.mk ?_; omega) | exact OutS.whole rfl rfl | exact OutS.whole hnn.symm rfl | trace_state
  · rw [dcB_false hm] at c1
    rw [dcB_false hm, if_neg (by decide)]
    refine RunT.of_vc gOk Tryd.func31 rfl rfl (Nat.le_of_ble_eq_true rfl) (by repeat' (first | exact trivial | exact ⟨_, rfl, Nat.le_refl _⟩ | exact Nat.le_of_ble_eq_true rfl | refine And.intro ?_ ?_)) (Nat.le_of_ble_eq_true rfl) rfl (fun F hE => ?_)
    repeat' (first | exact trivial | refine BS.d (fun h => ?_) (fun h => ?_) | refine BS.e (fun h => ?_) (fun h => ?_) | refine BS.ne (fun h => ?_) (fun h => ?_) | refine BS.n ?_ | refine BS.s (fun h => ?_) (fun h => ?_) | refine And.intro ?_ ?_ | (refine Need.mk ?_; first | with_reducible rfl | (show @Eq TC _ _; rfl) | omega | (simp only [adN_zero]; omega)) | exact OutS.whole rfl rfl | refine ListO.go gOk hE ?_)
    refine CodeK.loop gOk hE (fun i : Nat => ⟨[(1, .ptr 1 0 0), (3, vr 6 4), (4, vi i)], [(6, rI .own true [0, 0, 0, 0]), (1, bM b c g o), (1000000, rI .fro false b), (1000001, rI .fro false c), (1000002, rSL .fro false e g), (1000003, rSL .fro false e o)]⟩) (fun i => i = 0) (fun i => 24 - i) 0 (by refine leT.of ?_ ?_ rfl <;> repeat' (first | exact trivial | refine And.intro rfl ?_ | refine And.intro (by first | rfl | (simp; done) | (simp <;> rfl)) ?_)) rfl ?_
    rintro i rfl
    repeat' (first | exact trivial | refine BS.d (fun h => ?_) (fun h => ?_) | refine BS.e (fun h => ?_) (fun h => ?_) | refine BS.ne (fun h => ?_) (fun h => ?_) | refine BS.n ?_ | refine BS.s (fun h => ?_) (fun h => ?_) | refine And.intro ?_ ?_ | (refine Need.mk ?_; first | with_reducible rfl | (show @Eq TC _ _; rfl) | omega | (simp only [adN_zero]; omega)) | exact OutS.whole rfl rfl | (refine OpK.call c1 rfl rfl rfl rfl hE ?_ rfl rfl ?_; focus ((repeat' (first | exact PsA.lit _ | exact PsA.ref rfl rfl | constructor)); all_goals (fail "ps"))) | refine ListO.go gOk hE ?_)
    all_goals first | (exfalso; omega) | (refine Need.mk ?_; omega) | exact OutS.whole rfl rfl | exact OutS.whole hnn.symm rfl | trace_state
end Go.Proofs.YtbfkdbbgbdihdacDoor
end

section
namespace Go.Proofs.YtbfkdbbgbdihdacDoor
open Go Go.Tr
set_option maxRecDepth 100000
set_option maxHeartbeats 4000000
set_option linter.unusedVariables false
set_option linter.unusedSimpArgs false
theorem CountsI_run (e : Nat) (b c : List Int) (g o : List (List Int)) (h : MmT b c g o) : RunH Tryd.prog hT 32 [aMm e b c g o] [] [.one (tI (ctL b c g o))] [] := by
  have c1 := h.I e
  unfold ctL
  by_cases hm : mmP b c g o
  · rw [dcB_true hm] at c1
    rw [dcB_true hm, if_pos rfl]
    have hnn : (cnL (ctF b c g o) 24).length = 4 := (cnL_ok _ 24).1
    generalize hL : cnL (ctF b c g o) 24 = L at *
    refine RunH.of_vc gOk Tryd.func32 rfl rfl (Nat.le_of_ble_eq_true rfl) (by repeat' (first | exact trivial | exact ⟨_, rfl, Nat.le_refl _⟩ | exact Nat.le_of_ble_eq_true rfl | refine And.intro ?_ ?_)) (Nat.le_of_ble_eq_true rfl) rfl (fun F hE hA => ?_)
    repeat' (first | exact trivial | refine BS.d (fun h => ?_) (fun h => ?_) | refine BS.e (fun h => ?_) (fun h => ?_) | refine BS.ne (fun h => ?_) (fun h => ?_) | refine BS.n ?_ | refine BS.s (fun h => ?_) (fun h => ?_) | refine And.intro ?_ ?_ | (refine Need.mk ?_; first | with_reducible rfl | (show @Eq TC _ _; rfl) | omega | (simp only [adN_zero]; omega)) | exact OutS.whole rfl rfl | (refine OpK.callH c1 hA rfl rfl rfl rfl hE ?_ rfl rfl ?_; focus ((repeat' (first | exact PsA.lit _ | exact PsA.ref rfl rfl | constructor)); all_goals (fail "ps"))) | refine ListO.go gOk hE ?_)
    refine CodeK.loop gOk hE (fun i : Nat => ⟨[(1, .ptr 1 0 0), (3, vr 5 4), (10, vi i)], [(5, rI .own true (cnL (ctF b c g o) i)), (1, bM b c g o), (1000000, rI .fro false b), (1000001, rI .fro false c), (1000002, rSL .fro false e g), (1000003, rSL .fro false e o)]⟩) (fun i => i ≤ 24) (fun i => 24 - i) 0 (by refine leT.of ?_ ?_ rfl <;> repeat' (first | exact trivial | refine And.intro rfl ?_ | refine And.intro (by first | rfl | (rw [cnL_zero]; rfl)) ?_)) (Nat.zero_le _) ?_
    rintro i hi
    have hc := cnL_ok (ctF b c g o) i
    by_cases hi2 : i < 24
    · have c2 := stateIn_run e b c g o i h hm.1
      have hs := stN_bd b c g o i
      obtain ⟨q, hq⟩ := Int.eq_ofNat_of_zero_le hs.1
      have hb := hc.2 q
      have hN := cnL_succ (ctF b c g o) i q hq
      rw [hq] at c2
      repeat' (first | exact trivial | refine BS.d (fun h => ?_) (fun h => ?_) | refine BS.e (fun h => ?_) (fun h => ?_) | refine BS.ne (fun h => ?_) (fun h => ?_) | refine BS.n ?_ | refine BS.s (fun h => ?_) (fun h => ?_) | refine And.intro ?_ ?_ | (refine Need.mk ?_; first | with_reducible rfl | (show @Eq TC _ _; rfl) | omega | (simp only [adN_zero]; omega)) | exact OutS.whole rfl rfl | (refine OpK.callH c2 hA rfl rfl rfl rfl hE ?_ rfl rfl ?_; focus ((repeat' (first | exact PsA.lit _ | exact PsA.ref rfl rfl | constructor)); all_goals (fail "ps"))) | refine ListO.go gOk hE ?_)
      all_goals (try simp only [adN_zero] at *)
      all_goals first
        | (exfalso; omega)
        | (refine Need.mk ?_; omega)
        | (refine ⟨i + 1, (by refine leT.of ?_ ?_ rfl <;> repeat' (first | exact trivial | refine And.intro rfl ?_ | refine And.intro (by first | rfl | (rw [hN]; rfl) | (simp; done)) ?_)), by omega, by first | omega | (dsimp only; omega)⟩)
        | trace_state
    · have hiL : cnL (ctF b c g o) i = L := by rw [show i = 24 by omega]; exact hL
      rw [hiL]
      repeat' (first | exact trivial | refine BS.d (fun h => ?_) (fun h => ?_) | refine BS.e (fun h => ?_) (fun h => ?_) | refine BS.ne (fun h => ?_) (fun h => ?_) | refine BS.n ?_ | refine BS.s (fun h => ?_) (fun h => ?_) | refine And.intro ?_ ?_ | (refine Need.mk ?_; first | with_reducible rfl | (show @Eq TC _ _; rfl) | omega | (simp only [adN_zero]; omega)) | exact OutS.whole rfl rfl | refine ListO.go gOk hE ?_)
      all_goals first | (exfalso; omega) | (refine Need.mk ?_; omega) | exact OutS.whole rfl rfl | exact OutS.whole hnn.symm rfl | trace_state
  · rw [dcB_false hm] at c1
    rw [dcB_false hm, if_neg (by decide)]
    refine RunH.of_vc gOk Tryd.func32 rfl rfl (Nat.le_of_ble_eq_true rfl) (by repeat' (first | exact trivial | exact ⟨_, rfl, Nat.le_refl _⟩ | exact Nat.le_of_ble_eq_true rfl | refine And.intro ?_ ?_)) (Nat.le_of_ble_eq_true rfl) rfl (fun F hE hA => ?_)
    repeat' (first | exact trivial | refine BS.d (fun h => ?_) (fun h => ?_) | refine BS.e (fun h => ?_) (fun h => ?_) | refine BS.ne (fun h => ?_) (fun h => ?_) | refine BS.n ?_ | refine BS.s (fun h => ?_) (fun h => ?_) | refine And.intro ?_ ?_ | (refine Need.mk ?_; first | with_reducible rfl | (show @Eq TC _ _; rfl) | omega | (simp only [adN_zero]; omega)) | exact OutS.whole rfl rfl | (refine OpK.callH c1 hA rfl rfl rfl rfl hE ?_ rfl rfl ?_; focus ((repeat' (first | exact PsA.lit _ | exact PsA.ref rfl rfl | constructor)); all_goals (fail "ps"))) | refine ListO.go gOk hE ?_)
    all_goals first | exact OutS.whole rfl rfl | exact OutS.whole hnn.symm rfl | trace_state
end Go.Proofs.YtbfkdbbgbdihdacDoor
end

section
namespace Go.Proofs.YtbfkdbbgbdihdacDoor
open Go Go.Tr
set_option maxRecDepth 100000
set_option maxHeartbeats 4000000
set_option linter.unusedVariables false
set_option linter.unusedSimpArgs false
theorem ctL_len (b c : List Int) (g o : List (List Int)) : (ctL b c g o).length = 4 := by
  unfold ctL
  split
  · exact (cnL_ok _ _).1
  · rfl
theorem MmT.sz {b c : List Int} {g o : List (List Int)} (h : ¬ szM b c g o 1048576 < 0) : b.length + c.length + g.length + o.length + g.flatten.length + o.flatten.length ≤ 1048576 := by
  have q := szH_le b c 1048576 (by omega)
  unfold szM at h
  split at h
  · omega
  · rename_i hh
    have e1 : szH b c 1048576 = 1048576 - b.length - c.length := by
      unfold szH at hh ⊢
      split at hh
      · omega
      · rename_i h2
        rw [if_neg h2]
        unfold szI at hh h2 ⊢
        split at h2
        · omega
        · rename_i h3
          rw [if_neg h3] at hh
          rw [if_neg h3]
          split at hh
          · omega
          · rename_i h4; rw [if_neg h4]
    rw [e1] at h
    unfold szG at h
    split at h
    · omega
    · rename_i h5
      unfold szSLs at h5
      split at h5
      · omega
      · rename_i h6
        have e2 := szSL_eq g (1048576 - b.length - c.length - g.length) (by omega) (by omega)
        have e3 : szSLs g (1048576 - b.length - c.length) = 1048576 - b.length - c.length - g.length - g.flatten.length := by unfold szSLs; rw [if_neg h6, e2]
        rw [e3] at h
        unfold szSLs at h
        split at h
        · omega
        · rename_i h7
          have e4 := szSL_eq o (1048576 - b.length - c.length - g.length - g.flatten.length - o.length) (by omega) (by omega)
          rw [e4] at h
          omega
theorem Counts_law (b c : List Int) (g o : List (List Int)) (h1 : MmOk 9223372036854775807 b c g o) : RunH Tryd.prog hT 8 [aMm 0 b c g o] [] [ob true] [] := by
  have c0 := szMem_run 0 0 b c g o 1048576 (by decide) (by decide) h1.hb h1.hc h1.hg h1.hg' h1.ho h1.ho'
  by_cases hz : szM b c g o 1048576 < 0
  · generalize szM b c g o 1048576 = z at *
    refine RunH.of_vc gOk Tryd.func8 rfl rfl (Nat.le_of_ble_eq_true rfl) (by repeat' (first | exact trivial | exact ⟨_, rfl, Nat.le_refl _⟩ | exact Nat.le_of_ble_eq_true rfl | refine And.intro ?_ ?_)) (Nat.le_of_ble_eq_true rfl) rfl (fun F hE hA => ?_)
    repeat' (first | exact trivial | refine BS.d (fun h => ?_) (fun h => ?_) | refine BS.e (fun h => ?_) (fun h => ?_) | refine BS.ne (fun h => ?_) (fun h => ?_) | refine BS.n ?_ | refine BS.s (fun h => ?_) (fun h => ?_) | refine And.intro ?_ ?_ | (refine Need.mk ?_; first | with_reducible rfl | (show @Eq TC _ _; rfl) | omega | (simp only [adN_zero]; omega)) | exact OutS.whole rfl rfl | (refine OpK.call c0 rfl rfl rfl rfl hE ?_ rfl rfl ?_; focus ((repeat' (first | exact PsA.lit _ | exact PsA.ref rfl rfl | constructor)); all_goals (fail "ps"))) | refine ListO.go gOk hE ?_)
    all_goals first | exact Need.mk rfl | (exfalso; omega) | trace_state
  · have ht := MmT.of_sz (m := 1048576) (by decide) (by decide) hz
    have hsz := MmT.sz hz
    generalize szM b c g o 1048576 = z at *
    have k := ht.ok
    have k3 := k.le (m' := 4000000) (by decide)
    have c1 := toMem_run 0 b c g o k.hb k.hc k.hg k.hg' k.ho k.ho'
    have c3 := CountsS_run 75 b c g o ht
    have c4 := CountsI_run 75 b c g o ht
    have c5 := eqMem_run 75 b c g o k3.hb k3.hc k3.hg k3.hg' k3.ho k3.ho'
    have hnl := ctL_len b c g o
    generalize ctL b c g o = n at *
    have d1 := eqIntS_run n (by omega)
    obtain ⟨y, hy0, hy1, b', c', g', o', lb, lc, lg, lo, m0⟩ := markMem_run 75 75 b c g o k.hb k.hc hsz k.hg' k.ho'
    have m1 := markI_run 3 n 1 (by omega) (by omega) (by omega)
    have k1 := heldI_run n 1 (by omega) (by omega) (by omega)
    refine RunH.of_vc gOk Tryd.func8 rfl rfl (Nat.le_of_ble_eq_true rfl) (by repeat' (first | exact trivial | exact ⟨_, rfl, Nat.le_refl _⟩ | exact Nat.le_of_ble_eq_true rfl | refine And.intro ?_ ?_)) (Nat.le_of_ble_eq_true rfl) rfl (fun F hE hA => ?_)
    repeat' (first | exact trivial | refine BS.d (fun h => ?_) (fun h => ?_) | refine BS.e (fun h => ?_) (fun h => ?_) | refine BS.ne (fun h => ?_) (fun h => ?_) | refine BS.n ?_ | refine BS.s (fun h => ?_) (fun h => ?_) | refine And.intro ?_ ?_ | (refine Need.mk ?_; first | with_reducible rfl | (show @Eq TC _ _; rfl) | omega | (simp only [adN_zero]; omega)) | exact OutS.whole rfl rfl | (refine OpK.call c0 rfl rfl rfl rfl hE ?_ rfl rfl ?_; focus ((repeat' (first | exact PsA.lit _ | exact PsA.ref rfl rfl | constructor)); all_goals (fail "ps"))) | (refine OpK.call c1 rfl rfl rfl rfl hE ?_ rfl rfl ?_; focus ((repeat' (first | exact PsA.lit _ | exact PsA.ref rfl rfl | constructor)); all_goals (fail "ps"))) | (refine OpK.call c3 rfl rfl rfl rfl hE ?_ rfl rfl ?_; focus ((repeat' (first | exact PsA.lit _ | exact PsA.ref rfl rfl | constructor)); all_goals (fail "ps"))) | (refine OpK.callH c4 hA rfl rfl rfl rfl hE ?_ rfl rfl ?_; focus ((repeat' (first | exact PsA.lit _ | exact PsA.ref rfl rfl | constructor)); all_goals (fail "ps"))) | (refine OpK.call c5 rfl rfl rfl rfl hE ?_ rfl rfl ?_; focus ((repeat' (first | exact PsA.lit _ | exact PsA.ref rfl rfl | constructor)); all_goals (fail "ps"))) | (refine OpK.call d1 rfl rfl rfl rfl hE ?_ rfl rfl ?_; focus ((repeat' (first | exact PsA.lit _ | exact PsA.ref rfl rfl | constructor)); all_goals (fail "ps"))) | (refine OpK.call k1 rfl rfl rfl rfl hE ?_ rfl rfl ?_; focus ((repeat' (first | exact PsA.lit _ | exact PsA.ref rfl rfl | exact PsA.ref rfl (mkL_len _ _ _ _).symm | constructor)); all_goals (fail "ps"))) | (refine CodeK.draw gOk hE rfl (fun _ _ h => h) (.alt 0 (.alt 1 (.alt 2 (.alt 3 (.take 4 .done) .stop) .stop) .stop) (.alt 1 (.alt 0 (.alt 2 (.alt 3 (.take 4 .done) .stop) .stop) (.alt 2 (.alt 0 (.alt 3 (.take 4 .done) .stop) .stop) .stop)) .stop)) ?_ ?_; focus (decide +kernel)) | (refine OpK.callBs [bInt 3 2002560 b b', bInt 3 2002561 c c', bSL 75 2002562 g g', bSL 75 2002563 o o'] m0 rfl rfl rfl rfl hE (List.forall_mem_cons.2 ⟨BtOk.sl rfl lb, List.forall_mem_cons.2 ⟨BtOk.sl rfl lc, List.forall_mem_cons.2 ⟨BtOk.sl rfl lg, List.forall_mem_cons.2 ⟨BtOk.sl rfl lo, fun _ h => nomatch h⟩⟩⟩⟩) (List.forall_mem_cons.2 ⟨rfl, List.forall_mem_cons.2 ⟨rfl, List.forall_mem_cons.2 ⟨rfl, List.forall_mem_cons.2 ⟨rfl, fun _ h => nomatch h⟩⟩⟩⟩) (show List.Nodup [2002560, 2002561, 2002562, 2002563] by decide) (QsVs.cons (.agg (.cons (.h rfl rfl rfl) (.cons (.h rfl rfl rfl) (.cons (.h rfl rfl rfl) (.cons (.h rfl rfl rfl) .nil))))) (.cons (.one (.c (.lit _) rfl)) .nil)) rfl rfl ?_) | (refine OpK.callB (bInt _ 2002816 n (mkL 0 (fI 1) n n.length)) m1 rfl rfl rfl rfl hE (BtOk.sl rfl (mkL_len _ _ _ _)) rfl (QsVs.cons (.one (.h rfl rfl rfl)) (.cons (.one (.c (.lit _) rfl)) .nil)) rfl rfl ?_) | refine ListO.go gOk hE ?_)
    all_goals first | exact Need.mk rfl | (exfalso; omega) | exact absurd rfl h | (simp_all; done) | trace_state
end Go.Proofs.YtbfkdbbgbdihdacDoor
end
