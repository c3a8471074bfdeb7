import Derived.Test.YtnfjpjgmhhmdeaaGreatDoorZKSC
import Derived.Test.YtnfjpjgmhhmdeaaGreatDoorZKSA
import Derived.Test.YtnfjpjgmhhmdeaaGreatDoorChecked
import Derived.WalkKit
import Derived.Test.YtnfjpjgmhhmdeaaGreatDoorTie
import Derived.Lib.LaidTab
import Derived.LaidMore
import Derived.Below
import Derived.Laws.Rows
import Derived.Test.YtnfjpjgmhhmdeaaGreatDoorVP
import Derived.Test.YtnfjpjgmhhmdeaaGreatDoorZKSB
section
namespace Go.Proofs.YtnfjpjgmhhmdeaaGreatDoor
open Go Go.Tr
set_option maxRecDepth 100000
set_option maxHeartbeats 4000000
set_option linter.unusedVariables false
set_option linter.unusedSimpArgs false
/-- The first of n places, from place i on, that has the property. -/
def firstP (p : Nat → Bool) : Nat → Nat → Option Nat
  | _, 0 => none
  | i, m + 1 => if p i then some i else firstP p (i + 1) m
theorem firstP_yes {p : Nat → Bool} {i m : Nat} (hm : 0 < m) (h : p i = true) : firstP p i m = some i := by
  cases m with
  | zero => omega
  | succ m => unfold firstP; rw [if_pos h]
theorem firstP_no {p : Nat → Bool} {i m : Nat} (hm : 0 < m) (h : p i = false) : firstP p i m = firstP p (i + 1) (m - 1) := by
  cases m with
  | zero => omega
  | succ m => rw [firstP, if_neg (by simp [h])]; rfl
def plR : Option Nat → Int
  | some j => (j : Int)
  | none => -1
theorem firstP_lt {p : Nat → Bool} : ∀ {m i j : Nat}, firstP p i m = some j → i ≤ j ∧ j < i + m ∧ p j = true
  | 0, i, j, h => by cases h
  | m + 1, i, j, h => by
    unfold firstP at h
    split at h
    · injection h with h; subst h; exact ⟨Nat.le_refl _, by omega, by assumption⟩
    · have := firstP_lt h; exact ⟨by omega, by omega, this.2.2⟩
theorem firstP_none {p : Nat → Bool} : ∀ {m i : Nat}, firstP p i m = none → ∀ j, i ≤ j → j < i + m → p j = false
  | 0, i, h, j, h1, h2 => by omega
  | m + 1, i, h, j, h1, h2 => by
    unfold firstP at h
    split at h
    · cases h
    · rename_i hp
      by_cases e : j = i
      · subst e; simpa using hp
      · exact firstP_none h j (by omega) (by omega)
theorem l8HasT_run (xs : List Int) (x : Int) (hn : xs.length ≤ 4000000) : RunT Tryz.prog 154 [.one (.c (tI xs)), ti x] [] [ob (decide (x ∈ xs))] [] := by
  refine RunT.of_vc gOk Tryz.func154 rfl rfl (Nat.le_of_ble_eq_true rfl) (by repeat' (first | exact trivial | exact ⟨_, rfl, Nat.le_refl _⟩ | exact Nat.le_of_ble_eq_true rfl | refine And.intro ?_ ?_)) (Nat.le_of_ble_eq_true rfl) rfl (fun F hE => ?_)
  repeat' (first | exact trivial | refine BS.a (fun h => ?_) (fun h => ?_) | refine BS.n ?_ | refine BS.s (fun h => ?_) (fun h => ?_) | refine And.intro ?_ ?_ | exact Need.au | exact OutS.whole rfl rfl | refine ListO.go gOk hE ?_)
  refine CodeK.loop gOk hE (fun i : Nat => ⟨[(0, vr 1000000 xs.length), (1, vi x), (5, vi i)], [(1000000, rI .fro false xs)]⟩) (fun i => i ≤ xs.length ∧ ∀ j, j < i → xs.getD j 0 ≠ x) (fun i => xs.length - i) 0 (by refine leT.of ?_ ?_ rfl <;> repeat' (first | exact trivial | refine And.intro rfl ?_ | refine And.intro (by simp) ?_)) ⟨Nat.zero_le _, fun j hj => absurd hj (Nat.not_lt_zero _)⟩ ?_
  rintro i ⟨hi, hq⟩
  by_cases hp : xs.getD i 0 = x
  all_goals (repeat' (first | exact trivial | refine BS.a (fun h => ?_) (fun h => ?_) | refine BS.n ?_ | refine BS.s (fun h => ?_) (fun h => ?_) | refine And.intro ?_ ?_ | exact Need.au | exact OutS.whole rfl rfl | refine ListO.go gOk hE ?_))
  all_goals (try simp only [adN_zero] at *)
  all_goals first
    | (exfalso; first | omega | (simp_all; done))
    | (refine Need.mk ?_; symm; apply decide_eq_true; rw [← hp, List.getD_eq_getElem?_getD, List.getElem?_eq_getElem (by omega)]; exact List.getElem_mem _)
    | (refine Need.mk ?_; symm; apply decide_eq_false; intro hm; obtain ⟨j, hj, hj2⟩ := List.getElem_of_mem hm; exact hq j (by omega) (by rw [List.getD_eq_getElem?_getD, List.getElem?_eq_getElem hj]; exact hj2))
    | (refine ⟨i + 1, (by refine leT.of ?_ ?_ rfl <;> repeat' (first | exact trivial | refine And.intro rfl ?_ | refine And.intro (by simp) ?_)), ⟨by omega, fun j hj => (Nat.lt_or_ge j i).elim (hq j) (fun h9 => (show j = i by omega) ▸ hp)⟩, by first | omega | (dsimp only; omega)⟩)
theorem intFlat : ∀ (x : Int) (r : Nat), r < 1 → ∃ v, encI x r = .lit v ∧ encI x r = .lit v := fun x r _ => ⟨_, rfl, rfl⟩
theorem take_flat {xs : List (List Int)} {i : Nat} (h : i < xs.length) : (xs.take (i + 1)).flatten = (xs.take i).flatten ++ xs.getD i [] := by
  rw [List.take_succ_eq_append_getElem h, List.flatten_append]
  congr 1
  simp [List.getD, h]
theorem take_le (xs : List (List Int)) (i : Nat) : (xs.take i).flatten.length ≤ xs.flatten.length := by
  conv => rhs; rw [← List.take_append_drop i xs]
  rw [List.flatten_append, List.length_append]; omega
theorem l8All_run (e e' : Nat) (g o : List (List Int)) (hg : g.length ≤ 1048576) (ho : o.length ≤ 1048576) (hf : g.flatten.length + o.flatten.length ≤ 1048576) : RunT Tryz.prog 210 [.agg [.c (tSL e g), .c (tSL e' o)]] [] [.one (tI (g ++ o).flatten)] [] := by
  rw [List.flatten_append]
  refine RunT.of_vc gOk Tryz.func210 rfl rfl (Nat.le_of_ble_eq_true rfl) (by repeat' (first | exact trivial | exact ⟨_, rfl, Nat.le_refl _⟩ | exact Nat.le_of_ble_eq_true rfl | refine And.intro ?_ ?_)) (Nat.le_of_ble_eq_true rfl) rfl (fun F hE => ?_)
  repeat' (first | exact trivial | refine BS.a (fun h => ?_) (fun h => ?_) | refine BS.n ?_ | refine BS.s (fun h => ?_) (fun h => ?_) | refine And.intro ?_ ?_ | exact Need.au | exact OutS.whole rfl rfl | refine ListO.go gOk hE ?_)
  refine CodeK.loop gOk hE (fun i : Nat => ⟨[(1, .ptr 1 0 0), (3, vr 6 (g.take i).flatten.length), (4, vi i)], [(6, rI .own true (g.take i).flatten), (1, .box 46 [.ref 1000000 0 g.length, .ref 1000001 0 o.length]), (1000000, rSL .fro false e g), (1000001, rSL .fro false e' o)]⟩) (fun i => i ≤ g.length) (fun i => g.length - i) 0 (by refine leT.of ?_ ?_ rfl <;> repeat' (first | exact trivial | refine And.intro rfl ?_ | refine And.intro (by first | rfl | (simp; done) | (simp <;> rfl)) ?_)) (Nat.zero_le _) ?_
  rintro i hi
  have hl := take_le g i
  have hl2 := take_le g (i + 1)
  by_cases hi2 : i < g.length
  · have ht := take_flat hi2
    rw [ht, List.length_append] at hl2
    repeat' (first | exact trivial | refine BS.a (fun h => ?_) (fun h => ?_) | refine BS.n ?_ | refine BS.s (fun h => ?_) (fun h => ?_) | refine And.intro ?_ ?_ | exact Need.au | exact OutS.whole rfl rfl | refine ListO.go gOk hE ?_)
    all_goals (try simp only [adN_zero] at *)
    all_goals first | (exfalso; omega) | (refine Need.mk ?_; omega) | skip
    refine OpK.apps gOk (by rfl) (by rfl) (by rfl) (by rfl) (by rfl) (by rfl) (by rfl) (by rfl) (by rfl) (by rfl) (by first | rfl | simp) (by exact intFlat) (by rfl) (by refine ⟨?_, ?_⟩ <;> (try unfold maxLen) <;> (try simp only [adN_zero]) <;> omega) ?_
    repeat' (first | exact trivial | refine BS.a (fun h => ?_) (fun h => ?_) | refine BS.n ?_ | refine BS.s (fun h => ?_) (fun h => ?_) | refine And.intro ?_ ?_ | exact Need.au | exact OutS.whole rfl rfl | refine ListO.go gOk hE ?_)
    all_goals (try simp only [adN_zero] at *)
    all_goals (refine ⟨i + 1, (by refine leT.of ?_ ?_ rfl <;> repeat' (first | exact trivial | refine And.intro rfl ?_ | refine And.intro (by rw [ht]; first | rfl | (simp; done) | (simp <;> rfl)) ?_)), ?_⟩; (refine And.intro ?_ ?_) <;> (first | omega | (dsimp only; omega) | trivial))
  · rw [show (g.take i) = g from List.take_of_length_le (by omega)]
    repeat' (first | exact trivial | refine BS.a (fun h => ?_) (fun h => ?_) | refine BS.n ?_ | refine BS.s (fun h => ?_) (fun h => ?_) | refine And.intro ?_ ?_ | exact Need.au | exact OutS.whole rfl rfl | refine ListO.go gOk hE ?_)
    all_goals (try simp only [adN_zero] at *)
    all_goals first | (exfalso; omega) | skip
    refine CodeK.loop gOk hE (fun i : Nat => ⟨[(1, .ptr 1 0 0), (3, vr 6 (g.flatten ++ (o.take i).flatten).length), (5, vi i)], [(6, rI .own true (g.flatten ++ (o.take i).flatten)), (1, .box 46 [.ref 1000000 0 g.length, .ref 1000001 0 o.length]), (1000000, rSL .fro false e g), (1000001, rSL .fro false e' o)]⟩) (fun i => i ≤ o.length) (fun i => o.length - i) 0 (by refine leT.of ?_ ?_ rfl <;> repeat' (first | exact trivial | refine And.intro rfl ?_ | refine And.intro (by first | rfl | (simp; done) | (simp <;> rfl)) ?_)) (Nat.zero_le _) ?_
    rintro k hk
    have kl := take_le o k
    have kl2 := take_le o (k + 1)
    by_cases hk2 : k < o.length
    · have ht := take_flat hk2
      rw [ht, List.length_append] at kl2
      have kq : (g.flatten ++ (o.take k).flatten).length = g.flatten.length + (o.take k).flatten.length := List.length_append
      repeat' (first | exact trivial | refine BS.a (fun h => ?_) (fun h => ?_) | refine BS.n ?_ | refine BS.s (fun h => ?_) (fun h => ?_) | refine And.intro ?_ ?_ | exact Need.au | exact OutS.whole rfl rfl | refine ListO.go gOk hE ?_)
      all_goals (try simp only [adN_zero] at *)
      all_goals first | (exfalso; omega) | (refine Need.mk ?_; omega) | skip
      refine OpK.apps gOk (by rfl) (by rfl) (by rfl) (by rfl) (by rfl) (by rfl) (by rfl) (by rfl) (by rfl) (by rfl) (by first | rfl | simp) (by exact intFlat) (by rfl) (by refine ⟨?_, ?_⟩ <;> (try unfold maxLen) <;> (try simp only [adN_zero]) <;> omega) ?_
      repeat' (first | exact trivial | refine BS.a (fun h => ?_) (fun h => ?_) | refine BS.n ?_ | refine BS.s (fun h => ?_) (fun h => ?_) | refine And.intro ?_ ?_ | exact Need.au | exact OutS.whole rfl rfl | refine ListO.go gOk hE ?_)
      all_goals (try simp only [adN_zero] at *)
      all_goals (refine ⟨k + 1, (by refine leT.of ?_ ?_ rfl <;> repeat' (first | exact trivial | refine And.intro rfl ?_ | refine And.intro (by rw [ht, ← List.append_assoc]; first | rfl | (simp; done) | (simp <;> rfl)) ?_)), ?_⟩; (refine And.intro ?_ ?_) <;> (first | omega | (dsimp only; omega) | trivial))
    · repeat' (first | exact trivial | refine BS.a (fun h => ?_) (fun h => ?_) | refine BS.n ?_ | refine BS.s (fun h => ?_) (fun h => ?_) | refine And.intro ?_ ?_ | exact Need.au | exact OutS.whole rfl rfl | refine ListO.go gOk hE ?_)
      all_goals first | (exfalso; omega) | exact OutS.whole rfl (by rw [List.take_of_length_le (by omega)]; rfl)
end Go.Proofs.YtnfjpjgmhhmdeaaGreatDoor
end

section
namespace Go.Proofs.YtnfjpjgmhhmdeaaGreatDoor
open Go Go.Tr
set_option maxRecDepth 100000
set_option maxHeartbeats 4000000
set_option linter.unusedVariables false
set_option linter.unusedSimpArgs false
theorem szSL_eq : ∀ (l : List (List Int)) (m : Int), 0 ≤ m → 0 ≤ szSL l m → szSL l m = m - l.flatten.length
  | [], m, h, _ => by simp [szSL]
  | x :: l, m, h, h2 => by
    obtain ⟨k1, k2, k3⟩ := szI_le x m h
    unfold szSL at h2 ⊢
    split at h2
    · omega
    · rename_i hn
      rw [if_neg hn, szSL_eq l _ (by omega) h2, List.flatten_cons, List.length_append]
      have : szI x m = m - x.length := by unfold szI at hn ⊢; split at hn <;> first | omega | (rw [if_neg (by assumption)])
      omega
theorem flat_mem {l : List (List Int)} {x : List Int} (h : x ∈ l) : x.length ≤ l.flatten.length := by
  induction l with
  | nil => cases h
  | cons y l ih =>
    rw [List.flatten_cons, List.length_append]
    rcases List.mem_cons.1 h with rfl | h
    · omega
    · have := ih h; omega
theorem szL_ok {g o : List (List Int)} {m : Int} (hm0 : 0 ≤ m) (hm1 : m ≤ 1048576) (h : ¬ (if szSLs g m < 0 then (-1 : Int) else szSLs o (szSLs g m)) < 0) : g.length + o.length + g.flatten.length + o.flatten.length ≤ 1048576 ∧ (∀ i, (g.getD i []).length ≤ 1048576) ∧ (∀ i, (o.getD i []).length ≤ 1048576) ∧ ∀ i, ((g ++ o).getD i []).length ≤ 1048576 := by
  have h1 : ¬ szSLs g m < 0 := by intro hh; rw [if_pos hh] at h; omega
  rw [if_neg h1] at h
  unfold szSLs at h1
  split at h1
  · omega
  have e1 := szSL_eq g (m - g.length) (by omega) (by omega)
  have e0 : szSLs g m = m - g.length - g.flatten.length := by unfold szSLs; rw [if_neg (by assumption), e1]
  rw [e0] at h
  unfold szSLs at h
  split at h
  · omega
  have e2 := szSL_eq o _ (by omega) (by omega : 0 ≤ szSL o (m - g.length - g.flatten.length - o.length))
  have hb : g.length + o.length + g.flatten.length + o.flatten.length ≤ 1048576 := by omega
  refine ⟨hb, getD_le fun x hx => by have := flat_mem hx; omega, getD_le fun x hx => by have := flat_mem hx; omega, getD_le fun x hx => ?_⟩
  rcases List.mem_append.1 hx with hx | hx <;> (have := flat_mem hx; omega)
end Go.Proofs.YtnfjpjgmhhmdeaaGreatDoor
end

section
namespace Go.Proofs.YtnfjpjgmhhmdeaaGreatDoor
open Go Go.Tr
set_option maxRecDepth 100000
set_option maxHeartbeats 4000000
set_option linter.unusedVariables false
set_option linter.unusedSimpArgs false
def ownFew (o : List (List Int)) : Bool := decide (∀ j, j < o.length → (o.getD j []).length ≤ 2)
def lsOk (g o : List (List Int)) : Bool := if g.length = 3 ∧ o.length = 9 ∧ ownFew o = true then okS [] (g ++ o).flatten else false
theorem few_no {o : List (List Int)} {i : Nat} (hi : i < o.length) (h : ¬ (o.getD i []).length ≤ 2) : ownFew o = false := decide_eq_false (fun hh => h (hh i hi))
theorem few_yes {o : List (List Int)} (h : ∀ j, j < o.length → (o.getD j []).length ≤ 2) : ownFew o = true := decide_eq_true h
theorem l1In_run (x a b : Int) : RunT Tryz.prog 39 [ti x, ti a, ti b] [] [ob (decide (a ≤ x ∧ x ≤ b))] [] := by
  refine RunT.of_vc gOk Tryz.func39 rfl rfl (Nat.le_of_ble_eq_true rfl) (by repeat' (first | exact trivial | exact ⟨_, rfl, Nat.le_refl _⟩ | exact Nat.le_of_ble_eq_true rfl | refine And.intro ?_ ?_)) (Nat.le_of_ble_eq_true rfl) rfl (fun F hE => ?_)
  repeat' (first | exact trivial | refine BS.a (fun h => ?_) (fun h => ?_) | refine BS.n ?_ | refine BS.s (fun h => ?_) (fun h => ?_) | refine And.intro ?_ ?_ | exact Need.au | exact OutS.whole rfl rfl | refine ListO.go gOk hE ?_)
  all_goals (refine Need.mk ?_; simp [*])
theorem ListsOkI_run (e e' : Nat) (g o : List (List Int)) (hgo : g.length + o.length ≤ 1048576) (hx : ∀ i, ((g ++ o).getD i []).length ≤ 1048576) : RunT Tryz.prog 164 [.agg [.c (tSL e g), .c (tSL e' o)]] [] [ob (lsOk g o)] [] := by
  have c1 := eachSlot_run e e' g o hgo hx
  by_cases hl : g.length = 3 ∧ o.length = 9
  · have hq : lsOk g o = if ownFew o = true then okS [] (g ++ o).flatten else false := by
      unfold lsOk
      by_cases h : ownFew o = true
      · rw [if_pos ⟨hl.1, hl.2, h⟩, if_pos h]
      · rw [if_neg (fun hh => h hh.2.2), if_neg h]
    rw [hq]
    generalize okS [] (g ++ o).flatten = ok at *
    obtain ⟨h1, h2⟩ := hl
    refine RunT.of_vc gOk Tryz.func164 rfl rfl (Nat.le_of_ble_eq_true rfl) (by repeat' (first | exact trivial | exact ⟨_, rfl, Nat.le_refl _⟩ | exact Nat.le_of_ble_eq_true rfl | refine And.intro ?_ ?_)) (Nat.le_of_ble_eq_true rfl) rfl (fun F hE => ?_)
    repeat' (first | exact trivial | refine BS.a (fun h => ?_) (fun h => ?_) | refine BS.n ?_ | refine BS.s (fun h => ?_) (fun h => ?_) | refine And.intro ?_ ?_ | exact Need.au | exact OutS.whole rfl rfl | refine ListO.go gOk hE ?_)
    all_goals (try simp only [adN_zero] at *)
    all_goals first | (exfalso; omega) | skip
    refine CodeK.loop gOk hE (fun i : Nat => ⟨[(1, .ptr 1 0 0), (16, vr 1000001 o.length), (17, vi o.length), (18, vi i)], [(1, .box 46 [.ref 1000000 0 g.length, .ref 1000001 0 o.length]), (1000000, rSL .fro false e g), (1000001, rSL .fro false e' o)]⟩) (fun i => i ≤ o.length ∧ ∀ j, j < i → (o.getD j []).length ≤ 2) (fun i => o.length - i) 0 (by refine leT.of ?_ ?_ rfl <;> repeat' (first | exact trivial | refine And.intro rfl ?_ | refine And.intro (by first | rfl | (simp; done) | (simp <;> rfl)) ?_)) ⟨Nat.zero_le _, fun j hj => absurd hj (Nat.not_lt_zero _)⟩ ?_
    rintro i ⟨hi, hs⟩
    by_cases hi2 : i < o.length
    · repeat' (first | exact trivial | refine BS.a (fun h => ?_) (fun h => ?_) | refine BS.n ?_ | refine BS.s (fun h => ?_) (fun h => ?_) | refine And.intro ?_ ?_ | exact Need.au | exact OutS.whole rfl rfl | refine ListO.go gOk hE ?_)
      all_goals (try simp only [adN_zero] at *)
      all_goals first
        | (exfalso; omega)
        | (refine Need.mk ?_; omega)
        | (refine Need.mk ?_; rw [if_neg (by rw [few_no hi2 (by omega)]; simp)])
        | (refine ⟨i + 1, (by refine leT.of ?_ ?_ rfl <;> repeat' (first | exact trivial | refine And.intro rfl ?_ | refine And.intro (by simp) ?_)), ⟨by omega, fun j hj => (Nat.lt_or_ge j i).elim (hs j) (fun h9 => (show j = i by omega) ▸ (by omega))⟩, by first | omega | (dsimp only; omega)⟩)
    · rw [if_pos (few_yes fun j hj => hs j (by omega))]
      repeat' (first | exact trivial | refine BS.a (fun h => ?_) (fun h => ?_) | refine BS.n ?_ | refine BS.s (fun h => ?_) (fun h => ?_) | refine And.intro ?_ ?_ | exact Need.au | exact OutS.whole rfl rfl | refine OpK.ca c1 hE ?_ | refine ListO.go gOk hE ?_)
      all_goals (try simp only [adN_zero] at *)
      all_goals first | (exfalso; omega) | trace_state
  · have hq : lsOk g o = false := by unfold lsOk; rw [if_neg (fun h => hl ⟨h.1, h.2.1⟩)]
    rw [hq]
    refine RunT.of_vc gOk Tryz.func164 rfl rfl (Nat.le_of_ble_eq_true rfl) (by repeat' (first | exact trivial | exact ⟨_, rfl, Nat.le_refl _⟩ | exact Nat.le_of_ble_eq_true rfl | refine And.intro ?_ ?_)) (Nat.le_of_ble_eq_true rfl) rfl (fun F hE => ?_)
    repeat' (first | exact trivial | refine BS.a (fun h => ?_) (fun h => ?_) | refine BS.n ?_ | refine BS.s (fun h => ?_) (fun h => ?_) | refine And.intro ?_ ?_ | exact Need.au | exact OutS.whole rfl rfl | refine ListO.go gOk hE ?_)
    all_goals (try simp only [adN_zero] at *)
    all_goals first | (exfalso; omega) | trace_state
theorem ListsOkS_run (e e' : Nat) (g o : List (List Int)) (hg : g.length ≤ 1048576) (ho : o.length ≤ 1048576) (hf : g.flatten.length + o.flatten.length ≤ 1048576) : RunT Tryz.prog 151 [.agg [.c (tSL e g), .c (tSL e' o)]] [] [ob (lsOk g o)] [] := by
  have c1 := l8All_run e e' g o hg ho hf
  have hfl : (g ++ o).flatten.length ≤ 1048576 := by rw [List.flatten_append, List.length_append]; omega
  by_cases hl : g.length = 3 ∧ o.length = 9
  · have hq : lsOk g o = if ownFew o = true then okS [] (g ++ o).flatten else false := by
      unfold lsOk
      by_cases h : ownFew o = true
      · rw [if_pos ⟨hl.1, hl.2, h⟩, if_pos h]
      · rw [if_neg (fun hh => h hh.2.2), if_neg h]
    rw [hq]
    generalize (g ++ o).flatten = R at *
    obtain ⟨h1, h2⟩ := hl
    refine RunT.of_vc gOk Tryz.func151 rfl rfl (Nat.le_of_ble_eq_true rfl) (by repeat' (first | exact trivial | exact ⟨_, rfl, Nat.le_refl _⟩ | exact Nat.le_of_ble_eq_true rfl | refine And.intro ?_ ?_)) (Nat.le_of_ble_eq_true rfl) rfl (fun F hE => ?_)
    repeat' (first | exact trivial | refine BS.a (fun h => ?_) (fun h => ?_) | refine BS.n ?_ | refine BS.s (fun h => ?_) (fun h => ?_) | refine And.intro ?_ ?_ | exact Need.au | exact OutS.whole rfl rfl | refine ListO.go gOk hE ?_)
    all_goals (try simp only [adN_zero] at *)
    all_goals first | (exfalso; omega) | skip
    refine CodeK.loop gOk hE (fun i : Nat => ⟨[(1, .ptr 1 0 0), (3, vi i)], [(1, .box 46 [.ref 1000000 0 g.length, .ref 1000001 0 o.length]), (1000000, rSL .fro false e g), (1000001, rSL .fro false e' o)]⟩) (fun i => i ≤ o.length ∧ ∀ j, j < i → (o.getD j []).length ≤ 2) (fun i => o.length - i) 0 (by refine leT.of ?_ ?_ rfl <;> repeat' (first | exact trivial | refine And.intro rfl ?_ | refine And.intro (by first | rfl | (simp; done) | (simp <;> rfl)) ?_)) ⟨Nat.zero_le _, fun j hj => absurd hj (Nat.not_lt_zero _)⟩ ?_
    rintro i ⟨hi, hs⟩
    by_cases hi2 : i < o.length
    · repeat' (first | exact trivial | refine BS.a (fun h => ?_) (fun h => ?_) | refine BS.n ?_ | refine BS.s (fun h => ?_) (fun h => ?_) | refine And.intro ?_ ?_ | exact Need.au | exact OutS.whole rfl rfl | refine ListO.go gOk hE ?_)
      all_goals (try simp only [adN_zero] at *)
      all_goals first
        | (exfalso; omega)
        | (refine Need.mk ?_; omega)
        | (refine Need.mk ?_; rw [if_neg (by rw [few_no hi2 (by omega)]; simp)])
        | (refine ⟨i + 1, (by refine leT.of ?_ ?_ rfl <;> repeat' (first | exact trivial | refine And.intro rfl ?_ | refine And.intro (by simp) ?_)), ⟨by omega, fun j hj => (Nat.lt_or_ge j i).elim (hs j) (fun h9 => (show j = i by omega) ▸ (by omega))⟩, by first | omega | (dsimp only; omega)⟩)
    · rw [if_pos (few_yes fun j hj => hs j (by omega))]
      repeat' (first | exact trivial | refine BS.a (fun h => ?_) (fun h => ?_) | refine BS.n ?_ | refine BS.s (fun h => ?_) (fun h => ?_) | refine And.intro ?_ ?_ | exact Need.au | exact OutS.whole rfl rfl | refine OpK.ca c1 hE ?_ | refine ListO.go gOk hE ?_)
      all_goals (try simp only [adN_zero] at *)
      all_goals first | (exfalso; omega) | skip
      refine CodeK.loop gOk hE (fun i : Nat => ⟨[(4, vr 2004096 R.length), (5, vi i)], [(2004096, rI .own true R)]⟩) (fun i => i ≤ R.length ∧ okS [] R = okS (R.take i) (R.drop i)) (fun i => R.length - i) 0 (by refine leT.of ?_ ?_ rfl <;> repeat' (first | exact trivial | refine And.intro rfl ?_ | refine And.intro (by first | rfl | (simp; done) | (simp <;> rfl)) ?_)) ⟨Nat.zero_le _, rfl⟩ ?_
      rintro k ⟨hk, hq⟩
      by_cases hk2 : k < R.length
      · rw [drop_cons 0 hk2] at hq
        have c2 := l1In_run (R.getD k 0) 0 23
        have c3 := l8HasT_run (R.take k) (R.getD k 0) (by rw [List.length_take]; omega)
        have ht : R.take (k + 1) = R.take k ++ [R.getD k 0] := by rw [List.take_succ_eq_append_getElem hk2]; simp [List.getD, hk2]
        by_cases hv : (0 ≤ R.getD k 0 ∧ R.getD k 0 < 24) ∧ R.getD k 0 ∉ R.take k
        · rw [decide_eq_true (show 0 ≤ R.getD k 0 ∧ R.getD k 0 ≤ 23 by omega)] at c2
          rw [decide_eq_false hv.2] at c3
          rw [okS_yes hv, ← ht] at hq
          repeat' (first | exact trivial | refine BS.a (fun h => ?_) (fun h => ?_) | refine BS.n ?_ | refine BS.s (fun h => ?_) (fun h => ?_) | refine And.intro ?_ ?_ | exact Need.au | exact OutS.whole rfl rfl | (refine CodeK.draw gOk hE rfl (fun _ _ h => h) (.take 0 (.take 1 (.take 2 (.alt 3 (.alt 4 (.take 5 (.take 6 (.take 7 (.take 8 (.take 9 (.take 10 (.take 11 (.take 12 (.alt 13 (.alt 14 (.take 15 .done) .stop) .stop))))))))) .stop) .stop)))) ?_ ?_; focus (decide +kernel)) | refine OpK.ca c2 hE ?_ | (refine OpK.call c3 rfl rfl rfl rfl hE (.cons (.one (.seg rfl (by omega) (by simp))) (.cons (.one (.lit _)) .nil)) rfl rfl ?_) | refine ListO.go gOk hE ?_)
          all_goals (try simp only [adN_zero] at *)
          all_goals first
            | (exfalso; omega)
            | (refine Need.mk ?_; omega)
            | (refine ⟨k + 1, (by refine leT.of ?_ ?_ rfl <;> repeat' (first | exact trivial | refine And.intro rfl ?_ | refine And.intro (by simp) ?_)), ⟨by omega, hq⟩, by first | omega | (dsimp only; omega)⟩)
        · rw [okS_no hv] at hq
          rw [hq]
          by_cases hv1 : 0 ≤ R.getD k 0 ∧ R.getD k 0 ≤ 23
          · rw [decide_eq_true hv1] at c2
            rw [decide_eq_true (show R.getD k 0 ∈ R.take k from Classical.byContradiction fun hh => hv ⟨by omega, hh⟩)] at c3
            repeat' (first | exact trivial | refine BS.a (fun h => ?_) (fun h => ?_) | refine BS.n ?_ | refine BS.s (fun h => ?_) (fun h => ?_) | refine And.intro ?_ ?_ | exact Need.au | exact OutS.whole rfl rfl | (refine CodeK.draw gOk hE rfl (fun _ _ h => h) (.take 0 (.take 1 (.take 2 (.alt 3 (.alt 4 (.take 5 (.take 6 (.take 7 (.take 8 (.take 9 (.take 10 (.take 11 (.take 12 (.alt 13 (.alt 14 (.take 15 .done) .stop) .stop))))))))) .stop) .stop)))) ?_ ?_; focus (decide +kernel)) | refine OpK.ca c2 hE ?_ | (refine OpK.call c3 rfl rfl rfl rfl hE (.cons (.one (.seg rfl (by omega) (by simp))) (.cons (.one (.lit _)) .nil)) rfl rfl ?_) | refine ListO.go gOk hE ?_)
            all_goals (try simp only [adN_zero] at *)
            all_goals first
              | (exfalso; omega)
              | (refine Need.mk ?_; omega)
              | trace_state
          · rw [decide_eq_false hv1] at c2
            repeat' (first | exact trivial | refine BS.a (fun h => ?_) (fun h => ?_) | refine BS.n ?_ | refine BS.s (fun h => ?_) (fun h => ?_) | refine And.intro ?_ ?_ | exact Need.au | exact OutS.whole rfl rfl | (refine CodeK.draw gOk hE rfl (fun _ _ h => h) (.take 0 (.take 1 (.take 2 (.alt 3 (.alt 4 (.take 5 (.take 6 (.take 7 (.take 8 (.take 9 (.take 10 (.take 11 (.take 12 (.alt 13 (.alt 14 (.take 15 .done) .stop) .stop))))))))) .stop) .stop)))) ?_ ?_; focus (decide +kernel)) | refine OpK.ca c2 hE ?_ | refine ListO.go gOk hE ?_)
            all_goals (try simp only [adN_zero] at *)
            all_goals first
              | (exfalso; omega)
              | (refine Need.mk ?_; omega)
              | trace_state
      · rw [List.drop_eq_nil_of_le (by omega)] at hq
        repeat' (first | exact trivial | refine BS.a (fun h => ?_) (fun h => ?_) | refine BS.n ?_ | refine BS.s (fun h => ?_) (fun h => ?_) | refine And.intro ?_ ?_ | exact Need.au | exact OutS.whole rfl rfl | refine ListO.go gOk hE ?_)
        all_goals first | exact Need.mk hq.symm | (exfalso; omega) | trace_state
  · have hq : lsOk g o = false := by unfold lsOk; rw [if_neg (fun h => hl ⟨h.1, h.2.1⟩)]
    rw [hq]
    refine RunT.of_vc gOk Tryz.func151 rfl rfl (Nat.le_of_ble_eq_true rfl) (by repeat' (first | exact trivial | exact ⟨_, rfl, Nat.le_refl _⟩ | exact Nat.le_of_ble_eq_true rfl | refine And.intro ?_ ?_)) (Nat.le_of_ble_eq_true rfl) rfl (fun F hE => ?_)
    repeat' (first | exact trivial | refine BS.a (fun h => ?_) (fun h => ?_) | refine BS.n ?_ | refine BS.s (fun h => ?_) (fun h => ?_) | refine And.intro ?_ ?_ | exact Need.au | exact OutS.whole rfl rfl | refine ListO.go gOk hE ?_)
    all_goals (try simp only [adN_zero] at *)
    all_goals first | (exfalso; omega) | trace_state
end Go.Proofs.YtnfjpjgmhhmdeaaGreatDoor
end

section
/- A memory: its lists fit its heap. -/
namespace Go.Proofs.YtnfjpjgmhhmdeaaGreatDoor
open Go Go.Tr
set_option maxRecDepth 100000
set_option maxHeartbeats 4000000
set_option linter.unusedVariables false
set_option linter.unusedSimpArgs false
/-- A slot of the list is of the class and may be granted again. -/
def ftP (b c xs : List Int) (k : Int) (j : Nat) : Prop := clIn c (xs.getD j 0) = k ∧ gnIn b c (xs.getD j 0) ≤ 6
def ltP (b c xs : List Int) (k : Int) : Prop := ∀ j, j < xs.length → ftP b c xs k j
abbrev bHk (κ : Nat) (b c : List Int) : TRoot := .box 43 [.ref 1000000 0 b.length, .ref 1000001 0 c.length]
theorem l9Listed_run (b c xs : List Int) (k : Int) (hk : k ≠ -1) (hsh : shP b c) (hn : xs.length ≤ 1048576) : RunT Tryz.prog 152 [aH2 b c, .one (.c (tI xs)), ti k] [] [ob (dcB (ltP b c xs k))] [] := by
  have hc := hsh.2.1
  refine RunT.of_vc gOk Tryz.func152 rfl rfl (Nat.le_of_ble_eq_true rfl) (by repeat' (first | exact trivial | exact ⟨_, rfl, Nat.le_refl _⟩ | exact Nat.le_of_ble_eq_true rfl | refine And.intro ?_ ?_)) (Nat.le_of_ble_eq_true rfl) rfl (fun F hE => ?_)
  repeat' (first | exact trivial | refine BS.a (fun h => ?_) (fun h => ?_) | refine BS.n ?_ | refine BS.s (fun h => ?_) (fun h => ?_) | refine And.intro ?_ ?_ | exact Need.au | exact OutS.whole rfl rfl | refine ListO.go gOk hE ?_)
  refine CodeK.loop gOk hE (fun i : Nat => ⟨[(1, vr 1000002 xs.length), (2, vi k), (3, .ptr 3 0 0), (7, vi i)], [(3, bH b c), (1000000, rI .fro false b), (1000001, rI .fro false c), (1000002, rI .fro false xs)]⟩) (fun i => i ≤ xs.length ∧ ∀ j, j < i → ftP b c xs k j) (fun i => xs.length - i) 0 (by refine leT.of ?_ ?_ rfl <;> repeat' (first | exact trivial | refine And.intro rfl ?_ | refine And.intro (by simp) ?_)) ⟨Nat.zero_le _, fun j hj => absurd hj (Nat.not_lt_zero _)⟩ ?_
  rintro i ⟨hi, hq⟩
  by_cases hi2 : i < xs.length
  · have c1 := l7Class_run b c (xs.getD i 0) hc
    by_cases h1 : clIn c (xs.getD i 0) = k
    · have c2 := l7Gen_run b c (xs.getD i 0) hsh (by rw [h1]; exact hk)
      rw [h1] at c1
      by_cases h2 : gnIn b c (xs.getD i 0) ≤ 6
      · repeat' (first | exact trivial | refine BS.a (fun h => ?_) (fun h => ?_) | refine BS.n ?_ | refine BS.s (fun h => ?_) (fun h => ?_) | refine And.intro ?_ ?_ | exact Need.au | exact OutS.whole rfl rfl | (refine CodeK.draw gOk hE rfl (fun _ _ h => h) (.take 1 (.take 2 (.take 3 (.take 6 (.alt 0 (.alt 4 (.alt 5 (.take 7 (.take 8 (.take 10 (.take 11 (.take 12 (.alt 9 (.alt 13 (.alt 14 (.take 15 (.take 16 .done)) .stop) .stop) (.alt 13 (.alt 9 (.alt 14 (.take 15 (.take 16 .done)) .stop) .stop) .stop))))))) .stop) .stop) (.alt 4 (.alt 0 (.alt 5 (.take 7 (.take 8 (.take 10 (.take 11 (.take 12 (.alt 9 (.alt 13 (.alt 14 (.take 15 (.take 16 .done)) .stop) .stop) (.alt 13 (.alt 9 (.alt 14 (.take 15 (.take 16 .done)) .stop) .stop) .stop))))))) .stop) .stop) .stop)))))) ?_ ?_; focus (decide +kernel)) | refine OpK.ca c1 hE ?_ | refine OpK.ca c2 hE ?_ | refine ListO.go gOk hE ?_)
        all_goals (try simp only [adN_zero] at *)
        all_goals first
          | (exfalso; omega)
          | (refine Need.mk ?_; omega)
          | (refine ⟨i + 1, (by refine leT.of ?_ ?_ rfl <;> repeat' (first | exact trivial | refine And.intro rfl ?_ | refine And.intro (by simp) ?_)), ⟨by omega, fun j hj => (Nat.lt_or_ge j i).elim (hq j) (fun h9 => (show j = i by omega) ▸ ⟨h1, h2⟩)⟩, by first | omega | (dsimp only; omega)⟩)
          | trace_state
      · repeat' (first | exact trivial | refine BS.a (fun h => ?_) (fun h => ?_) | refine BS.n ?_ | refine BS.s (fun h => ?_) (fun h => ?_) | refine And.intro ?_ ?_ | exact Need.au | exact OutS.whole rfl rfl | (refine CodeK.draw gOk hE rfl (fun _ _ h => h) (.take 1 (.take 2 (.take 3 (.take 6 (.alt 0 (.alt 4 (.alt 5 (.take 7 (.take 8 (.take 10 (.take 11 (.take 12 (.alt 9 (.alt 13 (.alt 14 (.take 15 (.take 16 .done)) .stop) .stop) (.alt 13 (.alt 9 (.alt 14 (.take 15 (.take 16 .done)) .stop) .stop) .stop))))))) .stop) .stop) (.alt 4 (.alt 0 (.alt 5 (.take 7 (.take 8 (.take 10 (.take 11 (.take 12 (.alt 9 (.alt 13 (.alt 14 (.take 15 (.take 16 .done)) .stop) .stop) (.alt 13 (.alt 9 (.alt 14 (.take 15 (.take 16 .done)) .stop) .stop) .stop))))))) .stop) .stop) .stop)))))) ?_ ?_; focus (decide +kernel)) | refine OpK.ca c1 hE ?_ | refine OpK.ca c2 hE ?_ | refine ListO.go gOk hE ?_)
        all_goals (try simp only [adN_zero] at *)
        all_goals first
          | (exfalso; omega)
          | (refine Need.mk ?_; omega)
          | (refine Need.mk ?_; symm; apply dcB_false; intro hh; exact h2 (hh i hi2).2)
          | trace_state
    · repeat' (first | exact trivial | refine BS.a (fun h => ?_) (fun h => ?_) | refine BS.n ?_ | refine BS.s (fun h => ?_) (fun h => ?_) | refine And.intro ?_ ?_ | exact Need.au | exact OutS.whole rfl rfl | (refine CodeK.draw gOk hE rfl (fun _ _ h => h) (.take 1 (.take 2 (.take 3 (.take 6 (.alt 0 (.alt 4 (.alt 5 (.take 7 (.take 8 (.take 10 (.take 11 (.take 12 (.alt 9 (.alt 13 (.alt 14 (.take 15 (.take 16 .done)) .stop) .stop) (.alt 13 (.alt 9 (.alt 14 (.take 15 (.take 16 .done)) .stop) .stop) .stop))))))) .stop) .stop) (.alt 4 (.alt 0 (.alt 5 (.take 7 (.take 8 (.take 10 (.take 11 (.take 12 (.alt 9 (.alt 13 (.alt 14 (.take 15 (.take 16 .done)) .stop) .stop) (.alt 13 (.alt 9 (.alt 14 (.take 15 (.take 16 .done)) .stop) .stop) .stop))))))) .stop) .stop) .stop)))))) ?_ ?_; focus (decide +kernel)) | refine OpK.ca c1 hE ?_ | refine ListO.go gOk hE ?_)
      all_goals (try simp only [adN_zero] at *)
      all_goals first
        | (exfalso; omega)
        | (refine Need.mk ?_; omega)
        | (refine Need.mk ?_; symm; apply dcB_false; intro hh; exact h1 (hh i hi2).1)
        | trace_state
  · repeat' (first | exact trivial | refine BS.a (fun h => ?_) (fun h => ?_) | refine BS.n ?_ | refine BS.s (fun h => ?_) (fun h => ?_) | refine And.intro ?_ ?_ | exact Need.au | exact OutS.whole rfl rfl | refine ListO.go gOk hE ?_)
    all_goals first
      | (exfalso; omega)
      | (refine Need.mk ?_; symm; apply dcB_true; exact fun j hj => hq j (by omega))
      | trace_state
theorem listFits_run (b c xs : List Int) (k : Int) (hk : k ≠ -1) (hsh : shP b c) (hn : xs.length ≤ 1048576) : RunH Tryz.prog hT 165 [aH2 b c, .agg [.c (tI xs)], ti k] [] [ob (dcB (ltP b c xs k))] [] := by
  have hc := hsh.2.1
  refine RunH.of_vc gOk Tryz.func165 rfl rfl (Nat.le_of_ble_eq_true rfl) (by repeat' (first | exact trivial | exact ⟨_, rfl, Nat.le_refl _⟩ | exact Nat.le_of_ble_eq_true rfl | refine And.intro ?_ ?_)) (Nat.le_of_ble_eq_true rfl) rfl (fun F hE hA => ?_)
  repeat' (first | exact trivial | refine BS.a (fun h => ?_) (fun h => ?_) | refine BS.n ?_ | refine BS.s (fun h => ?_) (fun h => ?_) | refine And.intro ?_ ?_ | exact Need.au | exact OutS.whole rfl rfl | refine ListO.go gOk hE ?_)
  refine CodeK.loop gOk hE (fun i : Nat => ⟨[(2, vi k), (3, .ptr 3 0 0), (10, vr 1000002 xs.length), (11, vi xs.length), (12, vi i)], [(3, bH b c), (1000000, rI .fro false b), (1000001, rI .fro false c), (1000002, rI .fro false xs)]⟩) (fun i => i ≤ xs.length ∧ ∀ j, j < i → ftP b c xs k j) (fun i => xs.length - i) 0 (by refine leT.of ?_ ?_ rfl <;> repeat' (first | exact trivial | refine And.intro rfl ?_ | refine And.intro (by simp) ?_)) ⟨Nat.zero_le _, fun j hj => absurd hj (Nat.not_lt_zero _)⟩ ?_
  rintro i ⟨hi, hq⟩
  by_cases hi2 : i < xs.length
  · have c1 := classIn_run b c (xs.getD i 0) hc
    have c2 := genIn_run b c (xs.getD i 0) hsh
    by_cases h1 : clIn c (xs.getD i 0) = k
    · rw [h1] at c1
      by_cases h2 : gnIn b c (xs.getD i 0) ≤ 6
      · repeat' (first | exact trivial | refine BS.a (fun h => ?_) (fun h => ?_) | refine BS.n ?_ | refine BS.s (fun h => ?_) (fun h => ?_) | refine And.intro ?_ ?_ | exact Need.au | exact OutS.whole rfl rfl | refine OpK.ha c1 hA hE ?_ | refine OpK.ha c2 hA hE ?_ | refine ListO.go gOk hE ?_)
        all_goals (try simp only [adN_zero] at *)
        all_goals first
          | (exfalso; omega)
          | (refine Need.mk ?_; omega)
          | (refine ⟨i + 1, (by refine leT.of ?_ ?_ rfl <;> repeat' (first | exact trivial | refine And.intro rfl ?_ | refine And.intro (by simp) ?_)), ⟨by omega, fun j hj => (Nat.lt_or_ge j i).elim (hq j) (fun h9 => (show j = i by omega) ▸ ⟨h1, h2⟩)⟩, by first | omega | (dsimp only; omega)⟩)
          | trace_state
      · repeat' (first | exact trivial | refine BS.a (fun h => ?_) (fun h => ?_) | refine BS.n ?_ | refine BS.s (fun h => ?_) (fun h => ?_) | refine And.intro ?_ ?_ | exact Need.au | exact OutS.whole rfl rfl | refine OpK.ha c1 hA hE ?_ | refine OpK.ha c2 hA hE ?_ | refine ListO.go gOk hE ?_)
        all_goals (try simp only [adN_zero] at *)
        all_goals first
          | (exfalso; omega)
          | (refine Need.mk ?_; omega)
          | (refine Need.mk ?_; symm; apply dcB_false; intro hh; exact h2 (hh i hi2).2)
          | trace_state
    · repeat' (first | exact trivial | refine BS.a (fun h => ?_) (fun h => ?_) | refine BS.n ?_ | refine BS.s (fun h => ?_) (fun h => ?_) | refine And.intro ?_ ?_ | exact Need.au | exact OutS.whole rfl rfl | refine OpK.ha c1 hA hE ?_ | refine ListO.go gOk hE ?_)
      all_goals (try simp only [adN_zero] at *)
      all_goals first
        | (exfalso; omega)
        | (refine Need.mk ?_; omega)
        | (refine Need.mk ?_; symm; apply dcB_false; intro hh; exact h1 (hh i hi2).1)
        | trace_state
  · repeat' (first | exact trivial | refine BS.a (fun h => ?_) (fun h => ?_) | refine BS.n ?_ | refine BS.s (fun h => ?_) (fun h => ?_) | refine And.intro ?_ ?_ | exact Need.au | exact OutS.whole rfl rfl | refine ListO.go gOk hE ?_)
    all_goals first
      | (exfalso; omega)
      | (refine Need.mk ?_; symm; apply dcB_true; exact fun j hj => hq j (by omega))
      | trace_state
end Go.Proofs.YtnfjpjgmhhmdeaaGreatDoor
end

section
/- The index of a list of one's own. -/
namespace Go.Proofs.YtnfjpjgmhhmdeaaGreatDoor
open Go Go.Tr
set_option maxRecDepth 100000
set_option maxHeartbeats 4000000
set_option linter.unusedVariables false
set_option linter.unusedSimpArgs false
theorem lsOk_len {g o : List (List Int)} (h : lsOk g o = true) : g.length = 3 ∧ o.length = 9 := by
  unfold lsOk at h
  split at h
  · rename_i hh; exact ⟨hh.1, hh.2.1⟩
  · cases h
theorem OwnAtH_run (w c : Int) : RunT Tryz.prog 153 [ti w, ti c] [] [oi (if (0 ≤ w ∧ w ≤ 2) ∧ 0 ≤ c ∧ c ≤ 2 then w * 3 + c else -1)] [] := by
  have c1 := l1In_run w 0 2
  have c2 := l1In_run c 0 2
  refine RunT.of_vc gOk Tryz.func153 rfl rfl (Nat.le_of_ble_eq_true rfl) (by repeat' (first | exact trivial | exact ⟨_, rfl, Nat.le_refl _⟩ | exact Nat.le_of_ble_eq_true rfl | refine And.intro ?_ ?_)) (Nat.le_of_ble_eq_true rfl) rfl (fun F hE => ?_)
  repeat' (first | exact trivial | refine BS.a (fun h => ?_) (fun h => ?_) | refine BS.n ?_ | refine BS.s (fun h => ?_) (fun h => ?_) | refine And.intro ?_ ?_ | exact Need.au | exact OutS.whole rfl rfl | refine OpK.ca c1 hE ?_ | refine OpK.ca c2 hE ?_ | refine ListO.go gOk hE ?_)
  all_goals first | (exfalso; omega) | (refine Need.mk ?_; first | (rw [if_pos (by omega)]; done) | (rw [if_neg (by omega)]; done)) | trace_state
end Go.Proofs.YtnfjpjgmhhmdeaaGreatDoor
end

section
namespace Go.Proofs.YtnfjpjgmhhmdeaaGreatDoor
open Go Go.Tr
set_option maxRecDepth 100000
set_option maxHeartbeats 4000000
set_option linter.unusedVariables false
set_option linter.unusedSimpArgs false
def mmP (b c : List Int) (g o : List (List Int)) : Prop := hpP b c ∧ lsOk g o = true ∧ (∀ j : Nat, j < 3 → ltP b c (g.getD j []) j) ∧ ∀ w j : Nat, w < 3 → j < 3 → ltP b c (o.getD (w * 3 + j) []) j
abbrev bM (b c : List Int) (g o : List (List Int)) : TRoot := .box 48 [.ref 1000000 0 b.length, .ref 1000001 0 c.length, .ref 1000002 0 g.length, .ref 1000003 0 o.length]
theorem MemOkS_run (e : Nat) (b c : List Int) (g o : List (List Int)) (hm : MmOk 1048576 b c g o) (hgo : g.length + o.length ≤ 1048576) (hf : g.flatten.length + o.flatten.length ≤ 1048576) (cL : RunT Tryz.prog 151 [.agg [.c (tSL e g), .c (tSL e o)]] [] [ob (lsOk g o)] []) : RunT Tryz.prog 86 [aMm e b c g o] [] [ob (dcB (mmP b c g o))] [] := by
  have c1 := HeapOkS_run b c hm.hb hm.hc
  by_cases h1 : hpP b c
  · rw [dcB_true h1] at c1
    cases h2 : lsOk g o with
    | false =>
      rw [h2] at cL
      rw [dcB_false (fun hh => by rw [hh.2.1] at h2; cases h2)]
      refine RunT.of_vc gOk Tryz.func86 rfl rfl (Nat.le_of_ble_eq_true rfl) (by repeat' (first | exact trivial | exact ⟨_, rfl, Nat.le_refl _⟩ | exact Nat.le_of_ble_eq_true rfl | refine And.intro ?_ ?_)) (Nat.le_of_ble_eq_true rfl) rfl (fun F hE => ?_)
      repeat' (first | exact trivial | refine BS.a (fun h => ?_) (fun h => ?_) | refine BS.n ?_ | refine BS.s (fun h => ?_) (fun h => ?_) | refine And.intro ?_ ?_ | exact Need.au | exact OutS.whole rfl rfl | refine OpK.ca c1 hE ?_ | refine OpK.ca cL hE ?_ | refine ListO.go gOk hE ?_)
    | true =>
      rw [h2] at cL
      obtain ⟨hg3, ho9⟩ := lsOk_len h2
      refine RunT.of_vc gOk Tryz.func86 rfl rfl (Nat.le_of_ble_eq_true rfl) (by repeat' (first | exact trivial | exact ⟨_, rfl, Nat.le_refl _⟩ | exact Nat.le_of_ble_eq_true rfl | refine And.intro ?_ ?_)) (Nat.le_of_ble_eq_true rfl) rfl (fun F hE => ?_)
      repeat' (first | exact trivial | refine BS.a (fun h => ?_) (fun h => ?_) | refine BS.n ?_ | refine BS.s (fun h => ?_) (fun h => ?_) | refine And.intro ?_ ?_ | exact Need.au | exact OutS.whole rfl rfl | refine OpK.ca c1 hE ?_ | refine OpK.ca cL hE ?_ | refine ListO.go gOk hE ?_)
      refine CodeK.loop gOk hE (fun i : Nat => ⟨[(1, .ptr 1 0 0), (3, vi i)], [(1, bM b c g o), (1000000, rI .fro false b), (1000001, rI .fro false c), (1000002, rSL .fro false e g), (1000003, rSL .fro false e o)]⟩) (fun i => i ≤ 3 ∧ ∀ j : Nat, j < i → ltP b c (g.getD j []) j ∧ ∀ w : Nat, w < 3 → ltP b c (o.getD (w * 3 + j) []) j) (fun i => 3 - i) 0 (by refine leT.of ?_ ?_ rfl <;> repeat' (first | exact trivial | refine And.intro rfl ?_ | refine And.intro (by simp) ?_)) ⟨Nat.zero_le _, fun j hj => absurd hj (Nat.not_lt_zero _)⟩ ?_
      rintro i ⟨hi, hq⟩
      by_cases hi2 : i < 3
      · have c2 := l9Listed_run b c (g.getD i []) i (by omega) h1.1 (hm.hg' i)
        by_cases hp : ltP b c (g.getD i []) i
        · rw [dcB_true hp] at c2
          repeat' (first | exact trivial | refine BS.a (fun h => ?_) (fun h => ?_) | refine BS.n ?_ | refine BS.s (fun h => ?_) (fun h => ?_) | refine And.intro ?_ ?_ | exact Need.au | exact OutS.whole rfl rfl | (refine CodeK.draw gOk hE rfl (fun _ _ h => h) (.take 0 (.take 2 (.take 3 (.take 5 (.take 9 (.alt 1 (.alt 4 (.take 6 (.take 7 (.alt 8 (.alt 10 (.take 11 .done) .stop) .stop))) .stop) (.alt 4 (.take 6 (.take 7 (.alt 1 (.alt 8 (.alt 10 (.take 11 .done) .stop) .stop) (.alt 8 (.alt 1 (.alt 10 (.take 11 .done) .stop) .stop) .stop)))) .stop))))))) ?_ ?_; focus (decide +kernel)) | refine OpK.ca c2 hE ?_ | refine ListO.go gOk hE ?_)
          all_goals (try simp only [adN_zero] at *)
          all_goals first | (exfalso; omega) | (refine Need.mk ?_; omega) | skip
          all_goals (
            refine CodeK.loop gOk hE (fun w : Nat => ⟨[(1, .ptr 1 0 0), (3, vi i), (4, vi w)], [(1, bM b c g o), (1000000, rI .fro false b), (1000001, rI .fro false c), (1000002, rSL .fro false e g), (1000003, rSL .fro false e o)]⟩) (fun w => w ≤ 3 ∧ ∀ v : Nat, v < w → ltP b c (o.getD (v * 3 + i) []) i) (fun w => 3 - w) 0 (by refine leT.of ?_ ?_ rfl <;> repeat' (first | exact trivial | refine And.intro rfl ?_ | refine And.intro (by simp) ?_)) ⟨Nat.zero_le _, fun j hj => absurd hj (Nat.not_lt_zero _)⟩ ?_
            rintro w ⟨hw, hr⟩
            by_cases hw2 : w < 3
            · have c3 := OwnAtH_run w i
              rw [if_pos (by omega)] at c3
              have c4 := l9Listed_run b c (o.getD (w * 3 + i) []) i (by omega) h1.1 (hm.ho' (w * 3 + i))
              have ha : adN 0 ((w : Int) * 3 + (i : Int)) = w * 3 + i := by rw [adN_eq]; omega
              by_cases hp2 : ltP b c (o.getD (w * 3 + i) []) i
              · rw [dcB_true hp2] at c4
                repeat' (first | exact trivial | refine BS.a (fun h => ?_) (fun h => ?_) | refine BS.n ?_ | refine BS.s (fun h => ?_) (fun h => ?_) | refine And.intro ?_ ?_ | exact Need.au | exact OutS.whole rfl rfl | (refine CodeK.draw gOk hE rfl (fun _ _ h => h) (.take 0 (.take 2 (.take 3 (.take 5 (.take 6 (.take 11 (.alt 1 (.alt 4 (.alt 7 (.take 8 (.take 9 (.alt 10 (.alt 12 (.take 13 .done) .stop) .stop))) .stop) (.alt 7 (.alt 4 (.take 8 (.take 9 (.alt 10 (.alt 12 (.take 13 .done) .stop) .stop))) .stop) .stop)) (.alt 4 (.alt 1 (.alt 7 (.take 8 (.take 9 (.alt 10 (.alt 12 (.take 13 .done) .stop) .stop))) .stop) (.alt 7 (.take 8 (.take 9 (.alt 1 (.alt 10 (.alt 12 (.take 13 .done) .stop) .stop) (.alt 10 (.alt 1 (.alt 12 (.take 13 .done) .stop) .stop) .stop)))) .stop)) (.alt 7 (.alt 1 (.alt 4 (.take 8 (.take 9 (.alt 10 (.alt 12 (.take 13 .done) .stop) .stop))) .stop) (.alt 4 (.take 8 (.take 9 (.alt 1 (.alt 10 (.alt 12 (.take 13 .done) .stop) .stop) (.alt 10 (.alt 1 (.alt 12 (.take 13 .done) .stop) .stop) .stop)))) .stop)) .stop))))))))) ?_ ?_; focus (decide +kernel)) | refine OpK.ca c3 hE ?_ | refine OpK.ca c4 hE ?_ | refine ListO.go gOk hE ?_)
                all_goals (try simp only [adN_zero, ha] at *)
                all_goals first
                  | (exfalso; omega)
                  | (refine Need.mk ?_; omega)
                  | (refine ⟨w + 1, (by refine leT.of ?_ ?_ rfl <;> repeat' (first | exact trivial | refine And.intro rfl ?_ | refine And.intro (by simp) ?_)), ⟨by omega, fun j hj => (Nat.lt_or_ge j w).elim (hr j) (fun h9 => (show j = w by omega) ▸ hp2)⟩, by first | omega | (dsimp only; omega)⟩)
                  | trace_state
              · rw [dcB_false hp2] at c4
                repeat' (first | exact trivial | refine BS.a (fun h => ?_) (fun h => ?_) | refine BS.n ?_ | refine BS.s (fun h => ?_) (fun h => ?_) | refine And.intro ?_ ?_ | exact Need.au | exact OutS.whole rfl rfl | (refine CodeK.draw gOk hE rfl (fun _ _ h => h) (.take 0 (.take 2 (.take 3 (.take 5 (.take 6 (.take 11 (.alt 1 (.alt 4 (.alt 7 (.take 8 (.take 9 (.alt 10 (.alt 12 (.take 13 .done) .stop) .stop))) .stop) (.alt 7 (.alt 4 (.take 8 (.take 9 (.alt 10 (.alt 12 (.take 13 .done) .stop) .stop))) .stop) .stop)) (.alt 4 (.alt 1 (.alt 7 (.take 8 (.take 9 (.alt 10 (.alt 12 (.take 13 .done) .stop) .stop))) .stop) (.alt 7 (.take 8 (.take 9 (.alt 1 (.alt 10 (.alt 12 (.take 13 .done) .stop) .stop) (.alt 10 (.alt 1 (.alt 12 (.take 13 .done) .stop) .stop) .stop)))) .stop)) (.alt 7 (.alt 1 (.alt 4 (.take 8 (.take 9 (.alt 10 (.alt 12 (.take 13 .done) .stop) .stop))) .stop) (.alt 4 (.take 8 (.take 9 (.alt 1 (.alt 10 (.alt 12 (.take 13 .done) .stop) .stop) (.alt 10 (.alt 1 (.alt 12 (.take 13 .done) .stop) .stop) .stop)))) .stop)) .stop))))))))) ?_ ?_; focus (decide +kernel)) | refine OpK.ca c3 hE ?_ | refine OpK.ca c4 hE ?_ | refine ListO.go gOk hE ?_)
                all_goals (try simp only [adN_zero, ha] at *)
                all_goals first
                  | (exfalso; omega)
                  | (refine Need.mk ?_; omega)
                  | (refine Need.mk ?_; symm; apply dcB_false; intro hh; exact hp2 (hh.2.2.2 w i hw2 hi2))
                  | trace_state
            · repeat' (first | exact trivial | refine BS.a (fun h => ?_) (fun h => ?_) | refine BS.n ?_ | refine BS.s (fun h => ?_) (fun h => ?_) | refine And.intro ?_ ?_ | exact Need.au | exact OutS.whole rfl rfl | refine ListO.go gOk hE ?_)
              all_goals first
                | (exfalso; omega)
                | (refine Need.mk ?_; omega)
                | (refine ⟨i + 1, (by refine leT.of ?_ ?_ rfl <;> repeat' (first | exact trivial | refine And.intro rfl ?_ | refine And.intro (by simp) ?_)), ⟨by omega, fun j hj => (Nat.lt_or_ge j i).elim (hq j) (fun h9 => (show j = i by omega) ▸ ⟨hp, fun w' hw' => hr w' (by omega)⟩)⟩, by first | omega | (dsimp only; omega)⟩)
                | trace_state)
        · rw [dcB_false hp] at c2
          repeat' (first | exact trivial | refine BS.a (fun h => ?_) (fun h => ?_) | refine BS.n ?_ | refine BS.s (fun h => ?_) (fun h => ?_) | refine And.intro ?_ ?_ | exact Need.au | exact OutS.whole rfl rfl | (refine CodeK.draw gOk hE rfl (fun _ _ h => h) (.take 0 (.take 2 (.take 3 (.take 5 (.take 9 (.alt 1 (.alt 4 (.take 6 (.take 7 (.alt 8 (.alt 10 (.take 11 .done) .stop) .stop))) .stop) (.alt 4 (.take 6 (.take 7 (.alt 1 (.alt 8 (.alt 10 (.take 11 .done) .stop) .stop) (.alt 8 (.alt 1 (.alt 10 (.take 11 .done) .stop) .stop) .stop)))) .stop))))))) ?_ ?_; focus (decide +kernel)) | refine OpK.ca c2 hE ?_ | refine ListO.go gOk hE ?_)
          all_goals (try simp only [adN_zero] at *)
          all_goals first
            | (exfalso; omega)
            | (refine Need.mk ?_; omega)
            | (refine Need.mk ?_; symm; apply dcB_false; intro hh; exact hp (hh.2.2.1 i hi2))
            | trace_state
      · repeat' (first | exact trivial | refine BS.a (fun h => ?_) (fun h => ?_) | refine BS.n ?_ | refine BS.s (fun h => ?_) (fun h => ?_) | refine And.intro ?_ ?_ | exact Need.au | exact OutS.whole rfl rfl | refine ListO.go gOk hE ?_)
        all_goals first
          | (exfalso; omega)
          | (refine Need.mk ?_; symm; apply dcB_true; exact ⟨h1, h2, fun j hj => (hq j (by omega)).1, fun w j hw hj => (hq j (by omega)).2 w hw⟩)
          | trace_state
  · rw [dcB_false h1] at c1
    rw [dcB_false (fun hh => h1 hh.1)]
    refine RunT.of_vc gOk Tryz.func86 rfl rfl (Nat.le_of_ble_eq_true rfl) (by repeat' (first | exact trivial | exact ⟨_, rfl, Nat.le_refl _⟩ | exact Nat.le_of_ble_eq_true rfl | refine And.intro ?_ ?_)) (Nat.le_of_ble_eq_true rfl) rfl (fun F hE => ?_)
    repeat' (first | exact trivial | refine BS.a (fun h => ?_) (fun h => ?_) | refine BS.n ?_ | refine BS.s (fun h => ?_) (fun h => ?_) | refine And.intro ?_ ?_ | exact Need.au | exact OutS.whole rfl rfl | refine OpK.ca c1 hE ?_ | refine ListO.go gOk hE ?_)
end Go.Proofs.YtnfjpjgmhhmdeaaGreatDoor
end

section
namespace Go.Proofs.YtnfjpjgmhhmdeaaGreatDoor
open Go Go.Tr
set_option maxRecDepth 100000
set_option maxHeartbeats 4000000
set_option linter.unusedVariables false
set_option linter.unusedSimpArgs false
theorem MemOkI_run (e : Nat) (b c : List Int) (g o : List (List Int)) (hm : MmOk 1048576 b c g o) (hgo : g.length + o.length ≤ 1048576) (cL : RunT Tryz.prog 164 [.agg [.c (tSL e g), .c (tSL e o)]] [] [ob (lsOk g o)] []) : RunH Tryz.prog hT 101 [aMm e b c g o] [] [ob (dcB (mmP b c g o))] [] := by
  have c1 := HeapOkI_run b c hm.hb hm.hc
  by_cases h1 : hpP b c
  · rw [dcB_true h1] at c1
    cases h2 : lsOk g o with
    | false =>
      rw [h2] at cL
      rw [dcB_false (fun hh => by rw [hh.2.1] at h2; cases h2)]
      refine RunH.of_vc gOk Tryz.func101 rfl rfl (Nat.le_of_ble_eq_true rfl) (by repeat' (first | exact trivial | exact ⟨_, rfl, Nat.le_refl _⟩ | exact Nat.le_of_ble_eq_true rfl | refine And.intro ?_ ?_)) (Nat.le_of_ble_eq_true rfl) rfl (fun F hE hA => ?_)
      repeat' (first | exact trivial | refine BS.a (fun h => ?_) (fun h => ?_) | refine BS.n ?_ | refine BS.s (fun h => ?_) (fun h => ?_) | refine And.intro ?_ ?_ | exact Need.au | exact OutS.whole rfl rfl | refine OpK.ha c1 hA hE ?_ | refine OpK.ca cL hE ?_ | refine ListO.go gOk hE ?_)
    | true =>
      rw [h2] at cL
      obtain ⟨hg3, ho9⟩ := lsOk_len h2
      refine RunH.of_vc gOk Tryz.func101 rfl rfl (Nat.le_of_ble_eq_true rfl) (by repeat' (first | exact trivial | exact ⟨_, rfl, Nat.le_refl _⟩ | exact Nat.le_of_ble_eq_true rfl | refine And.intro ?_ ?_)) (Nat.le_of_ble_eq_true rfl) rfl (fun F hE hA => ?_)
      repeat' (first | exact trivial | refine BS.a (fun h => ?_) (fun h => ?_) | refine BS.n ?_ | refine BS.s (fun h => ?_) (fun h => ?_) | refine And.intro ?_ ?_ | exact Need.au | exact OutS.whole rfl rfl | refine OpK.ha c1 hA hE ?_ | refine OpK.ca cL hE ?_ | refine ListO.go gOk hE ?_)
      refine CodeK.loop gOk hE (fun i : Nat => ⟨[(1, .ptr 1 0 0), (19, vr 1000002 g.length), (20, vi g.length), (21, vi i)], [(1, bM b c g o), (1000000, rI .fro false b), (1000001, rI .fro false c), (1000002, rSL .fro false e g), (1000003, rSL .fro false e o)]⟩) (fun i => i ≤ 3 ∧ ∀ j : Nat, j < i → ltP b c (g.getD j []) j) (fun i => 3 - i) 0 (by refine leT.of ?_ ?_ rfl <;> repeat' (first | exact trivial | refine And.intro rfl ?_ | refine And.intro (by simp) ?_)) ⟨Nat.zero_le _, fun j hj => absurd hj (Nat.not_lt_zero _)⟩ ?_
      rintro i ⟨hi, hq⟩
      by_cases hi2 : i < 3
      · have c2 := listFits_run b c (g.getD i []) i (by omega) h1.1 (hm.hg' i)
        by_cases hp : ltP b c (g.getD i []) i
        · rw [dcB_true hp] at c2
          repeat' (first | exact trivial | refine BS.a (fun h => ?_) (fun h => ?_) | refine BS.n ?_ | refine BS.s (fun h => ?_) (fun h => ?_) | refine And.intro ?_ ?_ | exact Need.au | exact OutS.whole rfl rfl | refine OpK.ha c2 hA hE ?_ | refine ListO.go gOk hE ?_)
          all_goals (try simp only [adN_zero] at *)
          all_goals first
            | (exfalso; omega)
            | (refine Need.mk ?_; omega)
            | (refine ⟨i + 1, (by refine leT.of ?_ ?_ rfl <;> repeat' (first | exact trivial | refine And.intro rfl ?_ | refine And.intro (by simp) ?_)), ⟨by omega, fun j hj => (Nat.lt_or_ge j i).elim (hq j) (fun h9 => (show j = i by omega) ▸ hp)⟩, by first | omega | (dsimp only; omega)⟩)
            | trace_state
        · rw [dcB_false hp] at c2
          repeat' (first | exact trivial | refine BS.a (fun h => ?_) (fun h => ?_) | refine BS.n ?_ | refine BS.s (fun h => ?_) (fun h => ?_) | refine And.intro ?_ ?_ | exact Need.au | exact OutS.whole rfl rfl | refine OpK.ha c2 hA hE ?_ | refine ListO.go gOk hE ?_)
          all_goals (try simp only [adN_zero] at *)
          all_goals first
            | (exfalso; omega)
            | (refine Need.mk ?_; omega)
            | (refine Need.mk ?_; symm; apply dcB_false; intro hh; exact hp (hh.2.2.1 i hi2))
            | trace_state
      · repeat' (first | exact trivial | refine BS.a (fun h => ?_) (fun h => ?_) | refine BS.n ?_ | refine BS.s (fun h => ?_) (fun h => ?_) | refine And.intro ?_ ?_ | exact Need.au | exact OutS.whole rfl rfl | refine ListO.go gOk hE ?_)
        all_goals first | (exfalso; omega) | (refine Need.mk ?_; omega) | skip
        refine CodeK.loop gOk hE (fun i : Nat => ⟨[(1, .ptr 1 0 0), (35, vr 1000003 o.length), (36, vi o.length), (37, vi i)], [(1, bM b c g o), (1000000, rI .fro false b), (1000001, rI .fro false c), (1000002, rSL .fro false e g), (1000003, rSL .fro false e o)]⟩) (fun i => i ≤ 9 ∧ ∀ j : Nat, j < i → ltP b c (o.getD j []) ((j % 3 : Nat) : Int)) (fun i => 9 - i) 0 (by refine leT.of ?_ ?_ rfl <;> repeat' (first | exact trivial | refine And.intro rfl ?_ | refine And.intro (by simp) ?_)) ⟨Nat.zero_le _, fun j hj => absurd hj (Nat.not_lt_zero _)⟩ ?_
        rintro k ⟨hk, hr⟩
        by_cases hk2 : k < 9
        · have c2 := listFits_run b c (o.getD k []) ((k : Int).tmod 3) (by rw [Int.tmod_eq_emod_of_nonneg (by omega)]; omega) h1.1 (hm.ho' k)
          have hmod : (k : Int).tmod 3 = ((k % 3 : Nat) : Int) := by rw [Int.tmod_eq_emod_of_nonneg (by omega)]; omega
          by_cases hp : ltP b c (o.getD k []) ((k % 3 : Nat) : Int)
          · rw [hmod, dcB_true hp, ← hmod] at c2
            repeat' (first | exact trivial | refine BS.a (fun h => ?_) (fun h => ?_) | refine BS.n ?_ | refine BS.s (fun h => ?_) (fun h => ?_) | refine And.intro ?_ ?_ | exact Need.au | exact OutS.whole rfl rfl | refine OpK.ha c2 hA hE ?_ | refine ListO.go gOk hE ?_)
            all_goals (try simp only [adN_zero] at *)
            all_goals first
              | (exfalso; omega)
              | (refine Need.mk ?_; omega)
              | (refine ⟨k + 1, (by refine leT.of ?_ ?_ rfl <;> repeat' (first | exact trivial | refine And.intro rfl ?_ | refine And.intro (by simp) ?_)), ⟨by omega, fun j hj => (Nat.lt_or_ge j k).elim (hr j) (fun h9 => (show j = k by omega) ▸ hp)⟩, by first | omega | (dsimp only; omega)⟩)
              | trace_state
          · rw [hmod, dcB_false hp, ← hmod] at c2
            repeat' (first | exact trivial | refine BS.a (fun h => ?_) (fun h => ?_) | refine BS.n ?_ | refine BS.s (fun h => ?_) (fun h => ?_) | refine And.intro ?_ ?_ | exact Need.au | exact OutS.whole rfl rfl | refine OpK.ha c2 hA hE ?_ | refine ListO.go gOk hE ?_)
            all_goals (try simp only [adN_zero] at *)
            all_goals first
              | (exfalso; omega)
              | (refine Need.mk ?_; omega)
              | (refine Need.mk ?_; symm; apply dcB_false; intro hh; refine hp ?_; have h8 := hh.2.2.2 (k / 3) (k % 3) (by omega) (by omega); rw [show k / 3 * 3 + k % 3 = k by omega] at h8; exact h8)
              | trace_state
        · repeat' (first | exact trivial | refine BS.a (fun h => ?_) (fun h => ?_) | refine BS.n ?_ | refine BS.s (fun h => ?_) (fun h => ?_) | refine And.intro ?_ ?_ | exact Need.au | exact OutS.whole rfl rfl | refine ListO.go gOk hE ?_)
          all_goals first
            | (exfalso; omega)
            | (refine Need.mk ?_; symm; apply dcB_true; exact ⟨h1, h2, fun j hj => hq j (by omega), fun w j hw hj => by have h8 := hr (w * 3 + j) (by omega); rw [show (w * 3 + j) % 3 = j by omega] at h8; exact h8⟩)
            | trace_state
  · rw [dcB_false h1] at c1
    rw [dcB_false (fun hh => h1 hh.1)]
    refine RunH.of_vc gOk Tryz.func101 rfl rfl (Nat.le_of_ble_eq_true rfl) (by repeat' (first | exact trivial | exact ⟨_, rfl, Nat.le_refl _⟩ | exact Nat.le_of_ble_eq_true rfl | refine And.intro ?_ ?_)) (Nat.le_of_ble_eq_true rfl) rfl (fun F hE hA => ?_)
    repeat' (first | exact trivial | refine BS.a (fun h => ?_) (fun h => ?_) | refine BS.n ?_ | refine BS.s (fun h => ?_) (fun h => ?_) | refine And.intro ?_ ?_ | exact Need.au | exact OutS.whole rfl rfl | refine OpK.ha c1 hA hE ?_ | refine ListO.go gOk hE ?_)
end Go.Proofs.YtnfjpjgmhhmdeaaGreatDoor
end

section
/- Equal values make equal endings. -/
namespace Go.Proofs.YtnfjpjgmhhmdeaaGreatDoor
open Go
theorem ret_str {a b : ByteArray} (h : a = b) : Ending.returned (.string a) = .returned (.string b) := by rw [h]
theorem ret_int {k : IntKind} {a b : Int} (h : a = b) : Ending.returned (.int k a) = .returned (.int k b) := by rw [h]
theorem ret_bool {a b : Bool} (h : a = b) : Ending.returned (.bool a) = .returned (.bool b) := by rw [h]
theorem ret_ii {a b c d : Int} (h : a = c) (h' : b = d) : Ending.returned (.tuple #[.int .i64 a, .int .i64 b]) = .returned (.tuple #[.int .i64 c, .int .i64 d]) := by rw [h, h']
theorem ret_ib {a b : Int} {c d : Bool} (h : a = b) (h' : c = d) : Ending.returned (.tuple #[.int .i64 a, .bool c]) = .returned (.tuple #[.int .i64 b, .bool d]) := by rw [h, h']
theorem ret_vb {v : Value} {c d : Bool} (h' : c = d) : Ending.returned (.tuple #[v, .bool c]) = .returned (.tuple #[v, .bool d]) := by rw [h']
end Go.Proofs.YtnfjpjgmhhmdeaaGreatDoor
end

section
/- What the listed table of slot sizes gives a walk. -/
namespace Go.Proofs.YtnfjpjgmhhmdeaaGreatDoor
open Go Go.RowKit

theorem sizes_datum : (Rows.laid_loop_example_g01538_impl_slotSizes : DataW Unit) = Lib.tabData .i64 [8, 16, 40] := by kernel_rfl

/-- The table of slot sizes lies in its block. -/
def Tab (w : World) : Prop := ∃ t fr, w.heap[0]? = some (.cells #[.int .i64 8, .int .i64 16, .int .i64 40] t fr)

theorem tab_of_var {W : World} (h : W.var? Tryz.prog "loop.example/g01538/impl.slotSizes" = some #[.int .i64 8, .int .i64 16, .int .i64 40]) : Tab W := by
  unfold World.var? at h
  rw [show Tryz.prog.globalNamed "loop.example/g01538/impl.slotSizes" = some 0 by kernel_rfl] at h
  simp only [Option.bind_some] at h
  split at h
  · rename_i cs t fr hh
    injection h with h
    subst h
    exact ⟨t, fr, hh⟩
  · cases h

theorem tab_of_laid {W : World} {rest : List (String × DataW Unit)}
    (h : laidMet Tryz.prog (("loop.example/g01538/impl.slotSizes", Rows.laid_loop_example_g01538_impl_slotSizes) :: rest) W) : Tab W := by
  obtain ⟨ps, ⟨g0, t0, cs0, f0, p0, q0, hg0, ht0, hv0, hd0, _, _⟩, _⟩ := h
  obtain rfl := Option.some.inj ((show Tryz.prog.globalNamed "loop.example/g01538/impl.slotSizes" = some 0 by kernel_rfl).symm.trans hg0)
  obtain rfl := Option.some.inj ((show (Tryz.prog.globals[0]?).map (·.type) = some 268 by kernel_rfl).symm.trans ht0)
  rw [sizes_datum] at hd0
  refine tab_of_var ?_
  have e := Lib.cells_of_tab Tryz.underlying268 Tryz.underlying3 (by kernel_rfl) (by kernel_rfl) hd0
  rw [hv0, show cs0 = #[.int .i64 8, .int .i64 16, .int .i64 40] from Array.toList_inj.1 e]

theorem Tab.lt {w : World} (h : Tab w) : 0 < w.heap.size := by
  obtain ⟨t, fr, h⟩ := h
  exact (Array.getElem?_eq_some_iff.1 h).1
theorem Tab.below {w w' : World} (h : Tab w) (hb : Below w.heap.size w w') : Tab w' := by
  have hl := h.lt
  obtain ⟨t, fr, h⟩ := h
  exact ⟨t, fr, by rw [hb.block _ hl]; exact h⟩
theorem Tab.belowB {B : Nat} {w w' : World} (h : Tab w) (hB : 0 < B) (hb : Below B w w') : Tab w' := by
  obtain ⟨t, fr, h⟩ := h
  exact ⟨t, fr, by rw [hb.block _ hB]; exact h⟩
theorem Tab.c0 {w : World} (h : Tab w) : w.cell? ⟨0, 0, none⟩ = some (.int .i64 8) := by
  obtain ⟨t, fr, h⟩ := h
  rw [cell_of_row w _ 0 _ t fr h]; rfl
theorem Tab.c1 {w : World} (h : Tab w) : w.cell? ⟨0, 1, none⟩ = some (.int .i64 16) := by
  obtain ⟨t, fr, h⟩ := h
  rw [cell_of_row w _ 1 _ t fr h]; rfl
theorem Tab.c2 {w : World} (h : Tab w) : w.cell? ⟨0, 2, none⟩ = some (.int .i64 40) := by
  obtain ⟨t, fr, h⟩ := h
  rw [cell_of_row w _ 2 _ t fr h]; rfl
end Go.Proofs.YtnfjpjgmhhmdeaaGreatDoor
end

section
/- A law's frame where a table is told. -/
namespace Go.Tr
open Go Go.RowKit
theorem RunP.args {P : Program} {hc : Hc} {f : FuncId} {args args' : List Ag} {ext : List Xr} {Post : List Ar → List Xr → Prop} (hs : AgsSim args args') (h : RunP P hc f args' ext Post) : RunP P hc f args ext Post := by
  intro w q A cargs he ha
  obtain ⟨f1, f2⟩ := hs.get
  refine h w q A cargs ⟨by rw [he.size, f1], fun i y hi => ?_, he.ext, he.lt⟩ ha
  obtain ⟨x, g1, g2⟩ := f2 i y hi
  obtain ⟨u, k1, k2⟩ := he.args i x g1
  exact ⟨u, k1, g2.rel k2⟩
section
variable {P : Program} {W : World}
theorem RunP.law {hc : Hc} {f : FuncId} {args : List Ag} {cargs : Array Value} (hrun : RunP P hc f args [] fun outs ext => outs = [.one (.lit (.bool true))] ∧ ext = []) (hc' : ∀ g j v, hc g j v → W.cell? ⟨g, j, none⟩ = some v ∧ scal v = true) (hsz : cargs.size = args.length)
    (hargs : ∀ (i : Nat) (x : Ag), args[i]? = some x → ∃ u, cargs[i]? = some u ∧ AgRel W (qAll W) (fun _ => ⟨none, 0⟩) i x u) :
    Calls P f cargs W fun e w' => e = .returned (.bool true) ∧ Below W.heap.size W w' := by
  refine (hrun W (qAll W) (fun _ => ⟨none, 0⟩) cargs ⟨hsz, hargs, fun ρ x h => by simp at h, fun b j x hx => ?_⟩ (fun g j v hm => ?_)).mono fun e w' h => ?_
  · unfold qAll at hx
    split at hx
    · rename_i hh; obtain ⟨v, hv⟩ := hh; exact World.block_lt_of_cell? W ⟨b, j, none⟩ hv
    · cases hx
  · obtain ⟨h1, h2⟩ := hc' g j v hm
    exact ⟨h1, h2, qAll_fro ⟨v, h1⟩⟩
  · obtain ⟨us, outs, ext, q', rfl, ⟨rfl, rfl⟩, hx⟩ := h
    match us, hx.size with
    | [u], _ =>
      obtain ⟨u', hu, hr⟩ := hx.outs 0 _ rfl
      injection hu with hu; subst hu
      obtain ⟨hr, _⟩ := hr
      refine ⟨by rw [hr]; rfl, hx.fr.os, hx.fr.tape, hx.fr.output, hx.fr.mt.size, fun k hk => ?_⟩
      have hkk : W.heap[k]? = some W.heap[k] := Array.getElem?_eq_getElem hk
      cases ho : W.heap[k] with
      | cells cur e fz =>
        rw [ho] at hkk
        obtain ⟨cur', h1, h2⟩ := hx.fr.mt.blk k cur e fz hkk
        rw [hkk, h1]
        have : cur' = cur := by
          apply Array.ext_getElem?
          intro j
          have := hx.fr.cell k j hk (qAll_wof k j)
          simpa [World.cell?, hkk, h1] using this
        rw [this]
      | _ => exact hx.fr.other k hk (fun cur e fz hh => by rw [hkk, ho] at hh; cases hh)
end
end Go.Tr
namespace Go.Proofs.YtnfjpjgmhhmdeaaGreatDoor
open Go Go.Tr Go.RowKit
theorem hT_of {W : World} (ht : Tab W) : ∀ g j v, hT g j v → W.cell? ⟨g, j, none⟩ = some v ∧ scal v = true := by
  intro g j v h
  simp only [hT, hcL, List.mem_cons, List.not_mem_nil, or_false, Prod.mk.injEq] at h
  rcases h with ⟨rfl, rfl, rfl⟩ | ⟨rfl, rfl, rfl⟩ | ⟨rfl, rfl, rfl⟩
  · exact ⟨ht.c0, rfl⟩
  · exact ⟨ht.c1, rfl⟩
  · exact ⟨ht.c2, rfl⟩
end Go.Proofs.YtnfjpjgmhhmdeaaGreatDoor
end

section
namespace Go.Proofs.YtnfjpjgmhhmdeaaGreatDoor
open Go Go.Tr
set_option maxRecDepth 100000
set_option maxHeartbeats 4000000
set_option linter.unusedVariables false
set_option linter.unusedSimpArgs false
/-- A memory of bounded size. -/
structure MmT (b c : List Int) (g o : List (List Int)) : Prop where
  ok : MmOk 1048576 b c g o
  n : g.length + o.length ≤ 1048576
  f : g.flatten.length + o.flatten.length ≤ 1048576
  x : ∀ i, ((g ++ o).getD i []).length ≤ 1048576
theorem MmT.of_sz {b c : List Int} {g o : List (List Int)} {m : Int} (h0 : 0 ≤ m) (h1 : m ≤ 1048576) (h : ¬ szM b c g o m < 0) : MmT b c g o := by
  have k := MmOk.of_sz h0 h1 h
  have q := szH_le b c m h0
  unfold szM at h
  split at h
  · omega
  · obtain ⟨h2, h3, h4, h5⟩ := szL_ok (g := g) (o := o) (m := szH b c m) (by omega) (by omega) h
    exact ⟨k, by omega, by omega, h5⟩
theorem MmT.S {b c : List Int} {g o : List (List Int)} (h : MmT b c g o) (e : Nat) : RunT Tryz.prog 86 [aMm e b c g o] [] [ob (dcB (mmP b c g o))] [] :=
  MemOkS_run e b c g o h.ok h.n h.f (ListsOkS_run e e g o h.ok.hg h.ok.ho h.f)
theorem MmT.I {b c : List Int} {g o : List (List Int)} (h : MmT b c g o) (e : Nat) : RunH Tryz.prog hT 101 [aMm e b c g o] [] [ob (dcB (mmP b c g o))] [] :=
  MemOkI_run e b c g o h.ok h.n (ListsOkI_run e e g o h.n h.x)
theorem mem_of {e0x e0y e0z e0u n0x n0y n0z n0u : Nat} {row0x row0y row0z row0u : Nat → Nat → C} (hn0x : n0x ≤ 9223372036854775807) (h0x : ∀ i r d, i < n0x → ([.i] : List Dt)[r]? = some d → DtOk d (row0x i r)) (hn0y : n0y ≤ 9223372036854775807) (h0y : ∀ i r d, i < n0y → ([.i] : List Dt)[r]? = some d → DtOk d (row0y i r)) (hn0z : n0z ≤ 9223372036854775807) (h0z : ∀ i r d, i < n0z → ([.sl [.i]] : List Dt)[r]? = some d → DtOk d (row0z i r)) (hn0u : n0u ≤ 9223372036854775807) (h0u : ∀ i r d, i < n0u → ([.sl [.i]] : List Dt)[r]? = some d → DtOk d (row0u i r)) :
    ∃ b c g o, MmOk 9223372036854775807 b c g o ∧ CSame (.sl .fro e0x 1 n0x row0x) ((tI b).er .fro) ∧ CSame (.sl .fro e0y 1 n0y row0y) ((tI c).er .fro) ∧ CSame (.sl .fro e0z 1 n0z row0z) ((tSL 0 g).er .fro) ∧ CSame (.sl .fro e0u 1 n0u row0u) ((tSL 0 o).er .fro) := by
  obtain ⟨b, lb, pb, sb⟩ := ints_of (e := e0x) hn0x h0x
  obtain ⟨c, lc, pc, sc⟩ := ints_of (e := e0y) hn0y h0y
  obtain ⟨g, lg, pg, sg⟩ := lists_of (e := e0z) (e' := 0) hn0z h0z
  obtain ⟨o, lo, po, so⟩ := lists_of (e := e0u) (e' := 0) hn0u h0u
  exact ⟨b, c, g, o, ⟨by omega, by omega, by omega, by omega, getD_le fun x hx => (pg x hx).1, getD_le fun x hx => (po x hx).1⟩, sb, sc, sg, so⟩
end Go.Proofs.YtnfjpjgmhhmdeaaGreatDoor
end

section
namespace Go.Proofs.YtnfjpjgmhhmdeaaGreatDoor
open Go Go.Tr
set_option maxRecDepth 100000
set_option maxHeartbeats 4000000
set_option linter.unusedVariables false
set_option linter.unusedSimpArgs false
theorem IndexI_run (xs : List Int) (x : Int) (hn : xs.length ≤ 4000000) : ∃ r : Int, (0 ≤ r ↔ x ∈ xs) ∧ RunT Tryz.prog 270 [.one (.c (tI xs)), ti x] [] [oi r] [] := by
  refine ⟨plR (firstP (fun j => decide (xs.getD j 0 = x)) 0 xs.length), ?_, ?_⟩
  · cases h : firstP (fun j => decide (xs.getD j 0 = x)) 0 xs.length with
    | none =>
      refine ⟨fun h => absurd h (by show ¬ (0 : Int) ≤ -1; omega), fun hm => ?_⟩
      obtain ⟨j, hj, hj2⟩ := List.getElem_of_mem hm
      exact absurd (firstP_none h j (Nat.zero_le _) (by omega)) (by simp [List.getD_eq_getElem?_getD, List.getElem?_eq_getElem hj, hj2])
    | some j =>
      obtain ⟨_, h2, h3⟩ := firstP_lt h
      refine ⟨fun _ => ?_, fun _ => (by show (0 : Int) ≤ (j : Int); omega)⟩
      have h4 : xs.getD j 0 = x := of_decide_eq_true h3
      rw [← h4, List.getD_eq_getElem?_getD, List.getElem?_eq_getElem (by omega)]; exact List.getElem_mem _
  · refine RunT.of_vc gOk Tryz.func270 rfl rfl (Nat.le_of_ble_eq_true rfl) (by repeat' (first | exact trivial | exact ⟨_, rfl, Nat.le_refl _⟩ | exact Nat.le_of_ble_eq_true rfl | refine And.intro ?_ ?_)) (Nat.le_of_ble_eq_true rfl) rfl (fun F hE => ?_)
    repeat' (first | exact trivial | refine BS.a (fun h => ?_) (fun h => ?_) | refine BS.n ?_ | refine BS.s (fun h => ?_) (fun h => ?_) | refine And.intro ?_ ?_ | exact Need.au | exact OutS.whole rfl rfl | refine ListO.go gOk hE ?_)
    refine CodeK.loop gOk hE (fun i : Nat => ⟨[(0, vr 1000000 xs.length), (1, vi x), (7, vi xs.length), (8, vi i)], [(1000000, rI .fro false xs)]⟩) (fun i => i ≤ xs.length ∧ firstP (fun j => decide (xs.getD j 0 = x)) 0 xs.length = firstP (fun j => decide (xs.getD j 0 = x)) i (xs.length - i)) (fun i => xs.length - i) 0 (by refine leT.of ?_ ?_ rfl <;> repeat' (first | exact trivial | refine And.intro rfl ?_ | refine And.intro (by simp) ?_)) ⟨Nat.zero_le _, rfl⟩ ?_
    rintro i ⟨hi, hs⟩
    by_cases hp : xs.getD i 0 = x
    all_goals (repeat' (first | exact trivial | refine BS.a (fun h => ?_) (fun h => ?_) | refine BS.n ?_ | refine BS.s (fun h => ?_) (fun h => ?_) | refine And.intro ?_ ?_ | exact Need.au | exact OutS.whole rfl rfl | refine ListO.go gOk hE ?_))
    all_goals (try simp only [adN_zero] at *)
    all_goals first
      | (exfalso; first | omega | (simp_all; done))
      | (refine Need.mk ?_; rw [hs, firstP_yes (by omega) (decide_eq_true hp)]; rfl)
      | (refine Need.mk ?_; rw [hs, show xs.length - i = 0 by omega]; rfl)
      | (refine ⟨i + 1, (by refine leT.of ?_ ?_ rfl <;> repeat' (first | exact trivial | refine And.intro rfl ?_ | refine And.intro (by simp) ?_)), ⟨by omega, by rw [hs, firstP_no (by omega) (decide_eq_false hp), show xs.length - i - 1 = xs.length - (i + 1) by omega]⟩, by first | omega | (dsimp only; omega)⟩)
theorem ContainsI_run (xs : List Int) (x : Int) (hn : xs.length ≤ 4000000) : RunT Tryz.prog 240 [.one (.c (tI xs)), ti x] [] [ob (decide (x ∈ xs))] [] := by
  obtain ⟨r, h1, c1⟩ := IndexI_run xs x hn
  refine RunT.of_vc gOk Tryz.func240 rfl rfl (Nat.le_of_ble_eq_true rfl) (by repeat' (first | exact trivial | exact ⟨_, rfl, Nat.le_refl _⟩ | exact Nat.le_of_ble_eq_true rfl | refine And.intro ?_ ?_)) (Nat.le_of_ble_eq_true rfl) rfl (fun F hE => ?_)
  repeat' (first | exact trivial | refine BS.a (fun h => ?_) (fun h => ?_) | refine BS.n ?_ | refine BS.s (fun h => ?_) (fun h => ?_) | refine And.intro ?_ ?_ | exact Need.au | exact OutS.whole rfl rfl | refine OpK.ca c1 hE ?_ | refine ListO.go gOk hE ?_)
  all_goals (refine Need.mk ?_; exact decide_eq_decide.2 h1)
theorem ContainsI_told {hc : Hc} (xs : List Int) (x : Int) (hn : xs.length ≤ 4000000) : RunH Tryz.prog hc 240 [.one (.c (tI xs)), ti x] [] [ob (decide (x ∈ xs))] [] := (ContainsI_run xs x hn).toH hc
theorem OnList_told {hc : Hc} (gs os : List Hdr) (xss : List (List Int)) (x : Int) (A1 A2 : Option Addr) (n1 n2 c1 c2 : Nat) (h1 : RowTold hc A1 n1 c1 1 Hdr encH dH gs) (h2 : RowTold hc A2 n2 c2 1 Hdr encH dH os) (hn : gs.length + os.length ≤ 1048576) (hX : Hs hc (gs ++ os) xss) (hx : ∀ i, (xss.getD i []).length ≤ 1048576) :
    RunH Tryz.prog hc 188 [.agg [.c (.lit (.slice A1 n1 c1)), .c (.lit (.slice A2 n2 c2))], ti x] [] [ob (decide (x ∈ xss.flatten))] [] := by
  have cC := Concat_run gs os A1 A2 n1 n2 c1 c2 h1 h2 hn
  have hlen : (gs ++ os).length ≤ 1048576 := by simp; omega
  have hxl := hX.len
  refine RunH.of_vc gOk Tryz.func188 rfl rfl (Nat.le_of_ble_eq_true rfl) (by repeat' (first | exact trivial | exact ⟨_, rfl, Nat.le_refl _⟩ | exact Nat.le_of_ble_eq_true rfl | refine And.intro ?_ ?_)) (Nat.le_of_ble_eq_true rfl) rfl (fun F hE hA => ?_)
  repeat' (first | exact trivial | refine BS.a (fun h => ?_) (fun h => ?_) | refine BS.n ?_ | refine BS.s (fun h => ?_) (fun h => ?_) | refine And.intro ?_ ?_ | exact Need.au | exact OutS.whole rfl rfl | (refine OpK.bs2 gOk rfl rfl rfl rfl rfl rfl rfl rfl rfl rfl (by decide) ?_) | refine OpK.ha cC hA hE ?_ | refine ListO.go gOk hE ?_)
  generalize gs ++ os = hs at *
  refine CodeK.loop gOk hE (fun i : Nat => ⟨[(1, vi x), (12, vr 2001536 hs.length), (13, vi hs.length), (14, vi i)], [(2001536, rH .own true 178 hs)]⟩) (fun i => i ≤ hs.length ∧ ∀ j, j < i → x ∉ xss.getD j []) (fun i => hs.length - i) 0 (by refine leT.of ?_ ?_ rfl <;> repeat' (first | exact trivial | refine And.intro rfl ?_ | refine And.intro (by simp) ?_)) ⟨Nat.zero_le _, fun j hj => absurd hj (Nat.not_lt_zero _)⟩ ?_
  rintro i ⟨hi, hq⟩
  by_cases hi2 : i < hs.length
  · have hT := hX.at_ i hi2
    have hTl := hT.len
    have c1 := ContainsI_run (xss.getD i []) x (by have := hx i; omega)
    by_cases hin : x ∈ xss.getD i []
    · rw [decide_eq_true hin] at c1
      repeat' (first | exact trivial | refine BS.a (fun h => ?_) (fun h => ?_) | refine BS.n ?_ | refine BS.s (fun h => ?_) (fun h => ?_) | refine And.intro ?_ ?_ | exact Need.au | exact OutS.whole rfl rfl | (refine OpK.tell gOk hA hE 19 5000 3 decI hT rfl rfl rfl rfl rfl ?_) | (refine OpK.call c1 rfl rfl rfl rfl hE (.cons (.one (.ref rfl hTl)) (.cons (.one (.lit _)) .nil)) rfl rfl ?_) | refine ListO.go gOk hE ?_)
      all_goals (try simp only [adN_zero] at *)
      all_goals first
        | (exfalso; omega)
        | (refine Need.mk ?_; omega)
        | (refine Need.mk ?_; symm; apply decide_eq_true; rw [List.mem_flatten]; refine ⟨_, ?_, hin⟩; rw [List.getD_eq_getElem?_getD, List.getElem?_eq_getElem (by omega)]; exact List.getElem_mem _)
    · rw [decide_eq_false hin] at c1
      repeat' (first | exact trivial | refine BS.a (fun h => ?_) (fun h => ?_) | refine BS.n ?_ | refine BS.s (fun h => ?_) (fun h => ?_) | refine And.intro ?_ ?_ | exact Need.au | exact OutS.whole rfl rfl | (refine OpK.tell gOk hA hE 19 5000 3 decI hT rfl rfl rfl rfl rfl ?_) | (refine OpK.call c1 rfl rfl rfl rfl hE (.cons (.one (.ref rfl hTl)) (.cons (.one (.lit _)) .nil)) rfl rfl ?_) | refine ListO.go gOk hE ?_)
      all_goals (try simp only [adN_zero] at *)
      all_goals first
        | (exfalso; omega)
        | (refine Need.mk ?_; omega)
        | (refine ⟨i + 1, (by refine leT.of ?_ ?_ rfl <;> repeat' (first | exact trivial | refine And.intro rfl ?_ | refine And.intro (by simp) ?_)), ⟨by omega, fun j hj => (Nat.lt_or_ge j i).elim (hq j) (fun h9 => (show j = i by omega) ▸ hin)⟩, by first | omega | (dsimp only; omega)⟩)
  · repeat' (first | exact trivial | refine BS.a (fun h => ?_) (fun h => ?_) | refine BS.n ?_ | refine BS.s (fun h => ?_) (fun h => ?_) | refine And.intro ?_ ?_ | exact Need.au | exact OutS.whole rfl rfl | refine OpK.ca cC hE ?_ | refine ListO.go gOk hE ?_)
    all_goals (try simp only [adN_zero] at *)
    all_goals first
      | (exfalso; omega)
      | (refine Need.mk ?_; symm; apply decide_eq_false; intro hm; obtain ⟨l, hl, hl2⟩ := List.mem_flatten.1 hm; obtain ⟨j, hj, rfl⟩ := List.getElem_of_mem hl; exact hq j (by omega) (by rw [List.getD_eq_getElem?_getD, List.getElem?_eq_getElem hj]; exact hl2))
theorem OnListI_run (e e' : Nat) (g o : List (List Int)) (x : Int) (hgo : g.length + o.length ≤ 1048576) (hx : ∀ i, ((g ++ o).getD i []).length ≤ 1048576) : RunT Tryz.prog 188 [.agg [.c (tSL e g), .c (tSL e' o)], ti x] [] [ob (decide (x ∈ (g ++ o).flatten))] [] := by
  refine of_told ⟨_, Tryz.func188, rfl, rfl⟩ (fun hc gs os A1 A2 n1 n2 c1 c2 t1 t2 s1 s2 => ?_)
  exact OnList_told gs os (g ++ o) x A1 A2 n1 n2 c1 c2 t1 t2 (by rw [s1.len, s2.len]; exact hgo) (s1.append s2) hx
theorem OnListS_run (e e' : Nat) (g o : List (List Int)) (x : Int) (hg : g.length ≤ 1048576) (ho : o.length ≤ 1048576) (hf : g.flatten.length + o.flatten.length ≤ 1048576) : RunT Tryz.prog 184 [.agg [.c (tSL e g), .c (tSL e' o)], ti x] [] [ob (decide (x ∈ (g ++ o).flatten))] [] := by
  have c1 := l8All_run e e' g o hg ho hf
  have c2 := l8HasT_run (g ++ o).flatten x (by rw [List.flatten_append, List.length_append]; omega)
  refine RunT.of_vc gOk Tryz.func184 rfl rfl (Nat.le_of_ble_eq_true rfl) (by repeat' (first | exact trivial | exact ⟨_, rfl, Nat.le_refl _⟩ | exact Nat.le_of_ble_eq_true rfl | refine And.intro ?_ ?_)) (Nat.le_of_ble_eq_true rfl) rfl (fun F hE => ?_)
  repeat' (first | exact trivial | refine BS.a (fun h => ?_) (fun h => ?_) | refine BS.n ?_ | refine BS.s (fun h => ?_) (fun h => ?_) | refine And.intro ?_ ?_ | exact Need.au | exact OutS.whole rfl rfl | refine OpK.ca c1 hE ?_ | refine OpK.ca c2 hE ?_ | refine ListO.go gOk hE ?_)
end Go.Proofs.YtnfjpjgmhhmdeaaGreatDoor
end

section
/- The state of a slot. -/
namespace Go.Proofs.YtnfjpjgmhhmdeaaGreatDoor
open Go Go.Tr
set_option maxRecDepth 100000
set_option maxHeartbeats 4000000
set_option linter.unusedVariables false
set_option linter.unusedSimpArgs false
def stN (b c : List Int) (g o : List (List Int)) (s : Int) : Int := if clIn c s = -1 then 0 else if s ∈ (g ++ o).flatten then 1 else if gnIn b c s = 7 then 2 else 3
theorem gn_bd {b c : List Int} {s : Int} (h : hpP b c) (hs : clIn c s ≠ -1) : 1 ≤ gnIn b c s ∧ gnIn b c s ≤ 7 := by
  have hk := clIn_some hs
  obtain ⟨p, hp⟩ := Int.eq_ofNat_of_zero_le (show 0 ≤ s / 4 by omega)
  obtain ⟨i, hi⟩ := Int.eq_ofNat_of_zero_le (show 0 ≤ s % 4 by omega)
  have hp2 : (s / 4).toNat = p := by omega
  have h1 := h.2 p (by omega)
  have hcl : c.getD p 0 = clIn c s := by rw [← hk.2.2.1, hp2]
  unfold pgP at h1
  rw [hcl, if_neg (by omega)] at h1
  have h2 := h1.2 i (by rw [hcl]; omega)
  rw [slA_at (by omega) (by omega), show (p : Int) * 4 + i = s by omega] at h2
  exact h2
theorem gn_zero {b c : List Int} {s : Int} (hs : clIn c s = -1) : gnIn b c s = 0 := if_pos hs
theorem l9State_run (e : Nat) (b c : List Int) (g o : List (List Int)) (s : Int) (h : MmT b c g o) (hp : hpP b c) : RunT Tryz.prog 121 [aMm e b c g o, ti s] [] [oi (stN b c g o s)] [] := by
  have c1 := l7Class_run b c s hp.1.2.1
  have c2 := OnListS_run e e g o s h.ok.hg h.ok.ho h.f
  unfold stN
  by_cases h1 : clIn c s = -1
  · rw [if_pos h1]
    rw [h1] at c1
    refine RunT.of_vc gOk Tryz.func121 rfl rfl (Nat.le_of_ble_eq_true rfl) (by repeat' (first | exact trivial | exact ⟨_, rfl, Nat.le_refl _⟩ | exact Nat.le_of_ble_eq_true rfl | refine And.intro ?_ ?_)) (Nat.le_of_ble_eq_true rfl) rfl (fun F hE => ?_)
    repeat' (first | exact trivial | refine BS.a (fun h => ?_) (fun h => ?_) | refine BS.n ?_ | refine BS.s (fun h => ?_) (fun h => ?_) | refine And.intro ?_ ?_ | exact Need.au | exact OutS.whole rfl rfl | refine OpK.ca c1 hE ?_ | refine ListO.go gOk hE ?_)
  · have hk := clIn_some h1
    have c3 := l7Gen_run b c s hp.1 h1
    have hb := gn_bd hp h1
    rw [if_neg h1]
    by_cases h2 : s ∈ (g ++ o).flatten
    · rw [decide_eq_true h2] at c2
      rw [if_pos h2]
      refine RunT.of_vc gOk Tryz.func121 rfl rfl (Nat.le_of_ble_eq_true rfl) (by repeat' (first | exact trivial | exact ⟨_, rfl, Nat.le_refl _⟩ | exact Nat.le_of_ble_eq_true rfl | refine And.intro ?_ ?_)) (Nat.le_of_ble_eq_true rfl) rfl (fun F hE => ?_)
      repeat' (first | exact trivial | refine BS.a (fun h => ?_) (fun h => ?_) | refine BS.n ?_ | refine BS.s (fun h => ?_) (fun h => ?_) | refine And.intro ?_ ?_ | exact Need.au | exact OutS.whole rfl rfl | refine OpK.ca c1 hE ?_ | refine OpK.ca c2 hE ?_ | refine ListO.go gOk hE ?_)
      all_goals first | exact Need.mk rfl | (exfalso; omega) | trace_state
    · rw [decide_eq_false h2] at c2
      rw [if_neg h2]
      refine RunT.of_vc gOk Tryz.func121 rfl rfl (Nat.le_of_ble_eq_true rfl) (by repeat' (first | exact trivial | exact ⟨_, rfl, Nat.le_refl _⟩ | exact Nat.le_of_ble_eq_true rfl | refine And.intro ?_ ?_)) (Nat.le_of_ble_eq_true rfl) rfl (fun F hE => ?_)
      repeat' (first | exact trivial | refine BS.a (fun h => ?_) (fun h => ?_) | refine BS.n ?_ | refine BS.s (fun h => ?_) (fun h => ?_) | refine And.intro ?_ ?_ | exact Need.au | exact OutS.whole rfl rfl | refine OpK.ca c1 hE ?_ | refine OpK.ca c2 hE ?_ | refine OpK.ca c3 hE ?_ | refine ListO.go gOk hE ?_)
      all_goals first | (exfalso; omega) | (refine Need.mk ?_; first | (rw [if_pos (by omega)]; done) | (rw [if_neg (by omega)]; done)) | trace_state
theorem stateIn_run (e : Nat) (b c : List Int) (g o : List (List Int)) (s : Int) (h : MmT b c g o) (hp : hpP b c) : RunH Tryz.prog hT 124 [aMm e b c g o, ti s] [] [oi (stN b c g o s)] [] := by
  have c1 := classIn_run b c s hp.1.2.1
  have c2 := OnListI_run e e g o s h.n h.x
  have c3 := genIn_run b c s hp.1
  unfold stN
  by_cases h1 : clIn c s = -1
  · rw [if_pos h1]
    refine RunH.of_vc gOk Tryz.func124 rfl rfl (Nat.le_of_ble_eq_true rfl) (by repeat' (first | exact trivial | exact ⟨_, rfl, Nat.le_refl _⟩ | exact Nat.le_of_ble_eq_true rfl | refine And.intro ?_ ?_)) (Nat.le_of_ble_eq_true rfl) rfl (fun F hE hA => ?_)
    repeat' (first | exact trivial | refine BS.a (fun h => ?_) (fun h => ?_) | refine BS.n ?_ | refine BS.s (fun h => ?_) (fun h => ?_) | refine And.intro ?_ ?_ | exact Need.au | exact OutS.whole rfl rfl | refine OpK.ha c1 hA hE ?_ | refine ListO.go gOk hE ?_)
    all_goals first | exact Need.mk rfl | (exfalso; omega) | trace_state
  · have hk := clIn_some h1
    rw [if_neg h1]
    by_cases h2 : s ∈ (g ++ o).flatten
    · rw [decide_eq_true h2] at c2
      rw [if_pos h2]
      refine RunH.of_vc gOk Tryz.func124 rfl rfl (Nat.le_of_ble_eq_true rfl) (by repeat' (first | exact trivial | exact ⟨_, rfl, Nat.le_refl _⟩ | exact Nat.le_of_ble_eq_true rfl | refine And.intro ?_ ?_)) (Nat.le_of_ble_eq_true rfl) rfl (fun F hE hA => ?_)
      repeat' (first | exact trivial | refine BS.a (fun h => ?_) (fun h => ?_) | refine BS.n ?_ | refine BS.s (fun h => ?_) (fun h => ?_) | refine And.intro ?_ ?_ | exact Need.au | exact OutS.whole rfl rfl | refine OpK.ha c1 hA hE ?_ | refine OpK.ca c2 hE ?_ | refine ListO.go gOk hE ?_)
      all_goals first | exact Need.mk rfl | (exfalso; omega) | trace_state
    · rw [decide_eq_false h2] at c2
      rw [if_neg h2]
      refine RunH.of_vc gOk Tryz.func124 rfl rfl (Nat.le_of_ble_eq_true rfl) (by repeat' (first | exact trivial | exact ⟨_, rfl, Nat.le_refl _⟩ | exact Nat.le_of_ble_eq_true rfl | refine And.intro ?_ ?_)) (Nat.le_of_ble_eq_true rfl) rfl (fun F hE hA => ?_)
      repeat' (first | exact trivial | refine BS.a (fun h => ?_) (fun h => ?_) | refine BS.n ?_ | refine BS.s (fun h => ?_) (fun h => ?_) | refine And.intro ?_ ?_ | exact Need.au | exact OutS.whole rfl rfl | refine OpK.ha c1 hA hE ?_ | refine OpK.ca c2 hE ?_ | refine OpK.ha c3 hA hE ?_ | refine ListO.go gOk hE ?_)
      all_goals first | (exfalso; omega) | (refine Need.mk ?_; first | (rw [if_pos (by omega)]; done) | (rw [if_neg (by omega)]; done)) | trace_state
end Go.Proofs.YtnfjpjgmhhmdeaaGreatDoor
end

section
namespace Go.Proofs.YtnfjpjgmhhmdeaaGreatDoor
open Go Go.Tr
set_option maxRecDepth 100000
set_option maxHeartbeats 4000000
set_option linter.unusedVariables false
set_option linter.unusedSimpArgs false
theorem sHandleGen_run (x : Int) : RunT Tryz.prog 123 [ti x] [] [oi (hGen x)] [] := by
  have c1 := sHandleOk_run x
  unfold hGen
  cases hk : hOk x with
  | true =>
    have := hOk_iff.1 hk
    rw [hk] at c1
    refine RunT.of_vc gOk Tryz.func123 rfl rfl (Nat.le_of_ble_eq_true rfl) (by repeat' (first | exact trivial | exact ⟨_, rfl, Nat.le_refl _⟩ | exact Nat.le_of_ble_eq_true rfl | refine And.intro ?_ ?_)) (Nat.le_of_ble_eq_true rfl) rfl (fun F hE => ?_)
    repeat' (first | exact trivial | refine BS.a (fun h => ?_) (fun h => ?_) | refine BS.n ?_ | refine BS.s (fun h => ?_) (fun h => ?_) | refine And.intro ?_ ?_ | exact Need.au | exact OutS.whole rfl rfl | refine OpK.ca c1 hE ?_ | refine ListO.go gOk hE ?_)
    all_goals (refine Need.mk ?_; rw [Int.tdiv_eq_ediv_of_nonneg (by omega), wr_in (by omega)]; rfl)
  | false =>
    rw [hk] at c1
    refine RunT.of_vc gOk Tryz.func123 rfl rfl (Nat.le_of_ble_eq_true rfl) (by repeat' (first | exact trivial | exact ⟨_, rfl, Nat.le_refl _⟩ | exact Nat.le_of_ble_eq_true rfl | refine And.intro ?_ ?_)) (Nat.le_of_ble_eq_true rfl) rfl (fun F hE => ?_)
    repeat' (first | exact trivial | refine BS.a (fun h => ?_) (fun h => ?_) | refine BS.n ?_ | refine BS.s (fun h => ?_) (fun h => ?_) | refine And.intro ?_ ?_ | exact Need.au | exact OutS.whole rfl rfl | refine OpK.ca c1 hE ?_ | refine ListO.go gOk hE ?_)
    all_goals exact Need.mk rfl
theorem iHandleGen_run (x : Int) (hm : x ≤ 9223372036854775807) : RunT Tryz.prog 126 [ti x] [] [oi (hGen x)] [] := by
  have c1 := iHandleOk_run x hm
  unfold hGen
  cases hk : hOk x with
  | true =>
    have := hOk_iff.1 hk
    rw [hk] at c1
    refine RunT.of_vc gOk Tryz.func126 rfl rfl (Nat.le_of_ble_eq_true rfl) (by repeat' (first | exact trivial | exact ⟨_, rfl, Nat.le_refl _⟩ | exact Nat.le_of_ble_eq_true rfl | refine And.intro ?_ ?_)) (Nat.le_of_ble_eq_true rfl) rfl (fun F hE => ?_)
    repeat' (first | exact trivial | refine BS.a (fun h => ?_) (fun h => ?_) | refine BS.n ?_ | refine BS.s (fun h => ?_) (fun h => ?_) | refine And.intro ?_ ?_ | exact Need.au | exact OutS.whole rfl rfl | refine OpK.ca c1 hE ?_ | refine ListO.go gOk hE ?_)
    all_goals (refine Need.mk ?_; rw [Int.tdiv_eq_ediv_of_nonneg (by omega), wr_in (by omega)]; rfl)
  | false =>
    rw [hk] at c1
    refine RunT.of_vc gOk Tryz.func126 rfl rfl (Nat.le_of_ble_eq_true rfl) (by repeat' (first | exact trivial | exact ⟨_, rfl, Nat.le_refl _⟩ | exact Nat.le_of_ble_eq_true rfl | refine And.intro ?_ ?_)) (Nat.le_of_ble_eq_true rfl) rfl (fun F hE => ?_)
    repeat' (first | exact trivial | refine BS.a (fun h => ?_) (fun h => ?_) | refine BS.n ?_ | refine BS.s (fun h => ?_) (fun h => ?_) | refine And.intro ?_ ?_ | exact Need.au | exact OutS.whole rfl rfl | refine OpK.ca c1 hE ?_ | refine ListO.go gOk hE ?_)
    all_goals exact Need.mk rfl
end Go.Proofs.YtnfjpjgmhhmdeaaGreatDoor
end

section
/- Whether a handle is valid. -/
namespace Go.Proofs.YtnfjpjgmhhmdeaaGreatDoor
open Go Go.Tr
set_option maxRecDepth 100000
set_option maxHeartbeats 4000000
set_option linter.unusedVariables false
set_option linter.unusedSimpArgs false
def vlB (b c : List Int) (g o : List (List Int)) (x : Int) : Bool := hOk x && decide (stN b c g o (hSlot x) = 3) && decide (gnIn b c (hSlot x) = hGen x)
theorem stN_cl {b c : List Int} {g o : List (List Int)} {s : Int} (h : stN b c g o s = 3) : clIn c s ≠ -1 := by
  intro hh; unfold stN at h; rw [if_pos hh] at h; cases h
theorem l9Valid_run (e : Nat) (b c : List Int) (g o : List (List Int)) (x : Int) (h : MmT b c g o) (hp : hpP b c) : RunT Tryz.prog 63 [aMm e b c g o, ti x] [] [ob (vlB b c g o x)] [] := by
  have c1 := sHandleOk_run x
  have c2 := sHandleSlot_run x
  have c3 := l9State_run e b c g o (hSlot x) h hp
  have c5 := sHandleGen_run x
  unfold vlB
  cases hk : hOk x with
  | false =>
    rw [hk] at c1
    refine RunT.of_vc gOk Tryz.func63 rfl rfl (Nat.le_of_ble_eq_true rfl) (by repeat' (first | exact trivial | exact ⟨_, rfl, Nat.le_refl _⟩ | exact Nat.le_of_ble_eq_true rfl | refine And.intro ?_ ?_)) (Nat.le_of_ble_eq_true rfl) rfl (fun F hE => ?_)
    repeat' (first | exact trivial | refine BS.a (fun h => ?_) (fun h => ?_) | refine BS.n ?_ | refine BS.s (fun h => ?_) (fun h => ?_) | refine And.intro ?_ ?_ | exact Need.au | exact OutS.whole rfl rfl | (refine CodeK.draw gOk hE rfl (fun _ _ h => h) (.take 0 (.alt 1 (.take 2 (.take 4 (.alt 3 (.alt 5 (.alt 6 (.take 7 (.take 8 (.take 9 (.take 10 (.take 12 (.take 15 (.alt 11 (.alt 13 (.alt 14 (.alt 16 (.take 17 (.take 18 (.take 19 .done))) .stop) .stop) .stop) (.alt 13 (.alt 11 (.alt 14 (.alt 16 (.take 17 (.take 18 (.take 19 .done))) .stop) .stop) .stop) .stop)))))))) .stop) .stop) (.alt 5 (.alt 3 (.alt 6 (.take 7 (.take 8 (.take 9 (.take 10 (.take 12 (.take 15 (.alt 11 (.alt 13 (.alt 14 (.alt 16 (.take 17 (.take 18 (.take 19 .done))) .stop) .stop) .stop) (.alt 13 (.alt 11 (.alt 14 (.alt 16 (.take 17 (.take 18 (.take 19 .done))) .stop) .stop) .stop) .stop)))))))) .stop) .stop) .stop)))) .stop)) ?_ ?_; focus (decide +kernel)) | refine OpK.ca c1 hE ?_ | refine ListO.go gOk hE ?_)
    all_goals first | exact Need.mk rfl | (exfalso; omega) | trace_state
  | true =>
    rw [hk] at c1
    by_cases h3 : stN b c g o (hSlot x) = 3
    · have c4 := l7Gen_run b c (hSlot x) hp.1 (stN_cl h3)
      rw [h3] at c3
      rw [decide_eq_true h3]
      refine RunT.of_vc gOk Tryz.func63 rfl rfl (Nat.le_of_ble_eq_true rfl) (by repeat' (first | exact trivial | exact ⟨_, rfl, Nat.le_refl _⟩ | exact Nat.le_of_ble_eq_true rfl | refine And.intro ?_ ?_)) (Nat.le_of_ble_eq_true rfl) rfl (fun F hE => ?_)
      repeat' (first | exact trivial | refine BS.a (fun h => ?_) (fun h => ?_) | refine BS.n ?_ | refine BS.s (fun h => ?_) (fun h => ?_) | refine And.intro ?_ ?_ | exact Need.au | exact OutS.whole rfl rfl | (refine CodeK.draw gOk hE rfl (fun _ _ h => h) (.take 0 (.alt 1 (.take 2 (.take 4 (.alt 3 (.alt 5 (.alt 6 (.take 7 (.take 8 (.take 9 (.take 10 (.take 12 (.take 15 (.alt 11 (.alt 13 (.alt 14 (.alt 16 (.take 17 (.take 18 (.take 19 .done))) .stop) .stop) .stop) (.alt 13 (.alt 11 (.alt 14 (.alt 16 (.take 17 (.take 18 (.take 19 .done))) .stop) .stop) .stop) .stop)))))))) .stop) .stop) (.alt 5 (.alt 3 (.alt 6 (.take 7 (.take 8 (.take 9 (.take 10 (.take 12 (.take 15 (.alt 11 (.alt 13 (.alt 14 (.alt 16 (.take 17 (.take 18 (.take 19 .done))) .stop) .stop) .stop) (.alt 13 (.alt 11 (.alt 14 (.alt 16 (.take 17 (.take 18 (.take 19 .done))) .stop) .stop) .stop) .stop)))))))) .stop) .stop) .stop)))) .stop)) ?_ ?_; focus (decide +kernel)) | refine OpK.ca c1 hE ?_ | refine OpK.ca c2 hE ?_ | refine OpK.ca c3 hE ?_ | refine OpK.ca c4 hE ?_ | refine OpK.ca c5 hE ?_ | refine ListO.go gOk hE ?_)
      all_goals first | (refine Need.mk ?_; rw [Bool.beq_eq_decide_eq]; rfl) | exact Need.mk rfl | (exfalso; omega) | trace_state
    · rw [decide_eq_false h3]
      generalize stN b c g o (hSlot x) = z at *
      refine RunT.of_vc gOk Tryz.func63 rfl rfl (Nat.le_of_ble_eq_true rfl) (by repeat' (first | exact trivial | exact ⟨_, rfl, Nat.le_refl _⟩ | exact Nat.le_of_ble_eq_true rfl | refine And.intro ?_ ?_)) (Nat.le_of_ble_eq_true rfl) rfl (fun F hE => ?_)
      repeat' (first | exact trivial | refine BS.a (fun h => ?_) (fun h => ?_) | refine BS.n ?_ | refine BS.s (fun h => ?_) (fun h => ?_) | refine And.intro ?_ ?_ | exact Need.au | exact OutS.whole rfl rfl | (refine CodeK.draw gOk hE rfl (fun _ _ h => h) (.take 0 (.alt 1 (.take 2 (.take 4 (.alt 3 (.alt 5 (.alt 6 (.take 7 (.take 8 (.take 9 (.take 10 (.take 12 (.take 15 (.alt 11 (.alt 13 (.alt 14 (.alt 16 (.take 17 (.take 18 (.take 19 .done))) .stop) .stop) .stop) (.alt 13 (.alt 11 (.alt 14 (.alt 16 (.take 17 (.take 18 (.take 19 .done))) .stop) .stop) .stop) .stop)))))))) .stop) .stop) (.alt 5 (.alt 3 (.alt 6 (.take 7 (.take 8 (.take 9 (.take 10 (.take 12 (.take 15 (.alt 11 (.alt 13 (.alt 14 (.alt 16 (.take 17 (.take 18 (.take 19 .done))) .stop) .stop) .stop) (.alt 13 (.alt 11 (.alt 14 (.alt 16 (.take 17 (.take 18 (.take 19 .done))) .stop) .stop) .stop) .stop)))))))) .stop) .stop) .stop)))) .stop)) ?_ ?_; focus (decide +kernel)) | refine OpK.ca c1 hE ?_ | refine OpK.ca c2 hE ?_ | refine OpK.ca c3 hE ?_ | refine OpK.ca c5 hE ?_ | refine ListO.go gOk hE ?_)
      all_goals first | exact Need.mk rfl | (exfalso; omega) | trace_state
theorem validIn_run (e : Nat) (b c : List Int) (g o : List (List Int)) (x : Int) (h : MmT b c g o) (hp : hpP b c) (hx : x ≤ 9223372036854775807) : RunH Tryz.prog hT 64 [aMm e b c g o, ti x] [] [ob (vlB b c g o x)] [] := by
  have c2 := iHandleSlot_run x hx
  have c3 := stateIn_run e b c g o (hSlot x) h hp
  have c4 := genIn_run b c (hSlot x) hp.1
  have c5 := iHandleGen_run x hx
  have hq : vlB b c g o x = (decide (stN b c g o (hSlot x) = 3) && decide (gnIn b c (hSlot x) = hGen x)) := by
    unfold vlB
    cases hk : hOk x with
    | true => rfl
    | false =>
      have e1 : hSlot x = -1 := by unfold hSlot; rw [hk]; rfl
      have e2 : clIn c (-1) = -1 := clIn_no (by omega)
      have e3 : stN b c g o (-1) = 0 := by unfold stN; rw [if_pos e2]
      rw [e1, e3]; rfl
  rw [hq]
  by_cases h3 : stN b c g o (hSlot x) = 3
  · rw [h3] at c3
    rw [decide_eq_true h3]
    refine RunH.of_vc gOk Tryz.func64 rfl rfl (Nat.le_of_ble_eq_true rfl) (by repeat' (first | exact trivial | exact ⟨_, rfl, Nat.le_refl _⟩ | exact Nat.le_of_ble_eq_true rfl | refine And.intro ?_ ?_)) (Nat.le_of_ble_eq_true rfl) rfl (fun F hE hA => ?_)
    repeat' (first | exact trivial | refine BS.a (fun h => ?_) (fun h => ?_) | refine BS.n ?_ | refine BS.s (fun h => ?_) (fun h => ?_) | refine And.intro ?_ ?_ | exact Need.au | exact OutS.whole rfl rfl | refine OpK.ca c2 hE ?_ | refine OpK.ha c3 hA hE ?_ | refine OpK.ha c4 hA hE ?_ | refine OpK.ca c5 hE ?_ | refine ListO.go gOk hE ?_)
    all_goals first | (refine Need.mk ?_; rw [Bool.beq_eq_decide_eq]; rfl) | exact Need.mk rfl | (exfalso; omega) | trace_state
  · rw [decide_eq_false h3]
    generalize stN b c g o (hSlot x) = z at *
    refine RunH.of_vc gOk Tryz.func64 rfl rfl (Nat.le_of_ble_eq_true rfl) (by repeat' (first | exact trivial | exact ⟨_, rfl, Nat.le_refl _⟩ | exact Nat.le_of_ble_eq_true rfl | refine And.intro ?_ ?_)) (Nat.le_of_ble_eq_true rfl) rfl (fun F hE hA => ?_)
    repeat' (first | exact trivial | refine BS.a (fun h => ?_) (fun h => ?_) | refine BS.n ?_ | refine BS.s (fun h => ?_) (fun h => ?_) | refine And.intro ?_ ?_ | exact Need.au | exact OutS.whole rfl rfl | refine OpK.ca c2 hE ?_ | refine OpK.ha c3 hA hE ?_ | refine OpK.ha c4 hA hE ?_ | refine OpK.ca c5 hE ?_ | refine ListO.go gOk hE ?_)
    all_goals first | exact Need.mk rfl | (exfalso; omega) | trace_state
end Go.Proofs.YtnfjpjgmhhmdeaaGreatDoor
end

section
/- Whether a base is right. -/
namespace Go.Proofs.YtnfjpjgmhhmdeaaGreatDoor
open Go Go.Tr
set_option maxRecDepth 100000
set_option maxHeartbeats 4000000
set_option linter.unusedVariables false
set_option linter.unusedSimpArgs false
abbrev bBs (e eP eR eL : Nat) (b c : List Int) (g o : List (List Int)) (E : Int) (ps : List PinT) (l : List (List Row)) (z : List Int) : TRoot := .box 54 [.ref 1000000 0 b.length, .ref 1000001 0 c.length, .ref 1000002 0 g.length, .ref 1000003 0 o.length, .cl (.lit (.int .i64 E)), .ref 1000004 0 ps.length, .ref 1000005 0 l.length, .ref 1000006 0 z.length]
/-- A base of bounded size. -/
structure BsT (b c : List Int) (g o : List (List Int)) (ps : List PinT) (l : List (List Row)) (z : List Int) : Prop where
  ok : BsOk 1048576 b c g o ps l z
  mt : MmT b c g o
  cn : cnt l ≤ 1048576
  mx : ∀ i, (l.flatten.getD i (0, 0)).1 ≤ 9223372036854775807
  zx : ∀ i, z.getD i 0 ≤ 9223372036854775807
theorem BsT.of_sz {b c : List Int} {g o : List (List Int)} {ps : List PinT} {l : List (List Row)} {z : List Int} {m : Int} (h0 : 0 ≤ m) (h1 : m ≤ 1048576) (h : ¬ szB b c g o ps l z m < 0) (mx : ∀ i, (l.flatten.getD i (0, 0)).1 ≤ 9223372036854775807) (zx : ∀ i, z.getD i 0 ≤ 9223372036854775807) : BsT b c g o ps l z := by
  obtain ⟨q1, q2, q3⟩ := szB_ok (b := b) (c := c) (g := g) (o := o) (ps := ps) (l := l) (z := z) h0 h1
  refine ⟨q3 (by omega), ?_, ?_, mx, zx⟩
  · refine MmT.of_sz h0 h1 (fun hm => h ?_)
    unfold szB ch; rw [if_pos hm]; omega
  · unfold szB ch at h
    dsimp only at h
    have a := szM_le b c g o m h0
    split at h
    · omega
    have a2 := szJ_bd ps (szM b c g o m) (by omega)
    split at h
    · omega
    obtain ⟨b1, b2, b3⟩ := szJLs_le l (szJ ps (szM b c g o m)) (by omega)
    split at h
    · omega
    obtain ⟨b4, b5, b6⟩ := b3 (by omega)
    rw [← flat_len]; omega
abbrev rwQ (b c : List Int) (g o : List (List Int)) (E : Int) (R : List Row) (j : Nat) : Prop := vlB b c g o (R.getD j (0, 0)).1 = true ∧ (R.getD j (0, 0)).2 ≤ E
noncomputable def bsB (b c : List Int) (g o : List (List Int)) (E : Int) (ps : List PinT) (l : List (List Row)) (z : List Int) : Bool := dcB (mmP b c g o) && clk E ps && lOk l && hzB z && allP l.flatten.length (rwQ b c g o E l.flatten)
theorem bsB_mm {b c : List Int} {g o : List (List Int)} {E : Int} {ps : List PinT} {l : List (List Row)} {z : List Int} (h : bsB b c g o E ps l z = true) : mmP b c g o := by
  refine Classical.byContradiction fun hn => ?_
  unfold bsB at h
  rw [dcB_false hn] at h; simp at h
theorem BaseOkS_run (e eP eR eL : Nat) (b c : List Int) (g o : List (List Int)) (E : Int) (ps : List PinT) (l : List (List Row)) (z : List Int) (h : BsT b c g o ps l z) : RunT Tryz.prog 37 [aBs e eP eR eL b c g o E ps l z] [] [ob (bsB b c g o E ps l z)] [] := by
  have c1 := h.mt.S e
  have c2 := ClockOkS_run E eP ps h.ok.hps
  have c3 := LimboOkS_run eR eL l h.ok.hl h.cn
  have c4 := HazOkS_run z (by have := h.ok.hz; omega)
  have c5 := l11All_run eR eL l h.ok.hl h.cn
  have hfl := flat_len l
  have hcn := h.cn
  by_cases hm : mmP b c g o
  · rw [dcB_true hm] at c1
    have hb0 : bsB b c g o E ps l z = (clk E ps && lOk l && hzB z && allP l.flatten.length (rwQ b c g o E l.flatten)) := by unfold bsB; rw [dcB_true hm]; simp
    rw [hb0]
    generalize clk E ps = b2 at *
    generalize lOk l = b3 at *
    generalize hzB z = b4 at *
    cases b2
    · refine RunT.of_vc gOk Tryz.func37 rfl rfl (Nat.le_of_ble_eq_true rfl) (by repeat' (first | exact trivial | exact ⟨_, rfl, Nat.le_refl _⟩ | exact Nat.le_of_ble_eq_true rfl | refine And.intro ?_ ?_)) (Nat.le_of_ble_eq_true rfl) rfl (fun F hE => ?_)
      repeat' (first | exact trivial | refine BS.a (fun h => ?_) (fun h => ?_) | refine BS.n ?_ | refine BS.s (fun h => ?_) (fun h => ?_) | refine And.intro ?_ ?_ | exact Need.au | exact OutS.whole rfl rfl | refine OpK.ca c1 hE ?_ | refine OpK.ca c2 hE ?_ | refine ListO.go gOk hE ?_)
      all_goals first | exact Need.mk rfl | trace_state
    cases b3
    · refine RunT.of_vc gOk Tryz.func37 rfl rfl (Nat.le_of_ble_eq_true rfl) (by repeat' (first | exact trivial | exact ⟨_, rfl, Nat.le_refl _⟩ | exact Nat.le_of_ble_eq_true rfl | refine And.intro ?_ ?_)) (Nat.le_of_ble_eq_true rfl) rfl (fun F hE => ?_)
      repeat' (first | exact trivial | refine BS.a (fun h => ?_) (fun h => ?_) | refine BS.n ?_ | refine BS.s (fun h => ?_) (fun h => ?_) | refine And.intro ?_ ?_ | exact Need.au | exact OutS.whole rfl rfl | refine OpK.ca c1 hE ?_ | refine OpK.ca c2 hE ?_ | refine OpK.ca c3 hE ?_ | refine ListO.go gOk hE ?_)
      all_goals first | exact Need.mk rfl | trace_state
    cases b4
    · refine RunT.of_vc gOk Tryz.func37 rfl rfl (Nat.le_of_ble_eq_true rfl) (by repeat' (first | exact trivial | exact ⟨_, rfl, Nat.le_refl _⟩ | exact Nat.le_of_ble_eq_true rfl | refine And.intro ?_ ?_)) (Nat.le_of_ble_eq_true rfl) rfl (fun F hE => ?_)
      repeat' (first | exact trivial | refine BS.a (fun h => ?_) (fun h => ?_) | refine BS.n ?_ | refine BS.s (fun h => ?_) (fun h => ?_) | refine And.intro ?_ ?_ | exact Need.au | exact OutS.whole rfl rfl | refine OpK.ca c1 hE ?_ | refine OpK.ca c2 hE ?_ | refine OpK.ca c3 hE ?_ | refine OpK.ca c4 hE ?_ | refine ListO.go gOk hE ?_)
      all_goals first | exact Need.mk rfl | trace_state
    rw [show (true && true && true && allP l.flatten.length (rwQ b c g o E l.flatten)) = allP l.flatten.length (rwQ b c g o E l.flatten) from rfl]
    refine RunT.of_vc gOk Tryz.func37 rfl rfl (Nat.le_of_ble_eq_true rfl) (by repeat' (first | exact trivial | exact ⟨_, rfl, Nat.le_refl _⟩ | exact Nat.le_of_ble_eq_true rfl | refine And.intro ?_ ?_)) (Nat.le_of_ble_eq_true rfl) rfl (fun F hE => ?_)
    repeat' (first | exact trivial | refine BS.a (fun h => ?_) (fun h => ?_) | refine BS.n ?_ | refine BS.s (fun h => ?_) (fun h => ?_) | refine And.intro ?_ ?_ | exact Need.au | exact OutS.whole rfl rfl | refine OpK.ca c1 hE ?_ | refine OpK.ca c2 hE ?_ | refine OpK.ca c3 hE ?_ | refine OpK.ca c4 hE ?_ | refine OpK.ca c5 hE ?_ | refine ListO.go gOk hE ?_)
    have hR : l.flatten.length ≤ 1048576 := by omega
    generalize l.flatten = R at *
    refine CodeK.loop gOk hE (fun i : Nat => ⟨[(1, .ptr 1 0 0), (3, vr 2003712 R.length), (4, vi i)], [(1, bBs e eP eR eL b c g o E ps l z), (2003712, rR .own true 127 R), (1000000, rI .fro false b), (1000001, rI .fro false c), (1000002, rSL .fro false e g), (1000003, rSL .fro false e o), (1000004, rPin .fro false eP ps), (1000005, rLL .fro false eR eL l), (1000006, rI .fro false z)]⟩) (fun i => i ≤ R.length ∧ ∀ j, j < i → rwQ b c g o E R j) (fun i => R.length - i) 0 (by refine leT.of ?_ ?_ rfl <;> repeat' (first | exact trivial | refine And.intro rfl ?_ | refine And.intro (by first | rfl | (simp; done)) ?_)) ⟨Nat.zero_le _, fun j hj => absurd hj (Nat.not_lt_zero _)⟩ ?_
    rintro i ⟨hi, hs⟩
    have c6 := l9Valid_run e b c g o (R.getD i (0, 0)).1 h.mt hm.1
    by_cases hv : vlB b c g o (R.getD i (0, 0)).1 = true
    · rw [hv] at c6
      repeat' (first | exact trivial | refine BS.a (fun h => ?_) (fun h => ?_) | refine BS.n ?_ | refine BS.s (fun h => ?_) (fun h => ?_) | refine And.intro ?_ ?_ | exact Need.au | exact OutS.whole rfl rfl | refine OpK.ca c6 hE ?_ | (refine CodeK.draw gOk hE rfl (fun _ _ h => h) (.take 0 (.take 2 (.take 3 (.take 4 (.take 5 (.alt 1 (.alt 6 (.alt 7 (.take 8 (.take 9 (.take 10 (.take 11 (.take 12 (.take 13 (.take 15 (.take 16 (.alt 14 (.alt 17 (.take 18 (.take 19 .done)) .stop) (.alt 17 (.alt 14 (.take 18 (.take 19 .done)) .stop) .stop)))))))))) .stop) .stop) (.alt 6 (.alt 1 (.alt 7 (.take 8 (.take 9 (.take 10 (.take 11 (.take 12 (.take 13 (.take 15 (.take 16 (.alt 14 (.alt 17 (.take 18 (.take 19 .done)) .stop) (.alt 17 (.alt 14 (.take 18 (.take 19 .done)) .stop) .stop)))))))))) .stop) .stop) .stop))))))) ?_ ?_; focus (decide +kernel)) | refine ListO.go gOk hE ?_)
      all_goals (try simp only [adN_zero] at *)
      all_goals first
        | (exfalso; omega)
        | (refine Need.mk ?_; omega)
        | (refine Need.mk ?_; exact (allP_true (fun j hj => hs j (by omega))).symm)
        | (refine Need.mk ?_; exact (allP_false (i := i) (by omega) (fun hq => by have := hq.2; omega)).symm)
        | (refine ⟨i + 1, (by refine leT.of ?_ ?_ rfl <;> repeat' (first | exact trivial | refine And.intro rfl ?_ | refine And.intro (by simp) ?_)), ⟨by omega, fun j hj => (Nat.lt_or_ge j i).elim (hs j) (fun h9 => (show j = i by omega) ▸ ⟨hv, by omega⟩)⟩, by first | omega | (dsimp only; omega)⟩)
        | trace_state
    · have hv2 : vlB b c g o (R.getD i (0, 0)).1 = false := by simpa using hv
      rw [hv2] at c6
      repeat' (first | exact trivial | refine BS.a (fun h => ?_) (fun h => ?_) | refine BS.n ?_ | refine BS.s (fun h => ?_) (fun h => ?_) | refine And.intro ?_ ?_ | exact Need.au | exact OutS.whole rfl rfl | refine OpK.ca c6 hE ?_ | (refine CodeK.draw gOk hE rfl (fun _ _ h => h) (.take 0 (.take 2 (.take 3 (.take 4 (.take 5 (.alt 1 (.alt 6 (.alt 7 (.take 8 (.take 9 (.take 10 (.take 11 (.take 12 (.take 13 (.take 15 (.take 16 (.alt 14 (.alt 17 (.take 18 (.take 19 .done)) .stop) (.alt 17 (.alt 14 (.take 18 (.take 19 .done)) .stop) .stop)))))))))) .stop) .stop) (.alt 6 (.alt 1 (.alt 7 (.take 8 (.take 9 (.take 10 (.take 11 (.take 12 (.take 13 (.take 15 (.take 16 (.alt 14 (.alt 17 (.take 18 (.take 19 .done)) .stop) (.alt 17 (.alt 14 (.take 18 (.take 19 .done)) .stop) .stop)))))))))) .stop) .stop) .stop))))))) ?_ ?_; focus (decide +kernel)) | refine ListO.go gOk hE ?_)
      all_goals (try simp only [adN_zero] at *)
      all_goals first
        | (exfalso; omega)
        | (refine Need.mk ?_; omega)
        | (refine Need.mk ?_; exact (allP_true (fun j hj => hs j (by omega))).symm)
        | (refine Need.mk ?_; exact (allP_false (i := i) (by omega) (fun hq => hv hq.1)).symm)
        | trace_state
  · rw [dcB_false hm] at c1
    have hb0 : bsB b c g o E ps l z = false := by unfold bsB; rw [dcB_false hm]; simp
    rw [hb0]
    refine RunT.of_vc gOk Tryz.func37 rfl rfl (Nat.le_of_ble_eq_true rfl) (by repeat' (first | exact trivial | exact ⟨_, rfl, Nat.le_refl _⟩ | exact Nat.le_of_ble_eq_true rfl | refine And.intro ?_ ?_)) (Nat.le_of_ble_eq_true rfl) rfl (fun F hE => ?_)
    repeat' (first | exact trivial | refine BS.a (fun h => ?_) (fun h => ?_) | refine BS.n ?_ | refine BS.s (fun h => ?_) (fun h => ?_) | refine And.intro ?_ ?_ | exact Need.au | exact OutS.whole rfl rfl | refine OpK.ca c1 hE ?_ | refine ListO.go gOk hE ?_)
    all_goals first | exact Need.mk rfl | trace_state
theorem BaseOkI_run (e eP eR eL : Nat) (b c : List Int) (g o : List (List Int)) (E : Int) (ps : List PinT) (l : List (List Row)) (z : List Int) (h : BsT b c g o ps l z) : RunH Tryz.prog hT 50 [aBs e eP eR eL b c g o E ps l z] [] [ob (bsB b c g o E ps l z)] [] := by
  have c1 := h.mt.I e
  have c2 := ClockOkI_run E eP ps h.ok.hps
  have c3 := LimboOkI_run eR eL l h.ok.hl h.cn h.mx
  have c4 := HazOkI_run z (by have := h.ok.hz; omega) h.zx
  have c5 := allRows_run eR eL l h.ok.hl h.cn
  have hfl := flat_len l
  have hcn := h.cn
  by_cases hm : mmP b c g o
  · rw [dcB_true hm] at c1
    have hb0 : bsB b c g o E ps l z = (clk E ps && lOk l && hzB z && allP l.flatten.length (rwQ b c g o E l.flatten)) := by unfold bsB; rw [dcB_true hm]; simp
    rw [hb0]
    have hmx := h.mx
    generalize clk E ps = b2 at *
    generalize lOk l = b3 at *
    generalize hzB z = b4 at *
    cases b2
    · refine RunH.of_vc gOk Tryz.func50 rfl rfl (Nat.le_of_ble_eq_true rfl) (by repeat' (first | exact trivial | exact ⟨_, rfl, Nat.le_refl _⟩ | exact Nat.le_of_ble_eq_true rfl | refine And.intro ?_ ?_)) (Nat.le_of_ble_eq_true rfl) rfl (fun F hE hA => ?_)
      repeat' (first | exact trivial | refine BS.a (fun h => ?_) (fun h => ?_) | refine BS.n ?_ | refine BS.s (fun h => ?_) (fun h => ?_) | refine And.intro ?_ ?_ | exact Need.au | exact OutS.whole rfl rfl | refine OpK.ha c1 hA hE ?_ | refine OpK.ca c2 hE ?_ | refine ListO.go gOk hE ?_)
      all_goals first | exact Need.mk rfl | trace_state
    cases b3
    · refine RunH.of_vc gOk Tryz.func50 rfl rfl (Nat.le_of_ble_eq_true rfl) (by repeat' (first | exact trivial | exact ⟨_, rfl, Nat.le_refl _⟩ | exact Nat.le_of_ble_eq_true rfl | refine And.intro ?_ ?_)) (Nat.le_of_ble_eq_true rfl) rfl (fun F hE hA => ?_)
      repeat' (first | exact trivial | refine BS.a (fun h => ?_) (fun h => ?_) | refine BS.n ?_ | refine BS.s (fun h => ?_) (fun h => ?_) | refine And.intro ?_ ?_ | exact Need.au | exact OutS.whole rfl rfl | refine OpK.ha c1 hA hE ?_ | refine OpK.ca c2 hE ?_ | refine OpK.ca c3 hE ?_ | refine ListO.go gOk hE ?_)
      all_goals first | exact Need.mk rfl | trace_state
    cases b4
    · refine RunH.of_vc gOk Tryz.func50 rfl rfl (Nat.le_of_ble_eq_true rfl) (by repeat' (first | exact trivial | exact ⟨_, rfl, Nat.le_refl _⟩ | exact Nat.le_of_ble_eq_true rfl | refine And.intro ?_ ?_)) (Nat.le_of_ble_eq_true rfl) rfl (fun F hE hA => ?_)
      repeat' (first | exact trivial | refine BS.a (fun h => ?_) (fun h => ?_) | refine BS.n ?_ | refine BS.s (fun h => ?_) (fun h => ?_) | refine And.intro ?_ ?_ | exact Need.au | exact OutS.whole rfl rfl | refine OpK.ha c1 hA hE ?_ | refine OpK.ca c2 hE ?_ | refine OpK.ca c3 hE ?_ | refine OpK.ca c4 hE ?_ | refine ListO.go gOk hE ?_)
      all_goals first | exact Need.mk rfl | trace_state
    rw [show (true && true && true && allP l.flatten.length (rwQ b c g o E l.flatten)) = allP l.flatten.length (rwQ b c g o E l.flatten) from rfl]
    refine RunH.of_vc gOk Tryz.func50 rfl rfl (Nat.le_of_ble_eq_true rfl) (by repeat' (first | exact trivial | exact ⟨_, rfl, Nat.le_refl _⟩ | exact Nat.le_of_ble_eq_true rfl | refine And.intro ?_ ?_)) (Nat.le_of_ble_eq_true rfl) rfl (fun F hE hA => ?_)
    repeat' (first | exact trivial | refine BS.a (fun h => ?_) (fun h => ?_) | refine BS.n ?_ | refine BS.s (fun h => ?_) (fun h => ?_) | refine And.intro ?_ ?_ | exact Need.au | exact OutS.whole rfl rfl | refine OpK.ha c1 hA hE ?_ | refine OpK.ca c2 hE ?_ | refine OpK.ca c3 hE ?_ | refine OpK.ca c4 hE ?_ | refine OpK.ca c5 hE ?_ | refine ListO.go gOk hE ?_)
    have hR : l.flatten.length ≤ 1048576 := by omega
    generalize l.flatten = R at *
    refine CodeK.loop gOk hE (fun i : Nat => ⟨[(1, .ptr 1 0 0), (29, vr 2003712 R.length), (30, vi R.length), (31, vi i)], [(1, bBs e eP eR eL b c g o E ps l z), (2003712, rR .own true 127 R), (1000000, rI .fro false b), (1000001, rI .fro false c), (1000002, rSL .fro false e g), (1000003, rSL .fro false e o), (1000004, rPin .fro false eP ps), (1000005, rLL .fro false eR eL l), (1000006, rI .fro false z)]⟩) (fun i => i ≤ R.length ∧ ∀ j, j < i → rwQ b c g o E R j) (fun i => R.length - i) 0 (by refine leT.of ?_ ?_ rfl <;> repeat' (first | exact trivial | refine And.intro rfl ?_ | refine And.intro (by first | rfl | (simp; done)) ?_)) ⟨Nat.zero_le _, fun j hj => absurd hj (Nat.not_lt_zero _)⟩ ?_
    rintro i ⟨hi, hs⟩
    have c6 := validIn_run e b c g o (R.getD i (0, 0)).1 h.mt hm.1 (hmx i)
    by_cases hv : vlB b c g o (R.getD i (0, 0)).1 = true
    · rw [hv] at c6
      repeat' (first | exact trivial | refine BS.a (fun h => ?_) (fun h => ?_) | refine BS.n ?_ | refine BS.s (fun h => ?_) (fun h => ?_) | refine And.intro ?_ ?_ | exact Need.au | exact OutS.whole rfl rfl | refine OpK.ha c6 hA hE ?_ | refine ListO.go gOk hE ?_)
      all_goals (try simp only [adN_zero] at *)
      all_goals first
        | (exfalso; omega)
        | (refine Need.mk ?_; omega)
        | (refine Need.mk ?_; exact (allP_true (fun j hj => hs j (by omega))).symm)
        | (refine Need.mk ?_; exact (allP_false (i := i) (by omega) (fun hq => by have := hq.2; omega)).symm)
        | (refine ⟨i + 1, (by refine leT.of ?_ ?_ rfl <;> repeat' (first | exact trivial | refine And.intro rfl ?_ | refine And.intro (by simp) ?_)), ⟨by omega, fun j hj => (Nat.lt_or_ge j i).elim (hs j) (fun h9 => (show j = i by omega) ▸ ⟨hv, by omega⟩)⟩, by first | omega | (dsimp only; omega)⟩)
        | trace_state
    · have hv2 : vlB b c g o (R.getD i (0, 0)).1 = false := by simpa using hv
      rw [hv2] at c6
      repeat' (first | exact trivial | refine BS.a (fun h => ?_) (fun h => ?_) | refine BS.n ?_ | refine BS.s (fun h => ?_) (fun h => ?_) | refine And.intro ?_ ?_ | exact Need.au | exact OutS.whole rfl rfl | refine OpK.ha c6 hA hE ?_ | refine ListO.go gOk hE ?_)
      all_goals (try simp only [adN_zero] at *)
      all_goals first
        | (exfalso; omega)
        | (refine Need.mk ?_; omega)
        | (refine Need.mk ?_; exact (allP_true (fun j hj => hs j (by omega))).symm)
        | (refine Need.mk ?_; exact (allP_false (i := i) (by omega) (fun hq => hv hq.1)).symm)
        | (refine Need.mk ?_; exact (allP_false (i := i) (by omega) (fun hq => by have := hq.2; omega)).symm)
        | trace_state
  · rw [dcB_false hm] at c1
    have hb0 : bsB b c g o E ps l z = false := by unfold bsB; rw [dcB_false hm]; simp
    rw [hb0]
    refine RunH.of_vc gOk Tryz.func50 rfl rfl (Nat.le_of_ble_eq_true rfl) (by repeat' (first | exact trivial | exact ⟨_, rfl, Nat.le_refl _⟩ | exact Nat.le_of_ble_eq_true rfl | refine And.intro ?_ ?_)) (Nat.le_of_ble_eq_true rfl) rfl (fun F hE hA => ?_)
    repeat' (first | exact trivial | refine BS.a (fun h => ?_) (fun h => ?_) | refine BS.n ?_ | refine BS.s (fun h => ?_) (fun h => ?_) | refine And.intro ?_ ?_ | exact Need.au | exact OutS.whole rfl rfl | refine OpK.ha c1 hA hE ?_ | refine ListO.go gOk hE ?_)
    all_goals first | exact Need.mk rfl | trace_state
end Go.Proofs.YtnfjpjgmhhmdeaaGreatDoor
end

section
/- The box of a shelf. -/
namespace Go.Proofs.YtnfjpjgmhhmdeaaGreatDoor
open Go Go.Tr
set_option maxRecDepth 100000
set_option maxHeartbeats 4000000
set_option linter.unusedVariables false
set_option linter.unusedSimpArgs false
abbrev bSf (e eP eR eL eJ eO eQ eE : Nat) (b c : List Int) (g o : List (List Int)) (E : Int) (ps : List PinT) (l : List (List Row)) (z : List Int) (cs : List Int) (js : List JobT) (ts : List (List OpT)) (ev : List EvT) (sn : Int) : TRoot := .box 59 [.ref 1000000 0 b.length, .ref 1000001 0 c.length, .ref 1000002 0 g.length, .ref 1000003 0 o.length, .cl (.lit (.int .i64 E)), .ref 1000004 0 ps.length, .ref 1000005 0 l.length, .ref 1000006 0 z.length, .ref 1000007 0 cs.length, .ref 1000008 0 js.length, .ref 1000009 0 ts.length, .ref 1000010 0 ev.length, .cl (.lit (.int .i64 sn))]
end Go.Proofs.YtnfjpjgmhhmdeaaGreatDoor
end

section
/- A shelf is checked by spec. -/
namespace Go.Proofs.YtnfjpjgmhhmdeaaGreatDoor
open Go Go.Tr
set_option maxRecDepth 100000
set_option maxHeartbeats 4000000
set_option linter.unusedVariables false
set_option linter.unusedSimpArgs false
structure SfT (b c : List Int) (g o : List (List Int)) (ps : List PinT) (l : List (List Row)) (z : List Int) (cs : List Int) (js : List JobT) (ts : List (List OpT)) (ev : List EvT) : Prop where
  ok : SfOk 1048576 b c g o ps l z cs js ts ev
  bt : BsT b c g o ps l z
  cx : ∀ i, cs.getD i 0 ≤ 9223372036854775807
  jx : ∀ i, hJ (js.getD i zJob) ≤ 9223372036854775807 ∧ oJ (js.getD i zJob) ≤ 9223372036854775807
abbrev jbQ (js : List JobT) (j : Nat) : Prop := jbB (js.getD j zJob) = true
noncomputable def sfB (b c : List Int) (g o : List (List Int)) (E : Int) (ps : List PinT) (l : List (List Row)) (z : List Int) (cs : List Int) (js : List JobT) (ts : List (List OpT)) (sn : Int) : Bool :=
  bsB b c g o E ps l z && (decide (cs.length = 2) && (decide (js.length = 3) && (tdB ts && (decide (0 ≤ sn ∧ sn ≤ 1000000) && (hzA cs && allP js.length (jbQ js))))))
theorem sfB_split {b c : List Int} {g o : List (List Int)} {E : Int} {ps : List PinT} {l : List (List Row)} {z : List Int} {cs : List Int} {js : List JobT} {ts : List (List OpT)} {sn : Int} {r v1 v2 v3 v4 : Bool} (hr : r = sfB b c g o E ps l z cs js ts sn) (e1 : bsB b c g o E ps l z = v1) (e2 : tdB ts = v2) (e3 : decide (0 ≤ sn ∧ sn ≤ 1000000) = v3) (e4 : hzA cs = v4) :
    (v1 = false → r = false) ∧ (v2 = false → r = false) ∧ (v3 = false → r = false) ∧ (v4 = false → r = false) ∧ (¬ (cs.length : Int) = 2 → r = false) ∧ (¬ (js.length : Int) = 3 → r = false) ∧ (∀ i, i < cs.length → sm (cs.getD i 0) = false → v4 = false) ∧ (∀ i, i < js.length → jbB (js.getD i zJob) = false → r = false) ∧ ((∀ i, i < cs.length → sm (cs.getD i 0) = true) → v4 = true) ∧ (v1 = true → v2 = true → v3 = true → v4 = true → cs.length = 2 → js.length = 3 → (∀ i, i < js.length → jbB (js.getD i zJob) = true) → r = true) := by
  unfold sfB at hr
  rw [e1, e2, e3, e4] at hr
  have q : ∀ i, hzQ cs i ↔ sm (cs.getD i 0) = true := fun i => by unfold sm; rw [Bool.or_eq_true, decide_eq_true_eq]
  refine ⟨fun h => by rw [hr, h]; rfl, fun h => by rw [hr, h]; simp, fun h => by rw [hr, h]; simp, fun h => by rw [hr, h]; simp, fun h => by rw [hr, decide_eq_false (by omega : ¬ cs.length = 2)]; simp, fun h => by rw [hr, decide_eq_false (by omega : ¬ js.length = 3)]; simp, fun i hi h => ?_, fun i hi h => ?_, fun h => ?_, fun h1 h2 h3 h4 h5 h6 h7 => ?_⟩
  · rw [← e4]; exact allP_false hi (fun hh => by rw [(q i).1 hh] at h; cases h)
  · rw [hr, allP_false hi (fun hh : jbQ js i => by rw [hh] at h; cases h)]; simp
  · rw [← e4]; exact allP_true fun j hj => (q j).2 (h j hj)
  · rw [hr, h1, h2, h3, h4, decide_eq_true h5, decide_eq_true h6, allP_true h7]; rfl
theorem ShelfOkS_run (e eP eR eL eJ eO eQ eE : Nat) (b c : List Int) (g o : List (List Int)) (E : Int) (ps : List PinT) (l : List (List Row)) (z : List Int) (cs : List Int) (js : List JobT) (ts : List (List OpT)) (ev : List EvT) (sn : Int) (h : SfT b c g o ps l z cs js ts ev) : RunT Tryz.prog 11 [aSf e eP eR eL eJ eO eQ eE b c g o E ps l z cs js ts ev sn] [] [ob (sfB b c g o E ps l z cs js ts sn)] [] := by
  have c1 := BaseOkS_run e eP eR eL b c g o E ps l z h.bt
  have c2 := l15Todo_run eO eQ ts h.ok.hts h.ok.hts'
  have c3 := l1InT_run sn 0 1000000
  obtain ⟨r, hr⟩ : ∃ r, r = sfB b c g o E ps l z cs js ts sn := ⟨_, rfl⟩
  obtain ⟨n1, n2, n3, n4, n5, n6, n7, n8, n9, n10⟩ := sfB_split hr rfl rfl rfl rfl
  rw [← hr]
  clear hr
  generalize bsB b c g o E ps l z = v1 at *
  generalize tdB ts = v2 at *
  generalize decide (0 ≤ sn ∧ sn ≤ 1000000) = v3 at *
  generalize hzA cs = v4 at *
  have a1 := h.ok.hcs
  have a2 := h.ok.hjs
  have a3 := h.ok.hts
  refine RunT.of_vc gOk Tryz.func11 rfl rfl (Nat.le_of_ble_eq_true rfl) (by repeat' (first | exact trivial | exact ⟨_, rfl, Nat.le_refl _⟩ | exact Nat.le_of_ble_eq_true rfl | refine And.intro ?_ ?_)) (Nat.le_of_ble_eq_true rfl) rfl (fun F hE => ?_)
  repeat' (first | exact trivial | refine BS.a (fun h => ?_) (fun h => ?_) | refine BS.n ?_ | refine BS.s (fun h => ?_) (fun h => ?_) | refine And.intro ?_ ?_ | exact Need.au | exact OutS.whole rfl rfl | refine OpK.ca c1 hE ?_ | refine OpK.ca c2 hE ?_ | refine OpK.ca c3 hE ?_ | refine ListO.go gOk hE ?_)
  all_goals first
    | (refine Need.mk ?_; first | rw [n1 (by assumption)] | rw [n2 (by assumption)] | rw [n3 (by assumption)] | rw [n4 (by assumption)] | rw [n5 (by first | assumption | omega)] | rw [n6 (by first | assumption | omega)]; done)
    | (exfalso; simp_all; done)
    | skip
  have l1 : cs.length = 2 := by omega
  have l2 : js.length = 3 := by omega
  have l3 : v1 = true := by assumption
  have l4 : v2 = true := by assumption
  have l5 : v3 = true := by assumption
  refine CodeK.loop gOk hE (fun i : Nat => ⟨[(1, .ptr 1 0 0), (3, vi i)], [(1, bSf e eP eR eL eJ eO eQ eE b c g o E ps l z cs js ts ev sn), (1000000, rI .fro false b), (1000001, rI .fro false c), (1000002, rSL .fro false e g), (1000003, rSL .fro false e o), (1000004, rPin .fro false eP ps), (1000005, rLL .fro false eR eL l), (1000006, rI .fro false z), (1000007, rI .fro false cs), (1000008, rJob .fro false eJ js), (1000009, rQ .fro false eO eQ ts), (1000010, rEv .fro false eE ev)]⟩) (fun i => i ≤ 2 ∧ ∀ j, j < i → sm (cs.getD j 0) = true) (fun i => 2 - i) 0 (by refine leT.of ?_ ?_ rfl <;> repeat' (first | exact trivial | refine And.intro rfl ?_ | refine And.intro (by first | rfl | (simp; done)) ?_)) ⟨Nat.zero_le _, fun j hj => absurd hj (Nat.not_lt_zero _)⟩ ?_
  rintro i ⟨hi, hs⟩
  by_cases hi2 : i < 2
  · have c4 := smS_run (cs.getD i 0)
    have m7 := n7 i (by omega)
    cases hv : sm (cs.getD i 0)
    all_goals rw [hv] at c4
    all_goals (repeat' (first | exact trivial | refine BS.a (fun h => ?_) (fun h => ?_) | refine BS.n ?_ | refine BS.s (fun h => ?_) (fun h => ?_) | refine And.intro ?_ ?_ | exact Need.au | exact OutS.whole rfl rfl | refine OpK.ca c4 hE ?_ | refine ListO.go gOk hE ?_))
    all_goals (try simp only [adN_zero] at *)
    all_goals first
      | (exfalso; omega)
      | (refine Need.mk ?_; omega)
      | (refine Need.mk ?_; rw [n4 (m7 hv)])
      | (refine ⟨i + 1, (by refine leT.of ?_ ?_ rfl <;> repeat' (first | exact trivial | refine And.intro rfl ?_ | refine And.intro (by first | rfl | (simp; done)) ?_)), ⟨by omega, fun j hj => (Nat.lt_or_ge j i).elim (hs j) (fun h9 => (show j = i by omega) ▸ hv)⟩, by first | omega | (dsimp only; omega)⟩)
      | (exfalso; simp_all; done)
      | trace_state
  have l6 : v4 = true := n9 fun j hj => hs j (by omega)
  repeat' (first | exact trivial | refine BS.a (fun h => ?_) (fun h => ?_) | refine BS.n ?_ | refine BS.s (fun h => ?_) (fun h => ?_) | refine And.intro ?_ ?_ | exact Need.au | exact OutS.whole rfl rfl | refine ListO.go gOk hE ?_)
  all_goals first | (exfalso; omega) | skip
  refine CodeK.loop gOk hE (fun i : Nat => ⟨[(1, .ptr 1 0 0), (4, vi i)], [(1, bSf e eP eR eL eJ eO eQ eE b c g o E ps l z cs js ts ev sn), (1000000, rI .fro false b), (1000001, rI .fro false c), (1000002, rSL .fro false e g), (1000003, rSL .fro false e o), (1000004, rPin .fro false eP ps), (1000005, rLL .fro false eR eL l), (1000006, rI .fro false z), (1000007, rI .fro false cs), (1000008, rJob .fro false eJ js), (1000009, rQ .fro false eO eQ ts), (1000010, rEv .fro false eE ev)]⟩) (fun i => i ≤ 3 ∧ ∀ j, j < i → jbB (js.getD j zJob) = true) (fun i => 3 - i) 0 (by refine leT.of ?_ ?_ rfl <;> repeat' (first | exact trivial | refine And.intro rfl ?_ | refine And.intro (by first | rfl | (simp; done)) ?_)) ⟨Nat.zero_le _, fun j hj => absurd hj (Nat.not_lt_zero _)⟩ ?_
  rintro w ⟨hw, hq⟩
  by_cases hw2 : w < 3
  · have m8 := n8 w (by omega)
    have t1 := @jb_t (js.getD w zJob)
    have t2 := @jb_f (js.getD w zJob)
    have t3 := @jb_op (js.getD w zJob)
    have t4 := @jb_z (js.getD w zJob)
    have t5 := @jb_h (js.getD w zJob)
    have t6 := @jb_o (js.getD w zJob)
    have hnx : jbB (js.getD w zJob) = true → ∀ j, j < w + 1 → jbB (js.getD j zJob) = true := fun hv j hj => (Nat.lt_or_ge j w).elim (hq j) (fun h9 => (show j = w by omega) ▸ hv)
    repeat' (first | exact trivial | refine BS.a (fun h => ?_) (fun h => ?_) | refine BS.n ?_ | refine BS.s (fun h => ?_) (fun h => ?_) | refine And.intro ?_ ?_ | exact Need.au | exact OutS.whole rfl rfl | (refine PK.neA (vJob (js.getD w zJob)) (vJob zJob) rfl rfl rfl rfl rfl (by kernel_rfl) (Job_eq _ _) ?_) | (refine OpK.call (OpOkS_run (opJ (js.getD w zJob))) rfl rfl rfl rfl hE ?_ rfl rfl ?_; rotate_left 0; focus ((repeat' (first | exact PsA.lit _ | exact PsA.ref rfl rfl | constructor)); all_goals (fail "ps"))) | (refine OpK.call (smS_run (hJ (js.getD w zJob))) rfl rfl rfl rfl hE ?_ rfl rfl ?_; rotate_left 0; focus ((repeat' (first | exact PsA.lit _ | exact PsA.ref rfl rfl | constructor)); all_goals (fail "ps"))) | (refine OpK.call (smS_run (oJ (js.getD w zJob))) rfl rfl rfl rfl hE ?_ rfl rfl ?_; rotate_left 0; focus ((repeat' (first | exact PsA.lit _ | exact PsA.ref rfl rfl | constructor)); all_goals (fail "ps"))) | refine ListO.go gOk hE ?_)
    all_goals (try simp only [adN_zero] at *)
    all_goals first
      | (exfalso; omega)
      | (refine Need.mk ?_; omega)
      | (refine Need.mk ?_; rw [m8 (by first | exact t3 (by assumption) (by assumption) | exact t4 (by assumption) (by assumption) | exact t5 (by assumption) | exact t6 (by assumption))]; done)
      | (refine ⟨w + 1, (by refine leT.of ?_ ?_ rfl <;> repeat' (first | exact trivial | refine And.intro rfl ?_ | refine And.intro (by first | rfl | (simp; done)) ?_)), ⟨by omega, hnx (by first | exact t1 (by assumption) (by assumption) (by assumption) (by assumption) | exact t2 (by assumption) (by assumption))⟩, by first | omega | (dsimp only; omega)⟩)
      | (exfalso; simp_all; done)
      | trace_state
  rw [n10 l3 l4 l5 l6 l1 l2 fun j hj => hq j (by omega)]
  repeat' (first | exact trivial | refine BS.a (fun h => ?_) (fun h => ?_) | refine BS.n ?_ | refine BS.s (fun h => ?_) (fun h => ?_) | refine And.intro ?_ ?_ | exact Need.au | exact OutS.whole rfl rfl | refine ListO.go gOk hE ?_)
  all_goals first | exact Need.mk rfl | (exfalso; omega) | trace_state
end Go.Proofs.YtnfjpjgmhhmdeaaGreatDoor
end

section
/- A workload is checked by impl. -/
namespace Go.Proofs.YtnfjpjgmhhmdeaaGreatDoor
open Go Go.Tr
set_option maxRecDepth 100000
set_option maxHeartbeats 4000000
set_option linter.unusedVariables false
set_option linter.unusedSimpArgs false
theorem workloadOk_run (eO eQ : Nat) (ts : List (List OpT)) (hn : ts.length ≤ 1048576) (hx : ∀ i, (ts.getD i []).length ≤ 1048576) : RunT Tryz.prog 49 [.one (.c (tQ eO eQ ts))] [] [ob (tdB ts)] [] := by
  cases hr : tdB ts
  all_goals
    unfold tdB at hr
    first | (have hI : tdP ts := of_decide_eq_true hr) | (have hI : ¬ tdP ts := of_decide_eq_false hr)
    clear hr
    refine RunT.of_vc gOk Tryz.func49 rfl rfl (Nat.le_of_ble_eq_true rfl) (by repeat' (first | exact trivial | exact ⟨_, rfl, Nat.le_refl _⟩ | exact Nat.le_of_ble_eq_true rfl | refine And.intro ?_ ?_)) (Nat.le_of_ble_eq_true rfl) rfl (fun F hE => ?_)
    repeat' (first | exact trivial | refine BS.a (fun h => ?_) (fun h => ?_) | refine BS.n ?_ | refine BS.s (fun h => ?_) (fun h => ?_) | refine And.intro ?_ ?_ | exact Need.au | exact OutS.whole rfl rfl | refine ListO.go gOk hE ?_)
    all_goals first
      | (refine Need.mk ?_; rfl)
      | (exfalso; have q := hI.1; omega)
      | skip
    refine CodeK.loop gOk hE (fun i : Nat => ⟨[(10, vr 1000000 ts.length), (11, vi ts.length), (12, vi i)], [(1000000, rQ .fro false eO eQ ts)]⟩) (fun i => i ≤ ts.length ∧ ∀ j, j < i → qOk (ts.getD j [])) (fun i => ts.length - i) 0 (by refine leT.of ?_ ?_ rfl <;> repeat' (first | exact trivial | refine And.intro rfl ?_ | refine And.intro (by first | rfl | (simp; done) | (simp <;> rfl)) ?_)) ⟨Nat.zero_le _, fun j hj => absurd hj (Nat.not_lt_zero _)⟩ ?_
    rintro i ⟨hi, hs⟩
    have hxi := hx i
    repeat' (first | exact trivial | refine BS.a (fun h => ?_) (fun h => ?_) | refine BS.n ?_ | refine BS.s (fun h => ?_) (fun h => ?_) | refine And.intro ?_ ?_ | exact Need.au | exact OutS.whole rfl rfl | refine ListO.go gOk hE ?_)
    all_goals (try simp only [adN_zero] at *)
    all_goals first
      | (exfalso; omega)
      | (exfalso; have q := (hI.2 i (by omega)).1; omega)
      | exact Need.mk rfl
      | (exfalso; exact hI ⟨by omega, fun j hj => hs j (by omega)⟩)
      | skip
    all_goals
      refine CodeK.loop gOk hE (fun k : Nat => ⟨[(10, vr 1000000 ts.length), (11, vi ts.length), (12, vi i), (21, vr 3015000 (ts.getD i []).length), (22, vi (ts.getD i []).length), (23, vi k)], [(3015000, .ty .fro false eO 4 OpT encOp decOp zOp (ts.getD i [])), (1000000, rQ .fro false eO eQ ts)]⟩) (fun k => k ≤ (ts.getD i []).length ∧ ∀ j, j < k → opOk ((ts.getD i []).getD j zOp) = true) (fun k => (ts.getD i []).length - k) 0 (by refine leT.of ?_ ?_ rfl <;> repeat' (first | exact trivial | refine And.intro rfl ?_ | refine And.intro (by first | rfl | (simp; done) | (simp <;> rfl)) ?_)) ⟨Nat.zero_le _, fun j hj => absurd hj (Nat.not_lt_zero _)⟩ ?_
      rintro k ⟨hk, ht⟩
      (repeat' (first | exact trivial | refine BS.a (fun h => ?_) (fun h => ?_) | refine BS.n ?_ | refine BS.s (fun h => ?_) (fun h => ?_) | refine And.intro ?_ ?_ | exact Need.au | exact OutS.whole rfl rfl | (refine OpK.call (OpOkI_run ?_) rfl rfl rfl rfl hE ?_ rfl rfl ?_; rotate_left 1; focus ((repeat' (first | exact PsA.lit _ | exact PsA.ref rfl rfl | constructor)); all_goals (fail "ps"))) | refine ListO.go gOk hE ?_))
      all_goals (try simp only [adN_zero] at *)
      all_goals first
        | (exfalso; omega)
        | (exfalso; have q := (hI.2 i (by omega)).2 k (by omega); simp_all; done)
        | exact Need.mk rfl
        | (refine Need.mk ?_; omega)
        | (refine ⟨k + 1, (by refine leT.of ?_ ?_ rfl <;> repeat' (first | exact trivial | refine And.intro rfl ?_ | refine And.intro (by first | rfl | (simp; done) | (simp <;> rfl)) ?_)), ⟨by omega, fun j hj => by by_cases e : j = k; (subst e; first | assumption | (simp_all; done)); exact ht j (by omega)⟩, by first | omega | (dsimp only; omega)⟩)
        | (refine ⟨i + 1, (by refine leT.of ?_ ?_ rfl <;> repeat' (first | exact trivial | refine And.intro rfl ?_ | refine And.intro (by first | rfl | (simp; done) | (simp <;> rfl)) ?_)), ⟨by omega, fun j hj => by by_cases e : j = i; (subst e; exact ⟨by omega, fun m hm => ht m (by omega)⟩); exact hs j (by omega)⟩, by first | omega | (dsimp only; omega)⟩)
        | trace_state
end Go.Proofs.YtnfjpjgmhhmdeaaGreatDoor
end

section
/- A shelf is checked by impl. -/
namespace Go.Proofs.YtnfjpjgmhhmdeaaGreatDoor
open Go Go.Tr
set_option maxRecDepth 100000
set_option maxHeartbeats 4000000
set_option linter.unusedVariables false
set_option linter.unusedSimpArgs false
theorem ShelfOkI_run (e eP eR eL eJ eO eQ eE : Nat) (b c : List Int) (g o : List (List Int)) (E : Int) (ps : List PinT) (l : List (List Row)) (z : List Int) (cs : List Int) (js : List JobT) (ts : List (List OpT)) (ev : List EvT) (sn : Int) (h : SfT b c g o ps l z cs js ts ev) : RunH Tryz.prog hT 13 [aSf e eP eR eL eJ eO eQ eE b c g o E ps l z cs js ts ev sn] [] [ob (sfB b c g o E ps l z cs js ts sn)] [] := by
  have c1 := BaseOkI_run e eP eR eL b c g o E ps l z h.bt
  have c2 := workloadOk_run eO eQ ts h.ok.hts h.ok.hts'
  have c3 := hzNone_run cs (by have := h.ok.hcs; omega) h.cx
  have hjx := h.jx
  have q3 : (0 ≤ sn ∧ sn ≤ 1000000) ↔ decide (0 ≤ sn ∧ sn ≤ 1000000) = true := ⟨fun q => decide_eq_true q, fun q => of_decide_eq_true q⟩
  obtain ⟨r, hr⟩ : ∃ r, r = sfB b c g o E ps l z cs js ts sn := ⟨_, rfl⟩
  obtain ⟨n1, n2, n3, n4, n5, n6, n7, n8, n9, n10⟩ := sfB_split hr rfl rfl rfl rfl
  rw [← hr]
  clear hr
  generalize bsB b c g o E ps l z = v1 at *
  generalize tdB ts = v2 at *
  generalize decide (0 ≤ sn ∧ sn ≤ 1000000) = v3 at *
  generalize hzA cs = v4 at *
  have q4 : sn < 0 → r = false := fun q => n3 (by cases hv : v3; rfl; exact absurd (q3.2 hv) (by omega))
  have q5 : 1000000 < sn → r = false := fun q => n3 (by cases hv : v3; rfl; exact absurd (q3.2 hv) (by omega))
  have a1 := h.ok.hcs
  have a2 := h.ok.hjs
  have a3 := h.ok.hts
  refine RunH.of_vc gOk Tryz.func13 rfl rfl (Nat.le_of_ble_eq_true rfl) (by repeat' (first | exact trivial | exact ⟨_, rfl, Nat.le_refl _⟩ | exact Nat.le_of_ble_eq_true rfl | refine And.intro ?_ ?_)) (Nat.le_of_ble_eq_true rfl) rfl (fun F hE hA => ?_)
  repeat' (first | exact trivial | refine BS.a (fun h => ?_) (fun h => ?_) | refine BS.n ?_ | refine BS.s (fun h => ?_) (fun h => ?_) | refine And.intro ?_ ?_ | exact Need.au | exact OutS.whole rfl rfl | refine OpK.ca c3 hE ?_ | refine ListO.go gOk hE ?_)
  all_goals first
    | (refine Need.mk ?_; first | rw [n4 (by assumption)] | rw [n5 (by first | assumption | omega)] | rw [n6 (by first | assumption | omega)] | rw [q4 (by first | assumption | omega)] | rw [q5 (by first | assumption | omega)]; done)
    | (exfalso; simp_all; done)
    | skip
  have l1 : cs.length = 2 := by omega
  have l2 : js.length = 3 := by omega
  have l5 : v3 = true := q3.1 ⟨by omega, by omega⟩
  have l6 : v4 = true := by assumption
  refine CodeK.loop gOk hE (fun i : Nat => ⟨[(1, .ptr 1 0 0), (32, vr 1000008 js.length), (33, vi js.length), (34, vi i)], [(1, bSf e eP eR eL eJ eO eQ eE b c g o E ps l z cs js ts ev sn), (1000000, rI .fro false b), (1000001, rI .fro false c), (1000002, rSL .fro false e g), (1000003, rSL .fro false e o), (1000004, rPin .fro false eP ps), (1000005, rLL .fro false eR eL l), (1000006, rI .fro false z), (1000007, rI .fro false cs), (1000008, rJob .fro false eJ js), (1000009, rQ .fro false eO eQ ts), (1000010, rEv .fro false eE ev)]⟩) (fun i => i ≤ js.length ∧ ∀ j, j < i → jbB (js.getD j zJob) = true) (fun i => js.length - i) 0 (by refine leT.of ?_ ?_ rfl <;> repeat' (first | exact trivial | refine And.intro rfl ?_ | refine And.intro (by first | rfl | (simp; done)) ?_)) ⟨Nat.zero_le _, fun j hj => absurd hj (Nat.not_lt_zero _)⟩ ?_
  rintro w ⟨hw, hq⟩
  have m8 := n8 w
  obtain ⟨x1, x2⟩ := hjx w
  by_cases hw2 : w < js.length
  · repeat' (first | exact trivial | refine BS.a (fun h => ?_) (fun h => ?_) | refine BS.n ?_ | refine BS.s (fun h => ?_) (fun h => ?_) | refine And.intro ?_ ?_ | exact Need.au | exact OutS.whole rfl rfl | (refine OpK.call (jobOk_run (js.getD w zJob) x1 x2) rfl rfl rfl rfl hE ?_ rfl rfl ?_; rotate_left 0; focus ((repeat' (first | exact PsA.lit _ | exact PsA.ref rfl rfl | constructor)); all_goals (fail "ps"))) | refine ListO.go gOk hE ?_)
    all_goals (try simp only [adN_zero] at *)
    all_goals first
      | (exfalso; omega)
      | (refine Need.mk ?_; omega)
      | (refine Need.mk ?_; rw [m8 hw2 (by first | assumption | (simp_all; done))]; done)
      | (refine ⟨w + 1, (by refine leT.of ?_ ?_ rfl <;> repeat' (first | exact trivial | refine And.intro rfl ?_ | refine And.intro (by first | rfl | (simp; done)) ?_)), ⟨by omega, fun j hj => (Nat.lt_or_ge j w).elim (hq j) (fun h9 => (show j = w by omega) ▸ (by first | assumption | (simp_all; done)))⟩, by first | omega | (dsimp only; omega)⟩)
      | (exfalso; simp_all; done)
      | trace_state
  have n11 : v1 = true → v2 = true → r = true := fun g1 g2 => n10 g1 g2 l5 l6 l1 l2 fun j hj => hq j (by omega)
  repeat' (first | exact trivial | refine BS.a (fun h => ?_) (fun h => ?_) | refine BS.n ?_ | refine BS.s (fun h => ?_) (fun h => ?_) | refine And.intro ?_ ?_ | exact Need.au | exact OutS.whole rfl rfl | refine OpK.ha c1 hA hE ?_ | refine OpK.ca c2 hE ?_ | refine ListO.go gOk hE ?_)
  all_goals first
    | (exfalso; omega)
    | (refine Need.mk ?_; cases v1 <;> cases v2 <;> simp_all; done)
    | (refine Need.mk ?_; rw [n2 (by assumption)]; done)
    | trace_state
end Go.Proofs.YtnfjpjgmhhmdeaaGreatDoor
end

section
/- The law ShelfOk. -/
namespace Go.Proofs.YtnfjpjgmhhmdeaaGreatDoor
open Go Go.Tr
set_option maxRecDepth 100000
set_option maxHeartbeats 40000000
set_option linter.unusedVariables false
set_option linter.unusedSimpArgs false
theorem ShelfOk_law (b c : List Int) (g o : List (List Int)) (E : Int) (ps : List PinT) (l : List (List Row)) (z : List Int) (cs : List Int) (js : List JobT) (ts : List (List OpT)) (ev : List EvT) (sn : Int) (h1 : SfOk 9223372036854775807 b c g o ps l z cs js ts ev) (mx : ∀ i, (l.flatten.getD i (0, 0)).1 ≤ 9223372036854775807) (zx : ∀ i, z.getD i 0 ≤ 9223372036854775807) (cx : ∀ i, cs.getD i 0 ≤ 9223372036854775807) (jx : ∀ i, hJ (js.getD i zJob) ≤ 9223372036854775807 ∧ oJ (js.getD i zJob) ≤ 9223372036854775807) : RunH Tryz.prog hT 3 [aSf 0 0 0 0 0 0 0 0 b c g o E ps l z cs js ts ev sn] [] [ob true] [] := by
  have c0 := szShelf_run b c g o E ps l z cs js ts ev sn 1048576 (by decide) (by decide) h1
  obtain ⟨q1, q2, q3⟩ := szSf_ok (m := 1048576) (b := b) (c := c) (g := g) (o := o) (ps := ps) (l := l) (z := z) (cs := cs) (js := js) (ts := ts) (ev := ev) (by decide) (by decide)
  by_cases hz : szSf b c g o ps l z cs js ts ev 1048576 < 0
  · generalize szSf b c g o ps l z cs js ts ev 1048576 = zz at *
    refine RunH.of_vc gOk Tryz.func3 rfl rfl (Nat.le_of_ble_eq_true rfl) (by repeat' (first | exact trivial | exact ⟨_, rfl, Nat.le_refl _⟩ | exact Nat.le_of_ble_eq_true rfl | refine And.intro ?_ ?_)) (Nat.le_of_ble_eq_true rfl) rfl (fun F hE hA => ?_)
    repeat' (first | exact trivial | refine BS.a (fun h => ?_) (fun h => ?_) | refine BS.n ?_ | refine BS.s (fun h => ?_) (fun h => ?_) | refine And.intro ?_ ?_ | exact Need.au | exact OutS.whole rfl rfl | refine OpK.ca c0 hE ?_ | refine ListO.go gOk hE ?_)
    all_goals first | exact Need.mk rfl | (exfalso; omega) | trace_state
  · have hB : ¬ szB b c g o ps l z 1048576 < 0 := fun hh => hz (by unfold szSf ch; dsimp only; rw [if_pos hh]; omega)
    have bt := BsT.of_sz (m := 1048576) (by decide) (by decide) hB mx zx
    have k := q3 (by omega)
    generalize szSf b c g o ps l z cs js ts ev 1048576 = zz at *
    have k3 := k.le (m' := 4000000) (by decide)
    have c1 := toShelf_run b c g o E ps l z cs js ts ev sn k
    have c5 := eqShelf_run b c g o E ps l z cs js ts ev sn k3
    have ht : SfT b c g o ps l z cs js ts ev := ⟨k, bt, cx, jx⟩
    have c3 := ShelfOkS_run 178 99 127 182 82 78 112 138 b c g o E ps l z cs js ts ev sn ht
    have c4 := ShelfOkI_run 178 99 127 182 82 78 112 138 b c g o E ps l z cs js ts ev sn ht
    generalize sfB b c g o E ps l z cs js ts sn = r at *
    refine RunH.of_vc gOk Tryz.func3 rfl rfl (Nat.le_of_ble_eq_true rfl) (by repeat' (first | exact trivial | exact ⟨_, rfl, Nat.le_refl _⟩ | exact Nat.le_of_ble_eq_true rfl | refine And.intro ?_ ?_)) (Nat.le_of_ble_eq_true rfl) rfl (fun F hE hA => ?_)
    repeat' (first | exact trivial | refine BS.a (fun h => ?_) (fun h => ?_) | refine BS.n ?_ | refine BS.s (fun h => ?_) (fun h => ?_) | refine And.intro ?_ ?_ | exact Need.au | exact OutS.whole rfl rfl | refine OpK.ca c0 hE ?_ | refine OpK.ca c1 hE ?_ | refine OpK.ca c3 hE ?_ | refine OpK.ha c4 hA hE ?_ | refine OpK.ca c5 hE ?_ | (refine CodeK.draw gOk hE rfl (fun _ _ h => h) (.alt 0 (.alt 1 (.alt 2 (.alt 3 (.take 4 .done) .stop) .stop) .stop) (.alt 1 (.alt 0 (.alt 2 (.alt 3 (.take 4 .done) .stop) .stop) (.alt 2 (.alt 0 (.alt 3 (.take 4 .done) .stop) .stop) .stop)) .stop)) ?_ ?_; focus (decide +kernel)) | refine ListO.go gOk hE ?_)
    all_goals first | exact Need.mk rfl | exact absurd rfl h | (exfalso; omega) | (simp_all; done) | trace_state
end Go.Proofs.YtnfjpjgmhhmdeaaGreatDoor
end
