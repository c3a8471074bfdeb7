import Derived.Test.YtnfjpjgmhhmdeaaGreatDoorZKSB
import Derived.Test.YtnfjpjgmhhmdeaaGreatDoorVS
import Derived.ChangeKeysEq
import Derived.Test.YtnfjpjgmhhmdeaaGreatDoorVZ
import Derived.Lib.AppendZerosOnto
import Derived.Test.YtnfjpjgmhhmdeaaGreatDoorZKSA
section
/- Bytes and the numbers in them. -/
namespace Go.Proofs.YtnfjpjgmhhmdeaaGreatDoor
open Go Go.Tr
set_option maxRecDepth 100000
set_option maxHeartbeats 4000000
set_option linter.unusedVariables false
set_option linter.unusedSimpArgs false
def byP (xs : List Int) (j : Nat) : Prop := 0 ≤ xs.getD j 0 ∧ xs.getD j 0 ≤ 255
def bysOk (xs : List Int) : Prop := xs.length ≤ 1000 ∧ ∀ j, j < xs.length → byP xs j
instance (xs : List Int) (j : Nat) : Decidable (byP xs j) := by unfold byP; infer_instance
instance (xs : List Int) : Decidable (bysOk xs) := by unfold bysOk; infer_instance
theorem isByte_run (x : Int) : RunT Tryz.prog 274 [ti x] [] [ob (decide (0 ≤ x ∧ x ≤ 255))] [] := by
  refine RunT.of_vc gOk Tryz.func274 rfl rfl (Nat.le_of_ble_eq_true rfl) (by repeat' (first | exact trivial | exact ⟨_, rfl, Nat.le_refl _⟩ | exact Nat.le_of_ble_eq_true rfl | refine And.intro ?_ ?_)) (Nat.le_of_ble_eq_true rfl) rfl (fun F hE => ?_)
  repeat' (first | exact trivial | refine BS.a (fun h => ?_) (fun h => ?_) | refine BS.n ?_ | refine BS.s (fun h => ?_) (fun h => ?_) | refine And.intro ?_ ?_ | exact Need.au | exact OutS.whole rfl rfl | refine ListO.go gOk hE ?_)
  all_goals (refine Need.mk ?_; first | rfl | (symm; apply decide_eq_true; omega) | (symm; apply decide_eq_false; omega) | (apply decide_eq_decide.2; omega) | (simp only [beq_iff_eq, Bool.beq_eq_decide_eq] at *; apply decide_eq_decide.2; omega) | (simp; omega))
theorem BytesOkS_run (xs : List Int) (hn : xs.length ≤ 1048576) : RunT Tryz.prog 252 [.one (.c (tI xs))] [] [ob (decide (bysOk xs))] [] := by
  refine RunT.of_vc gOk Tryz.func252 rfl rfl (Nat.le_of_ble_eq_true rfl) (by repeat' (first | exact trivial | exact ⟨_, rfl, Nat.le_refl _⟩ | exact Nat.le_of_ble_eq_true rfl | refine And.intro ?_ ?_)) (Nat.le_of_ble_eq_true rfl) rfl (fun F hE => ?_)
  repeat' (first | exact trivial | refine BS.a (fun h => ?_) (fun h => ?_) | refine BS.n ?_ | refine BS.s (fun h => ?_) (fun h => ?_) | refine And.intro ?_ ?_ | exact Need.au | exact OutS.whole rfl rfl | refine ListO.go gOk hE ?_)
  refine CodeK.loop gOk hE (fun i : Nat => ⟨[(0, vr 1000000 xs.length), (3, vi i)], [(1000000, rI .fro false xs)]⟩) (fun i => i ≤ xs.length ∧ ∀ j, j < i → byP xs j) (fun i => xs.length - i) 0 (by refine leT.of ?_ ?_ rfl <;> repeat' (first | exact trivial | refine And.intro rfl ?_ | refine And.intro (by simp) ?_)) ⟨Nat.zero_le _, fun j hj => absurd hj (Nat.not_lt_zero _)⟩ ?_
  rintro i ⟨hi, hq⟩
  by_cases hi2 : i < xs.length
  · have c1 := inH_run (xs.getD i 0) 0 255
    by_cases hp : byP xs i
    · rw [decide_eq_true (show 0 ≤ xs.getD i 0 ∧ xs.getD i 0 ≤ 255 from hp)] at c1
      repeat' (first | exact trivial | refine BS.a (fun h => ?_) (fun h => ?_) | refine BS.n ?_ | refine BS.s (fun h => ?_) (fun h => ?_) | refine And.intro ?_ ?_ | exact Need.au | exact OutS.whole rfl rfl | refine OpK.ca c1 hE ?_ | refine ListO.go gOk hE ?_)
      all_goals (try simp only [adN_zero] at *)
      all_goals first
        | (exfalso; omega)
        | (refine Need.mk ?_; omega)
        | (refine ⟨i + 1, (by refine leT.of ?_ ?_ rfl <;> repeat' (first | exact trivial | refine And.intro rfl ?_ | refine And.intro (by simp) ?_)), ⟨by omega, fun j hj => (Nat.lt_or_ge j i).elim (hq j) (fun h9 => (show j = i by omega) ▸ hp)⟩, by first | omega | (dsimp only; omega)⟩)
    · rw [decide_eq_false (show ¬ (0 ≤ xs.getD i 0 ∧ xs.getD i 0 ≤ 255) from hp)] at c1
      repeat' (first | exact trivial | refine BS.a (fun h => ?_) (fun h => ?_) | refine BS.n ?_ | refine BS.s (fun h => ?_) (fun h => ?_) | refine And.intro ?_ ?_ | exact Need.au | exact OutS.whole rfl rfl | refine OpK.ca c1 hE ?_ | refine ListO.go gOk hE ?_)
      all_goals (try simp only [adN_zero] at *)
      all_goals first
        | (exfalso; omega)
        | (refine Need.mk ?_; omega)
        | (refine Need.mk ?_; symm; apply decide_eq_false; intro hh; exact hp (hh.2 i hi2))
  · repeat' (first | exact trivial | refine BS.a (fun h => ?_) (fun h => ?_) | refine BS.n ?_ | refine BS.s (fun h => ?_) (fun h => ?_) | refine And.intro ?_ ?_ | exact Need.au | exact OutS.whole rfl rfl | refine ListO.go gOk hE ?_)
    all_goals first
      | (exfalso; omega)
      | (refine Need.mk ?_; apply decide_eq_decide.2; unfold bysOk; constructor <;> intro h9 <;> first | exact ⟨by omega, fun j hj => hq j (by omega)⟩ | (have := h9.1; omega))
theorem BytesOkI_run (xs : List Int) (hn : xs.length ≤ 1048576) : RunT Tryz.prog 256 [.one (.c (tI xs))] [] [ob (decide (bysOk xs))] [] := by
  refine RunT.of_vc gOk Tryz.func256 rfl rfl (Nat.le_of_ble_eq_true rfl) (by repeat' (first | exact trivial | exact ⟨_, rfl, Nat.le_refl _⟩ | exact Nat.le_of_ble_eq_true rfl | refine And.intro ?_ ?_)) (Nat.le_of_ble_eq_true rfl) rfl (fun F hE => ?_)
  repeat' (first | exact trivial | refine BS.a (fun h => ?_) (fun h => ?_) | refine BS.n ?_ | refine BS.s (fun h => ?_) (fun h => ?_) | refine And.intro ?_ ?_ | exact Need.au | exact OutS.whole rfl rfl | refine ListO.go gOk hE ?_)
  · refine Need.mk ?_; symm; apply decide_eq_false; intro hh; have := hh.1; omega
  refine CodeK.loop gOk hE (fun i : Nat => ⟨[(8, vr 1000000 xs.length), (9, vi xs.length), (10, vi i)], [(1000000, rI .fro false xs)]⟩) (fun i => i ≤ xs.length ∧ ∀ j, j < i → byP xs j) (fun i => xs.length - i) 0 (by refine leT.of ?_ ?_ rfl <;> repeat' (first | exact trivial | refine And.intro rfl ?_ | refine And.intro (by simp) ?_)) ⟨Nat.zero_le _, fun j hj => absurd hj (Nat.not_lt_zero _)⟩ ?_
  rintro i ⟨hi, hq⟩
  by_cases hi2 : i < xs.length
  · have c1 := isByte_run (xs.getD i 0)
    by_cases hp : byP xs i
    · rw [decide_eq_true (show 0 ≤ xs.getD i 0 ∧ xs.getD i 0 ≤ 255 from hp)] at c1
      repeat' (first | exact trivial | refine BS.a (fun h => ?_) (fun h => ?_) | refine BS.n ?_ | refine BS.s (fun h => ?_) (fun h => ?_) | refine And.intro ?_ ?_ | exact Need.au | exact OutS.whole rfl rfl | refine OpK.ca c1 hE ?_ | refine ListO.go gOk hE ?_)
      all_goals (try simp only [adN_zero] at *)
      all_goals first
        | (exfalso; omega)
        | (refine Need.mk ?_; omega)
        | (refine ⟨i + 1, (by refine leT.of ?_ ?_ rfl <;> repeat' (first | exact trivial | refine And.intro rfl ?_ | refine And.intro (by simp) ?_)), ⟨by omega, fun j hj => (Nat.lt_or_ge j i).elim (hq j) (fun h9 => (show j = i by omega) ▸ hp)⟩, by first | omega | (dsimp only; omega)⟩)
    · rw [decide_eq_false (show ¬ (0 ≤ xs.getD i 0 ∧ xs.getD i 0 ≤ 255) from hp)] at c1
      repeat' (first | exact trivial | refine BS.a (fun h => ?_) (fun h => ?_) | refine BS.n ?_ | refine BS.s (fun h => ?_) (fun h => ?_) | refine And.intro ?_ ?_ | exact Need.au | exact OutS.whole rfl rfl | refine OpK.ca c1 hE ?_ | refine ListO.go gOk hE ?_)
      all_goals (try simp only [adN_zero] at *)
      all_goals first
        | (exfalso; omega)
        | (refine Need.mk ?_; omega)
        | (refine Need.mk ?_; symm; apply decide_eq_false; intro hh; exact hp (hh.2 i hi2))
  · repeat' (first | exact trivial | refine BS.a (fun h => ?_) (fun h => ?_) | refine BS.n ?_ | refine BS.s (fun h => ?_) (fun h => ?_) | refine And.intro ?_ ?_ | exact Need.au | exact OutS.whole rfl rfl | refine ListO.go gOk hE ?_)
    all_goals first
      | (exfalso; omega)
      | (refine Need.mk ?_; symm; apply decide_eq_true; exact ⟨by omega, fun j hj => hq j (by omega)⟩)
def zeroP (xs : List Int) : Prop := ∀ j, j < xs.length → xs.getD j 0 = 0
instance (xs : List Int) : Decidable (zeroP xs) := by unfold zeroP; infer_instance
/-- The number that so many bytes tell. -/
def ldN (xs : List Int) (p : Nat) : Nat → Int
  | 0 => 0
  | k + 1 => ldN xs p k * 256 + xs.getD (p + k) 0
theorem ldN_bd {xs : List Int} (p : Nat) : ∀ k : Nat, (∀ j, j < xs.length → byP xs j) → p + k ≤ xs.length → k ≤ 7 → 0 ≤ ldN xs p k ∧ ldN xs p k < 256 ^ k
  | 0, _, _, _ => ⟨by show (0 : Int) ≤ 0; omega, by show (0 : Int) < 1; omega⟩
  | k + 1, hq, hl, hk => by
    obtain ⟨h1, h2⟩ := ldN_bd p k hq (by omega) (by omega)
    obtain ⟨h3, h4⟩ := hq (p + k) (by omega)
    have e : (256 : Int) ^ (k + 1) = 256 ^ k * 256 := Int.pow_succ _ _
    unfold ldN
    rw [e]
    omega
theorem pow7 : ∀ k : Nat, k ≤ 6 → (256 : Int) ^ k ≤ 281474976710656 := by
  intro k hk
  match k, hk with
  | 0, _ => decide
  | 1, _ => decide
  | 2, _ => decide
  | 3, _ => decide
  | 4, _ => decide
  | 5, _ => decide
  | 6, _ => decide
theorem l3Load_run (xs : List Int) (p : Int) (k : Nat) (hn : xs.length ≤ 1048576) (hq : ∀ j, j < xs.length → byP xs j) (hp : 0 ≤ p) (hk : k ≤ 7) (hl : p.toNat + k ≤ xs.length) : RunT Tryz.prog 185 [.one (.c (tI xs)), ti p, ti k] [] [oi (ldN xs p.toNat k)] [] := by
  refine RunT.of_vc gOk Tryz.func185 rfl rfl (Nat.le_of_ble_eq_true rfl) (by repeat' (first | exact trivial | exact ⟨_, rfl, Nat.le_refl _⟩ | exact Nat.le_of_ble_eq_true rfl | refine And.intro ?_ ?_)) (Nat.le_of_ble_eq_true rfl) rfl (fun F hE => ?_)
  repeat' (first | exact trivial | refine BS.a (fun h => ?_) (fun h => ?_) | refine BS.n ?_ | refine BS.s (fun h => ?_) (fun h => ?_) | refine And.intro ?_ ?_ | exact Need.au | exact OutS.whole rfl rfl | refine ListO.go gOk hE ?_)
  refine CodeK.loop gOk hE (fun i : Nat => ⟨[(0, vr 1000000 xs.length), (1, vi p), (2, vi k), (7, vi (ldN xs p.toNat i)), (8, vi i)], [(1000000, rI .fro false xs)]⟩) (fun i => i ≤ k) (fun i => k - i) 0 (by refine leT.of ?_ ?_ rfl <;> repeat' (first | exact trivial | refine And.intro rfl ?_ | refine And.intro (by first | rfl | (simp [ldN]; done) | (simp only [ldN]; rfl)) ?_)) (Nat.zero_le _) ?_
  rintro i hi
  by_cases hi2 : i < k
  · obtain ⟨hb1, hb2⟩ := ldN_bd p.toNat i hq (by omega) (by omega)
    have hb3 := pow7 i (by omega)
    have hb4 := hq (p.toNat + i) (by omega)
    unfold byP at hb4
    have hN : ldN xs p.toNat (i + 1) = ldN xs p.toNat i * 256 + xs.getD (p + i).toNat 0 := by rw [show (p + (i : Int)).toNat = p.toNat + i by omega]; rfl
    rw [show p.toNat + i = (p + (i : Int)).toNat by omega] at hb4
    have ha : adN 0 (p + (i : Int)) = (p + (i : Int)).toNat := by rw [adN_eq]; omega
    generalize ldN xs p.toNat i = z at *
    repeat' (first | exact trivial | refine BS.a (fun h => ?_) (fun h => ?_) | refine BS.n ?_ | refine BS.s (fun h => ?_) (fun h => ?_) | refine And.intro ?_ ?_ | exact Need.au | exact OutS.whole rfl rfl | refine ListO.go gOk hE ?_)
    all_goals (try simp only [adN_zero, ha] at *)
    all_goals first
      | (exfalso; omega)
      | (refine Need.mk ?_; omega)
      | (refine ⟨i + 1, (by refine leT.of ?_ ?_ rfl <;> repeat' (first | exact trivial | refine And.intro rfl ?_ | refine And.intro (by first | rfl | (rw [hN]; rfl) | (simp; done)) ?_)), by omega, by first | omega | (dsimp only; omega)⟩)
      | trace_state
  · obtain rfl : i = k := by omega
    repeat' (first | exact trivial | refine BS.a (fun h => ?_) (fun h => ?_) | refine BS.n ?_ | refine BS.s (fun h => ?_) (fun h => ?_) | refine And.intro ?_ ?_ | exact Need.au | exact OutS.whole rfl rfl | refine ListO.go gOk hE ?_)
    all_goals first | (exfalso; omega) | exact Need.mk rfl | trace_state
theorem numAt_run (xs : List Int) (p : Int) (k : Nat) (hn : xs.length ≤ 1048576) (hq : ∀ j, j < xs.length → byP xs j) (hp : 0 ≤ p) (hk : k ≤ 7) (hl : p.toNat + k ≤ xs.length) : RunT Tryz.prog 189 [.one (.c (tI xs)), ti p, ti k] [] [oi (ldN xs p.toNat k)] [] := by
  obtain ⟨q, rfl⟩ := Int.eq_ofNat_of_zero_le hp
  simp only [Int.toNat_natCast] at *
  have e : ((q : Int) + (k : Int)).toNat - (q : Int).toNat = k := by omega
  refine RunT.of_vc gOk Tryz.func189 rfl rfl (Nat.le_of_ble_eq_true rfl) (by repeat' (first | exact trivial | exact ⟨_, rfl, Nat.le_refl _⟩ | exact Nat.le_of_ble_eq_true rfl | refine And.intro ?_ ?_)) (Nat.le_of_ble_eq_true rfl) rfl (fun F hE => ?_)
  repeat' (first | exact trivial | refine BS.a (fun h => ?_) (fun h => ?_) | refine BS.n ?_ | refine BS.s (fun h => ?_) (fun h => ?_) | refine And.intro ?_ ?_ | exact Need.au | exact OutS.whole rfl rfl | refine ListO.go gOk hE ?_)
  all_goals first | (refine Need.mk ?_; omega) | skip
  rw [adN_zero, e]
  repeat' (first | exact trivial | refine BS.a (fun h => ?_) (fun h => ?_) | refine BS.n ?_ | refine BS.s (fun h => ?_) (fun h => ?_) | refine And.intro ?_ ?_ | exact Need.au | exact OutS.whole rfl rfl | refine ListO.go gOk hE ?_)
  refine CodeK.loop gOk hE (fun i : Nat => ⟨[(7, vi (ldN xs q i)), (15, .a (.ref 1000000 q k)), (16, vi k), (17, vi i)], [(1000000, rI .fro false xs)]⟩) (fun i => i ≤ k) (fun i => k - i) 0 (by refine leT.of ?_ ?_ rfl <;> repeat' (first | exact trivial | refine And.intro rfl ?_ | refine And.intro (by first | rfl | (simp [ldN]; done) | (simp only [ldN]; rfl)) ?_)) (Nat.zero_le _) ?_
  rintro i hi
  by_cases hi2 : i < k
  · obtain ⟨hb1, hb2⟩ := ldN_bd q i hq (by omega) (by omega)
    have hb3 := pow7 i (by omega)
    have hb4 := hq (q + i) (by omega)
    unfold byP at hb4
    have hN : ldN xs q (i + 1) = ldN xs q i * 256 + xs.getD (q + i) 0 := rfl
    have ha : adN q (i : Int) = q + i := by rw [adN_eq]; omega
    have ho := or8 (ldN xs q i) (xs.getD (q + i) 0) hb1 (by omega) hb4.1 hb4.2
    rw [← hN] at ho
    generalize ldN xs q i = z at *
    repeat' (first | exact trivial | refine BS.a (fun h => ?_) (fun h => ?_) | refine BS.n ?_ | refine BS.s (fun h => ?_) (fun h => ?_) | refine And.intro ?_ ?_ | exact Need.au | exact OutS.whole rfl rfl | (refine PK.shl8 rfl rfl rfl (by omega) ?_) | refine ListO.go gOk hE ?_)
    all_goals (try simp only [adN_zero, ha] at *)
    all_goals first
      | (exfalso; omega)
      | (refine Need.mk ?_; omega)
      | (refine ⟨i + 1, (by refine leT.of ?_ ?_ rfl <;> repeat' (first | exact trivial | refine And.intro rfl ?_ | refine And.intro (by first | rfl | (rw [← ho]; rfl) | (simp; done)) ?_)), by omega, by first | omega | (dsimp only; omega)⟩)
      | trace_state
  · obtain rfl : i = k := by omega
    repeat' (first | exact trivial | refine BS.a (fun h => ?_) (fun h => ?_) | refine BS.n ?_ | refine BS.s (fun h => ?_) (fun h => ?_) | refine And.intro ?_ ?_ | exact Need.au | exact OutS.whole rfl rfl | refine ListO.go gOk hE ?_)
    all_goals first | (exfalso; omega) | exact Need.mk rfl | trace_state
end Go.Proofs.YtnfjpjgmhhmdeaaGreatDoor
end

section
/- A heap's shape, the class and the generation of a slot. -/
namespace Go.Proofs.YtnfjpjgmhhmdeaaGreatDoor
open Go Go.Tr
set_option maxRecDepth 100000
set_option maxHeartbeats 4000000
set_option linter.unusedVariables false
set_option linter.unusedSimpArgs false
abbrev aH2 (b c : List Int) : TAg := .agg [.c (tI b), .c (tI c)]
abbrev bH (b c : List Int) : TRoot := .box 43 [.ref 1000000 0 b.length, .ref 1000001 0 c.length]
def clP (c : List Int) (j : Nat) : Prop := -1 ≤ c.getD j 0 ∧ c.getD j 0 ≤ 2
instance (c : List Int) (j : Nat) : Decidable (clP c j) := by unfold clP; infer_instance
def shP (b c : List Int) : Prop := b.length = 384 ∧ c.length = 6 ∧ bysOk b ∧ ∀ j, j < 6 → clP c j
instance (b c : List Int) : Decidable (shP b c) := by unfold shP; infer_instance
theorem l7Shape_run (b c : List Int) (hb : b.length ≤ 1048576) (hc : c.length ≤ 1048576) : RunT Tryz.prog 208 [aH2 b c] [] [ob (decide (shP b c))] [] := by
  have c1 := BytesOkS_run b hb
  by_cases h1 : b.length = 384 ∧ c.length = 6 ∧ bysOk b
  · obtain ⟨h1, h2, h3⟩ := h1
    rw [decide_eq_true h3] at c1
    refine RunT.of_vc gOk Tryz.func208 rfl rfl (Nat.le_of_ble_eq_true rfl) (by repeat' (first | exact trivial | exact ⟨_, rfl, Nat.le_refl _⟩ | exact Nat.le_of_ble_eq_true rfl | refine And.intro ?_ ?_)) (Nat.le_of_ble_eq_true rfl) rfl (fun F hE => ?_)
    repeat' (first | exact trivial | refine BS.a (fun h => ?_) (fun h => ?_) | refine BS.n ?_ | refine BS.s (fun h => ?_) (fun h => ?_) | refine And.intro ?_ ?_ | exact Need.au | exact OutS.whole rfl rfl | refine OpK.ca c1 hE ?_ | refine ListO.go gOk hE ?_)
    all_goals (try simp only [adN_zero] at *)
    all_goals first | (exfalso; omega) | skip
    refine CodeK.loop gOk hE (fun i : Nat => ⟨[(1, .ptr 1 0 0), (3, vi i)], [(1, bH b c), (1000000, rI .fro false b), (1000001, rI .fro false c)]⟩) (fun i => i ≤ 6 ∧ ∀ j, j < i → clP c j) (fun i => 6 - i) 0 (by refine leT.of ?_ ?_ rfl <;> repeat' (first | exact trivial | refine And.intro rfl ?_ | refine And.intro (by simp) ?_)) ⟨Nat.zero_le _, fun j hj => absurd hj (Nat.not_lt_zero _)⟩ ?_
    rintro i ⟨hi, hq⟩
    have c2 := inH_run (c.getD i 0) (-1) 2
    by_cases hi2 : i < 6
    · by_cases hp : clP c i
      · rw [decide_eq_true (show -1 ≤ c.getD i 0 ∧ c.getD i 0 ≤ 2 from hp)] at c2
        repeat' (first | exact trivial | refine BS.a (fun h => ?_) (fun h => ?_) | refine BS.n ?_ | refine BS.s (fun h => ?_) (fun h => ?_) | refine And.intro ?_ ?_ | exact Need.au | exact OutS.whole rfl rfl | refine OpK.ca c2 hE ?_ | refine ListO.go gOk hE ?_)
        all_goals (try simp only [adN_zero] at *)
        all_goals first
          | (exfalso; omega)
          | (refine Need.mk ?_; omega)
          | (refine ⟨i + 1, (by refine leT.of ?_ ?_ rfl <;> repeat' (first | exact trivial | refine And.intro rfl ?_ | refine And.intro (by simp) ?_)), ⟨by omega, fun j hj => (Nat.lt_or_ge j i).elim (hq j) (fun h9 => (show j = i by omega) ▸ hp)⟩, by first | omega | (dsimp only; omega)⟩)
      · rw [decide_eq_false (show ¬ (-1 ≤ c.getD i 0 ∧ c.getD i 0 ≤ 2) from hp)] at c2
        repeat' (first | exact trivial | refine BS.a (fun h => ?_) (fun h => ?_) | refine BS.n ?_ | refine BS.s (fun h => ?_) (fun h => ?_) | refine And.intro ?_ ?_ | exact Need.au | exact OutS.whole rfl rfl | refine OpK.ca c2 hE ?_ | refine ListO.go gOk hE ?_)
        all_goals (try simp only [adN_zero] at *)
        all_goals first
          | (exfalso; omega)
          | (refine Need.mk ?_; omega)
          | (refine Need.mk ?_; symm; apply decide_eq_false; intro hh; exact hp (hh.2.2.2 i hi2))
    · repeat' (first | exact trivial | refine BS.a (fun h => ?_) (fun h => ?_) | refine BS.n ?_ | refine BS.s (fun h => ?_) (fun h => ?_) | refine And.intro ?_ ?_ | exact Need.au | exact OutS.whole rfl rfl | refine ListO.go gOk hE ?_)
      all_goals first
        | (exfalso; omega)
        | (refine Need.mk ?_; symm; apply decide_eq_true; exact ⟨h1, h2, h3, fun j hj => hq j (by omega)⟩)
  · rw [decide_eq_false (show ¬ shP b c from fun h => h1 ⟨h.1, h.2.1, h.2.2.1⟩)]
    by_cases h3 : bysOk b
    · rw [decide_eq_true h3] at c1
      refine RunT.of_vc gOk Tryz.func208 rfl rfl (Nat.le_of_ble_eq_true rfl) (by repeat' (first | exact trivial | exact ⟨_, rfl, Nat.le_refl _⟩ | exact Nat.le_of_ble_eq_true rfl | refine And.intro ?_ ?_)) (Nat.le_of_ble_eq_true rfl) rfl (fun F hE => ?_)
      repeat' (first | exact trivial | refine BS.a (fun h => ?_) (fun h => ?_) | refine BS.n ?_ | refine BS.s (fun h => ?_) (fun h => ?_) | refine And.intro ?_ ?_ | exact Need.au | exact OutS.whole rfl rfl | refine OpK.ca c1 hE ?_ | refine ListO.go gOk hE ?_)
      all_goals first | exact Need.mk rfl | (exfalso; exact h1 ⟨by omega, by omega, h3⟩) | trace_state
    · rw [decide_eq_false h3] at c1
      refine RunT.of_vc gOk Tryz.func208 rfl rfl (Nat.le_of_ble_eq_true rfl) (by repeat' (first | exact trivial | exact ⟨_, rfl, Nat.le_refl _⟩ | exact Nat.le_of_ble_eq_true rfl | refine And.intro ?_ ?_)) (Nat.le_of_ble_eq_true rfl) rfl (fun F hE => ?_)
      repeat' (first | exact trivial | refine BS.a (fun h => ?_) (fun h => ?_) | refine BS.n ?_ | refine BS.s (fun h => ?_) (fun h => ?_) | refine And.intro ?_ ?_ | exact Need.au | exact OutS.whole rfl rfl | refine OpK.ca c1 hE ?_ | refine ListO.go gOk hE ?_)
      all_goals first | exact Need.mk rfl | (exfalso; omega) | trace_state
theorem shapeOk_run (b c : List Int) (hb : b.length ≤ 1048576) (hc : c.length ≤ 1048576) : RunT Tryz.prog 214 [aH2 b c] [] [ob (decide (shP b c))] [] := by
  have c1 := BytesOkI_run b hb
  by_cases h1 : b.length = 384 ∧ c.length = 6 ∧ bysOk b
  · obtain ⟨h1, h2, h3⟩ := h1
    rw [decide_eq_true h3] at c1
    refine RunT.of_vc gOk Tryz.func214 rfl rfl (Nat.le_of_ble_eq_true rfl) (by repeat' (first | exact trivial | exact ⟨_, rfl, Nat.le_refl _⟩ | exact Nat.le_of_ble_eq_true rfl | refine And.intro ?_ ?_)) (Nat.le_of_ble_eq_true rfl) rfl (fun F hE => ?_)
    repeat' (first | exact trivial | refine BS.a (fun h => ?_) (fun h => ?_) | refine BS.n ?_ | refine BS.s (fun h => ?_) (fun h => ?_) | refine And.intro ?_ ?_ | exact Need.au | exact OutS.whole rfl rfl | refine OpK.ca c1 hE ?_ | refine ListO.go gOk hE ?_)
    all_goals (try simp only [adN_zero] at *)
    all_goals first | (exfalso; omega) | skip
    refine CodeK.loop gOk hE (fun i : Nat => ⟨[(1, .ptr 1 0 0), (22, vr 1000001 c.length), (23, vi c.length), (24, vi i)], [(1, bH b c), (1000000, rI .fro false b), (1000001, rI .fro false c)]⟩) (fun i => i ≤ 6 ∧ ∀ j, j < i → clP c j) (fun i => 6 - i) 0 (by refine leT.of ?_ ?_ rfl <;> repeat' (first | exact trivial | refine And.intro rfl ?_ | refine And.intro (by simp) ?_)) ⟨Nat.zero_le _, fun j hj => absurd hj (Nat.not_lt_zero _)⟩ ?_
    rintro i ⟨hi, hq⟩
    have c2 := clsH_run (c.getD i 0)
    by_cases hi2 : i < 6
    · by_cases hp : clP c i
      · have hp' : -1 ≤ c.getD i 0 ∧ c.getD i 0 ≤ 2 := hp
        by_cases hk : c.getD i 0 = -1
        · repeat' (first | exact trivial | refine BS.a (fun h => ?_) (fun h => ?_) | refine BS.n ?_ | refine BS.s (fun h => ?_) (fun h => ?_) | refine And.intro ?_ ?_ | exact Need.au | exact OutS.whole rfl rfl | refine OpK.ca c2 hE ?_ | refine ListO.go gOk hE ?_)
          all_goals (try simp only [adN_zero] at *)
          all_goals first
            | (exfalso; omega)
            | (refine Need.mk ?_; omega)
            | (refine ⟨i + 1, (by refine leT.of ?_ ?_ rfl <;> repeat' (first | exact trivial | refine And.intro rfl ?_ | refine And.intro (by simp) ?_)), ⟨by omega, fun j hj => (Nat.lt_or_ge j i).elim (hq j) (fun h9 => (show j = i by omega) ▸ hp)⟩, by first | omega | (dsimp only; omega)⟩)
        · rw [decide_eq_true (show 0 ≤ c.getD i 0 ∧ c.getD i 0 < 3 by omega)] at c2
          repeat' (first | exact trivial | refine BS.a (fun h => ?_) (fun h => ?_) | refine BS.n ?_ | refine BS.s (fun h => ?_) (fun h => ?_) | refine And.intro ?_ ?_ | exact Need.au | exact OutS.whole rfl rfl | refine OpK.ca c2 hE ?_ | refine ListO.go gOk hE ?_)
          all_goals (try simp only [adN_zero] at *)
          all_goals first
            | (exfalso; omega)
            | (refine Need.mk ?_; omega)
            | (refine ⟨i + 1, (by refine leT.of ?_ ?_ rfl <;> repeat' (first | exact trivial | refine And.intro rfl ?_ | refine And.intro (by simp) ?_)), ⟨by omega, fun j hj => (Nat.lt_or_ge j i).elim (hq j) (fun h9 => (show j = i by omega) ▸ hp)⟩, by first | omega | (dsimp only; omega)⟩)
      · have hp' : ¬ (-1 ≤ c.getD i 0 ∧ c.getD i 0 ≤ 2) := hp
        rw [decide_eq_false (show ¬ (0 ≤ c.getD i 0 ∧ c.getD i 0 < 3) by omega)] at c2
        repeat' (first | exact trivial | refine BS.a (fun h => ?_) (fun h => ?_) | refine BS.n ?_ | refine BS.s (fun h => ?_) (fun h => ?_) | refine And.intro ?_ ?_ | exact Need.au | exact OutS.whole rfl rfl | refine OpK.ca c2 hE ?_ | refine ListO.go gOk hE ?_)
        all_goals (try simp only [adN_zero] at *)
        all_goals first
          | (exfalso; omega)
          | (refine Need.mk ?_; omega)
          | (refine Need.mk ?_; symm; apply decide_eq_false; intro hh; exact hp (hh.2.2.2 i hi2))
    · repeat' (first | exact trivial | refine BS.a (fun h => ?_) (fun h => ?_) | refine BS.n ?_ | refine BS.s (fun h => ?_) (fun h => ?_) | refine And.intro ?_ ?_ | exact Need.au | exact OutS.whole rfl rfl | refine ListO.go gOk hE ?_)
      all_goals first
        | (exfalso; omega)
        | (refine Need.mk ?_; symm; apply decide_eq_true; exact ⟨h1, h2, h3, fun j hj => hq j (by omega)⟩)
  · rw [decide_eq_false (show ¬ shP b c from fun h => h1 ⟨h.1, h.2.1, h.2.2.1⟩)]
    by_cases h3 : bysOk b
    · rw [decide_eq_true h3] at c1
      refine RunT.of_vc gOk Tryz.func214 rfl rfl (Nat.le_of_ble_eq_true rfl) (by repeat' (first | exact trivial | exact ⟨_, rfl, Nat.le_refl _⟩ | exact Nat.le_of_ble_eq_true rfl | refine And.intro ?_ ?_)) (Nat.le_of_ble_eq_true rfl) rfl (fun F hE => ?_)
      repeat' (first | exact trivial | refine BS.a (fun h => ?_) (fun h => ?_) | refine BS.n ?_ | refine BS.s (fun h => ?_) (fun h => ?_) | refine And.intro ?_ ?_ | exact Need.au | exact OutS.whole rfl rfl | refine OpK.ca c1 hE ?_ | refine ListO.go gOk hE ?_)
      all_goals first | exact Need.mk rfl | (exfalso; exact h1 ⟨by omega, by omega, h3⟩) | trace_state
    · rw [decide_eq_false h3] at c1
      refine RunT.of_vc gOk Tryz.func214 rfl rfl (Nat.le_of_ble_eq_true rfl) (by repeat' (first | exact trivial | exact ⟨_, rfl, Nat.le_refl _⟩ | exact Nat.le_of_ble_eq_true rfl | refine And.intro ?_ ?_)) (Nat.le_of_ble_eq_true rfl) rfl (fun F hE => ?_)
      repeat' (first | exact trivial | refine BS.a (fun h => ?_) (fun h => ?_) | refine BS.n ?_ | refine BS.s (fun h => ?_) (fun h => ?_) | refine And.intro ?_ ?_ | exact Need.au | exact OutS.whole rfl rfl | refine OpK.ca c1 hE ?_ | refine ListO.go gOk hE ?_)
      all_goals first | exact Need.mk rfl | (exfalso; omega) | trace_state
end Go.Proofs.YtnfjpjgmhhmdeaaGreatDoor
end

section
namespace Go.Proofs.YtnfjpjgmhhmdeaaGreatDoor
open Go Go.Tr
set_option maxRecDepth 100000
set_option maxHeartbeats 4000000
set_option linter.unusedVariables false
set_option linter.unusedSimpArgs false
/-- The class of a slot, out of the pages' classes. -/
def clIn (c : List Int) (s : Int) : Int := if (0 ≤ s ∧ s < 24) ∧ s % 4 < perC (c.getD (s / 4).toNat 0) then c.getD (s / 4).toNat 0 else -1
def gnIn (b c : List Int) (s : Int) : Int := if clIn c s = -1 then 0 else ldN b (genA s (clIn c s)).toNat 4
theorem clIn_yes {c : List Int} {s : Int} (h1 : 0 ≤ s ∧ s < 24) (h2 : s % 4 < perC (c.getD (s / 4).toNat 0)) : clIn c s = c.getD (s / 4).toNat 0 := if_pos ⟨h1, h2⟩
theorem clIn_no {c : List Int} {s : Int} (h : ¬ ((0 ≤ s ∧ s < 24) ∧ s % 4 < perC (c.getD (s / 4).toNat 0))) : clIn c s = -1 := if_neg h
theorem clIn_some {c : List Int} {s : Int} (h : clIn c s ≠ -1) : (0 ≤ s ∧ s < 24) ∧ s % 4 < perC (clIn c s) ∧ c.getD (s / 4).toNat 0 = clIn c s ∧ (0 ≤ clIn c s ∧ clIn c s ≤ 2) ∧ genA s (clIn c s) = s / 4 * 64 + 8 + s % 4 * strC (clIn c s) ∧ 0 ≤ genA s (clIn c s) ∧ genA s (clIn c s) + 4 + szC (clIn c s) ≤ 384 := by
  by_cases hh : (0 ≤ s ∧ s < 24) ∧ s % 4 < perC (c.getD (s / 4).toNat 0)
  · rw [clIn_yes hh.1 hh.2]
    rw [genA_yes hh.1 hh.2]
    refine ⟨hh.1, hh.2, rfl, ?_, rfl, ?_⟩ <;> rcases cls4 (c.getD (s / 4).toNat 0) with ⟨h1, h2, h3, h4⟩ | ⟨h1, h2, h3, h4⟩ | ⟨h1, h2, h3, h4⟩ | ⟨h1, h2, h3, h4⟩ <;> (try rw [h3]) <;> (try rw [h2]) <;> omega
  · exact absurd (clIn_no hh) h
theorem classIn_run (b c : List Int) (s : Int) (hc : c.length = 6) : RunH Tryz.prog hT 187 [aH2 b c, ti s] [] [oi (clIn c s)] [] := by
  have c0 := slotH_run s
  have c1 := PageOfI_run s
  have c3 := GenAtI_run s (c.getD (s / 4).toNat 0)
  by_cases hs : 0 ≤ s ∧ s < 24
  · rw [decide_eq_true hs] at c0
    rw [pg_yes hs] at c1
    by_cases h : s % 4 < perC (c.getD (s / 4).toNat 0)
    · rw [clIn_yes hs h]
      have hg := genA_yes hs h
      have h9 : 0 ≤ s % 4 * strC (c.getD (s / 4).toNat 0) := by rcases cls4 (c.getD (s / 4).toNat 0) with ⟨h1, h2, h3, h4⟩ | ⟨h1, h2, h3, h4⟩ | ⟨h1, h2, h3, h4⟩ | ⟨h1, h2, h3, h4⟩ <;> rw [h3] <;> omega
      obtain ⟨q, hd⟩ := Int.eq_ofNat_of_zero_le (show 0 ≤ s / 4 by omega)
      have hd2 : (s / 4).toNat = q := by omega
      rw [hd] at c1
      rw [hd2] at c3 hg h9 h
      rw [hd2]
      generalize genA s (c.getD q 0) = g at *
      refine RunH.of_vc gOk Tryz.func187 rfl rfl (Nat.le_of_ble_eq_true rfl) (by repeat' (first | exact trivial | exact ⟨_, rfl, Nat.le_refl _⟩ | exact Nat.le_of_ble_eq_true rfl | refine And.intro ?_ ?_)) (Nat.le_of_ble_eq_true rfl) rfl (fun F hE hA => ?_)
      repeat' (first | exact trivial | refine BS.a (fun h => ?_) (fun h => ?_) | refine BS.n ?_ | refine BS.s (fun h => ?_) (fun h => ?_) | refine And.intro ?_ ?_ | exact Need.au | exact OutS.whole rfl rfl | (refine CodeK.draw gOk hE rfl (fun _ _ h => h) (.take 0 (.take 2 (.alt 1 (.alt 3 (.take 4 (.alt 5 (.take 6 .done) .stop)) .stop) (.alt 3 (.alt 1 (.take 4 (.alt 5 (.take 6 .done) .stop)) .stop) .stop)))) ?_ ?_; focus (decide +kernel)) | refine OpK.ca c0 hE ?_ | refine OpK.ca c1 hE ?_ | refine OpK.ha c3 hA hE ?_ | refine ListO.go gOk hE ?_)
      all_goals (try simp only [adN_zero] at *)
      all_goals first | (exfalso; omega) | (refine Need.mk ?_; first | omega | rfl) | trace_state
    · rw [clIn_no (fun hh => h hh.2)]
      rw [genA_no (fun hh => h hh.2)] at c3
      obtain ⟨q, hd⟩ := Int.eq_ofNat_of_zero_le (show 0 ≤ s / 4 by omega)
      have hd2 : (s / 4).toNat = q := by omega
      rw [hd] at c1
      rw [hd2] at c3
      refine RunH.of_vc gOk Tryz.func187 rfl rfl (Nat.le_of_ble_eq_true rfl) (by repeat' (first | exact trivial | exact ⟨_, rfl, Nat.le_refl _⟩ | exact Nat.le_of_ble_eq_true rfl | refine And.intro ?_ ?_)) (Nat.le_of_ble_eq_true rfl) rfl (fun F hE hA => ?_)
      repeat' (first | exact trivial | refine BS.a (fun h => ?_) (fun h => ?_) | refine BS.n ?_ | refine BS.s (fun h => ?_) (fun h => ?_) | refine And.intro ?_ ?_ | exact Need.au | exact OutS.whole rfl rfl | (refine CodeK.draw gOk hE rfl (fun _ _ h => h) (.take 0 (.take 2 (.alt 1 (.alt 3 (.take 4 (.alt 5 (.take 6 .done) .stop)) .stop) (.alt 3 (.alt 1 (.take 4 (.alt 5 (.take 6 .done) .stop)) .stop) .stop)))) ?_ ?_; focus (decide +kernel)) | refine OpK.ca c0 hE ?_ | refine OpK.ca c1 hE ?_ | refine OpK.ha c3 hA hE ?_ | refine ListO.go gOk hE ?_)
      all_goals (try simp only [adN_zero] at *)
      all_goals first | (exfalso; omega) | (refine Need.mk ?_; first | omega | rfl) | trace_state
  · rw [decide_eq_false hs] at c0
    rw [clIn_no (fun hh => hs hh.1)]
    refine RunH.of_vc gOk Tryz.func187 rfl rfl (Nat.le_of_ble_eq_true rfl) (by repeat' (first | exact trivial | exact ⟨_, rfl, Nat.le_refl _⟩ | exact Nat.le_of_ble_eq_true rfl | refine And.intro ?_ ?_)) (Nat.le_of_ble_eq_true rfl) rfl (fun F hE hA => ?_)
    repeat' (first | exact trivial | refine BS.a (fun h => ?_) (fun h => ?_) | refine BS.n ?_ | refine BS.s (fun h => ?_) (fun h => ?_) | refine And.intro ?_ ?_ | exact Need.au | exact OutS.whole rfl rfl | refine OpK.ca c0 hE ?_ | refine ListO.go gOk hE ?_)
    all_goals first | exact Need.mk rfl | (exfalso; omega) | trace_state
theorem genIn_run (b c : List Int) (s : Int) (h : shP b c) : RunH Tryz.prog hT 125 [aH2 b c, ti s] [] [oi (gnIn b c s)] [] := by
  obtain ⟨h1, h2, h3, h4⟩ := h
  have c1 := classIn_run b c s h2
  unfold gnIn
  by_cases hs : clIn c s = -1
  · rw [if_pos hs]
    refine RunH.of_vc gOk Tryz.func125 rfl rfl (Nat.le_of_ble_eq_true rfl) (by repeat' (first | exact trivial | exact ⟨_, rfl, Nat.le_refl _⟩ | exact Nat.le_of_ble_eq_true rfl | refine And.intro ?_ ?_)) (Nat.le_of_ble_eq_true rfl) rfl (fun F hE hA => ?_)
    repeat' (first | exact trivial | refine BS.a (fun h => ?_) (fun h => ?_) | refine BS.n ?_ | refine BS.s (fun h => ?_) (fun h => ?_) | refine And.intro ?_ ?_ | exact Need.au | exact OutS.whole rfl rfl | refine OpK.ha c1 hA hE ?_ | refine ListO.go gOk hE ?_)
    all_goals first | exact Need.mk rfl | (exfalso; omega) | trace_state
  · have hk := clIn_some hs
    have c2 := GenAtI_run s (clIn c s)
    have c3 := numAt_run b (genA s (clIn c s)) 4 (by omega) h3.2 hk.2.2.2.2.2.1 (by omega) (by have := hk.2.2.2.2.2; rcases cls4 (clIn c s) with h | h | h | h <;> omega)
    rw [if_neg hs]
    refine RunH.of_vc gOk Tryz.func125 rfl rfl (Nat.le_of_ble_eq_true rfl) (by repeat' (first | exact trivial | exact ⟨_, rfl, Nat.le_refl _⟩ | exact Nat.le_of_ble_eq_true rfl | refine And.intro ?_ ?_)) (Nat.le_of_ble_eq_true rfl) rfl (fun F hE hA => ?_)
    repeat' (first | exact trivial | refine BS.a (fun h => ?_) (fun h => ?_) | refine BS.n ?_ | refine BS.s (fun h => ?_) (fun h => ?_) | refine And.intro ?_ ?_ | exact Need.au | exact OutS.whole rfl rfl | (refine CodeK.draw gOk hE rfl (fun _ _ h => h) (.take 0 (.take 2 (.take 3 (.alt 1 (.alt 4 (.alt 5 (.take 6 .done) .stop) .stop) (.alt 4 (.alt 1 (.alt 5 (.take 6 .done) .stop) .stop) .stop))))) ?_ ?_; focus (decide +kernel)) | refine OpK.ha c1 hA hE ?_ | refine OpK.ha c2 hA hE ?_ | refine OpK.ca c3 hE ?_ | refine ListO.go gOk hE ?_)
    all_goals first | exact Need.mk rfl | (exfalso; omega) | trace_state
end Go.Proofs.YtnfjpjgmhhmdeaaGreatDoor
end

section
/- An array out of a slice: a run of literal elements read together. -/
set_option linter.unusedVariables false
set_option linter.unusedSimpArgs false
universe u
namespace Go.Tr
open Go Go.RowKit
section
variable {P : Program} {F : Fm} {N : Nat} {G : Gt} {o : Oper} {τ σ : TS} {k : TS → Prop}
theorem OpK.toArr (hG : GOk P G) {t m e ke kt : Nat} {z : List ZC} {x : Operand} {κ lo n : Nat} {R : TRoot} (hop : o.op = .sliceToArrayPointer t x) (hg : o.guard = none) (hd : okD N o.dst = true) (hx : evS σ x = .a (.ref κ lo n)) (ht : G.T t = some ⟨kt, .arr m e ke, z⟩) (hR : lkR σ.r κ = some R) (hm : 0 < n ∧ m ≤ n)
    (h : stO o σ (.ptr κ lo 0) k) : OpK P F N o σ k :=
  ⟨fun ops Q rest kk => by
    obtain ⟨h1, inf, h2, h3⟩ := (hG.T t _ ht).kind
    refine AL.val hg hd (fun a w ω β hr => ?_) (stO_ok hd kk h)
    have hv := hr.ev x
    rw [evS_eq, hx] at hv
    obtain ⟨R', e1, _, A, c, e2, e3, _, _, _, e5⟩ := hv
    obtain ⟨g, o', e6, e7⟩ := e5 (by omega)
    refine ⟨.pointer A, ?_, R', g, _, e1, ⟨o', e6, rfl⟩, by rw [e7]; rfl⟩
    generalize a.eval = ρ at e2 ⊢
    simp [execOp, hop, go_sem, e2, e7, Instr.arrayAt, underlying, h1]
    omega⟩
theorem OpK.ldArr (hG : GOk P G) {t m κ lo e : Nat} {oo : RO} {f : Bool} {kd : TK} {z : List ZC} {x : Operand} {X : Type} {enc : X → Nat → TC} {dec : List Value → Option X} {d : X} {xs : List X} (v : X → Value) (hop : o.op = .load t x) (hg : o.guard = none) (hd : okD N o.dst = true) (hx : evS σ x = .ptr κ lo 0) (ht : G.T t = some ⟨m, kd, z⟩) (hk : agK kd = true)
    (hR : lkR σ.r κ = some (.ty oo f e 1 X enc dec d xs)) (hl : lo + m ≤ xs.length) (he : ∀ x, enc x 0 = .lit (v x))
    (h : stO o σ (.agg ((List.range m).map fun q => .lit (v (xs.getD (lo + q) d)))) k) : OpK P F N o σ k :=
  ⟨fun ops Q rest kk => by
    have hF := hG.T t _ ht
    obtain ⟨D, h1, h2⟩ : ∃ D, P.underlying t = some D ∧ scD D = false := by
      have h := hF.kind
      cases kd with
      | st pl => obtain ⟨fs, h1, _⟩ := h; exact ⟨_, h1, rfl⟩
      | arr n e ke => exact ⟨_, h.1, rfl⟩
      | sc => cases hk
      | sl _ _ _ => cases hk
      | ot => cases hk
    obtain ⟨inf, zv, h3, h4, _⟩ := hF.info
    have hRe := TS.rt_some hR
    refine AL.val hg hd (fun a w ω β hr => ?_) (stO_ok hd kk h)
    have hv := hr.ev x
    rw [evS_eq, hx] at hv
    obtain ⟨R', g, j, e1, ⟨o', e2, e3⟩, e4⟩ := hv
    rw [hRe] at e1; injection e1 with e1; subst e1
    have hcell : ∀ q, q < m → w.cell? ⟨g, j + q, none⟩ = some (v (xs.getD (lo + q) d)) ∧ scal (v (xs.getD (lo + q) d)) = true := by
      intro q hq
      obtain ⟨g', j', u, ⟨o2, f1, f2⟩, k2, k3⟩ := hr.load hRe (i := lo + q) (r := 0) (show lo + q < xs.length by omega) (show 0 < 1 by omega) rfl
      rw [e2] at f1; injection f1 with f1; injection f1 with f3 f4 _
      subst f3 f4
      have e5 : j = o' + (lo * 1 + 0) := e3
      have f5 : j' = o' + ((lo + q) * 1 + 0) := f2
      have : j' = j + q := by omega
      subst this
      have ha : (TRoot.ty oo f e 1 X enc dec d xs).er.atom κ (lo + q) 0 = .lit (v (xs.getD (lo + q) d)) := by
        show (match Cl.cl ((enc (xs.getD (lo + q) d) 0).er (owOf oo)) with
          | .ref κ' lo n => At.ref κ' lo n
          | .cl (.lit v) => .lit v
          | .cl (.sl _ _ _ _ _) => .spot κ (lo + q) 0
          | .cl _ => .any) = _
        rw [he]; rfl
      rw [ha] at k3
      obtain ⟨rfl, k4⟩ := k3
      exact ⟨k2, k4⟩
    refine ⟨.agg ((List.range m).map fun q => v (xs.getD (lo + q) d)).toArray, run_load _ w hop e4 (run_loadVar_agg (P := P) (w := w) (g := g) (j := j) h1 h2 h3 (show inf.size = m from h4) (fun q => v (xs.getD (lo + q) d)) (fun q hq => (hcell q hq).1)), _, rfl, by simp, fun i x hi => ?_⟩
    rw [List.getElem?_map, List.getElem?_map] at hi
    by_cases hlt : i < m
    · rw [List.getElem?_range hlt] at hi
      injection hi with hi; subst hi
      refine ⟨v (xs.getD (lo + i) d), ?_, rfl, (hcell i hlt).2⟩
      simp [List.getElem?_range hlt]
    · rw [List.getElem?_eq_none (by simp; omega)] at hi
      cases hi⟩
theorem OpK.buildArr (hG : GOk P G) {t m n e ke : Nat} {z : List ZC} {parts : Array (Nat × Operand)} {qs : List (Nat × List At)} (hop : o.op = .build t parts) (hg : o.guard = none) (hd : okD N o.dst = true)
    (ht : G.T t = some ⟨m, .arr n e ke, z⟩) (hz : z.all ZC.ok = true) (hq : partsQ σ (fun i => some (i * ke, ke)) parts.toList = some qs) (hok : fillOk m qs = true) (h : stO o σ (.agg (fillA (z.map ZC.at_) qs)) k) : OpK P F N o σ k :=
  ⟨fun ops Q rest kk => by
    have hp := partsQ_ok hq
    have hF := hG.T t _ ht
    obtain ⟨inf, zv, h3, h4, h5, h6⟩ := hF.info
    have hlen : z.length = m := hF.zl
    obtain ⟨h1, ie, h7, h8⟩ := hF.kind
    refine AL.val hg hd (fun a w ω β h => ?_) (stO_ok hd kk h)
    have hr0 : FillR σ.er β w zv.cells (z.map ZC.at_) := by
      refine ⟨by rw [← Array.length_toList, h6]; simp, fun j x hj => ?_⟩
      rw [List.getElem?_map] at hj
      cases hq : z[j]? with
      | none => rw [hq] at hj; cases hj
      | some zc =>
        rw [hq] at hj; injection hj with hj
        subst hj
        refine ⟨zc.val, ?_, ZC.arel (List.all_eq_true.1 hz _ (List.mem_of_getElem? hq))⟩
        rw [← Array.getElem?_toList, h6]
        show (z.map ZC.val)[j]? = _
        rw [List.getElem?_map, hq]; rfl
    obtain ⟨c', k1, k2, k3⟩ := fill_rel h parts.toList qs zv.cells (z.map ZC.at_) hp (by simpa [hlen] using hok) hr0
    have est := fillA_st _ _ (zat_st z) (partsQ_st hq)
    refine ⟨.agg c', ?_, c', rfl, by rw [est]; exact k2.1, by rw [est]; exact k2.2⟩
    have hbuilt : P.built t ((parts.map fun (i, x) => (i, a.eval x)).toList) = some c' := by
      unfold Program.built
      rw [h3, h1]
      simp only [h5, h7, h8]
      rw [Array.toList_map, ← k1]
    have hrun := run_build w t (parts.map fun (i, x) => (i, a.eval x)) c' hbuilt
    unfold execOp
    rw [hop]
    show ((Instr.build t (parts.map fun (i, x) => (i, a.eval x)) >>= fun v => pure (Next.value v)) : Sem Next).run P w = _
    rw [Sem.run_bind, hrun]
    rfl⟩
theorem arr_items {e : TypeId} {d : Nat} {w : World} (he : P.underlying e = some (.int .i64)) (f g : Nat → Int) (n : Nat) (xs ys : Array Value) (hx : ∀ i, i < n → xs[i]? = some (.int .i64 (f i))) (hy : ∀ i, i < n → ys[i]? = some (.int .i64 (g i))) :
    ∀ is : List Nat, (∀ i ∈ is, i < n) → (Op.eqItems (d + 1) e 1 xs ys is).run P w = .ok (decide (∀ i ∈ is, f i = g i)) w
  | [], _ => by simp [Op.eqItems]
  | i :: is, h => by
    have h1 := hx i (h i (by simp))
    have h2 := hy i (h i (by simp))
    have p1 : (part e xs (i * 1)).run P w = .ok (.int .i64 (f i)) w := by simp [part, isAgg, he, go_sem, run_underlying, h1]
    have p2 : (part e ys (i * 1)).run P w = .ok (.int .i64 (g i)) w := by simp [part, isAgg, he, go_sem, run_underlying, h2]
    have ih := arr_items (d := d) (w := w) he f g n xs ys hx hy is (fun j hj => h j (by simp [hj]))
    simp only [Op.eqItems, Sem.run_bind, p1, p2, Result.andThen_ok, run_equalIn_int w d e .i64 .i64 (f i) (g i) he]
    by_cases e1 : f i = g i
    · simp [e1, ih]
    · simp [e1]
theorem arr_eq {t e : TypeId} {n : Nat} {w : World} {inf : TypeInfo} (ht : P.underlying t = some (.array n e)) (he : P.underlying e = some (.int .i64)) (hi : P.info? e = some inf) (hc : P.cellsOf e = 1) (f g : Nat → Int) (xs ys : Array Value) (hx : ∀ i, i < n → xs[i]? = some (.int .i64 (f i))) (hy : ∀ i, i < n → ys[i]? = some (.int .i64 (g i))) :
    (Op.equalIn 10000 t (.agg xs) (.agg ys)).run P w = .ok (decide (∀ i ∈ List.range n, f i = g i)) w := by
  rw [show (10000 : Nat) = 9999 + 1 from rfl, run_equalIn_array w 9999 xs ys ht hi, hc]
  exact arr_items (d := 9998) he f g n xs ys hx hy _ (fun i hi => List.mem_range.1 hi)
end
end Go.Tr
end

section
/- A page of a heap: what it must hold. -/
namespace Go.Proofs.YtnfjpjgmhhmdeaaGreatDoor
open Go Go.Tr
set_option maxRecDepth 100000
set_option maxHeartbeats 4000000
set_option linter.unusedVariables false
set_option linter.unusedSimpArgs false
def zrP (b : List Int) (lo n : Nat) : Prop := ∀ j, j < n → b.getD (lo + j) 0 = 0
def hdP (b : List Int) (lo : Nat) (k : Int) : Prop := b.getD lo 0 = 171 ∧ b.getD (lo + 1) 0 = k ∧ b.getD (lo + 2) 0 = perC k ∧ zrP b (lo + 3) 5
def gsP (b c : List Int) (p : Nat) : Prop := ∀ i : Nat, (i : Int) < perC (c.getD p 0) → 1 ≤ gnIn b c (slA p i) ∧ gnIn b c (slA p i) ≤ 7
def pgP (b c : List Int) (p : Nat) : Prop := if c.getD p 0 < 0 then zrP b (p * 64) 64 else hdP b (p * 64) (c.getD p 0) ∧ gsP b c p
noncomputable def dcB (p : Prop) : Bool := @decide p (Classical.propDecidable _)
theorem dcB_true {p : Prop} (h : p) : dcB p = true := by unfold dcB; exact @decide_eq_true _ (Classical.propDecidable _) h
theorem dcB_false {p : Prop} (h : ¬ p) : dcB p = false := by unfold dcB; exact @decide_eq_false _ (Classical.propDecidable _) h
theorem slA_at {p i : Nat} (hp : p < 6) (hi : i < 4) : slA p i = (p : Int) * 4 + i := if_pos (by omega)
theorem clIn_at {c : List Int} {p i : Nat} (hp : p < 6) (hi : (i : Int) < perC (c.getD p 0)) : clIn c (slA p i) = c.getD p 0 ∧ i < 4 := by
  have h4 : i < 4 := by rcases cls4 (c.getD p 0) with ⟨h1, h2, h3, h4⟩ | ⟨h1, h2, h3, h4⟩ | ⟨h1, h2, h3, h4⟩ | ⟨h1, h2, h3, h4⟩ <;> omega
  rw [slA_at hp h4]
  have e1 : (((p : Int) * 4 + i) / 4).toNat = p := by omega
  refine ⟨?_, h4⟩
  rw [clIn_yes (by omega) (by rw [e1]; omega), e1]
theorem genMaySet_run (x : Int) : RunT Tryz.prog 258 [ti x] [] [ob (decide (1 ≤ x ∧ x ≤ 7))] [] := by
  refine RunT.of_vc gOk Tryz.func258 rfl rfl (Nat.le_of_ble_eq_true rfl) (by repeat' (first | exact trivial | exact ⟨_, rfl, Nat.le_refl _⟩ | exact Nat.le_of_ble_eq_true rfl | refine And.intro ?_ ?_)) (Nat.le_of_ble_eq_true rfl) rfl (fun F hE => ?_)
  repeat' (first | exact trivial | refine BS.a (fun h => ?_) (fun h => ?_) | refine BS.n ?_ | refine BS.s (fun h => ?_) (fun h => ?_) | refine And.intro ?_ ?_ | exact Need.au | exact OutS.whole rfl rfl | refine ListO.go gOk hE ?_)
  all_goals (refine Need.mk ?_; first | rfl | (symm; apply decide_eq_true; omega) | (symm; apply decide_eq_false; omega) | (apply decide_eq_decide.2; omega) | (simp only [beq_iff_eq, Bool.beq_eq_decide_eq] at *; apply decide_eq_decide.2; omega) | (simp; omega))
theorem allZero_run (xs : List Int) (hn : xs.length ≤ 1048576) : RunT Tryz.prog 215 [.one (.c (tI xs))] [] [ob (decide (zeroP xs))] [] := by
  refine RunT.of_vc gOk Tryz.func215 rfl rfl (Nat.le_of_ble_eq_true rfl) (by repeat' (first | exact trivial | exact ⟨_, rfl, Nat.le_refl _⟩ | exact Nat.le_of_ble_eq_true rfl | refine And.intro ?_ ?_)) (Nat.le_of_ble_eq_true rfl) rfl (fun F hE => ?_)
  repeat' (first | exact trivial | refine BS.a (fun h => ?_) (fun h => ?_) | refine BS.n ?_ | refine BS.s (fun h => ?_) (fun h => ?_) | refine And.intro ?_ ?_ | exact Need.au | exact OutS.whole rfl rfl | refine ListO.go gOk hE ?_)
  refine CodeK.loop gOk hE (fun i : Nat => ⟨[(5, vr 1000000 xs.length), (6, vi xs.length), (7, vi i)], [(1000000, rI .fro false xs)]⟩) (fun i => i ≤ xs.length ∧ ∀ j, j < i → xs.getD j 0 = 0) (fun i => xs.length - i) 0 (by refine leT.of ?_ ?_ rfl <;> repeat' (first | exact trivial | refine And.intro rfl ?_ | refine And.intro (by simp) ?_)) ⟨Nat.zero_le _, fun j hj => absurd hj (Nat.not_lt_zero _)⟩ ?_
  rintro i ⟨hi, hq⟩
  by_cases hp : xs.getD i 0 = 0
  all_goals (repeat' (first | exact trivial | refine BS.a (fun h => ?_) (fun h => ?_) | refine BS.n ?_ | refine BS.s (fun h => ?_) (fun h => ?_) | refine And.intro ?_ ?_ | exact Need.au | exact OutS.whole rfl rfl | refine ListO.go gOk hE ?_))
  all_goals (try simp only [adN_zero] at *)
  all_goals first
    | (exfalso; first | omega | (simp_all; done))
    | (refine Need.mk ?_; omega)
    | (refine Need.mk ?_; symm; apply decide_eq_true; exact fun j hj => hq j (by omega))
    | (refine Need.mk ?_; symm; apply decide_eq_false; intro hh; exact hp (hh i (by omega)))
    | (refine ⟨i + 1, (by refine leT.of ?_ ?_ rfl <;> repeat' (first | exact trivial | refine And.intro rfl ?_ | refine And.intro (by simp) ?_)), ⟨by omega, fun j hj => (Nat.lt_or_ge j i).elim (hq j) (fun h9 => (show j = i by omega) ▸ hp)⟩, by first | omega | (dsimp only; omega)⟩)
    | trace_state
theorem pageHead_run (k : Int) : RunH Tryz.prog hT 216 [ti k] [] [.agg [.lit (.int .i64 171), .lit (.int .i64 k), .lit (.int .i64 (perC k)), .lit (.int .i64 0), .lit (.int .i64 0), .lit (.int .i64 0), .lit (.int .i64 0), .lit (.int .i64 0)]] [] := by
  have c1 := PerPageI_run k
  refine RunH.of_vc gOk Tryz.func216 rfl rfl (Nat.le_of_ble_eq_true rfl) (by repeat' (first | exact trivial | exact ⟨_, rfl, Nat.le_refl _⟩ | exact Nat.le_of_ble_eq_true rfl | refine And.intro ?_ ?_)) (Nat.le_of_ble_eq_true rfl) rfl (fun F hE hA => ?_)
  repeat' (first | exact trivial | refine BS.a (fun h => ?_) (fun h => ?_) | refine BS.n ?_ | refine BS.s (fun h => ?_) (fun h => ?_) | refine And.intro ?_ ?_ | exact Need.au | exact OutS.whole rfl rfl | refine OpK.ha c1 hA hE ?_ | (refine OpK.buildArr gOk rfl rfl rfl rfl rfl rfl rfl ?_) | refine ListO.go gOk hE ?_)
theorem gensOk_run (b c : List Int) (p : Nat) (hp : p < 6) (h : shP b c) : RunH Tryz.prog hT 217 [aH2 b c, ti p] [] [ob (dcB (gsP b c p))] [] := by
  have hc := h.2.1
  have hb := h.1
  have c1 := PerPageI_run (c.getD p 0)
  have hper : 0 ≤ perC (c.getD p 0) ∧ perC (c.getD p 0) ≤ 4 := by rcases cls4 (c.getD p 0) with ⟨h1, h2, h3, h4⟩ | ⟨h1, h2, h3, h4⟩ | ⟨h1, h2, h3, h4⟩ | ⟨h1, h2, h3, h4⟩ <;> omega
  refine RunH.of_vc gOk Tryz.func217 rfl rfl (Nat.le_of_ble_eq_true rfl) (by repeat' (first | exact trivial | exact ⟨_, rfl, Nat.le_refl _⟩ | exact Nat.le_of_ble_eq_true rfl | refine And.intro ?_ ?_)) (Nat.le_of_ble_eq_true rfl) rfl (fun F hE hA => ?_)
  repeat' (first | exact trivial | refine BS.a (fun h => ?_) (fun h => ?_) | refine BS.n ?_ | refine BS.s (fun h => ?_) (fun h => ?_) | refine And.intro ?_ ?_ | exact Need.au | exact OutS.whole rfl rfl | refine OpK.ha c1 hA hE ?_ | refine ListO.go gOk hE ?_)
  all_goals (try simp only [adN_zero] at *)
  all_goals first | (refine Need.mk ?_; omega) | skip
  refine CodeK.loop gOk hE (fun i : Nat => ⟨[(1, vi p), (2, .ptr 2 0 0), (11, vi (perC (c.getD p 0))), (12, vi i)], [(2, bH b c), (1000000, rI .fro false b), (1000001, rI .fro false c)]⟩) (fun i => (i : Int) ≤ perC (c.getD p 0) ∧ ∀ j : Nat, j < i → 1 ≤ gnIn b c (slA p j) ∧ gnIn b c (slA p j) ≤ 7) (fun i => (perC (c.getD p 0)).toNat - i) 0 (by refine leT.of ?_ ?_ rfl <;> repeat' (first | exact trivial | refine And.intro rfl ?_ | refine And.intro (by simp) ?_)) ⟨hper.1, fun j hj => absurd hj (Nat.not_lt_zero _)⟩ ?_
  rintro i ⟨hi, hq⟩
  by_cases hi2 : (i : Int) < perC (c.getD p 0)
  · obtain ⟨hk, hi4⟩ := clIn_at (c := c) hp hi2
    have c2 := SlotAtI_run p i
    have c3 := genIn_run b c (slA p i) h
    have c4 := genMaySet_run (gnIn b c (slA p i))
    by_cases hg : 1 ≤ gnIn b c (slA p i) ∧ gnIn b c (slA p i) ≤ 7
    · rw [decide_eq_true hg] at c4
      repeat' (first | exact trivial | refine BS.a (fun h => ?_) (fun h => ?_) | refine BS.n ?_ | refine BS.s (fun h => ?_) (fun h => ?_) | refine And.intro ?_ ?_ | exact Need.au | exact OutS.whole rfl rfl | (refine CodeK.draw gOk hE rfl (fun _ _ h => h) (.take 1 (.take 2 (.alt 0 (.alt 3 (.alt 4 (.alt 5 (.take 6 .done) .stop) .stop) .stop) (.alt 3 (.alt 0 (.alt 4 (.alt 5 (.take 6 .done) .stop) .stop) .stop) .stop)))) ?_ ?_; focus (decide +kernel)) | refine OpK.ca c2 hE ?_ | refine OpK.ha c3 hA hE ?_ | refine OpK.ca c4 hE ?_ | refine ListO.go gOk hE ?_)
      all_goals first
        | (exfalso; omega)
        | (refine Need.mk ?_; omega)
        | (refine ⟨i + 1, (by refine leT.of ?_ ?_ rfl <;> repeat' (first | exact trivial | refine And.intro rfl ?_ | refine And.intro (by simp) ?_)), ⟨by omega, fun j hj => (Nat.lt_or_ge j i).elim (hq j) (fun h9 => (show j = i by omega) ▸ hg)⟩, by first | omega | (dsimp only; omega)⟩)
        | trace_state
    · rw [decide_eq_false hg] at c4
      repeat' (first | exact trivial | refine BS.a (fun h => ?_) (fun h => ?_) | refine BS.n ?_ | refine BS.s (fun h => ?_) (fun h => ?_) | refine And.intro ?_ ?_ | exact Need.au | exact OutS.whole rfl rfl | (refine CodeK.draw gOk hE rfl (fun _ _ h => h) (.take 1 (.take 2 (.alt 0 (.alt 3 (.alt 4 (.alt 5 (.take 6 .done) .stop) .stop) .stop) (.alt 3 (.alt 0 (.alt 4 (.alt 5 (.take 6 .done) .stop) .stop) .stop) .stop)))) ?_ ?_; focus (decide +kernel)) | refine OpK.ca c2 hE ?_ | refine OpK.ha c3 hA hE ?_ | refine OpK.ca c4 hE ?_ | refine ListO.go gOk hE ?_)
      all_goals first
        | (exfalso; omega)
        | (refine Need.mk ?_; omega)
        | (refine Need.mk ?_; symm; apply dcB_false; intro hh; exact hg (hh i hi2))
        | trace_state
  · repeat' (first | exact trivial | refine BS.a (fun h => ?_) (fun h => ?_) | refine BS.n ?_ | refine BS.s (fun h => ?_) (fun h => ?_) | refine And.intro ?_ ?_ | exact Need.au | exact OutS.whole rfl rfl | refine ListO.go gOk hE ?_)
    all_goals first
      | (exfalso; omega)
      | (refine Need.mk ?_; symm; apply dcB_true; exact fun j hj => hq j (by omega))
      | trace_state
end Go.Proofs.YtnfjpjgmhhmdeaaGreatDoor
end

section
/- HeapOk in both packages. -/
namespace Go.Proofs.YtnfjpjgmhhmdeaaGreatDoor
open Go Go.Tr
set_option maxRecDepth 100000
set_option maxHeartbeats 4000000
set_option linter.unusedVariables false
set_option linter.unusedSimpArgs false
theorem l7Page_run (b c : List Int) (p : Nat) (hp : p < 6) (hsh : shP b c) : RunT Tryz.prog 209 [aH2 b c, ti p] [] [ob (dcB (pgP b c p))] [] := by
  have hc := hsh.2.1
  have hb := hsh.1
  have hcp := hsh.2.2.2 p hp
  have c1 := PerPageS_run (c.getD p 0)
  have hper : 0 ≤ perC (c.getD p 0) ∧ perC (c.getD p 0) ≤ 4 := by rcases cls4 (c.getD p 0) with ⟨h1, h2, h3, h4⟩ | ⟨h1, h2, h3, h4⟩ | ⟨h1, h2, h3, h4⟩ | ⟨h1, h2, h3, h4⟩ <;> omega
  by_cases hk : c.getD p 0 < 0
  · have hq0 : pgP b c p = zrP b (p * 64) 64 := if_pos hk
    rw [hq0]
    refine RunT.of_vc gOk Tryz.func209 rfl rfl (Nat.le_of_ble_eq_true rfl) (by repeat' (first | exact trivial | exact ⟨_, rfl, Nat.le_refl _⟩ | exact Nat.le_of_ble_eq_true rfl | refine And.intro ?_ ?_)) (Nat.le_of_ble_eq_true rfl) rfl (fun F hE => ?_)
    repeat' (first | exact trivial | refine BS.a (fun h => ?_) (fun h => ?_) | refine BS.n ?_ | refine BS.s (fun h => ?_) (fun h => ?_) | refine And.intro ?_ ?_ | exact Need.au | exact OutS.whole rfl rfl | refine ListO.go gOk hE ?_)
    all_goals (try simp only [adN_zero] at *)
    all_goals first | (exfalso; omega) | (refine Need.mk ?_; omega) | skip
    refine CodeK.loop gOk hE (fun j : Nat => ⟨[(2, .ptr 2 0 0), (5, vi ((p * 64 : Nat) : Int)), (7, vi ((p * 64 + j : Nat) : Int))], [(2, bH b c), (1000000, rI .fro false b), (1000001, rI .fro false c)]⟩) (fun j => j ≤ 64 ∧ ∀ i, i < j → b.getD (p * 64 + i) 0 = 0) (fun j => 64 - j) 0 (by refine leT.of ?_ ?_ rfl <;> repeat' (first | exact trivial | refine And.intro rfl ?_ | refine And.intro (by simp) ?_)) ⟨Nat.zero_le _, fun j hj => absurd hj (Nat.not_lt_zero _)⟩ ?_
    rintro j ⟨hj, hq⟩
    by_cases hz : b.getD (p * 64 + j) 0 = 0
    all_goals (repeat' (first | exact trivial | refine BS.a (fun h => ?_) (fun h => ?_) | refine BS.n ?_ | refine BS.s (fun h => ?_) (fun h => ?_) | refine And.intro ?_ ?_ | exact Need.au | exact OutS.whole rfl rfl | refine ListO.go gOk hE ?_))
    all_goals (try simp only [adN_zero] at *)
    all_goals first
      | (exfalso; omega)
      | (refine Need.mk ?_; omega)
      | (refine Need.mk ?_; symm; apply dcB_true; exact fun i hi => hq i (by omega))
      | (refine Need.mk ?_; symm; apply dcB_false; intro hh; exact hz (hh j (by omega)))
      | (refine ⟨j + 1, (by refine leT.of ?_ ?_ rfl <;> repeat' (first | exact trivial | refine And.intro rfl ?_ | refine And.intro (by simp) ?_)), ⟨by omega, fun i hi => (Nat.lt_or_ge i j).elim (hq i) (fun h9 => (show i = j by omega) ▸ hz)⟩, by first | omega | (dsimp only; omega)⟩)
      | trace_state
  · have hq0 : pgP b c p = (hdP b (p * 64) (c.getD p 0) ∧ gsP b c p) := if_neg hk
    rw [hq0]
    have a0 : adN 0 ((p : Int) * 64) = p * 64 := by rw [adN_eq]; omega
    have a1 : adN 0 ((p : Int) * 64 + 1) = p * 64 + 1 := by rw [adN_eq]; omega
    have a2 : adN 0 ((p : Int) * 64 + 2) = p * 64 + 2 := by rw [adN_eq]; omega
    refine RunT.of_vc gOk Tryz.func209 rfl rfl (Nat.le_of_ble_eq_true rfl) (by repeat' (first | exact trivial | exact ⟨_, rfl, Nat.le_refl _⟩ | exact Nat.le_of_ble_eq_true rfl | refine And.intro ?_ ?_)) (Nat.le_of_ble_eq_true rfl) rfl (fun F hE => ?_)
    repeat' (first | exact trivial | refine BS.a (fun h => ?_) (fun h => ?_) | refine BS.n ?_ | refine BS.s (fun h => ?_) (fun h => ?_) | refine And.intro ?_ ?_ | exact Need.au | exact OutS.whole rfl rfl | (refine CodeK.draw gOk hE rfl (fun _ _ h => h) (.take 0 (.take 2 (.alt 1 (.take 3 (.alt 4 (.take 5 (.take 6 (.take 7 (.take 9 (.take 10 (.take 13 (.alt 8 (.take 11 (.alt 12 (.take 14 (.take 15 (.take 16 (.take 17 (.take 19 (.take 20 (.take 23 (.alt 18 (.take 21 (.alt 22 (.alt 24 (.take 25 (.take 26 .done)) .stop) (.alt 24 (.alt 22 (.take 25 (.take 26 .done)) .stop) .stop))) (.alt 24 (.alt 18 (.take 21 (.alt 22 (.take 25 (.take 26 .done)) .stop)) .stop) .stop))))))))) .stop)) .stop))))))) .stop)) .stop))) ?_ ?_; focus (decide +kernel)) | refine OpK.ca c1 hE ?_ | refine ListO.go gOk hE ?_)
    all_goals (try simp only [adN_zero, a0, a1, a2] at *)
    all_goals first
      | (exfalso; omega)
      | (refine Need.mk ?_; omega)
      | (refine Need.mk ?_; symm; apply dcB_false; rintro ⟨⟨h1, h2, h3, h4⟩, h5⟩; omega)
      | skip
    all_goals (
      refine CodeK.loop gOk hE (fun j : Nat => ⟨[(1, vi p), (2, .ptr 2 0 0), (5, vi ((p * 64 : Nat) : Int)), (6, vi (c.getD p 0)), (8, vi ((p * 64 + 3 + j : Nat) : Int))], [(2, bH b c), (1000000, rI .fro false b), (1000001, rI .fro false c)]⟩) (fun j => j ≤ 5 ∧ ∀ i, i < j → b.getD (p * 64 + 3 + i) 0 = 0) (fun j => 5 - j) 0 (by refine leT.of ?_ ?_ rfl <;> repeat' (first | exact trivial | refine And.intro rfl ?_ | refine And.intro (by simp) ?_)) ⟨Nat.zero_le _, fun j hj => absurd hj (Nat.not_lt_zero _)⟩ ?_
      rintro j ⟨hj, hq⟩
      by_cases hj2 : j < 5
      · by_cases hz : b.getD (p * 64 + 3 + j) 0 = 0
        all_goals (repeat' (first | exact trivial | refine BS.a (fun h => ?_) (fun h => ?_) | refine BS.n ?_ | refine BS.s (fun h => ?_) (fun h => ?_) | refine And.intro ?_ ?_ | exact Need.au | exact OutS.whole rfl rfl | refine ListO.go gOk hE ?_))
        all_goals (try simp only [adN_zero] at *)
        all_goals first
          | (exfalso; omega)
          | (refine Need.mk ?_; omega)
          | (refine Need.mk ?_; symm; apply dcB_false; rintro ⟨⟨h1, h2, h3, h4⟩, h5⟩; exact hz (h4 j (by omega)))
          | (refine ⟨j + 1, (by refine leT.of ?_ ?_ rfl <;> repeat' (first | exact trivial | refine And.intro rfl ?_ | refine And.intro (by simp) ?_)), ⟨by omega, fun i hi => (Nat.lt_or_ge i j).elim (hq i) (fun h9 => (show i = j by omega) ▸ hz)⟩, by first | omega | (dsimp only; omega)⟩)
          | trace_state
      repeat' (first | exact trivial | refine BS.a (fun h => ?_) (fun h => ?_) | refine BS.n ?_ | refine BS.s (fun h => ?_) (fun h => ?_) | refine And.intro ?_ ?_ | exact Need.au | exact OutS.whole rfl rfl | refine ListO.go gOk hE ?_)
      all_goals first | (exfalso; omega) | skip
      have hz5 : zrP b (p * 64 + 3) 5 := fun i hi => hq i (by omega)
      have hhd : hdP b (p * 64) (c.getD p 0) := ⟨by assumption, by assumption, by assumption, hz5⟩
      refine CodeK.loop gOk hE (fun i : Nat => ⟨[(1, vi p), (2, .ptr 2 0 0), (6, vi (c.getD p 0)), (9, vi i)], [(2, bH b c), (1000000, rI .fro false b), (1000001, rI .fro false c)]⟩) (fun i => (i : Int) ≤ perC (c.getD p 0) ∧ ∀ j : Nat, j < i → 1 ≤ gnIn b c (slA p j) ∧ gnIn b c (slA p j) ≤ 7) (fun i => (perC (c.getD p 0)).toNat - i) 0 (by refine leT.of ?_ ?_ rfl <;> repeat' (first | exact trivial | refine And.intro rfl ?_ | refine And.intro (by simp) ?_)) ⟨hper.1, fun j hj => absurd hj (Nat.not_lt_zero _)⟩ ?_
      rintro i ⟨hi, hg⟩
      by_cases hi2 : (i : Int) < perC (c.getD p 0)
      · obtain ⟨hcl, hi4⟩ := clIn_at (c := c) hp hi2
        have hne : clIn c (slA p i) ≠ -1 := by rw [hcl]; unfold clP at hcp; omega
        have hsm := clIn_some hne
        have hgn : gnIn b c (slA p i) = ldN b (genA (slA p i) (c.getD p 0)).toNat 4 := by unfold gnIn; rw [if_neg hne, hcl]
        rw [hcl] at hsm
        have c2 := SlotAtS_run p i
        have c3 := GenAtS_run (slA p i) (c.getD p 0)
        have c4 := l3Load_run b (genA (slA p i) (c.getD p 0)) 4 (by omega) hsh.2.2.1.2 hsm.2.2.2.2.2.1 (by omega) (by have := hsm.2.2.2.2.2; rcases cls4 (c.getD p 0) with h | h | h | h <;> omega)
        rw [← hgn] at c4
        have c5 := inH_run (gnIn b c (slA p i)) 1 7
        by_cases hgg : 1 ≤ gnIn b c (slA p i) ∧ gnIn b c (slA p i) ≤ 7
        · rw [decide_eq_true hgg] at c5
          repeat' (first | exact trivial | refine BS.a (fun h => ?_) (fun h => ?_) | refine BS.n ?_ | refine BS.s (fun h => ?_) (fun h => ?_) | refine And.intro ?_ ?_ | exact Need.au | exact OutS.whole rfl rfl | (refine CodeK.draw gOk hE rfl (fun _ _ h => h) (.take 0 (.take 2 (.take 3 (.take 5 (.alt 1 (.alt 4 (.alt 6 (.alt 7 (.alt 8 (.take 9 .done) .stop) .stop) .stop) .stop) (.alt 4 (.alt 1 (.alt 6 (.alt 7 (.alt 8 (.take 9 .done) .stop) .stop) .stop) (.alt 6 (.alt 1 (.alt 7 (.alt 8 (.take 9 .done) .stop) .stop) .stop) .stop)) .stop)))))) ?_ ?_; focus (decide +kernel)) | refine OpK.ca c1 hE ?_ | refine OpK.ca c2 hE ?_ | refine OpK.ca c3 hE ?_ | refine OpK.ca c4 hE ?_ | refine OpK.ca c5 hE ?_ | refine ListO.go gOk hE ?_)
          all_goals first
            | (exfalso; omega)
            | (refine Need.mk ?_; omega)
            | (refine ⟨i + 1, (by refine leT.of ?_ ?_ rfl <;> repeat' (first | exact trivial | refine And.intro rfl ?_ | refine And.intro (by simp) ?_)), ⟨by omega, fun j hj => (Nat.lt_or_ge j i).elim (hg j) (fun h9 => (show j = i by omega) ▸ hgg)⟩, by first | omega | (dsimp only; omega)⟩)
            | trace_state
        · rw [decide_eq_false hgg] at c5
          repeat' (first | exact trivial | refine BS.a (fun h => ?_) (fun h => ?_) | refine BS.n ?_ | refine BS.s (fun h => ?_) (fun h => ?_) | refine And.intro ?_ ?_ | exact Need.au | exact OutS.whole rfl rfl | (refine CodeK.draw gOk hE rfl (fun _ _ h => h) (.take 0 (.take 2 (.take 3 (.take 5 (.alt 1 (.alt 4 (.alt 6 (.alt 7 (.alt 8 (.take 9 .done) .stop) .stop) .stop) .stop) (.alt 4 (.alt 1 (.alt 6 (.alt 7 (.alt 8 (.take 9 .done) .stop) .stop) .stop) (.alt 6 (.alt 1 (.alt 7 (.alt 8 (.take 9 .done) .stop) .stop) .stop) .stop)) .stop)))))) ?_ ?_; focus (decide +kernel)) | refine OpK.ca c1 hE ?_ | refine OpK.ca c2 hE ?_ | refine OpK.ca c3 hE ?_ | refine OpK.ca c4 hE ?_ | refine OpK.ca c5 hE ?_ | refine ListO.go gOk hE ?_)
          all_goals first
            | (exfalso; omega)
            | (refine Need.mk ?_; omega)
            | (refine Need.mk ?_; symm; apply dcB_false; rintro ⟨h5, h6⟩; exact hgg (h6 i hi2))
            | trace_state
      · repeat' (first | exact trivial | refine BS.a (fun h => ?_) (fun h => ?_) | refine BS.n ?_ | refine BS.s (fun h => ?_) (fun h => ?_) | refine And.intro ?_ ?_ | exact Need.au | exact OutS.whole rfl rfl | refine OpK.ca c1 hE ?_ | refine ListO.go gOk hE ?_)
        all_goals first
          | (exfalso; omega)
          | (refine Need.mk ?_; symm; apply dcB_true; exact ⟨hhd, fun j hj => hg j (by omega)⟩)
          | trace_state)
end Go.Proofs.YtnfjpjgmhhmdeaaGreatDoor
end

section
namespace Go.Proofs.YtnfjpjgmhhmdeaaGreatDoor
open Go Go.Tr
set_option maxRecDepth 100000
set_option maxHeartbeats 4000000
set_option linter.unusedVariables false
set_option linter.unusedSimpArgs false
/-- What a heap must be. -/
def hpP (b c : List Int) : Prop := shP b c ∧ ∀ p, p < 6 → pgP b c p
theorem HeapOkS_run (b c : List Int) (hb : b.length ≤ 1048576) (hc : c.length ≤ 1048576) : RunT Tryz.prog 150 [aH2 b c] [] [ob (dcB (hpP b c))] [] := by
  have c1 := l7Shape_run b c hb hc
  by_cases hsh : shP b c
  · rw [decide_eq_true hsh] at c1
    refine RunT.of_vc gOk Tryz.func150 rfl rfl (Nat.le_of_ble_eq_true rfl) (by repeat' (first | exact trivial | exact ⟨_, rfl, Nat.le_refl _⟩ | exact Nat.le_of_ble_eq_true rfl | refine And.intro ?_ ?_)) (Nat.le_of_ble_eq_true rfl) rfl (fun F hE => ?_)
    repeat' (first | exact trivial | refine BS.a (fun h => ?_) (fun h => ?_) | refine BS.n ?_ | refine BS.s (fun h => ?_) (fun h => ?_) | refine And.intro ?_ ?_ | exact Need.au | exact OutS.whole rfl rfl | refine OpK.ca c1 hE ?_ | refine ListO.go gOk hE ?_)
    refine CodeK.loop gOk hE (fun i : Nat => ⟨[(1, .ptr 1 0 0), (3, vi i)], [(1, bH b c), (1000000, rI .fro false b), (1000001, rI .fro false c)]⟩) (fun i => i ≤ 6 ∧ ∀ j, j < i → pgP b c j) (fun i => 6 - i) 0 (by refine leT.of ?_ ?_ rfl <;> repeat' (first | exact trivial | refine And.intro rfl ?_ | refine And.intro (by simp) ?_)) ⟨Nat.zero_le _, fun j hj => absurd hj (Nat.not_lt_zero _)⟩ ?_
    rintro i ⟨hi, hq⟩
    by_cases hi2 : i < 6
    · have c2 := l7Page_run b c i hi2 hsh
      by_cases hp : pgP b c i
      · rw [dcB_true hp] at c2
        repeat' (first | exact trivial | refine BS.a (fun h => ?_) (fun h => ?_) | refine BS.n ?_ | refine BS.s (fun h => ?_) (fun h => ?_) | refine And.intro ?_ ?_ | exact Need.au | exact OutS.whole rfl rfl | refine OpK.ca c2 hE ?_ | refine ListO.go gOk hE ?_)
        all_goals first
          | (exfalso; omega)
          | (refine Need.mk ?_; omega)
          | (refine ⟨i + 1, (by refine leT.of ?_ ?_ rfl <;> repeat' (first | exact trivial | refine And.intro rfl ?_ | refine And.intro (by simp) ?_)), ⟨by omega, fun j hj => (Nat.lt_or_ge j i).elim (hq j) (fun h9 => (show j = i by omega) ▸ hp)⟩, by first | omega | (dsimp only; omega)⟩)
          | trace_state
      · rw [dcB_false hp] at c2
        repeat' (first | exact trivial | refine BS.a (fun h => ?_) (fun h => ?_) | refine BS.n ?_ | refine BS.s (fun h => ?_) (fun h => ?_) | refine And.intro ?_ ?_ | exact Need.au | exact OutS.whole rfl rfl | refine OpK.ca c2 hE ?_ | refine ListO.go gOk hE ?_)
        all_goals first
          | (exfalso; omega)
          | (refine Need.mk ?_; symm; apply dcB_false; intro hh; exact hp (hh.2 i hi2))
          | trace_state
    · repeat' (first | exact trivial | refine BS.a (fun h => ?_) (fun h => ?_) | refine BS.n ?_ | refine BS.s (fun h => ?_) (fun h => ?_) | refine And.intro ?_ ?_ | exact Need.au | exact OutS.whole rfl rfl | refine ListO.go gOk hE ?_)
      all_goals first
        | (exfalso; omega)
        | (refine Need.mk ?_; symm; apply dcB_true; exact ⟨hsh, fun j hj => hq j (by omega)⟩)
        | trace_state
  · rw [decide_eq_false hsh] at c1
    rw [dcB_false (fun h => hsh h.1)]
    refine RunT.of_vc gOk Tryz.func150 rfl rfl (Nat.le_of_ble_eq_true rfl) (by repeat' (first | exact trivial | exact ⟨_, rfl, Nat.le_refl _⟩ | exact Nat.le_of_ble_eq_true rfl | refine And.intro ?_ ?_)) (Nat.le_of_ble_eq_true rfl) rfl (fun F hE => ?_)
    repeat' (first | exact trivial | refine BS.a (fun h => ?_) (fun h => ?_) | refine BS.n ?_ | refine BS.s (fun h => ?_) (fun h => ?_) | refine And.intro ?_ ?_ | exact Need.au | exact OutS.whole rfl rfl | refine OpK.ca c1 hE ?_ | refine ListO.go gOk hE ?_)
theorem zero_seg {b : List Int} {p : Nat} (hp : p < 6) (hb : b.length = 384) : zeroP ((b.drop (p * 64)).take 64) ↔ zrP b (p * 64) 64 := by
  have hg : ∀ j, j < 64 → ((b.drop (p * 64)).take 64).getD j 0 = b.getD (p * 64 + j) 0 := fun j hj => by
    rw [List.getD_eq_getElem?_getD, List.getD_eq_getElem?_getD, List.getElem?_take, if_pos hj, List.getElem?_drop]
  have hl : ((b.drop (p * 64)).take 64).length = 64 := by simp; omega
  constructor
  · intro h j hj; rw [← hg j hj]; exact h j (by omega)
  · intro h j hj; rw [hl] at hj; rw [hg j hj]; exact h j hj
/-- A page's head. -/
def hdF (k : Int) (i : Nat) : Int := if i = 0 then 171 else if i = 1 then k else if i = 2 then perC k else 0
theorem hd_iff {b : List Int} {p : Nat} {k : Int} : (∀ i ∈ List.range 8, b.getD (p * 64 + i) 0 = hdF k i) ↔ hdP b (p * 64) k := by
  constructor
  · intro h
    refine ⟨h 0 (by simp), h 1 (by simp), h 2 (by simp), fun j hj => ?_⟩
    have h9 := h (3 + j) (by simp; omega)
    rw [show p * 64 + (3 + j) = p * 64 + 3 + j by omega] at h9
    rw [h9]; unfold hdF; rw [if_neg (by omega), if_neg (by omega), if_neg (by omega)]
  · rintro ⟨h0, h1, h2, h3⟩ i hi
    have hi := List.mem_range.1 hi
    match i, hi with
    | 0, _ => exact h0
    | 1, _ => exact h1
    | 2, _ => exact h2
    | 3, _ => exact h3 0 (by decide)
    | 4, _ => exact h3 1 (by decide)
    | 5, _ => exact h3 2 (by decide)
    | 6, _ => exact h3 3 (by decide)
    | 7, _ => exact h3 4 (by decide)
abbrev hdX (b : List Int) (p : Nat) : List Value := (List.range 8).map fun q => .int .i64 (b.getD (p * 64 + q) 0)
abbrev hdY (k : Int) : List Value := [.int .i64 171, .int .i64 k, .int .i64 (perC k), .int .i64 0, .int .i64 0, .int .i64 0, .int .i64 0, .int .i64 0]
theorem hd_run (b : List Int) (p : Nat) (k : Int) (w : World) : (Op.equalIn 10000 228 (.agg (hdX b p).toArray) (.agg (hdY k).toArray)).run Tryz.prog w = .ok (dcB (hdP b (p * 64) k)) w := by
  obtain ⟨inf, hi⟩ : ∃ inf, Tryz.prog.info? 3 = some inf := Option.isSome_iff_exists.1 (by kernel_rfl)
  rw [arr_eq (n := 8) (e := 3) Tryz.underlying228 Tryz.underlying3 hi (by kernel_rfl) (fun i => b.getD (p * 64 + i) 0) (hdF k) _ _ (fun i hi => ?_) (fun i hi => ?_)]
  · congr 1
    by_cases h : hdP b (p * 64) k
    · rw [dcB_true h]; exact decide_eq_true (hd_iff.2 h)
    · rw [dcB_false h]; exact decide_eq_false (fun hh => h (hd_iff.1 hh))
  · simp [hi]
  · match i, hi with
    | 0, _ => rfl
    | 1, _ => rfl
    | 2, _ => rfl
    | 3, _ => rfl
    | 4, _ => rfl
    | 5, _ => rfl
    | 6, _ => rfl
    | 7, _ => rfl
end Go.Proofs.YtnfjpjgmhhmdeaaGreatDoor
end

section
namespace Go.Proofs.YtnfjpjgmhhmdeaaGreatDoor
open Go Go.Tr
set_option maxRecDepth 100000
set_option maxHeartbeats 4000000
set_option linter.unusedVariables false
set_option linter.unusedSimpArgs false
theorem HeapOkI_run (b c : List Int) (hb : b.length ≤ 1048576) (hc : c.length ≤ 1048576) : RunH Tryz.prog hT 163 [aH2 b c] [] [ob (dcB (hpP b c))] [] := by
  have c1 := shapeOk_run b c hb hc
  by_cases hsh : shP b c
  · rw [decide_eq_true hsh] at c1
    have hl := hsh.1
    have hlc := hsh.2.1
    refine RunH.of_vc gOk Tryz.func163 rfl rfl (Nat.le_of_ble_eq_true rfl) (by repeat' (first | exact trivial | exact ⟨_, rfl, Nat.le_refl _⟩ | exact Nat.le_of_ble_eq_true rfl | refine And.intro ?_ ?_)) (Nat.le_of_ble_eq_true rfl) rfl (fun F hE hA => ?_)
    repeat' (first | exact trivial | refine BS.a (fun h => ?_) (fun h => ?_) | refine BS.n ?_ | refine BS.s (fun h => ?_) (fun h => ?_) | refine And.intro ?_ ?_ | exact Need.au | exact OutS.whole rfl rfl | refine OpK.ca c1 hE ?_ | refine ListO.go gOk hE ?_)
    refine CodeK.loop gOk hE (fun i : Nat => ⟨[(1, .ptr 1 0 0), (10, vr 1000001 c.length), (11, vi c.length), (12, vi i)], [(1, bH b c), (1000000, rI .fro false b), (1000001, rI .fro false c)]⟩) (fun i => i ≤ 6 ∧ ∀ j, j < i → pgP b c j) (fun i => 6 - i) 0 (by refine leT.of ?_ ?_ rfl <;> repeat' (first | exact trivial | refine And.intro rfl ?_ | refine And.intro (by simp) ?_)) ⟨Nat.zero_le _, fun j hj => absurd hj (Nat.not_lt_zero _)⟩ ?_
    rintro i ⟨hi, hq⟩
    by_cases hi2 : i < 6
    · have hcp := hsh.2.2.2 i hi2
      unfold clP at hcp
      have a0 : adN 0 ((i : Int) * 64) = i * 64 := by rw [adN_eq]; omega
      have a1 : (((i : Int) + 1) * 64).toNat - ((i : Int) * 64).toNat = 64 := by omega
      have cz := allZero_run ((b.drop (i * 64)).take 64) (by simp; omega)
      have ch := pageHead_run (c.getD i 0)
      have cg := gensOk_run b c i hi2 hsh
      have hrun := hd_run b i (c.getD i 0)
      by_cases hk : c.getD i 0 = -1
      · have hq0 : pgP b c i = zrP b (i * 64) 64 := if_pos (by omega)
        have hzi := zero_seg (b := b) hi2 hl
        by_cases hz : zrP b (i * 64) 64
        · rw [decide_eq_true (hzi.2 hz)] at cz
          repeat' (first | exact trivial | refine BS.a (fun h => ?_) (fun h => ?_) | refine BS.n ?_ | refine BS.s (fun h => ?_) (fun h => ?_) | refine And.intro ?_ ?_ | exact Need.au | exact OutS.whole rfl rfl | refine ListO.go gOk hE ?_)
          all_goals (try simp only [adN_zero] at *)
          all_goals first | (exfalso; omega) | (refine Need.mk ?_; omega) | skip
          all_goals rw [a0, a1]
          all_goals (repeat' (first | exact trivial | refine BS.a (fun h => ?_) (fun h => ?_) | refine BS.n ?_ | refine BS.s (fun h => ?_) (fun h => ?_) | refine And.intro ?_ ?_ | exact Need.au | exact OutS.whole rfl rfl | (refine OpK.call cz rfl rfl rfl rfl hE ?_ rfl rfl ?_; focus (exact PsVs.cons (.one (.seg rfl (by omega) rfl)) .nil)) | (refine CodeK.draw gOk hE rfl (fun _ _ h => h) (.take 0 (.take 1 (.take 2 (.take 3 (.take 6 (.alt 4 (.alt 5 (.alt 7 (.take 8 (.take 9 (.take 11 (.alt 10 (.alt 12 (.take 13 (.take 14 (.take 15 .done))) .stop) .stop)))) .stop) (.alt 7 (.alt 5 (.take 8 (.take 9 (.take 11 (.alt 10 (.alt 12 (.take 13 (.take 14 (.take 15 .done))) .stop) .stop)))) .stop) .stop)) (.alt 7 (.alt 4 (.alt 5 (.take 8 (.take 9 (.take 11 (.alt 10 (.alt 12 (.take 13 (.take 14 (.take 15 .done))) .stop) .stop)))) .stop) .stop) .stop))))))) ?_ ?_; focus (decide +kernel)) | refine ListO.go gOk hE ?_))
          all_goals (try simp only [adN_zero] at *)
          all_goals first
            | (exfalso; omega)
            | (refine ⟨i + 1, (by refine leT.of ?_ ?_ rfl <;> repeat' (first | exact trivial | refine And.intro rfl ?_ | refine And.intro (by simp) ?_)), ⟨by omega, fun j hj => (Nat.lt_or_ge j i).elim (hq j) (fun h9 => (show j = i by omega) ▸ (hq0 ▸ hz))⟩, by first | omega | (dsimp only; omega)⟩)
            | trace_state
        · rw [decide_eq_false (fun h => hz (hzi.1 h))] at cz
          repeat' (first | exact trivial | refine BS.a (fun h => ?_) (fun h => ?_) | refine BS.n ?_ | refine BS.s (fun h => ?_) (fun h => ?_) | refine And.intro ?_ ?_ | exact Need.au | exact OutS.whole rfl rfl | refine ListO.go gOk hE ?_)
          all_goals (try simp only [adN_zero] at *)
          all_goals first | (exfalso; omega) | (refine Need.mk ?_; omega) | skip
          all_goals rw [a0, a1]
          all_goals (repeat' (first | exact trivial | refine BS.a (fun h => ?_) (fun h => ?_) | refine BS.n ?_ | refine BS.s (fun h => ?_) (fun h => ?_) | refine And.intro ?_ ?_ | exact Need.au | exact OutS.whole rfl rfl | (refine OpK.call cz rfl rfl rfl rfl hE ?_ rfl rfl ?_; focus (exact PsVs.cons (.one (.seg rfl (by omega) rfl)) .nil)) | (refine CodeK.draw gOk hE rfl (fun _ _ h => h) (.take 0 (.take 1 (.take 2 (.take 3 (.take 6 (.alt 4 (.alt 5 (.alt 7 (.take 8 (.take 9 (.take 11 (.alt 10 (.alt 12 (.take 13 (.take 14 (.take 15 .done))) .stop) .stop)))) .stop) (.alt 7 (.alt 5 (.take 8 (.take 9 (.take 11 (.alt 10 (.alt 12 (.take 13 (.take 14 (.take 15 .done))) .stop) .stop)))) .stop) .stop)) (.alt 7 (.alt 4 (.alt 5 (.take 8 (.take 9 (.take 11 (.alt 10 (.alt 12 (.take 13 (.take 14 (.take 15 .done))) .stop) .stop)))) .stop) .stop) .stop))))))) ?_ ?_; focus (decide +kernel)) | refine ListO.go gOk hE ?_))
          all_goals (try simp only [adN_zero] at *)
          all_goals first
            | (exfalso; omega)
            | (refine Need.mk ?_; symm; apply dcB_false; intro hh; exact hz (hq0 ▸ hh.2 i hi2))
            | trace_state
      · have hq0 : pgP b c i = (hdP b (i * 64) (c.getD i 0) ∧ gsP b c i) := if_neg (by omega)
        repeat' (first | exact trivial | refine BS.a (fun h => ?_) (fun h => ?_) | refine BS.n ?_ | refine BS.s (fun h => ?_) (fun h => ?_) | refine And.intro ?_ ?_ | exact Need.au | exact OutS.whole rfl rfl | refine ListO.go gOk hE ?_)
        all_goals (try simp only [adN_zero] at *)
        all_goals first | (exfalso; omega) | (refine Need.mk ?_; omega) | skip
        all_goals rw [a0, a1]
        by_cases hh : hdP b (i * 64) (c.getD i 0)
        · rw [dcB_true hh] at hrun
          by_cases hg : gsP b c i
          · rw [dcB_true hg] at cg
            all_goals (repeat' (first | exact trivial | refine BS.a (fun h => ?_) (fun h => ?_) | refine BS.n ?_ | refine BS.s (fun h => ?_) (fun h => ?_) | refine And.intro ?_ ?_ | exact Need.au | exact OutS.whole rfl rfl | (refine CodeK.draw gOk hE rfl (fun _ _ h => h) (.take 0 (.take 1 (.take 2 (.take 3 (.take 6 (.alt 4 (.alt 5 (.alt 7 (.take 8 (.take 9 (.take 11 (.alt 10 (.alt 12 (.take 13 (.take 14 (.take 15 .done))) .stop) .stop)))) .stop) (.alt 7 (.alt 5 (.take 8 (.take 9 (.take 11 (.alt 10 (.alt 12 (.take 13 (.take 14 (.take 15 .done))) .stop) .stop)))) .stop) .stop)) (.alt 7 (.alt 4 (.alt 5 (.take 8 (.take 9 (.take 11 (.alt 10 (.alt 12 (.take 13 (.take 14 (.take 15 .done))) .stop) .stop)))) .stop) .stop) .stop))))))) ?_ ?_; focus (decide +kernel)) | (refine OpK.toArr gOk rfl rfl rfl rfl rfl rfl (by omega) ?_) | (refine OpK.ldArr gOk (fun x => Value.int .i64 x) rfl rfl rfl rfl rfl rfl rfl (by omega) (fun x => rfl) ?_) | refine OpK.ha ch hA hE ?_ | refine OpK.ha cg hA hE ?_ | (refine PK.neA (hdX b i) (hdY (c.getD i 0)) rfl rfl rfl rfl rfl (by kernel_rfl) hrun ?_) | refine ListO.go gOk hE ?_))
            all_goals (try simp only [adN_zero] at *)
            all_goals first
              | (exfalso; omega)
              | (refine ⟨i + 1, (by refine leT.of ?_ ?_ rfl <;> repeat' (first | exact trivial | refine And.intro rfl ?_ | refine And.intro (by simp) ?_)), ⟨by omega, fun j hj => (Nat.lt_or_ge j i).elim (hq j) (fun h9 => (show j = i by omega) ▸ (hq0 ▸ ⟨hh, hg⟩))⟩, by first | omega | (dsimp only; omega)⟩)
              | trace_state
          · rw [dcB_false hg] at cg
            all_goals (repeat' (first | exact trivial | refine BS.a (fun h => ?_) (fun h => ?_) | refine BS.n ?_ | refine BS.s (fun h => ?_) (fun h => ?_) | refine And.intro ?_ ?_ | exact Need.au | exact OutS.whole rfl rfl | (refine CodeK.draw gOk hE rfl (fun _ _ h => h) (.take 0 (.take 1 (.take 2 (.take 3 (.take 6 (.alt 4 (.alt 5 (.alt 7 (.take 8 (.take 9 (.take 11 (.alt 10 (.alt 12 (.take 13 (.take 14 (.take 15 .done))) .stop) .stop)))) .stop) (.alt 7 (.alt 5 (.take 8 (.take 9 (.take 11 (.alt 10 (.alt 12 (.take 13 (.take 14 (.take 15 .done))) .stop) .stop)))) .stop) .stop)) (.alt 7 (.alt 4 (.alt 5 (.take 8 (.take 9 (.take 11 (.alt 10 (.alt 12 (.take 13 (.take 14 (.take 15 .done))) .stop) .stop)))) .stop) .stop) .stop))))))) ?_ ?_; focus (decide +kernel)) | (refine OpK.toArr gOk rfl rfl rfl rfl rfl rfl (by omega) ?_) | (refine OpK.ldArr gOk (fun x => Value.int .i64 x) rfl rfl rfl rfl rfl rfl rfl (by omega) (fun x => rfl) ?_) | refine OpK.ha ch hA hE ?_ | refine OpK.ha cg hA hE ?_ | (refine PK.neA (hdX b i) (hdY (c.getD i 0)) rfl rfl rfl rfl rfl (by kernel_rfl) hrun ?_) | refine ListO.go gOk hE ?_))
            all_goals (try simp only [adN_zero] at *)
            all_goals first
              | (exfalso; omega)
              | (refine Need.mk ?_; symm; apply dcB_false; intro h9; exact hg (hq0 ▸ h9.2 i hi2 : hdP b (i * 64) (c.getD i 0) ∧ gsP b c i).2)
              | trace_state
        · rw [dcB_false hh] at hrun
          all_goals (repeat' (first | exact trivial | refine BS.a (fun h => ?_) (fun h => ?_) | refine BS.n ?_ | refine BS.s (fun h => ?_) (fun h => ?_) | refine And.intro ?_ ?_ | exact Need.au | exact OutS.whole rfl rfl | (refine CodeK.draw gOk hE rfl (fun _ _ h => h) (.take 0 (.take 1 (.take 2 (.take 3 (.take 6 (.alt 4 (.alt 5 (.alt 7 (.take 8 (.take 9 (.take 11 (.alt 10 (.alt 12 (.take 13 (.take 14 (.take 15 .done))) .stop) .stop)))) .stop) (.alt 7 (.alt 5 (.take 8 (.take 9 (.take 11 (.alt 10 (.alt 12 (.take 13 (.take 14 (.take 15 .done))) .stop) .stop)))) .stop) .stop)) (.alt 7 (.alt 4 (.alt 5 (.take 8 (.take 9 (.take 11 (.alt 10 (.alt 12 (.take 13 (.take 14 (.take 15 .done))) .stop) .stop)))) .stop) .stop) .stop))))))) ?_ ?_; focus (decide +kernel)) | (refine OpK.toArr gOk rfl rfl rfl rfl rfl rfl (by omega) ?_) | (refine OpK.ldArr gOk (fun x => Value.int .i64 x) rfl rfl rfl rfl rfl rfl rfl (by omega) (fun x => rfl) ?_) | refine OpK.ha ch hA hE ?_ | refine OpK.ha cg hA hE ?_ | (refine PK.neA (hdX b i) (hdY (c.getD i 0)) rfl rfl rfl rfl rfl (by kernel_rfl) hrun ?_) | refine ListO.go gOk hE ?_))
          all_goals (try simp only [adN_zero] at *)
          all_goals first
            | (exfalso; omega)
            | (refine Need.mk ?_; symm; apply dcB_false; intro h9; exact hh (hq0 ▸ h9.2 i hi2 : hdP b (i * 64) (c.getD i 0) ∧ gsP b c i).1)
            | trace_state
    · repeat' (first | exact trivial | refine BS.a (fun h => ?_) (fun h => ?_) | refine BS.n ?_ | refine BS.s (fun h => ?_) (fun h => ?_) | refine And.intro ?_ ?_ | exact Need.au | exact OutS.whole rfl rfl | refine ListO.go gOk hE ?_)
      all_goals first
        | (exfalso; omega)
        | (refine Need.mk ?_; symm; apply dcB_true; exact ⟨hsh, fun j hj => hq j (by omega)⟩)
        | trace_state
  · rw [decide_eq_false hsh] at c1
    rw [dcB_false (fun h => hsh h.1)]
    refine RunH.of_vc gOk Tryz.func163 rfl rfl (Nat.le_of_ble_eq_true rfl) (by repeat' (first | exact trivial | exact ⟨_, rfl, Nat.le_refl _⟩ | exact Nat.le_of_ble_eq_true rfl | refine And.intro ?_ ?_)) (Nat.le_of_ble_eq_true rfl) rfl (fun F hE hA => ?_)
    repeat' (first | exact trivial | refine BS.a (fun h => ?_) (fun h => ?_) | refine BS.n ?_ | refine BS.s (fun h => ?_) (fun h => ?_) | refine And.intro ?_ ?_ | exact Need.au | exact OutS.whole rfl rfl | refine OpK.ca c1 hE ?_ | refine ListO.go gOk hE ?_)
end Go.Proofs.YtnfjpjgmhhmdeaaGreatDoor
end

section
namespace Go.Proofs.YtnfjpjgmhhmdeaaGreatDoor
open Go Go.Tr
set_option maxRecDepth 100000
set_option maxHeartbeats 4000000
set_option linter.unusedVariables false
set_option linter.unusedSimpArgs false
theorem l7Class_run (b c : List Int) (s : Int) (hc : c.length = 6) : RunT Tryz.prog 183 [aH2 b c, ti s] [] [oi (clIn c s)] [] := by
  have c1 := PageOfS_run s
  have c2 := IndexOfS_run s
  have c3 := PerPageS_run (c.getD (s / 4).toNat 0)
  by_cases hs : 0 ≤ s ∧ s < 24
  · rw [pg_yes hs] at c1
    rw [ix_yes hs] at c2
    have hq : clIn c s = if s % 4 < perC (c.getD (s / 4).toNat 0) then c.getD (s / 4).toNat 0 else -1 := by
      by_cases h : s % 4 < perC (c.getD (s / 4).toNat 0)
      · rw [clIn_yes hs h, if_pos h]
      · rw [clIn_no (fun hh => h hh.2), if_neg h]
    have hp : perC (c.getD (s / 4).toNat 0) ≤ 4 ∧ (c.getD (s / 4).toNat 0 < 0 → perC (c.getD (s / 4).toNat 0) = 0) := by rcases cls4 (c.getD (s / 4).toNat 0) with ⟨h1, h2, h3, h4⟩ | ⟨h1, h2, h3, h4⟩ | ⟨h1, h2, h3, h4⟩ | ⟨h1, h2, h3, h4⟩ <;> omega
    rw [hq]
    obtain ⟨q, hd⟩ := Int.eq_ofNat_of_zero_le (show 0 ≤ s / 4 by omega)
    have hd2 : (s / 4).toNat = q := by omega
    rw [hd] at c1
    rw [hd2] at c3 hp
    rw [hd2]
    refine RunT.of_vc gOk Tryz.func183 rfl rfl (Nat.le_of_ble_eq_true rfl) (by repeat' (first | exact trivial | exact ⟨_, rfl, Nat.le_refl _⟩ | exact Nat.le_of_ble_eq_true rfl | refine And.intro ?_ ?_)) (Nat.le_of_ble_eq_true rfl) rfl (fun F hE => ?_)
    repeat' (first | exact trivial | refine BS.a (fun h => ?_) (fun h => ?_) | refine BS.n ?_ | refine BS.s (fun h => ?_) (fun h => ?_) | refine And.intro ?_ ?_ | exact Need.au | exact OutS.whole rfl rfl | (refine CodeK.draw gOk hE rfl (fun _ _ h => h) (.take 0 (.take 1 (.take 2 (.take 3 (.take 5 (.alt 4 (.take 6 (.alt 7 (.take 8 (.take 9 (.take 10 (.take 11 (.take 13 (.take 15 (.alt 12 (.alt 14 (.take 16 (.alt 17 (.alt 18 (.take 19 (.take 20 .done)) .stop) .stop)) .stop) (.alt 14 (.take 16 (.alt 12 (.alt 17 (.alt 18 (.take 19 (.take 20 .done)) .stop) .stop) (.alt 17 (.alt 12 (.alt 18 (.take 19 (.take 20 .done)) .stop) .stop) .stop))) .stop)))))))) .stop)) .stop)))))) ?_ ?_; focus (decide +kernel)) | refine OpK.ca c1 hE ?_ | refine OpK.ca c2 hE ?_ | refine OpK.ca c3 hE ?_ | refine ListO.go gOk hE ?_)
    all_goals (try simp only [adN_zero] at *)
    all_goals first | (exfalso; omega) | (refine Need.mk ?_; first | omega | (rw [if_pos (by omega)]; done) | (rw [if_neg (by omega)]; done)) | trace_state
  · rw [pg_no hs] at c1
    rw [clIn_no (fun hh => hs hh.1)]
    refine RunT.of_vc gOk Tryz.func183 rfl rfl (Nat.le_of_ble_eq_true rfl) (by repeat' (first | exact trivial | exact ⟨_, rfl, Nat.le_refl _⟩ | exact Nat.le_of_ble_eq_true rfl | refine And.intro ?_ ?_)) (Nat.le_of_ble_eq_true rfl) rfl (fun F hE => ?_)
    repeat' (first | exact trivial | refine BS.a (fun h => ?_) (fun h => ?_) | refine BS.n ?_ | refine BS.s (fun h => ?_) (fun h => ?_) | refine And.intro ?_ ?_ | exact Need.au | exact OutS.whole rfl rfl | (refine CodeK.draw gOk hE rfl (fun _ _ h => h) (.take 0 (.take 1 (.take 2 (.take 3 (.take 5 (.alt 4 (.take 6 (.alt 7 (.take 8 (.take 9 (.take 10 (.take 11 (.take 13 (.take 15 (.alt 12 (.alt 14 (.take 16 (.alt 17 (.alt 18 (.take 19 (.take 20 .done)) .stop) .stop)) .stop) (.alt 14 (.take 16 (.alt 12 (.alt 17 (.alt 18 (.take 19 (.take 20 .done)) .stop) .stop) (.alt 17 (.alt 12 (.alt 18 (.take 19 (.take 20 .done)) .stop) .stop) .stop))) .stop)))))))) .stop)) .stop)))))) ?_ ?_; focus (decide +kernel)) | refine OpK.ca c1 hE ?_ | refine ListO.go gOk hE ?_)
    all_goals first | exact Need.mk rfl | (exfalso; omega) | trace_state
theorem l7Gen_run (b c : List Int) (s : Int) (h : shP b c) (hs : clIn c s ≠ -1) : RunT Tryz.prog 122 [aH2 b c, ti s] [] [oi (gnIn b c s)] [] := by
  obtain ⟨h1, h2, h3, h4⟩ := h
  have hk := clIn_some hs
  have c1 := l7Class_run b c s h2
  have c2 := GenAtS_run s (clIn c s)
  have c3 := l3Load_run b (genA s (clIn c s)) 4 (by omega) h3.2 hk.2.2.2.2.2.1 (by omega) (by have := hk.2.2.2.2.2; rcases cls4 (clIn c s) with h | h | h | h <;> omega)
  unfold gnIn
  rw [if_neg hs]
  refine RunT.of_vc gOk Tryz.func122 rfl rfl (Nat.le_of_ble_eq_true rfl) (by repeat' (first | exact trivial | exact ⟨_, rfl, Nat.le_refl _⟩ | exact Nat.le_of_ble_eq_true rfl | refine And.intro ?_ ?_)) (Nat.le_of_ble_eq_true rfl) rfl (fun F hE => ?_)
  repeat' (first | exact trivial | refine BS.a (fun h => ?_) (fun h => ?_) | refine BS.n ?_ | refine BS.s (fun h => ?_) (fun h => ?_) | refine And.intro ?_ ?_ | exact Need.au | exact OutS.whole rfl rfl | (refine CodeK.draw gOk hE rfl (fun _ _ h => h) (.take 0 (.take 2 (.take 4 (.alt 1 (.alt 3 (.alt 5 (.alt 6 (.alt 7 (.take 8 .done) .stop) .stop) .stop) .stop) (.alt 3 (.alt 1 (.alt 5 (.alt 6 (.alt 7 (.take 8 .done) .stop) .stop) .stop) (.alt 5 (.alt 1 (.alt 6 (.alt 7 (.take 8 .done) .stop) .stop) (.alt 6 (.alt 1 (.alt 7 (.take 8 .done) .stop) .stop) .stop)) .stop)) .stop))))) ?_ ?_; focus (decide +kernel)) | refine OpK.ca c1 hE ?_ | refine OpK.ca c2 hE ?_ | refine OpK.ca c3 hE ?_ | refine ListO.go gOk hE ?_)
end Go.Proofs.YtnfjpjgmhhmdeaaGreatDoor
end

section
/- Rows whose cells are told ahead: a header that is told as a value becomes a row again. -/
set_option linter.unusedVariables false
set_option linter.unusedSimpArgs false
universe u
namespace Go.Tr
open Go Go.RowKit
/-- A header whose row is told, cell for cell. -/
structure RowTold (hc : Hc) (A : Option Addr) (n c k : Nat) (X : Type) (enc : X → Nat → TC) (d : X) (xs : List X) : Prop where
  len : n = xs.length
  le : n ≤ c
  mx : c ≤ maxLen
  nn : A = none → c = 0
  at_ : 0 < n → ∃ g o, A = some ⟨g, o, none⟩ ∧ ∀ i r, i < n → r < k → ∃ v, enc (xs.getD i d) r = .lit v ∧ hc g (o + (i * k + r)) v
section
variable {P : Program} {F : Fm} {N : Nat} {G : Gt} {o : Oper} {σ : TS} {k : TS → Prop}
theorem AmbF.tell {hc : Hc} (hA : AmbF hc F) {t κ e kw n c : Nat} {A : Option Addr} {X : Type} {enc : X → Nat → TC} {dec : List Value → Option X} {d : X} {xs : List X} (hT : RowTold hc A n c kw X enc d xs) (ht : lkT σ.t t = .a (.lit (.slice A n c))) (hκ : lkR σ.r κ = none) (hkk : okK F κ) {a : Act} {w : World} (hr : Rel F N σ.er a w) :
    Rel F N (TS.mk ((t, .a (.ref κ 0 n)) :: erl σ.t t) ((κ, .ty .fro false e kw X enc dec d xs) :: σ.r)).er a w := by
  obtain ⟨ω, β, h⟩ := hr
  classical
  have hω : ∀ g j x, ω g j = some x → (if ∃ v, hc g j v then some Wh.fro else ω g j) = some x := by
    intro g j x hx
    by_cases hh : ∃ v, hc g j v
    · obtain ⟨v, hv⟩ := hh
      rw [if_pos ⟨v, hv⟩, (hA.at_ h hv).2.2.2 x hx]
    · rw [if_neg hh]; exact hx
  have hrt : ∀ κ', (TS.mk ((t, .a (.ref κ 0 n)) :: erl σ.t t) ((κ, .ty .fro false e kw X enc dec d xs) :: σ.r)).er.rt κ' = if κ' = κ then some (TRoot.ty .fro false e kw X enc dec d xs).er else σ.er.rt κ' := by
    intro κ'
    rw [TS.rt_er, lkR_cons]
    by_cases e1 : κ' = κ
    · rw [if_pos e1, if_pos e1]; rfl
    · rw [if_neg e1, if_neg e1, TS.rt_er]
  have hnone : σ.er.rt κ = none := by rw [TS.rt_er, hκ]; rfl
  have hs : ∀ κ' R, σ.er.rt κ' = some R → (if κ' = κ then (⟨A, c⟩ : Bs) else β κ') = β κ' ∧ (TS.mk ((t, .a (.ref κ 0 n)) :: erl σ.t t) ((κ, .ty .fro false e kw X enc dec d xs) :: σ.r)).er.rt κ' = some R := by
    intro κ' R hR
    have hne : κ' ≠ κ := by rintro rfl; rw [hnone] at hR; cases hR
    rw [hrt, if_neg hne, if_neg hne]; exact ⟨rfl, hR⟩
  refine ⟨fun g j => if ∃ v, hc g j v then some .fro else ω g j, fun κ' => if κ' = κ then ⟨A, c⟩ else β κ', h.tsz, h.dfr, fun t' => ?_, fun κ' R hR => ?_, fun b j x hx => ?_, h.fr, fun b j hx => ?_, fun ρ R hρ hR => ?_⟩
  · rw [TS.tv_er, lkT_cons, lkT_erl]
    by_cases e1 : t' = t
    · subst e1
      rw [if_pos rfl]
      have h1 := h.tmps t'
      rw [TS.tv_er, ht] at h1
      obtain ⟨h1, _⟩ := h1
      rw [h1]
      refine ⟨_, by rw [hrt, if_pos rfl], ?_, A, c, rfl, hT.le, hT.mx, hT.nn, (fun _ => by dsimp only; rw [if_pos rfl]; exact ⟨rfl, rfl⟩), fun hp => ?_⟩
      · show 0 + n ≤ xs.length; rw [hT.len]; omega
      · obtain ⟨g, o', e2, _⟩ := hT.at_ hp
        refine ⟨g, o', by dsimp only; rw [if_pos rfl]; exact e2, by rw [e2]; simp⟩
    · rw [if_neg e1, if_neg e1]
      have h1 := h.tmps t'
      rw [TS.tv_er] at h1
      exact VRel.same (fun x u hx => ARel.grow hs (fun _ _ _ h => h) hx) (fun κ' R hR => ⟨(hs κ' R hR).1, R, (hs κ' R hR).2, rfl⟩) h1
  · by_cases he : κ' = κ
    · subst he
      rw [hrt, if_pos rfl] at hR
      injection hR with hR; subst hR
      refine ⟨fun i r hi hr _ => ?_, fun hf => by cases hf⟩
      change i < xs.length at hi; change r < kw at hr
      obtain ⟨g, o', e2, e3⟩ := hT.at_ (by rw [hT.len]; omega)
      obtain ⟨v, e4, e5⟩ := e3 i r (by rw [hT.len]; exact hi) hr
      obtain ⟨e6, e7, _, e8⟩ := hA.at_ h e5
      refine ⟨g, o' + (i * kw + r), v, ⟨o', by (try dsimp only); rw [if_pos rfl]; exact e2, rfl⟩, e6, ?_, (fun ho => by cases ho), ?_⟩
      · show (if ∃ v, hc g (o' + (i * kw + r)) v then some Wh.fro else _) = _
        rw [if_pos ⟨v, e5⟩]
      · show CellRel _ _ _ _ _ _ _ _ _
        unfold CellRel
        rw [ty_get, e4]
        exact ⟨rfl, e7⟩
    · rw [hrt, if_neg he] at hR
      refine (h.roots κ' R hR).upd (fun i r κ2 lo n _ u hu => ?_) (hs κ' R hR).1 (Meta.refl w) (fun b j x hx _ => ⟨hω b j x hx, rfl⟩)
      obtain ⟨R2, hR2, h1⟩ := hu
      exact ⟨R2, (hs _ _ hR2).2, by dsimp only; rw [(hs _ _ hR2).1]; exact h1⟩
  · (try dsimp only at hx)
    split at hx
    · rename_i hh; obtain ⟨v, hv⟩ := hh
      injection hx with hx; subst hx
      exact ⟨(hA.at_ h hv).2.2.1, fun hne => absurd rfl hne⟩
    · exact h.wr b j x hx
  · (try dsimp only at hx)
    split at hx
    · rename_i hh; obtain ⟨v, hv⟩ := hh; exact (hA b j v hv).2.2.2
    · exact h.fz b j hx
  · have hne : 1000000 + ρ ≠ κ := fun e => hkk ρ hρ e.symm
    rw [hrt, if_neg hne] at hR
    show (if 1000000 + ρ = κ then _ else _) = _
    rw [if_neg hne]; exact h.ex ρ R hρ hR
theorem okK_far (hE : F.nE ≤ 1000000) {κ : Nat} (h : (Nat.blt κ 1000000 || Nat.ble 2000000 κ) = true) : okK F κ := by
  simp only [Bool.or_eq_true, Nat.ble_eq, blt_dec, decide_eq_true_eq] at h
  intro ρ hρ e; omega
theorem OpK.tell (hG : GOk P G) {hc : Hc} (hA : AmbF hc F) (hE : F.nE ≤ 1000000) (t κ e : Nat) {kw n c : Nat} {A : Option Addr} {X : Type} {enc : X → Nat → TC} (dec : List Value → Option X) {d : X} {xs : List X} (hT : RowTold hc A n c kw X enc d xs) (ht : lkT σ.t t = .a (.lit (.slice A n c))) (hκ : lkR σ.r κ = none) (hkk : (Nat.blt κ 1000000 || Nat.ble 2000000 κ) = true)
    (hg : o.guard = none) (hd : okD N o.dst = true) (h : vcO P F N G o ⟨(t, .a (.ref κ 0 n)) :: erl σ.t t, (κ, .ty .fro false e kw X enc dec d xs) :: σ.r⟩ k) : OpK P F N o σ k :=
  ⟨fun ops Q rest kk a w hr => vcO_ok hG hE hg hd kk h a w (hA.tell hT ht hκ (okK_far hE hkk) hr)⟩
theorem ListK.tell (hG : GOk P G) {hc : Hc} (hA : AmbF hc F) (hE : F.nE ≤ 1000000) {ops : Array Oper} {l : List Oper} (t κ e : Nat) {kw n c : Nat} {A : Option Addr} {X : Type} {enc : X → Nat → TC} (dec : List Value → Option X) {d : X} {xs : List X} (hT : RowTold hc A n c kw X enc d xs) (ht : lkT σ.t t = .a (.lit (.slice A n c))) (hκ : lkR σ.r κ = none) (hkk : (Nat.blt κ 1000000 || Nat.ble 2000000 κ) = true)
    (h : vcL P F N G ops l ⟨(t, .a (.ref κ 0 n)) :: erl σ.t t, (κ, .ty .fro false e kw X enc dec d xs) :: σ.r⟩ k) : ListK P F N ops l σ k :=
  ⟨fun Q kk a w hr => vcL_ok hG hE kk h a w (hA.tell hT ht hκ (okK_far hE hkk) hr)⟩
theorem CodeK.tell (hG : GOk P G) {hc : Hc} (hA : AmbF hc F) (hE : F.nE ≤ 1000000) {cd : Code} {Q : Exit → TS → Prop} (t κ e : Nat) {kw n c : Nat} {A : Option Addr} {X : Type} {enc : X → Nat → TC} (dec : List Value → Option X) {d : X} {xs : List X} (hT : RowTold hc A n c kw X enc d xs) (ht : lkT σ.t t = .a (.lit (.slice A n c))) (hκ : lkR σ.r κ = none) (hkk : (Nat.blt κ 1000000 || Nat.ble 2000000 κ) = true)
    (h : vcC P F N G cd ⟨(t, .a (.ref κ 0 n)) :: erl σ.t t, (κ, .ty .fro false e kw X enc dec d xs) :: σ.r⟩ Q) : CodeK P F N cd σ Q :=
  ⟨fun a w hr => vcC_ok hG hE h a w (hA.tell hT ht hκ (okK_far hE hkk) hr)⟩
/-- On with the operations. -/
theorem ListK.go (hG : GOk P G) (hE : F.nE ≤ 1000000) {ops : Array Oper} {l : List Oper} (h : vcG P F N G ops o σ fun σ => vcL P F N G ops l σ k) : ListK P F N ops (o :: l) σ k :=
  ⟨fun Q kk => vcG_ok hG hE (fun τ hτ => vcL_ok hG hE kk hτ) h⟩
/-- The length that a header tells. -/
theorem PK.lenL (hG : GOk P G) {x : Operand} {t e ke bs kt n c : Nat} {z : List ZC} {A : Option Addr} {kv : V → Prop} (hop : o.op = .call { callee := .builtin .len, args := #[x], argTypes := #[t] }) (hx : evS σ x = .a (.lit (.slice A n c))) (ht : G.T t = some ⟨kt, .sl e ke bs, z⟩) (h : kv (.a (.lit (.int .i64 n)))) : PK P F N o σ kv := by
  refine ⟨_, h, fun a w ω β hr => ?_⟩
  obtain ⟨h1, _⟩ := (hG.T t _ ht).kind
  have ex : a.eval x = .slice A n c := ev_lit hr (by rw [evS_eq, hx]; rfl)
  refine ⟨.int .i64 n, fun w' => ?_, VRel.lit rfl⟩
  generalize a.eval = ρ at ex ⊢
  simp [execOp, hop, go_sem, ex, resolve, invoke, builtin, Builtin.len_, underlying, h1, goInt]
theorem OpK.capL (hG : GOk P G) {x : Operand} {t e ke bs kt n c : Nat} {z : List ZC} {A : Option Addr} (hop : o.op = .call { callee := .builtin .cap, args := #[x], argTypes := #[t] }) (hg : o.guard = none) (hd : okD N o.dst = true) (hx : evS σ x = .a (.lit (.slice A n c))) (ht : G.T t = some ⟨kt, .sl e ke bs, z⟩) (h : stO o σ (.a (.lit (.int .i64 c))) k) : OpK P F N o σ k :=
  ⟨fun ops Q rest kk => AL.val hg hd (fun a w ω β hr => by
    obtain ⟨h1, _⟩ := (hG.T t _ ht).kind
    have ex : a.eval x = .slice A n c := ev_lit hr (by rw [evS_eq, hx]; rfl)
    refine ⟨.int .i64 c, ?_, VRel.lit rfl⟩
    generalize a.eval = ρ at ex ⊢
    simp [execOp, hop, go_sem, ex, resolve, invoke, builtin, Builtin.cap_, underlying, h1, goInt]) (stO_ok hd kk h)⟩
/-- Nothing of nothing. -/
theorem PK.sliceL (hG : GOk P G) {x : Operand} {hi : Option Operand} {t e ke bs kt : Nat} {z : List ZC} {kv : V → Prop} (hop : o.op = .slice t x none hi none) (hx : evS σ x = .a (.lit (.slice none 0 0))) (hhi : hi = none ∨ ∃ y ki, hi = some y ∧ evS σ y = .a (.lit (.int ki 0))) (ht : G.T t = some ⟨kt, .sl e ke bs, z⟩) (h : kv (.a (.lit (.slice none 0 0)))) : PK P F N o σ kv := by
  refine ⟨_, h, fun a w ω β hr => ?_⟩
  obtain ⟨h1, inf, zv, h2, h3, _⟩ := (hG.T t _ ht).kind
  have ex : a.eval x = .slice none 0 0 := ev_lit hr (by rw [evS_eq, hx]; rfl)
  refine ⟨.slice none 0 0, fun w' => ?_, VRel.lit rfl⟩
  rcases hhi with rfl | ⟨y, ki, rfl, hy⟩
  · generalize a.eval = ρ at ex ⊢
    simp [execOp, hop, go_sem, ex, Instr.sliceAt, Instr.slice, Instr.sliceBounds, Instr.sliceBound, underlying, h1, sizeOf, typeInfo, h2]
  · have ey : a.eval y = .int ki 0 := ev_lit hr (by rw [evS_eq, hy]; rfl)
    generalize a.eval = ρ at ex ey ⊢
    simp [execOp, hop, go_sem, ex, ey, Instr.sliceAt, Instr.slice, Instr.sliceBounds, Instr.sliceBound, asIntOf, underlying, h1, sizeOf, typeInfo, h2]
end
end Go.Tr
end

section
/- Rows of values: literals, appends, append of a make. -/
set_option linter.unusedVariables false
set_option linter.unusedSimpArgs false
universe u
namespace Go.Tr
open Go Go.RowKit
/-- A header: where, how long, how far. -/
abbrev Hdr := Option Addr × Nat × Nat
def encH (x : Hdr) (_ : Nat) : TC := .lit (.slice x.1 x.2.1 x.2.2)
def decH : List Value → Option Hdr
  | [.slice A n c] => some (A, n, c)
  | _ => none
def dH : Hdr := (none, 0, 0)
/-- A row of headers, told as values. -/
def tH (e : Nat) (xs : List Hdr) : TC := .sl e 1 Hdr encH decH dH xs
abbrev rH (o : RO) (f : Bool) (e : Nat) (xs : List Hdr) : TRoot := .ty o f e 1 Hdr encH decH dH xs
/-- A contract that gives nil gives an empty row. -/
theorem RunH.nilOut {P : Program} {hc : Hc} {f : FuncId} {args : List TAg} {ext ext' : List TX} (e kw : Nat) (X : Type) (enc : X → Nat → TC) (dec : List Value → Option X) (d : X) (h : RunH P hc f args ext [.one (.lit (.slice none 0 0))] ext') : RunH P hc f args ext [.one (.sl e kw X enc dec d [])] ext' := by
  refine ⟨h.fn, fun w q A cargs he ha => (h.run w q A cargs he ha).mono fun e' w' hx => ?_⟩
  obtain ⟨us, outs, ext0, q', h1, ⟨rfl, rfl⟩, hx⟩ := hx
  refine ⟨us, _, _, q', h1, ⟨rfl, rfl⟩, hx.size, fun i x hi => ?_, hx.ext, hx.lt, hx.fr⟩
  cases i with
  | succ i => simp at hi
  | zero =>
    injection hi with hi; subst hi
    obtain ⟨u, h2, h3⟩ := hx.outs 0 _ rfl
    obtain ⟨rfl, _⟩ := h3
    exact ⟨_, h2, none, 0, rfl, Nat.le_refl _, Nat.zero_le _, .inl ⟨rfl, rfl⟩⟩
section
variable {P : Program} {F : Fm} {N : Nat} {G : Gt} {o : Oper} {σ : TS} {k : TS → Prop}
theorem OpK.bs2 (hG : GOk P G) {t e bs kt d : Nat} {kd : TK} {zt z : List ZC} {x y : Operand} {A1 A2 : Option Addr} {n1 n2 c1 c2 : Nat} (hop : o.op = .buildSlice t 2 #[(0, x), (1, y)]) (hg : o.guard = none) (hdst : o.dst = some d) (hd : okD N o.dst = true) (ht : G.T t = some ⟨kt, .sl e 1 bs, zt⟩) (he : G.T e = some ⟨1, kd, z⟩) (hz : z.all ZC.ok = true)
    (hx : evS σ x = .a (.lit (.slice A1 n1 c1))) (hy : evS σ y = .a (.lit (.slice A2 n2 c2))) (hf : (lkR σ.r d).isNone = true) (hdd : d < 1000000) (h : setK σ d (rH .own true e [(A1, n1, c1), (A2, n2, c2)]) fun σ => putK σ d (.a (.ref d 0 2)) k) : OpK P F N o σ k := by
  refine ⟨fun ops Q rest kk => ?_⟩
  have hzl := zall_ok hG.T he
  change z.length = 1 at hzl
  obtain ⟨zc, rfl⟩ : ∃ zc, z = [zc] := by
    match z, hzl with
    | [zc], _ => exact ⟨zc, rfl⟩
  refine AL.buildSlD hG.T (qs := [(0, [.lit (.slice A1 n1 c1)]), (1, [.lit (.slice A2 n2 c2)])]) hop hg hdst (by simpa [hdst, okD] using hd) ht he hz ⟨rfl, by rw [evS_eq, hx]; rfl, rfl, by rw [evS_eq, hy]; rfl, trivial⟩ rfl (by decide) (by decide) hdd (none_of hf) ?_
  refine new_ok (v := .a (.ref d 0 2)) (R := rH .own true e [(A1, n1, c1), (A2, n2, c2)]) ?_ kk h
  show RSim (litR e 1 2 [.lit (.slice A1 n1 c1), .lit (.slice A2 n2 c2)]) _
  refine ⟨rfl, fun _ => ⟨rfl, rfl⟩, rfl, rfl, fun i r hi hr => ?_⟩
  change i < 2 at hi; change r < 1 at hr
  have hr0 : r = 0 := by omega
  subst hr0
  have hget := litR_get 1 (c := .cl .any) 2 [At.cl (.lit (.slice A1 n1 c1)), At.cl (.lit (.slice A2 n2 c2))] [] i 0 rfl hi (by decide)
  rw [List.append_nil] at hget
  show ClSim (look2 (litR.mkops 1 2 [At.cl (.lit (.slice A1 n1 c1)), At.cl (.lit (.slice A2 n2 c2))]) i 0 (.cl .any)) _
  rw [hget]
  have : i = 0 ∨ i = 1 := by omega
  rcases this with rfl | rfl <;> exact CSame.rfl _
/-- A whole slice of flat elements is appended; the row may be one that a call gave. -/
theorem OpK.apps2 (hG : GOk P G) (hE : F.nE ≤ 1000000) {s x : Operand} {t κ n κs e e2 ke bs kt d' m : Nat} {z : List ZC} {X : Type} {enc enc2 : X → Nat → TC} {dec dec2 : List Value → Option X} {d d2 : X} {xs ys : List X} {f : Bool} {ro : RO} (hop : o.op = .call { callee := .builtin .append, args := #[s, x], argTypes := #[t, t] }) (hg : o.guard = none) (hdst : o.dst = some d') (hd : okD N o.dst = true)
    (ht : G.T t = some ⟨kt, .sl e ke bs, z⟩) (hs : evS σ s = .a (.ref κ 0 n)) (hR : lkR σ.r κ = some (.ty .own true e ke X enc dec d xs)) (hn : n = xs.length) (hx : evS σ x = .a (.ref κs 0 m)) (hS : lkR σ.r κs = some (.ty ro f e2 ke X enc2 dec2 d2 ys)) (hm : m = ys.length)
    (hfl : ∀ (x : X) (r : Nat), r < ke → ∃ v, enc x r = .lit v ∧ enc2 x r = .lit v) (hkk : (Nat.blt κ 1000000 || Nat.ble 2000000 κ) = true) (h63 : xs.length + m ≤ maxLen ∧ (xs.length + m) * bs ≤ 140737488355328)
    (h : dropK σ κ fun σ => setK σ κ (.ty .own true e ke X enc dec d (xs ++ ys)) fun σ => putK σ d' (.a (.ref κ 0 (xs ++ ys).length)) k) : OpK P F N o σ k := by
  subst hm
  refine ⟨fun ops Q rest kk => ?_⟩
  rw [dropK, fS_eq, setK_eq, putK_eq] at h
  have hRe := TS.rt_some hR
  have hSe := TS.rt_some hS
  refine AL.appendL hG.T hop hg hd ht (by rw [evS_eq, hs]; rfl) hRe rfl hn rfl rfl rfl (by rw [evS_eq, hx]; rfl) hSe rfl rfl (fun _ _ _ _ => rfl) (okK_far hE hkk) h63.1 h63.2 ?_
  rw [hdst]
  refine AL.le (le_lk (τ := ⟨(d', .a (.ref κ 0 (xs ++ ys).length)) :: (σ.drop κ).t, (κ, .ty .own true e ke X enc dec d (xs ++ ys)) :: erl (σ.drop κ).r κ⟩) (fun t' => .inr ?_) (fun κ' => ?_)) (kk _ h)
  · rw [lkT_cons]
    show _ = (((σ.er.drop κ).setR κ _).put d' _).tv t'
    rw [St.tv_put]
    by_cases e2 : t' = d'
    · simp [e2, stV, Tr.stA, hn]
    · simp only [e2, if_neg, not_false_eq_true, if_false]
      rw [← TS.tv_er, drop_tv]; rfl
  · rw [lkR_cons, lkR_erl]
    show OSim (if κ' = κ then some _ else (σ.er.drop κ).rt κ') _
    by_cases e2 : κ' = κ
    · rw [if_pos e2, if_pos e2]
      refine ⟨rfl, fun _ => ⟨rfl, rfl⟩, rfl, by show (xs ++ ys).length = xs.length + ys.length; simp, fun i r hi hr => ?_⟩
      change i < xs.length + ys.length at hi; change r < ke at hr
      rw [ty_get]
      show ClSim (.cl (if i < xs.length then (enc (xs.getD i d) r).er .own else flat ((enc2 (ys.getD (0 + (i - xs.length)) d2) r).er (owOf ro)))) _
      by_cases hin : i < xs.length
      · rw [if_pos hin]
        have hgd : (xs ++ ys).getD i d = xs.getD i d := by simp only [List.getD]; rw [List.getElem?_append_left hin]
        rw [hgd]; exact CSame.rfl _
      · rw [if_neg hin, Nat.zero_add]
        have hj : i - xs.length < ys.length := by omega
        have hgd : (xs ++ ys).getD i d = ys.getD (i - xs.length) d2 := by
          simp only [List.getD]; rw [List.getElem?_append_right (by omega), List.getElem?_eq_getElem hj]; rfl
        rw [hgd]
        obtain ⟨v, h1, h2⟩ := hfl (ys.getD (i - xs.length) d2) r hr
        rw [h1, h2]
        exact CSame.rfl _
    · rw [if_neg e2, if_neg e2, if_neg e2]
      rw [← TS.rt_er, drop_rt]; exact OSim.rfl _
/-- The append of a make to nothing: m empty headers. -/
theorem OpK.growZ (hG : GOk P G) {s x : Operand} {t tn e bs kt d' : Nat} {kn : IntKind} {m : Nat} {zt : List ZC} {kd : TK} {ee ek : Nat} (hop : o.op = .call { callee := .builtin .append, args := #[s, x], argTypes := #[t, tn] }) (hg : o.guard = none) (hdst : o.dst = some d') (hd : okD N o.dst = true)
    (ht : G.T t = some ⟨kt, .sl e 1 bs, zt⟩) (he : G.T e = some ⟨1, kd, [.sl ee ek]⟩) (htn : P.underlying tn = some (.int kn)) (hs : evS σ s = .a (.lit (.slice none 0 0))) {i : Int} (hx : evS σ x = .a (.lit (.int .i64 i))) (hi : i = (m : Int)) (hm : 0 < m) (hmx : m ≤ maxLen ∧ m * bs ≤ 140737488355328) (hf : (lkR σ.r d').isNone = true) (hdd : d' < 1000000)
    (h : setK σ d' (rH .own true e (List.replicate m dH)) fun σ => putK σ d' (.a (.ref d' 0 m)) k) : OpK P F N o σ k := by
  subst hi
  refine ⟨fun ops Q rest kk => ?_⟩
  obtain ⟨h1, inf, zv, h2, h3, h4, h5, h6, h7, hzo⟩ := (hG.T t _ ht).kind
  have hF := hG.T e _ he
  obtain ⟨inf', zv', g3, g4, g5, g6⟩ := hF.info
  rw [h2] at g3; injection g3 with g3; subst g3
  rw [h5] at g5; injection g5 with g5; subst g5
  simp only [blt_dec, decide_eq_true_eq] at *
  have hzc : zv.cells = #[Value.slice none 0 0] := by apply Array.toList_inj.1; rw [g6]; rfl
  have hs1 : inf.size = 1 := h3
  have hge := fun w : World => grownCap_ge w (0 + m) 0 e
  have hle := fun w : World => grownCap_le_maxLen w (0 + m) 0 e (by rw [Nat.zero_add]; exact hmx.1)
  have hcel : ∀ n : Nat, Builtin.zeroCells zv.cells n = Array.replicate n (Value.slice none 0 0) := by
    intro n
    rw [hzc]
    apply Array.ext_getElem?
    intro i
    simp only [Builtin.zeroCells, List.size_toArray, List.length_cons, List.length_nil, Nat.zero_add, Nat.mul_one, Nat.mod_one, Array.getElem?_map, Array.getElem?_range, Array.getElem?_replicate]
    split <;> rfl
  refine AL.step (σ' := σ.er.setR d' ⟨.own, true, e, 1, m, fun _ _ => .lit (.slice none 0 0), []⟩) (v := .a (.ref d' 0 m)) hg hd (fun a w ω β hr => ?_) ?_
  · have hr1 := (hr.drew).alloc (okK_lt hdd) (none_of hf) (cs := #[] ++ Builtin.zeroCells zv.cells m ++ Builtin.zeroCells zv.cells (grownCap w (0 + m) 0 e - (0 + m))) (e := e) (cap := grownCap w (0 + m) 0 e) (R := ⟨.own, true, e, 1, m, fun _ _ => .lit (.slice none 0 0), []⟩) rfl (fun i r hi hr _ => ?_) (fun _ => ⟨fun _ _ _ _ => rfl, rfl, by have := hge w; show m ≤ _; omega, hle w, ?_, ?_⟩)
    · refine ⟨.slice (some ⟨w.heap.size, 0, none⟩) (0 + m) (grownCap w (0 + m) 0 e), _, _, _, ?_, hr1, ?_⟩
      · have e1 : a.eval s = .slice none 0 0 := ev_lit hr (by rw [evS_eq, hs]; rfl)
        have e2 : a.eval x = .int .i64 m := ev_lit hr (by rw [evS_eq, hx]; rfl)
        have hrun := Lib.run_append_grow_zeros (P := P) w t tn o.type e inf zv .i64 kn h1 htn h2 h5 none 0 0 [] (run_firstCells_none w.drew inf.size 0 0 0) m hm (by rw [hs1]; decide) (by omega) (by have := hmx.1; unfold maxLen at this; omega) (by rw [h4]; have := hmx.2; omega) (growslice_fits (by omega) (by rw [Nat.zero_add, h4]; exact hmx.2))
        generalize a.eval = ρ at e1 e2 ⊢
        simp [execOp, hop, resolve, invoke, builtin, e1, e2, hrun]
      · refine ⟨⟨.own, true, e, 1, m, fun _ _ => .lit (.slice none 0 0), []⟩, by show (if d' = d' then _ else _) = _; rw [if_pos rfl], by show 0 + m ≤ m; omega, some ⟨w.heap.size, 0, none⟩, grownCap w (0 + m) 0 e, by rw [Nat.zero_add], by have := hge w; omega, hle w, (by intro e; cases e), fun _ => by simp, fun _ => ⟨w.heap.size, 0, by simp, by simp⟩⟩
    · change i < m at hi; change r < 1 at hr
      refine ⟨.slice none 0 0, ?_, rfl, rfl⟩
      rw [hcel, hcel]
      show (#[] ++ Array.replicate m _ ++ Array.replicate _ _)[i * 1 + r]? = _
      have hr0 : r = 0 := by omega
      subst hr0
      rw [Array.getElem?_append_left (by simp; omega)]
      simp [Array.getElem?_replicate, hi]
    · rw [hcel, hcel]
      have := hge w
      simp only [Nat.zero_add] at *
      simp
      omega
    · intro j u hu
      rw [Array.getElem?_append] at hu
      split at hu
      · rw [Array.getElem?_append] at hu
        split at hu
        · simp at hu
        · exact zo_mod hzo (.inr (by rw [hzc]; decide)) hu
      · exact zo_mod hzo (.inr (by rw [hzc]; decide)) hu
  · rw [hdst]
    refine new_ok (v := .a (.ref d' 0 m)) (R := rH .own true e (List.replicate m dH)) ?_ kk h
    refine ⟨rfl, fun _ => ⟨rfl, rfl⟩, rfl, by show (List.replicate m dH).length = m; simp, fun i r hi hr => ?_⟩
    change i < m at hi
    rw [ty_get]
    have : (List.replicate m dH).getD i dH = dH := by rw [List.getD_eq_getElem?_getD, List.getElem?_replicate]; split <;> rfl
    rw [this]
    exact CSame.rfl _
end
end Go.Tr
end

section
namespace Go.Proofs.YtnfjpjgmhhmdeaaGreatDoor
open Go Go.Tr
set_option maxRecDepth 100000
set_option maxHeartbeats 4000000
set_option linter.unusedVariables false
set_option linter.unusedSimpArgs false
theorem Grow_run (n : Nat) (hn : n ≤ 1048576) : RunT Tryz.prog 269 [.one (.c (.lit (.slice none 0 0))), ti n] [] [.one (tH 178 [])] [] := by
  refine RunH.toT ?_
  by_cases h0 : n = 0
  · subst h0
    refine RunH.nilOut _ _ _ _ _ _ ?_
    refine RunH.of_vc gOk Tryz.func269 rfl rfl (Nat.le_of_ble_eq_true rfl) (by repeat' (first | exact trivial | exact ⟨_, rfl, Nat.le_refl _⟩ | exact Nat.le_of_ble_eq_true rfl | refine And.intro ?_ ?_)) (Nat.le_of_ble_eq_true rfl) rfl (fun F hE hA => ?_)
    repeat' (first | exact trivial | refine BS.a (fun h => ?_) (fun h => ?_) | refine BS.n ?_ | refine BS.s (fun h => ?_) (fun h => ?_) | refine And.intro ?_ ?_ | exact Need.au | exact OutS.whole rfl rfl | (refine ListK.go gOk hE ?_) | (refine PK.lenL gOk rfl rfl rfl ?_) | (refine OpK.capL gOk rfl rfl rfl rfl rfl ?_) | refine ListO.go gOk hE ?_)
    all_goals first | (exfalso; simp at *; done) | trace_state
  · refine RunH.of_vc gOk Tryz.func269 rfl rfl (Nat.le_of_ble_eq_true rfl) (by repeat' (first | exact trivial | exact ⟨_, rfl, Nat.le_refl _⟩ | exact Nat.le_of_ble_eq_true rfl | refine And.intro ?_ ?_)) (Nat.le_of_ble_eq_true rfl) rfl (fun F hE hA => ?_)
    repeat' (first | exact trivial | refine BS.a (fun h => ?_) (fun h => ?_) | refine BS.n ?_ | refine BS.s (fun h => ?_) (fun h => ?_) | refine And.intro ?_ ?_ | exact Need.au | exact OutS.whole rfl rfl | (refine ListK.go gOk hE ?_) | (refine PK.lenL gOk rfl rfl rfl ?_) | (refine OpK.capL gOk rfl rfl rfl rfl rfl ?_) | (refine PK.sliceL gOk rfl rfl (.inr ⟨_, _, rfl, rfl⟩) rfl ?_) | (refine OpK.growZ gOk (m := n) rfl rfl rfl rfl rfl rfl Tryz.underlying3 rfl rfl (by first | rfl | (simp; done) | omega) (by omega) (by refine ⟨?_, ?_⟩ <;> (try unfold maxLen) <;> omega) rfl (by decide) ?_) | refine ListO.go gOk hE ?_)
    all_goals first | (exfalso; omega) | exact OutS.pre (Nat.zero_le _) rfl
/-- Two rows of headers behind one another. -/
theorem Concat_run {hc : Hc} (gs os : List Hdr) (A1 A2 : Option Addr) (n1 n2 c1 c2 : Nat) (h1 : RowTold hc A1 n1 c1 1 Hdr encH dH gs) (h2 : RowTold hc A2 n2 c2 1 Hdr encH dH os) (hn : gs.length + os.length ≤ 1048576) :
    RunH Tryz.prog hc 239 [.one (.c (tH 44 [(A1, n1, c1), (A2, n2, c2)]))] [] [.one (tH 178 (gs ++ os))] [] := by
  obtain ⟨sz, z0, z1, z2⟩ : ∃ f : Nat → Int, f 0 = 0 ∧ f 1 = n1 ∧ f 2 = (n1 : Int) + n2 := ⟨fun i => if i = 0 then 0 else if i = 1 then n1 else (n1 : Int) + n2, rfl, rfl, rfl⟩
  obtain ⟨ac, a0, a1, a2⟩ : ∃ f : Nat → List Hdr, f 0 = [] ∧ f 1 = gs ∧ f 2 = gs ++ os := ⟨fun i => if i = 0 then [] else if i = 1 then gs else gs ++ os, rfl, rfl, rfl⟩
  have l1 := h1.len
  have l2 := h2.len
  have cG := Grow_run (n1 + n2) (by omega)
  refine RunH.of_vc gOk Tryz.func239 rfl rfl (Nat.le_of_ble_eq_true rfl) (by repeat' (first | exact trivial | exact ⟨_, rfl, Nat.le_refl _⟩ | exact Nat.le_of_ble_eq_true rfl | refine And.intro ?_ ?_)) (Nat.le_of_ble_eq_true rfl) rfl (fun F hE hA => ?_)
  repeat' (first | exact trivial | refine BS.a (fun h => ?_) (fun h => ?_) | refine BS.n ?_ | refine BS.s (fun h => ?_) (fun h => ?_) | refine And.intro ?_ ?_ | exact Need.au | exact OutS.whole rfl rfl | refine ListO.go gOk hE ?_)
  refine CodeK.loop gOk hE (fun i : Nat => ⟨[(0, vr 1000000 2), (3, vi (sz i)), (9, vr 1000000 2), (10, vi 2), (11, vi i)], [(1000000, rH .fro false 44 [(A1, n1, c1), (A2, n2, c2)])]⟩) (fun i => i ≤ 2) (fun i => 2 - i) 0 (by refine leT.of ?_ ?_ rfl <;> repeat' (first | exact trivial | refine And.intro rfl ?_ | refine And.intro (by first | rfl | (rw [z0]; rfl)) ?_)) (Nat.zero_le _) ?_
  rintro i hi
  obtain rfl | rfl | rfl : i = 0 ∨ i = 1 ∨ i = 2 := by omega
  · rw [z0]
    repeat' (first | exact trivial | refine BS.a (fun h => ?_) (fun h => ?_) | refine BS.n ?_ | refine BS.s (fun h => ?_) (fun h => ?_) | refine And.intro ?_ ?_ | exact Need.au | exact OutS.whole rfl rfl | (refine ListK.go gOk hE ?_) | (refine PK.lenL gOk rfl rfl rfl ?_) | refine ListO.go gOk hE ?_)
    all_goals (try simp only [adN_zero] at *)
    all_goals first
      | (exfalso; omega)
      | (refine Need.mk ?_; first | omega | exact Nat.le_of_ble_eq_true rfl | (simp; omega) | (dsimp only [List.getD, List.getElem?_cons_zero, List.getElem?_cons_succ, Option.getD_some]; omega))
      | (refine ⟨1, (by refine leT.of ?_ ?_ rfl <;> repeat' (first | exact trivial | refine And.intro rfl ?_ | refine And.intro (by first | rfl | (rw [z1]; simp [lkT, vi]; done) | (rw [z1]; simp [lkT]; rfl)) ?_)), by omega, by decide⟩)
  · rw [z1]
    repeat' (first | exact trivial | refine BS.a (fun h => ?_) (fun h => ?_) | refine BS.n ?_ | refine BS.s (fun h => ?_) (fun h => ?_) | refine And.intro ?_ ?_ | exact Need.au | exact OutS.whole rfl rfl | (refine ListK.go gOk hE ?_) | (refine PK.lenL gOk rfl rfl rfl ?_) | refine ListO.go gOk hE ?_)
    all_goals (try simp only [adN_zero] at *)
    all_goals first
      | (exfalso; omega)
      | (refine Need.mk ?_; first | omega | exact Nat.le_of_ble_eq_true rfl | (simp; omega) | (dsimp only [List.getD, List.getElem?_cons_zero, List.getElem?_cons_succ, Option.getD_some]; omega))
      | (refine ⟨2, (by refine leT.of ?_ ?_ rfl <;> repeat' (first | exact trivial | refine And.intro rfl ?_ | refine And.intro (by first | rfl | (rw [z2]; rfl)) ?_)), by omega, by decide⟩)
  · rw [z2]
    repeat' (first | exact trivial | refine BS.a (fun h => ?_) (fun h => ?_) | refine BS.n ?_ | refine BS.s (fun h => ?_) (fun h => ?_) | refine And.intro ?_ ?_ | exact Need.au | exact OutS.whole rfl rfl | refine OpK.ca cG hE ?_ | refine ListO.go gOk hE ?_)
    all_goals first | (exfalso; omega) | skip
    refine CodeK.loop gOk hE (fun i : Nat => ⟨[(0, vr 1000000 2), (6, vr 2003072 (ac i).length), (25, vr 1000000 2), (26, vi 2), (27, vi i)], [(2003072, rH .own true 178 (ac i)), (1000000, rH .fro false 44 [(A1, n1, c1), (A2, n2, c2)])]⟩) (fun i => i ≤ 2) (fun i => 2 - i) 0 (by refine leT.of ?_ ?_ rfl <;> repeat' (first | exact trivial | refine And.intro rfl ?_ | refine And.intro (by first | rfl | (rw [a0]; rfl)) ?_)) (Nat.zero_le _) ?_
    rintro i hi
    obtain rfl | rfl | rfl : i = 0 ∨ i = 1 ∨ i = 2 := by omega
    · rw [a0]
      repeat' (first | exact trivial | refine BS.a (fun h => ?_) (fun h => ?_) | refine BS.n ?_ | refine BS.s (fun h => ?_) (fun h => ?_) | refine And.intro ?_ ?_ | exact Need.au | exact OutS.whole rfl rfl | (refine OpK.tell gOk hA hE 32 5000 178 decH h1 rfl rfl rfl rfl rfl ?_) | (refine OpK.apps2 gOk hE rfl rfl rfl rfl rfl rfl rfl rfl rfl rfl l1 (fun x r _ => ⟨_, rfl, rfl⟩) rfl (by refine ⟨?_, ?_⟩ <;> (try unfold maxLen) <;> simp <;> omega) ?_) | refine ListO.go gOk hE ?_)
      all_goals first
        | (exfalso; omega)
        | (refine Need.mk ?_; first | omega | exact Nat.le_of_ble_eq_true rfl | (simp; omega))
        | (refine ⟨1, (by refine leT.of ?_ ?_ rfl <;> repeat' (first | exact trivial | refine And.intro rfl ?_ | refine And.intro (by first | rfl | (rw [a1]; rfl) | (rw [a1]; simp; done) | (rw [a1]; simp; rfl)) ?_)), by omega, by decide⟩)
    · rw [a1]
      repeat' (first | exact trivial | refine BS.a (fun h => ?_) (fun h => ?_) | refine BS.n ?_ | refine BS.s (fun h => ?_) (fun h => ?_) | refine And.intro ?_ ?_ | exact Need.au | exact OutS.whole rfl rfl | (refine OpK.tell gOk hA hE 32 5000 178 decH h2 rfl rfl rfl rfl rfl ?_) | (refine OpK.apps2 gOk hE rfl rfl rfl rfl rfl rfl rfl rfl rfl rfl l2 (fun x r _ => ⟨_, rfl, rfl⟩) rfl (by refine ⟨?_, ?_⟩ <;> (try unfold maxLen) <;> omega) ?_) | refine ListO.go gOk hE ?_)
      all_goals first
        | (exfalso; omega)
        | (refine Need.mk ?_; first | omega | exact Nat.le_of_ble_eq_true rfl | (simp; omega))
        | (refine ⟨2, (by refine leT.of ?_ ?_ rfl <;> repeat' (first | exact trivial | refine And.intro rfl ?_ | refine And.intro (by first | rfl | (rw [a2]; rfl)) ?_)), by omega, by decide⟩)
    · rw [a2]
      repeat' (first | exact trivial | refine BS.a (fun h => ?_) (fun h => ?_) | refine BS.n ?_ | refine BS.s (fun h => ?_) (fun h => ?_) | refine And.intro ?_ ?_ | exact Need.au | exact OutS.whole rfl rfl | refine ListO.go gOk hE ?_)
      all_goals first | (exfalso; omega) | exact OutS.whole rfl rfl
end Go.Proofs.YtnfjpjgmhhmdeaaGreatDoor
end

section
namespace Go.Proofs.YtnfjpjgmhhmdeaaGreatDoor
open Go Go.Tr
set_option maxRecDepth 100000
set_option maxHeartbeats 4000000
set_option linter.unusedVariables false
set_option linter.unusedSimpArgs false
/-- Slots that are told apart, the slots before them being these. -/
def okS : List Int → List Int → Bool
  | _, [] => true
  | s, x :: l => if (0 ≤ x ∧ x < 24) ∧ x ∉ s then okS (s ++ [x]) l else false
theorem okS_no {s : List Int} {x : Int} {l : List Int} (h : ¬ ((0 ≤ x ∧ x < 24) ∧ x ∉ s)) : okS s (x :: l) = false := by rw [okS, if_neg h]
theorem okS_yes {s : List Int} {x : Int} {l : List Int} (h : (0 ≤ x ∧ x < 24) ∧ x ∉ s) : okS s (x :: l) = okS (s ++ [x]) l := by rw [okS, if_pos h]
theorem seen_step {bs : List Bool} {s : List Int} {v : Int} (hbl : bs.length = 24) (hv : 0 ≤ v ∧ v < 24) (hbs : ∀ z : Nat, z < 24 → bs.getD z false = decide ((z : Int) ∈ s)) : ∀ z : Nat, z < 24 → (bs.set v.toNat true).getD z false = decide ((z : Int) ∈ s ++ [v]) := by
  intro z hz
  obtain ⟨n, rfl⟩ := Int.eq_ofNat_of_zero_le hv.1
  simp only [Int.toNat_natCast]
  by_cases e1 : n = z
  · subst e1
    rw [List.getD_eq_getElem?_getD, List.getElem?_set_self (by omega)]
    simp
  · rw [List.getD_eq_getElem?_getD, List.getElem?_set_ne e1, ← List.getD_eq_getElem?_getD, hbs z hz]
    apply decide_eq_decide.2
    simp; omega
theorem slotOk_run (x : Int) : RunT Tryz.prog 128 [ti x] [] [ob (decide (0 ≤ x ∧ x < 24))] [] := by
  refine RunT.of_vc gOk Tryz.func128 rfl rfl (Nat.le_of_ble_eq_true rfl) (by repeat' (first | exact trivial | exact ⟨_, rfl, Nat.le_refl _⟩ | exact Nat.le_of_ble_eq_true rfl | refine And.intro ?_ ?_)) (Nat.le_of_ble_eq_true rfl) rfl (fun F hE => ?_)
  repeat' (first | exact trivial | refine BS.a (fun h => ?_) (fun h => ?_) | refine BS.n ?_ | refine BS.s (fun h => ?_) (fun h => ?_) | refine And.intro ?_ ?_ | exact Need.au | exact OutS.whole rfl rfl | refine ListO.go gOk hE ?_)
  all_goals (refine Need.mk ?_; first | rfl | (symm; apply decide_eq_true; omega) | (symm; apply decide_eq_false; omega) | (apply decide_eq_decide.2; omega))
/-- A row of headers, each of which tells a row of numbers. -/
structure Hs (hc : Hc) (hs : List Hdr) (xss : List (List Int)) : Prop where
  len : hs.length = xss.length
  at_ : ∀ i, i < hs.length → RowTold hc (hs.getD i dH).1 (hs.getD i dH).2.1 (hs.getD i dH).2.2 1 Int encI 0 (xss.getD i [])
theorem eachSlot_told {hc : Hc} (gs os : List Hdr) (xss : List (List Int)) (A1 A2 : Option Addr) (n1 n2 c1 c2 : Nat) (h1 : RowTold hc A1 n1 c1 1 Hdr encH dH gs) (h2 : RowTold hc A2 n2 c2 1 Hdr encH dH os) (hn : gs.length + os.length ≤ 1048576) (hX : Hs hc (gs ++ os) xss) (hx : ∀ i, (xss.getD i []).length ≤ 1048576) :
    RunH Tryz.prog hc 218 [.agg [.c (.lit (.slice A1 n1 c1)), .c (.lit (.slice A2 n2 c2))]] [] [ob (okS [] xss.flatten)] [] := by
  have cC := Concat_run gs os A1 A2 n1 n2 c1 c2 h1 h2 hn
  have hlen : (gs ++ os).length ≤ 1048576 := by simp; omega
  refine RunH.of_vc gOk Tryz.func218 rfl rfl (Nat.le_of_ble_eq_true rfl) (by repeat' (first | exact trivial | exact ⟨_, rfl, Nat.le_refl _⟩ | exact Nat.le_of_ble_eq_true rfl | refine And.intro ?_ ?_)) (Nat.le_of_ble_eq_true rfl) rfl (fun F hE hA => ?_)
  repeat' (first | exact trivial | refine BS.a (fun h => ?_) (fun h => ?_) | refine BS.n ?_ | refine BS.s (fun h => ?_) (fun h => ?_) | refine And.intro ?_ ?_ | exact Need.au | exact OutS.whole rfl rfl | (refine OpK.bs2 gOk rfl rfl rfl rfl rfl rfl rfl rfl rfl rfl (by decide) ?_) | refine OpK.ha cC hA hE ?_ | refine ListO.go gOk hE ?_)
  generalize gs ++ os = hs at *
  refine CodeK.arr gOk hE (κ := 3) 24 (by rfl) (by rfl) ?_
  refine CodeK.loop gOk hE (fun i : Nat × List Int × List Bool => ⟨[(3, .ptr 3 0 0), (13, vr 2001664 hs.length), (14, vi hs.length), (15, vi i.1)], [(2001664, rH .own true 178 hs), (3, arrR 193 24 i.2.2)]⟩) (fun i => i.1 ≤ hs.length ∧ i.2.2.length = 24 ∧ (∀ z : Nat, z < 24 → i.2.2.getD z false = decide ((z : Int) ∈ i.2.1)) ∧ okS [] xss.flatten = okS i.2.1 (xss.drop i.1).flatten) (fun i => hs.length - i.1) (0, [], List.replicate 24 false) (by refine leT.of ?_ ?_ rfl <;> repeat' (first | exact trivial | refine And.intro rfl ?_ | refine And.intro (by first | rfl | (simp; done) | (simp <;> rfl)) ?_)) ⟨Nat.zero_le _, rfl, by decide, rfl⟩ ?_
  rintro ⟨i, s, bs⟩ ⟨hi, hbl, hbs, hq⟩
  dsimp only at hi hbl hbs hq
  by_cases hi2 : i < hs.length
  · have hT := hX.at_ i hi2
    have hTl := hT.len
    have hxi := hx i
    have hxl := hX.len
    rw [drop_cons [] (by omega), List.flatten_cons] at hq
    obtain ⟨R, hR⟩ : ∃ R, R = (xss.drop (i + 1)).flatten := ⟨_, rfl⟩
    rw [← hR] at hq
    repeat' (first | exact trivial | refine BS.a (fun h => ?_) (fun h => ?_) | refine BS.n ?_ | refine BS.s (fun h => ?_) (fun h => ?_) | refine And.intro ?_ ?_ | exact Need.au | exact OutS.whole rfl rfl | (refine ListK.tell gOk hA hE 20 5000 3 decI hT rfl rfl rfl ?_) | refine ListO.go gOk hE ?_)
    all_goals (try simp only [adN_zero] at *)
    all_goals first | (exfalso; omega) | (refine Need.mk ?_; omega) | skip
    refine CodeK.loop gOk hE (fun k : Nat × List Int × List Bool => ⟨[(3, .ptr 3 0 0), (13, vr 2001664 hs.length), (14, vi hs.length), (15, vi i), (20, vr 5000 (hs.getD i dH).2.1), (21, vi (hs.getD i dH).2.1), (22, vi k.1)], [(2001664, rH .own true 178 hs), (3, arrR 193 24 k.2.2), (5000, rI .fro false (xss.getD i []))]⟩) (fun k => k.1 ≤ (xss.getD i []).length ∧ k.2.2.length = 24 ∧ (∀ z : Nat, z < 24 → k.2.2.getD z false = decide ((z : Int) ∈ k.2.1)) ∧ okS [] xss.flatten = okS k.2.1 ((xss.getD i []).drop k.1 ++ R)) (fun k => (xss.getD i []).length - k.1) (0, s, bs) (by refine leT.of ?_ ?_ rfl <;> repeat' (first | exact trivial | refine And.intro rfl ?_ | refine And.intro (by first | rfl | (simp; done) | (simp <;> rfl)) ?_)) ⟨Nat.zero_le _, hbl, hbs, hq⟩ ?_
    rintro ⟨k, s', bs'⟩ ⟨hk, hbl', hbs', hq'⟩
    dsimp only at hk hbl' hbs' hq'
    by_cases hk2 : k < (xss.getD i []).length
    · rw [drop_cons 0 hk2, List.cons_append] at hq'
      have c2 := slotOk_run ((xss.getD i []).getD k 0)
      by_cases hv : 0 ≤ ((xss.getD i []).getD k 0) ∧ ((xss.getD i []).getD k 0) < 24
      · rw [decide_eq_true hv] at c2
        have hz := hbs' ((xss.getD i []).getD k 0).toNat (by omega)
        rw [Int.toNat_of_nonneg hv.1] at hz
        repeat' (first | exact trivial | refine BS.a (fun h => ?_) (fun h => ?_) | refine BS.n ?_ | refine BS.s (fun h => ?_) (fun h => ?_) | refine And.intro ?_ ?_ | exact Need.au | exact OutS.whole rfl rfl | refine OpK.ca c2 hE ?_ | refine ListO.go gOk hE ?_)
        all_goals (try simp only [adN_zero] at *)
        all_goals first | (exfalso; omega) | (refine Need.mk ?_; omega) | skip
        refine OpK.ldA gOk (by rfl) (by rfl) (by rfl) (by rfl) (by rfl) (by rfl) (by rfl) (by omega) ?_
        rw [show 0 + ((xss.getD i []).getD k 0).toNat * 1 = ((xss.getD i []).getD k 0).toNat by omega, hz]
        by_cases hin : ((xss.getD i []).getD k 0) ∈ s'
        · rw [decide_eq_true hin]
          rw [okS_no (fun h => h.2 hin)] at hq'
          rw [hq']
          repeat' (first | exact trivial | refine BS.a (fun h => ?_) (fun h => ?_) | refine BS.n ?_ | refine BS.s (fun h => ?_) (fun h => ?_) | refine And.intro ?_ ?_ | exact Need.au | exact OutS.whole rfl rfl | refine OpK.ca c2 hE ?_ | refine ListO.go gOk hE ?_)
          all_goals first | rfl | exact Need.mk rfl | (exfalso; omega) | trace_state
        · rw [decide_eq_false hin]
          rw [okS_yes ⟨hv, hin⟩] at hq'
          repeat' (first | exact trivial | refine BS.a (fun h => ?_) (fun h => ?_) | refine BS.n ?_ | refine BS.s (fun h => ?_) (fun h => ?_) | refine And.intro ?_ ?_ | exact Need.au | exact OutS.whole rfl rfl | refine OpK.ca c2 hE ?_ | refine ListO.go gOk hE ?_)
          all_goals (try simp only [adN_zero] at *)
          all_goals first | (exfalso; omega) | (refine Need.mk ?_; omega) | skip
          refine OpK.stA gOk (by rfl) (by rfl) (by rfl) (by rfl) (by rfl) (by rfl) (by rfl) (by omega) (by exact hbl'.symm) ?_
          rw [show 0 + ((xss.getD i []).getD k 0).toNat * 1 = ((xss.getD i []).getD k 0).toNat by omega]
          repeat' (first | exact trivial | refine BS.a (fun h => ?_) (fun h => ?_) | refine BS.n ?_ | refine BS.s (fun h => ?_) (fun h => ?_) | refine And.intro ?_ ?_ | exact Need.au | exact OutS.whole rfl rfl | refine ListO.go gOk hE ?_)
          all_goals (try simp only [adN_zero] at *)
          all_goals first
            | (refine Need.mk ?_; omega)
            | exact ⟨(k + 1, s' ++ [((xss.getD i []).getD k 0)], bs'.set ((xss.getD i []).getD k 0).toNat true), (by refine leT.of ?_ ?_ rfl <;> repeat' (first | exact trivial | refine And.intro rfl ?_ | refine And.intro (by first | rfl | (simp; done) | (simp <;> rfl)) ?_)), ⟨hk2, by simp [hbl'], seen_step hbl' hv hbs', hq'⟩, by dsimp only; omega⟩
      · rw [decide_eq_false hv] at c2
        rw [okS_no (fun h => hv h.1)] at hq'
        rw [hq']
        repeat' (first | exact trivial | refine BS.a (fun h => ?_) (fun h => ?_) | refine BS.n ?_ | refine BS.s (fun h => ?_) (fun h => ?_) | refine And.intro ?_ ?_ | exact Need.au | exact OutS.whole rfl rfl | refine OpK.ca c2 hE ?_ | refine ListO.go gOk hE ?_)
        all_goals (try simp only [adN_zero] at *)
        all_goals first | (exfalso; omega) | (refine Need.mk ?_; omega) | skip
    · rw [List.drop_eq_nil_of_le (by omega), List.nil_append, hR] at hq'
      repeat' (first | exact trivial | refine BS.a (fun h => ?_) (fun h => ?_) | refine BS.n ?_ | refine BS.s (fun h => ?_) (fun h => ?_) | refine And.intro ?_ ?_ | exact Need.au | exact OutS.whole rfl rfl | refine OpK.ca cC hE ?_ | refine ListO.go gOk hE ?_)
      all_goals (try simp only [adN_zero] at *)
      all_goals first
        | (exfalso; omega)
        | (refine Need.mk ?_; omega)
        | exact ⟨(i + 1, s', bs'), (by refine leT.of ?_ ?_ rfl <;> repeat' (first | exact trivial | refine And.intro rfl ?_ | refine And.intro (by first | rfl | (simp; done) | (simp <;> rfl)) ?_)), ⟨hi2, hbl', hbs', hq'⟩, by dsimp only; omega⟩
  · rw [List.drop_eq_nil_of_le (by have := hX.len; omega)] at hq
    repeat' (first | exact trivial | refine BS.a (fun h => ?_) (fun h => ?_) | refine BS.n ?_ | refine BS.s (fun h => ?_) (fun h => ?_) | refine And.intro ?_ ?_ | exact Need.au | exact OutS.whole rfl rfl | refine OpK.ca cC hE ?_ | refine ListO.go gOk hE ?_)
    all_goals first | exact Need.mk hq.symm | exact Need.mk hq | (exfalso; omega) | trace_state
end Go.Proofs.YtnfjpjgmhhmdeaaGreatDoor
end

section
namespace Go.Proofs.YtnfjpjgmhhmdeaaGreatDoor
open Go Go.Tr
set_option maxRecDepth 100000
set_option maxHeartbeats 4000000
set_option linter.unusedVariables false
set_option linter.unusedSimpArgs false
/-- The cells that are frozen. -/
def hcZ (w : World) (z : Nat → Nat → Prop) : Hc := fun g j v => w.cell? ⟨g, j, none⟩ = some v ∧ scal v = true ∧ z g j
theorem ints_told {w : World} {z f : Nat → Nat → Prop} {xs : List Int} {u : Value} (h : CRel w z ((tI xs).er .fro) f u) : ∃ A c, u = .slice A xs.length c ∧ RowTold (hcZ w z) A xs.length c 1 Int encI 0 xs := by
  obtain ⟨A, c, h1, h2, h3, h4, h5⟩ := h
  refine ⟨A, c, h1, rfl, h2, h3, h4, fun hp => ?_⟩
  obtain ⟨g, o, e1, e2⟩ := h5 hp
  refine ⟨g, o, e1, fun i r hi hr => ?_⟩
  obtain ⟨x, k1, k2, k3⟩ := e2 i r hi hr
  obtain ⟨rfl, k4⟩ := k3
  exact ⟨_, rfl, k1, k4, k2⟩
theorem lists_told {w : World} {z f : Nat → Nat → Prop} {e : Nat} {xs : List (List Int)} {u : Value} (h : CRel w z ((tSL e xs).er .fro) f u) : ∃ A c, ∃ hs : List Hdr, u = .slice A xs.length c ∧ RowTold (hcZ w z) A xs.length c 1 Hdr encH dH hs ∧ Hs (hcZ w z) hs xs := by
  obtain ⟨A, c, h1, h2, h3, h4, h5⟩ := h
  by_cases h0 : xs.length = 0
  · refine ⟨A, c, [], h1, ⟨by rw [h0]; rfl, h2, h3, h4, fun hp => by omega⟩, by rw [h0]; rfl, fun i hi => absurd hi (Nat.not_lt_zero _)⟩
  · obtain ⟨g, o, e1, e2⟩ := h5 (show 0 < xs.length by omega)
    have key : ∀ i : _root_.Fin xs.length, ∃ x : Hdr, w.cell? ⟨g, o + (i.1 * 1 + 0), none⟩ = some (.slice x.1 x.2.1 x.2.2) ∧ z g (o + (i.1 * 1 + 0)) ∧ RowTold (hcZ w z) x.1 x.2.1 x.2.2 1 Int encI 0 (xs.getD i.1 []) := by
      intro i
      obtain ⟨x, k1, k2, k3⟩ := e2 i.1 0 i.2 (by decide)
      obtain ⟨A', c', m1, m2⟩ := ints_told (xs := xs.getD i.1 []) k3
      subst m1
      exact ⟨(A', (xs.getD i.1 []).length, c'), k1, k2, m2⟩
    obtain ⟨F, hF⟩ : ∃ F : _root_.Fin xs.length → Hdr, ∀ i, w.cell? ⟨g, o + (i.1 * 1 + 0), none⟩ = some (.slice (F i).1 (F i).2.1 (F i).2.2) ∧ z g (o + (i.1 * 1 + 0)) ∧ RowTold (hcZ w z) (F i).1 (F i).2.1 (F i).2.2 1 Int encI 0 (xs.getD i.1 []) := ⟨fun i => (key i).choose, fun i => (key i).choose_spec⟩
    have hg : ∀ i (hi : i < xs.length), (List.ofFn F).getD i dH = F ⟨i, hi⟩ := fun i hi => by simp [List.getD, hi]
    refine ⟨A, c, List.ofFn F, h1, ⟨by simp, h2, h3, h4, fun hp => ⟨g, o, e1, fun i r hi hr => ?_⟩⟩, by simp, fun i hi => ?_⟩
    · have hr0 : r = 0 := by omega
      subst hr0
      rw [hg i hi]
      obtain ⟨k1, k2, _⟩ := hF ⟨i, hi⟩
      exact ⟨_, rfl, k1, rfl, k2⟩
    · have hi' : i < xs.length := by simpa using hi
      rw [hg i hi']
      exact (hF ⟨i, hi'⟩).2.2
/-- A contract over two lists of lists out of one over told headers. -/
theorem of_told {f : FuncId} {rest : List TAg} {outs : List TAr} {e e' : Nat} {g o : List (List Int)} (hfn : CallF Tryz.prog f) (h : ∀ (hc : Hc) (gs os : List Hdr) (A1 A2 : Option Addr) (n1 n2 c1 c2 : Nat), RowTold hc A1 n1 c1 1 Hdr encH dH gs → RowTold hc A2 n2 c2 1 Hdr encH dH os → Hs hc gs g → Hs hc os o →
    RunH Tryz.prog hc f (.agg [.c (.lit (.slice A1 n1 c1)), .c (.lit (.slice A2 n2 c2))] :: rest) [] outs []) : RunT Tryz.prog f (.agg [.c (tSL e g), .c (tSL e' o)] :: rest) [] outs [] := by
  refine ⟨hfn, fun w q A cargs hent => ?_⟩
  obtain ⟨u, hu, us, rfl, hsz, hus⟩ := hent.args 0 _ rfl
  obtain ⟨y1, hy1, k1⟩ := hus 0 _ rfl
  obtain ⟨y2, hy2, k2⟩ := hus 1 _ rfl
  have k1 : CRel w (fun b j => q b j = some .fro) ((tSL e g).er .fro) (fun b j' => q b j' = some (.arg 0 0)) y1 := k1
  have k2 : CRel w (fun b j => q b j = some .fro) ((tSL e' o).er .fro) (fun b j' => q b j' = some (.arg 0 1)) y2 := k2
  obtain ⟨A1, c1, gs, rfl, t1, s1⟩ := lists_told (xs := g) k1
  obtain ⟨A2, c2, os, rfl, t2, s2⟩ := lists_told (xs := o) k2
  refine (h _ gs os A1 A2 _ _ c1 c2 t1 t2 s1 s2).run w q A cargs ⟨hent.size, fun i x hi => ?_, fun ρ x hx => by simp at hx, hent.lt⟩ (fun g j v hv => hv)
  cases i with
  | zero =>
    injection hi with hi; subst hi
    refine ⟨_, hu, us, rfl, hsz, fun j c hj => ?_⟩
    match j, hj with
    | 0, hj => injection hj with hj; subst hj; exact ⟨_, hy1, rfl, rfl⟩
    | 1, hj => injection hj with hj; subst hj; exact ⟨_, hy2, rfl, rfl⟩
  | succ i => exact hent.args (i + 1) x hi
theorem Hs.append {hc : Hc} {gs os : List Hdr} {g o : List (List Int)} (h1 : Hs hc gs g) (h2 : Hs hc os o) : Hs hc (gs ++ os) (g ++ o) := by
  refine ⟨by simp [h1.len, h2.len], fun i hi => ?_⟩
  by_cases hl : i < gs.length
  · have e1 : (gs ++ os).getD i dH = gs.getD i dH := by simp [List.getD, List.getElem?_append_left hl]
    have e2 : (g ++ o).getD i [] = g.getD i [] := by simp [List.getD, List.getElem?_append_left (show i < g.length by rw [← h1.len]; exact hl)]
    rw [e1, e2]; exact h1.at_ i hl
  · have e1 : (gs ++ os).getD i dH = os.getD (i - gs.length) dH := by simp [List.getD, List.getElem?_append_right (Nat.le_of_not_lt hl)]
    have e2 : (g ++ o).getD i [] = o.getD (i - gs.length) [] := by rw [h1.len]; simp [List.getD, List.getElem?_append_right (show g.length ≤ i by rw [← h1.len]; omega)]
    rw [e1, e2]; exact h2.at_ _ (by simp at hi; omega)
theorem eachSlot_run (e e' : Nat) (g o : List (List Int)) (hgo : g.length + o.length ≤ 1048576) (hx : ∀ i, ((g ++ o).getD i []).length ≤ 1048576) : RunT Tryz.prog 218 [.agg [.c (tSL e g), .c (tSL e' o)]] [] [ob (okS [] (g ++ o).flatten)] [] := by
  refine of_told ⟨_, Tryz.func218, rfl, rfl⟩ (fun hc gs os A1 A2 n1 n2 c1 c2 t1 t2 s1 s2 => ?_)
  exact eachSlot_told gs os (g ++ o) A1 A2 n1 n2 c1 c2 t1 t2 (by rw [s1.len, s2.len]; exact hgo) (s1.append s2) hx
end Go.Proofs.YtnfjpjgmhhmdeaaGreatDoor
end
