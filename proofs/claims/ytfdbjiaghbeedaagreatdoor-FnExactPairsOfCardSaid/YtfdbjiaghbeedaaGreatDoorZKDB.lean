import Derived.Test.YtfdbjiaghbeedaaGreatDoorZKDA
import Derived.Test.YtfdbjiaghbeedaaGreatDoorMkL
import Derived.Test.YtfdbjiaghbeedaaGreatDoorVS
import Derived.ChangeKeysEq
section
/- Bytes and the numbers in them. -/
namespace Go.Proofs.YtfdbjiaghbeedaaGreatDoor
open Go Go.Tr
set_option maxRecDepth 100000
set_option maxHeartbeats 4000000
set_option linter.unusedVariables false
set_option linter.unusedSimpArgs false
def byP (xs : List Int) (j : Nat) : Prop := 0 ≤ xs.getD j 0 ∧ xs.getD j 0 ≤ 255
def bysOk (xs : List Int) : Prop := xs.length ≤ 1000 ∧ ∀ j, j < xs.length → byP xs j
instance (xs : List Int) (j : Nat) : Decidable (byP xs j) := by unfold byP; infer_instance
instance (xs : List Int) : Decidable (bysOk xs) := by unfold bysOk; infer_instance
theorem isByte_run (x : Int) : RunT Tryz.prog 223 [ti x] [] [ob (decide (0 ≤ x ∧ x ≤ 255))] [] := by
  refine RunT.of_vc gOk Tryz.func223 rfl rfl (Nat.le_of_ble_eq_true rfl) (by repeat' (first | exact trivial | exact ⟨_, rfl, Nat.le_refl _⟩ | exact Nat.le_of_ble_eq_true rfl | refine And.intro ?_ ?_)) (Nat.le_of_ble_eq_true rfl) rfl (fun F hE => ?_)
  repeat' (first | exact trivial | refine BS.d (fun h => ?_) (fun h => ?_) | refine BS.e (fun h => ?_) (fun h => ?_) | refine BS.ne (fun h => ?_) (fun h => ?_) | refine BS.n ?_ | refine BS.s (fun h => ?_) (fun h => ?_) | refine And.intro ?_ ?_ | (refine Need.mk ?_; first | with_reducible rfl | (show @Eq TC _ _; rfl) | omega | (simp only [adN_zero]; omega)) | exact OutS.whole rfl rfl | refine ListO.go gOk hE ?_)
  all_goals (refine Need.mk ?_; first | rfl | (symm; apply decide_eq_true; omega) | (symm; apply decide_eq_false; omega) | (apply decide_eq_decide.2; omega) | (simp only [beq_iff_eq, Bool.beq_eq_decide_eq] at *; apply decide_eq_decide.2; omega) | (simp; omega))
theorem BytesOkS_run (xs : List Int) (hn : xs.length ≤ 1048576) : RunT Tryz.prog 215 [.one (.c (tI xs))] [] [ob (decide (bysOk xs))] [] := by
  refine RunT.of_vc gOk Tryz.func215 rfl rfl (Nat.le_of_ble_eq_true rfl) (by repeat' (first | exact trivial | exact ⟨_, rfl, Nat.le_refl _⟩ | exact Nat.le_of_ble_eq_true rfl | refine And.intro ?_ ?_)) (Nat.le_of_ble_eq_true rfl) rfl (fun F hE => ?_)
  repeat' (first | exact trivial | refine BS.d (fun h => ?_) (fun h => ?_) | refine BS.e (fun h => ?_) (fun h => ?_) | refine BS.ne (fun h => ?_) (fun h => ?_) | refine BS.n ?_ | refine BS.s (fun h => ?_) (fun h => ?_) | refine And.intro ?_ ?_ | (refine Need.mk ?_; first | with_reducible rfl | (show @Eq TC _ _; rfl) | omega | (simp only [adN_zero]; omega)) | exact OutS.whole rfl rfl | refine ListO.go gOk hE ?_)
  refine CodeK.loop gOk hE (fun i : Nat => ⟨[(0, vr 1000000 xs.length), (3, vi i)], [(1000000, rI .fro false xs)]⟩) (fun i => i ≤ xs.length ∧ ∀ j, j < i → byP xs j) (fun i => xs.length - i) 0 (by refine leT.of ?_ ?_ rfl <;> repeat' (first | exact trivial | refine And.intro rfl ?_ | refine And.intro (by simp) ?_)) ⟨Nat.zero_le _, fun j hj => absurd hj (Nat.not_lt_zero _)⟩ ?_
  rintro i ⟨hi, hq⟩
  by_cases hi2 : i < xs.length
  · have c1 := inH_run (xs.getD i 0) 0 255
    by_cases hp : byP xs i
    · rw [decide_eq_true (show 0 ≤ xs.getD i 0 ∧ xs.getD i 0 ≤ 255 from hp)] at c1
      repeat' (first | exact trivial | refine BS.d (fun h => ?_) (fun h => ?_) | refine BS.e (fun h => ?_) (fun h => ?_) | refine BS.ne (fun h => ?_) (fun h => ?_) | refine BS.n ?_ | refine BS.s (fun h => ?_) (fun h => ?_) | refine And.intro ?_ ?_ | (refine Need.mk ?_; first | with_reducible rfl | (show @Eq TC _ _; rfl) | omega | (simp only [adN_zero]; omega)) | exact OutS.whole rfl rfl | (refine OpK.call c1 rfl rfl rfl rfl hE ?_ rfl rfl ?_; focus ((repeat' (first | exact PsA.lit _ | exact PsA.ref rfl rfl | constructor)); all_goals (fail "ps"))) | refine ListO.go gOk hE ?_)
      all_goals (try simp only [adN_zero] at *)
      all_goals first
        | (exfalso; omega)
        | (refine Need.mk ?_; omega)
        | (refine ⟨i + 1, (by refine leT.of ?_ ?_ rfl <;> repeat' (first | exact trivial | refine And.intro rfl ?_ | refine And.intro (by simp) ?_)), ⟨by omega, fun j hj => (Nat.lt_or_ge j i).elim (hq j) (fun h9 => (show j = i by omega) ▸ hp)⟩, by first | omega | (dsimp only; omega)⟩)
    · rw [decide_eq_false (show ¬ (0 ≤ xs.getD i 0 ∧ xs.getD i 0 ≤ 255) from hp)] at c1
      repeat' (first | exact trivial | refine BS.d (fun h => ?_) (fun h => ?_) | refine BS.e (fun h => ?_) (fun h => ?_) | refine BS.ne (fun h => ?_) (fun h => ?_) | refine BS.n ?_ | refine BS.s (fun h => ?_) (fun h => ?_) | refine And.intro ?_ ?_ | (refine Need.mk ?_; first | with_reducible rfl | (show @Eq TC _ _; rfl) | omega | (simp only [adN_zero]; omega)) | exact OutS.whole rfl rfl | (refine OpK.call c1 rfl rfl rfl rfl hE ?_ rfl rfl ?_; focus ((repeat' (first | exact PsA.lit _ | exact PsA.ref rfl rfl | constructor)); all_goals (fail "ps"))) | refine ListO.go gOk hE ?_)
      all_goals (try simp only [adN_zero] at *)
      all_goals first
        | (exfalso; omega)
        | (refine Need.mk ?_; omega)
        | (refine Need.mk ?_; symm; apply decide_eq_false; intro hh; exact hp (hh.2 i hi2))
  · repeat' (first | exact trivial | refine BS.d (fun h => ?_) (fun h => ?_) | refine BS.e (fun h => ?_) (fun h => ?_) | refine BS.ne (fun h => ?_) (fun h => ?_) | refine BS.n ?_ | refine BS.s (fun h => ?_) (fun h => ?_) | refine And.intro ?_ ?_ | (refine Need.mk ?_; first | with_reducible rfl | (show @Eq TC _ _; rfl) | omega | (simp only [adN_zero]; omega)) | exact OutS.whole rfl rfl | refine ListO.go gOk hE ?_)
    all_goals first
      | (exfalso; omega)
      | (refine Need.mk ?_; apply decide_eq_decide.2; unfold bysOk; constructor <;> intro h9 <;> first | exact ⟨by omega, fun j hj => hq j (by omega)⟩ | (have := h9.1; omega))
theorem BytesOkI_run (xs : List Int) (hn : xs.length ≤ 1048576) : RunT Tryz.prog 216 [.one (.c (tI xs))] [] [ob (decide (bysOk xs))] [] := by
  refine RunT.of_vc gOk Tryz.func216 rfl rfl (Nat.le_of_ble_eq_true rfl) (by repeat' (first | exact trivial | exact ⟨_, rfl, Nat.le_refl _⟩ | exact Nat.le_of_ble_eq_true rfl | refine And.intro ?_ ?_)) (Nat.le_of_ble_eq_true rfl) rfl (fun F hE => ?_)
  repeat' (first | exact trivial | refine BS.d (fun h => ?_) (fun h => ?_) | refine BS.e (fun h => ?_) (fun h => ?_) | refine BS.ne (fun h => ?_) (fun h => ?_) | refine BS.n ?_ | refine BS.s (fun h => ?_) (fun h => ?_) | refine And.intro ?_ ?_ | (refine Need.mk ?_; first | with_reducible rfl | (show @Eq TC _ _; rfl) | omega | (simp only [adN_zero]; omega)) | exact OutS.whole rfl rfl | refine ListO.go gOk hE ?_)
  · refine Need.mk ?_; symm; apply decide_eq_false; intro hh; have := hh.1; omega
  refine CodeK.loop gOk hE (fun i : Nat => ⟨[(8, vr 1000000 xs.length), (9, vi xs.length), (10, vi i)], [(1000000, rI .fro false xs)]⟩) (fun i => i ≤ xs.length ∧ ∀ j, j < i → byP xs j) (fun i => xs.length - i) 0 (by refine leT.of ?_ ?_ rfl <;> repeat' (first | exact trivial | refine And.intro rfl ?_ | refine And.intro (by simp) ?_)) ⟨Nat.zero_le _, fun j hj => absurd hj (Nat.not_lt_zero _)⟩ ?_
  rintro i ⟨hi, hq⟩
  by_cases hi2 : i < xs.length
  · have c1 := isByte_run (xs.getD i 0)
    by_cases hp : byP xs i
    · rw [decide_eq_true (show 0 ≤ xs.getD i 0 ∧ xs.getD i 0 ≤ 255 from hp)] at c1
      repeat' (first | exact trivial | refine BS.d (fun h => ?_) (fun h => ?_) | refine BS.e (fun h => ?_) (fun h => ?_) | refine BS.ne (fun h => ?_) (fun h => ?_) | refine BS.n ?_ | refine BS.s (fun h => ?_) (fun h => ?_) | refine And.intro ?_ ?_ | (refine Need.mk ?_; first | with_reducible rfl | (show @Eq TC _ _; rfl) | omega | (simp only [adN_zero]; omega)) | exact OutS.whole rfl rfl | (refine OpK.call c1 rfl rfl rfl rfl hE ?_ rfl rfl ?_; focus ((repeat' (first | exact PsA.lit _ | exact PsA.ref rfl rfl | constructor)); all_goals (fail "ps"))) | refine ListO.go gOk hE ?_)
      all_goals (try simp only [adN_zero] at *)
      all_goals first
        | (exfalso; omega)
        | (refine Need.mk ?_; omega)
        | (refine ⟨i + 1, (by refine leT.of ?_ ?_ rfl <;> repeat' (first | exact trivial | refine And.intro rfl ?_ | refine And.intro (by simp) ?_)), ⟨by omega, fun j hj => (Nat.lt_or_ge j i).elim (hq j) (fun h9 => (show j = i by omega) ▸ hp)⟩, by first | omega | (dsimp only; omega)⟩)
    · rw [decide_eq_false (show ¬ (0 ≤ xs.getD i 0 ∧ xs.getD i 0 ≤ 255) from hp)] at c1
      repeat' (first | exact trivial | refine BS.d (fun h => ?_) (fun h => ?_) | refine BS.e (fun h => ?_) (fun h => ?_) | refine BS.ne (fun h => ?_) (fun h => ?_) | refine BS.n ?_ | refine BS.s (fun h => ?_) (fun h => ?_) | refine And.intro ?_ ?_ | (refine Need.mk ?_; first | with_reducible rfl | (show @Eq TC _ _; rfl) | omega | (simp only [adN_zero]; omega)) | exact OutS.whole rfl rfl | (refine OpK.call c1 rfl rfl rfl rfl hE ?_ rfl rfl ?_; focus ((repeat' (first | exact PsA.lit _ | exact PsA.ref rfl rfl | constructor)); all_goals (fail "ps"))) | refine ListO.go gOk hE ?_)
      all_goals (try simp only [adN_zero] at *)
      all_goals first
        | (exfalso; omega)
        | (refine Need.mk ?_; omega)
        | (refine Need.mk ?_; symm; apply decide_eq_false; intro hh; exact hp (hh.2 i hi2))
  · repeat' (first | exact trivial | refine BS.d (fun h => ?_) (fun h => ?_) | refine BS.e (fun h => ?_) (fun h => ?_) | refine BS.ne (fun h => ?_) (fun h => ?_) | refine BS.n ?_ | refine BS.s (fun h => ?_) (fun h => ?_) | refine And.intro ?_ ?_ | (refine Need.mk ?_; first | with_reducible rfl | (show @Eq TC _ _; rfl) | omega | (simp only [adN_zero]; omega)) | exact OutS.whole rfl rfl | refine ListO.go gOk hE ?_)
    all_goals first
      | (exfalso; omega)
      | (refine Need.mk ?_; symm; apply decide_eq_true; exact ⟨by omega, fun j hj => hq j (by omega)⟩)
def zeroP (xs : List Int) : Prop := ∀ j, j < xs.length → xs.getD j 0 = 0
instance (xs : List Int) : Decidable (zeroP xs) := by unfold zeroP; infer_instance
/-- The number that so many bytes tell. -/
def ldN (xs : List Int) (p : Nat) : Nat → Int
  | 0 => 0
  | k + 1 => ldN xs p k * 256 + xs.getD (p + k) 0
theorem ldN_bd {xs : List Int} (p : Nat) : ∀ k : Nat, (∀ j, j < xs.length → byP xs j) → p + k ≤ xs.length → k ≤ 7 → 0 ≤ ldN xs p k ∧ ldN xs p k < 256 ^ k
  | 0, _, _, _ => ⟨by show (0 : Int) ≤ 0; omega, by show (0 : Int) < 1; omega⟩
  | k + 1, hq, hl, hk => by
    obtain ⟨h1, h2⟩ := ldN_bd p k hq (by omega) (by omega)
    obtain ⟨h3, h4⟩ := hq (p + k) (by omega)
    have e : (256 : Int) ^ (k + 1) = 256 ^ k * 256 := Int.pow_succ _ _
    unfold ldN
    rw [e]
    omega
theorem pow7 : ∀ k : Nat, k ≤ 6 → (256 : Int) ^ k ≤ 281474976710656 := by
  intro k hk
  match k, hk with
  | 0, _ => decide
  | 1, _ => decide
  | 2, _ => decide
  | 3, _ => decide
  | 4, _ => decide
  | 5, _ => decide
  | 6, _ => decide
theorem l3Load_run (xs : List Int) (p : Int) (k : Nat) (hn : xs.length ≤ 1048576) (hq : ∀ j, j < xs.length → byP xs j) (hp : 0 ≤ p) (hk : k ≤ 7) (hl : p.toNat + k ≤ xs.length) : RunT Tryz.prog 179 [.one (.c (tI xs)), ti p, ti k] [] [oi (ldN xs p.toNat k)] [] := by
  refine RunT.of_vc gOk Tryz.func179 rfl rfl (Nat.le_of_ble_eq_true rfl) (by repeat' (first | exact trivial | exact ⟨_, rfl, Nat.le_refl _⟩ | exact Nat.le_of_ble_eq_true rfl | refine And.intro ?_ ?_)) (Nat.le_of_ble_eq_true rfl) rfl (fun F hE => ?_)
  repeat' (first | exact trivial | refine BS.d (fun h => ?_) (fun h => ?_) | refine BS.e (fun h => ?_) (fun h => ?_) | refine BS.ne (fun h => ?_) (fun h => ?_) | refine BS.n ?_ | refine BS.s (fun h => ?_) (fun h => ?_) | refine And.intro ?_ ?_ | (refine Need.mk ?_; first | with_reducible rfl | (show @Eq TC _ _; rfl) | omega | (simp only [adN_zero]; omega)) | exact OutS.whole rfl rfl | refine ListO.go gOk hE ?_)
  refine CodeK.loop gOk hE (fun i : Nat => ⟨[(0, vr 1000000 xs.length), (1, vi p), (2, vi k), (7, vi (ldN xs p.toNat i)), (8, vi i)], [(1000000, rI .fro false xs)]⟩) (fun i => i ≤ k) (fun i => k - i) 0 (by refine leT.of ?_ ?_ rfl <;> repeat' (first | exact trivial | refine And.intro rfl ?_ | refine And.intro (by first | rfl | (simp [ldN]; done) | (simp only [ldN]; rfl)) ?_)) (Nat.zero_le _) ?_
  rintro i hi
  by_cases hi2 : i < k
  · obtain ⟨hb1, hb2⟩ := ldN_bd p.toNat i hq (by omega) (by omega)
    have hb3 := pow7 i (by omega)
    have hb4 := hq (p.toNat + i) (by omega)
    unfold byP at hb4
    have hN : ldN xs p.toNat (i + 1) = ldN xs p.toNat i * 256 + xs.getD (p + i).toNat 0 := by rw [show (p + (i : Int)).toNat = p.toNat + i by omega]; rfl
    rw [show p.toNat + i = (p + (i : Int)).toNat by omega] at hb4
    have ha : adN 0 (p + (i : Int)) = (p + (i : Int)).toNat := by rw [adN_eq]; omega
    generalize ldN xs p.toNat i = z at *
    repeat' (first | exact trivial | refine BS.d (fun h => ?_) (fun h => ?_) | refine BS.e (fun h => ?_) (fun h => ?_) | refine BS.ne (fun h => ?_) (fun h => ?_) | refine BS.n ?_ | refine BS.s (fun h => ?_) (fun h => ?_) | refine And.intro ?_ ?_ | (refine Need.mk ?_; first | with_reducible rfl | (show @Eq TC _ _; rfl) | omega | (simp only [adN_zero]; omega)) | exact OutS.whole rfl rfl | refine ListO.go gOk hE ?_)
    all_goals (try simp only [adN_zero, ha] at *)
    all_goals first
      | (exfalso; omega)
      | (refine Need.mk ?_; omega)
      | (refine ⟨i + 1, (by refine leT.of ?_ ?_ rfl <;> repeat' (first | exact trivial | refine And.intro rfl ?_ | refine And.intro (by first | rfl | (rw [hN]; rfl) | (simp; done)) ?_)), by omega, by first | omega | (dsimp only; omega)⟩)
      | trace_state
  · obtain rfl : i = k := by omega
    repeat' (first | exact trivial | refine BS.d (fun h => ?_) (fun h => ?_) | refine BS.e (fun h => ?_) (fun h => ?_) | refine BS.ne (fun h => ?_) (fun h => ?_) | refine BS.n ?_ | refine BS.s (fun h => ?_) (fun h => ?_) | refine And.intro ?_ ?_ | (refine Need.mk ?_; first | with_reducible rfl | (show @Eq TC _ _; rfl) | omega | (simp only [adN_zero]; omega)) | exact OutS.whole rfl rfl | refine ListO.go gOk hE ?_)
    all_goals first | (exfalso; omega) | exact Need.mk rfl | trace_state
theorem numAt_run (xs : List Int) (p : Int) (k : Nat) (hn : xs.length ≤ 1048576) (hq : ∀ j, j < xs.length → byP xs j) (hp : 0 ≤ p) (hk : k ≤ 7) (hl : p.toNat + k ≤ xs.length) : RunT Tryz.prog 120 [.one (.c (tI xs)), ti p, ti k] [] [oi (ldN xs p.toNat k)] [] := by
  obtain ⟨q, rfl⟩ := Int.eq_ofNat_of_zero_le hp
  simp only [Int.toNat_natCast] at *
  have e : ((q : Int) + (k : Int)).toNat - (q : Int).toNat = k := by omega
  refine RunT.of_vc gOk Tryz.func120 rfl rfl (Nat.le_of_ble_eq_true rfl) (by repeat' (first | exact trivial | exact ⟨_, rfl, Nat.le_refl _⟩ | exact Nat.le_of_ble_eq_true rfl | refine And.intro ?_ ?_)) (Nat.le_of_ble_eq_true rfl) rfl (fun F hE => ?_)
  repeat' (first | exact trivial | refine BS.d (fun h => ?_) (fun h => ?_) | refine BS.e (fun h => ?_) (fun h => ?_) | refine BS.ne (fun h => ?_) (fun h => ?_) | refine BS.n ?_ | refine BS.s (fun h => ?_) (fun h => ?_) | refine And.intro ?_ ?_ | (refine Need.mk ?_; first | with_reducible rfl | (show @Eq TC _ _; rfl) | omega | (simp only [adN_zero]; omega)) | exact OutS.whole rfl rfl | refine ListO.go gOk hE ?_)
  all_goals first | (refine Need.mk ?_; omega) | skip
  rw [adN_zero, e]
  repeat' (first | exact trivial | refine BS.d (fun h => ?_) (fun h => ?_) | refine BS.e (fun h => ?_) (fun h => ?_) | refine BS.ne (fun h => ?_) (fun h => ?_) | refine BS.n ?_ | refine BS.s (fun h => ?_) (fun h => ?_) | refine And.intro ?_ ?_ | (refine Need.mk ?_; first | with_reducible rfl | (show @Eq TC _ _; rfl) | omega | (simp only [adN_zero]; omega)) | exact OutS.whole rfl rfl | refine ListO.go gOk hE ?_)
  refine CodeK.loop gOk hE (fun i : Nat => ⟨[(7, vi (ldN xs q i)), (15, .a (.ref 1000000 q k)), (16, vi k), (17, vi i)], [(1000000, rI .fro false xs)]⟩) (fun i => i ≤ k) (fun i => k - i) 0 (by refine leT.of ?_ ?_ rfl <;> repeat' (first | exact trivial | refine And.intro rfl ?_ | refine And.intro (by first | rfl | (simp [ldN]; done) | (simp only [ldN]; rfl)) ?_)) (Nat.zero_le _) ?_
  rintro i hi
  by_cases hi2 : i < k
  · obtain ⟨hb1, hb2⟩ := ldN_bd q i hq (by omega) (by omega)
    have hb3 := pow7 i (by omega)
    have hb4 := hq (q + i) (by omega)
    unfold byP at hb4
    have hN : ldN xs q (i + 1) = ldN xs q i * 256 + xs.getD (q + i) 0 := rfl
    have ha : adN q (i : Int) = q + i := by rw [adN_eq]; omega
    have ho := or8 (ldN xs q i) (xs.getD (q + i) 0) hb1 (by omega) hb4.1 hb4.2
    rw [← hN] at ho
    generalize ldN xs q i = z at *
    repeat' (first | exact trivial | refine BS.d (fun h => ?_) (fun h => ?_) | refine BS.e (fun h => ?_) (fun h => ?_) | refine BS.ne (fun h => ?_) (fun h => ?_) | refine BS.n ?_ | refine BS.s (fun h => ?_) (fun h => ?_) | refine And.intro ?_ ?_ | (refine Need.mk ?_; first | with_reducible rfl | (show @Eq TC _ _; rfl) | omega | (simp only [adN_zero]; omega)) | exact OutS.whole rfl rfl | (refine PK.shl8 rfl rfl rfl (by omega) ?_) | refine ListO.go gOk hE ?_)
    all_goals (try simp only [adN_zero, ha] at *)
    all_goals first
      | (exfalso; omega)
      | (refine Need.mk ?_; omega)
      | (refine ⟨i + 1, (by refine leT.of ?_ ?_ rfl <;> repeat' (first | exact trivial | refine And.intro rfl ?_ | refine And.intro (by first | rfl | (rw [← ho]; rfl) | (simp; done)) ?_)), by omega, by first | omega | (dsimp only; omega)⟩)
      | trace_state
  · obtain rfl : i = k := by omega
    repeat' (first | exact trivial | refine BS.d (fun h => ?_) (fun h => ?_) | refine BS.e (fun h => ?_) (fun h => ?_) | refine BS.ne (fun h => ?_) (fun h => ?_) | refine BS.n ?_ | refine BS.s (fun h => ?_) (fun h => ?_) | refine And.intro ?_ ?_ | (refine Need.mk ?_; first | with_reducible rfl | (show @Eq TC _ _; rfl) | omega | (simp only [adN_zero]; omega)) | exact OutS.whole rfl rfl | refine ListO.go gOk hE ?_)
    all_goals first | (exfalso; omega) | exact Need.mk rfl | trace_state
end Go.Proofs.YtfdbjiaghbeedaaGreatDoor
end

section
/- A heap's shape, the class and the generation of a slot. -/
namespace Go.Proofs.YtfdbjiaghbeedaaGreatDoor
open Go Go.Tr
set_option maxRecDepth 100000
set_option maxHeartbeats 4000000
set_option linter.unusedVariables false
set_option linter.unusedSimpArgs false
abbrev aH2 (b c : List Int) : TAg := .agg [.c (tI b), .c (tI c)]
abbrev bH (b c : List Int) : TRoot := .box 33 [.ref 1000000 0 b.length, .ref 1000001 0 c.length]
def clP (c : List Int) (j : Nat) : Prop := -1 ≤ c.getD j 0 ∧ c.getD j 0 ≤ 2
instance (c : List Int) (j : Nat) : Decidable (clP c j) := by unfold clP; infer_instance
def shP (b c : List Int) : Prop := b.length = 384 ∧ c.length = 6 ∧ bysOk b ∧ ∀ j, j < 6 → clP c j
instance (b c : List Int) : Decidable (shP b c) := by unfold shP; infer_instance
theorem l7Shape_run (b c : List Int) (hb : b.length ≤ 1048576) (hc : c.length ≤ 1048576) : RunT Tryz.prog 173 [aH2 b c] [] [ob (decide (shP b c))] [] := by
  have c1 := BytesOkS_run b hb
  by_cases h1 : b.length = 384 ∧ c.length = 6 ∧ bysOk b
  · obtain ⟨h1, h2, h3⟩ := h1
    rw [decide_eq_true h3] at c1
    refine RunT.of_vc gOk Tryz.func173 rfl rfl (Nat.le_of_ble_eq_true rfl) (by repeat' (first | exact trivial | exact ⟨_, rfl, Nat.le_refl _⟩ | exact Nat.le_of_ble_eq_true rfl | refine And.intro ?_ ?_)) (Nat.le_of_ble_eq_true rfl) rfl (fun F hE => ?_)
    repeat' (first | exact trivial | refine BS.d (fun h => ?_) (fun h => ?_) | refine BS.e (fun h => ?_) (fun h => ?_) | refine BS.ne (fun h => ?_) (fun h => ?_) | refine BS.n ?_ | refine BS.s (fun h => ?_) (fun h => ?_) | refine And.intro ?_ ?_ | (refine Need.mk ?_; first | with_reducible rfl | (show @Eq TC _ _; rfl) | omega | (simp only [adN_zero]; omega)) | exact OutS.whole rfl rfl | (refine OpK.call c1 rfl rfl rfl rfl hE ?_ rfl rfl ?_; focus ((repeat' (first | exact PsA.lit _ | exact PsA.ref rfl rfl | constructor)); all_goals (fail "ps"))) | refine ListO.go gOk hE ?_)
    all_goals (try simp only [adN_zero] at *)
    all_goals first | (exfalso; omega) | skip
    refine CodeK.loop gOk hE (fun i : Nat => ⟨[(1, .ptr 1 0 0), (3, vi i)], [(1, bH b c), (1000000, rI .fro false b), (1000001, rI .fro false c)]⟩) (fun i => i ≤ 6 ∧ ∀ j, j < i → clP c j) (fun i => 6 - i) 0 (by refine leT.of ?_ ?_ rfl <;> repeat' (first | exact trivial | refine And.intro rfl ?_ | refine And.intro (by simp) ?_)) ⟨Nat.zero_le _, fun j hj => absurd hj (Nat.not_lt_zero _)⟩ ?_
    rintro i ⟨hi, hq⟩
    have c2 := inH_run (c.getD i 0) (-1) 2
    by_cases hi2 : i < 6
    · by_cases hp : clP c i
      · rw [decide_eq_true (show -1 ≤ c.getD i 0 ∧ c.getD i 0 ≤ 2 from hp)] at c2
        repeat' (first | exact trivial | refine BS.d (fun h => ?_) (fun h => ?_) | refine BS.e (fun h => ?_) (fun h => ?_) | refine BS.ne (fun h => ?_) (fun h => ?_) | refine BS.n ?_ | refine BS.s (fun h => ?_) (fun h => ?_) | refine And.intro ?_ ?_ | (refine Need.mk ?_; first | with_reducible rfl | (show @Eq TC _ _; rfl) | omega | (simp only [adN_zero]; omega)) | exact OutS.whole rfl rfl | (refine OpK.call c2 rfl rfl rfl rfl hE ?_ rfl rfl ?_; focus ((repeat' (first | exact PsA.lit _ | exact PsA.ref rfl rfl | constructor)); all_goals (fail "ps"))) | refine ListO.go gOk hE ?_)
        all_goals (try simp only [adN_zero] at *)
        all_goals first
          | (exfalso; omega)
          | (refine Need.mk ?_; omega)
          | (refine ⟨i + 1, (by refine leT.of ?_ ?_ rfl <;> repeat' (first | exact trivial | refine And.intro rfl ?_ | refine And.intro (by simp) ?_)), ⟨by omega, fun j hj => (Nat.lt_or_ge j i).elim (hq j) (fun h9 => (show j = i by omega) ▸ hp)⟩, by first | omega | (dsimp only; omega)⟩)
      · rw [decide_eq_false (show ¬ (-1 ≤ c.getD i 0 ∧ c.getD i 0 ≤ 2) from hp)] at c2
        repeat' (first | exact trivial | refine BS.d (fun h => ?_) (fun h => ?_) | refine BS.e (fun h => ?_) (fun h => ?_) | refine BS.ne (fun h => ?_) (fun h => ?_) | refine BS.n ?_ | refine BS.s (fun h => ?_) (fun h => ?_) | refine And.intro ?_ ?_ | (refine Need.mk ?_; first | with_reducible rfl | (show @Eq TC _ _; rfl) | omega | (simp only [adN_zero]; omega)) | exact OutS.whole rfl rfl | (refine OpK.call c2 rfl rfl rfl rfl hE ?_ rfl rfl ?_; focus ((repeat' (first | exact PsA.lit _ | exact PsA.ref rfl rfl | constructor)); all_goals (fail "ps"))) | refine ListO.go gOk hE ?_)
        all_goals (try simp only [adN_zero] at *)
        all_goals first
          | (exfalso; omega)
          | (refine Need.mk ?_; omega)
          | (refine Need.mk ?_; symm; apply decide_eq_false; intro hh; exact hp (hh.2.2.2 i hi2))
    · repeat' (first | exact trivial | refine BS.d (fun h => ?_) (fun h => ?_) | refine BS.e (fun h => ?_) (fun h => ?_) | refine BS.ne (fun h => ?_) (fun h => ?_) | refine BS.n ?_ | refine BS.s (fun h => ?_) (fun h => ?_) | refine And.intro ?_ ?_ | (refine Need.mk ?_; first | with_reducible rfl | (show @Eq TC _ _; rfl) | omega | (simp only [adN_zero]; omega)) | exact OutS.whole rfl rfl | refine ListO.go gOk hE ?_)
      all_goals first
        | (exfalso; omega)
        | (refine Need.mk ?_; symm; apply decide_eq_true; exact ⟨h1, h2, h3, fun j hj => hq j (by omega)⟩)
  · rw [decide_eq_false (show ¬ shP b c from fun h => h1 ⟨h.1, h.2.1, h.2.2.1⟩)]
    by_cases h3 : bysOk b
    · rw [decide_eq_true h3] at c1
      refine RunT.of_vc gOk Tryz.func173 rfl rfl (Nat.le_of_ble_eq_true rfl) (by repeat' (first | exact trivial | exact ⟨_, rfl, Nat.le_refl _⟩ | exact Nat.le_of_ble_eq_true rfl | refine And.intro ?_ ?_)) (Nat.le_of_ble_eq_true rfl) rfl (fun F hE => ?_)
      repeat' (first | exact trivial | refine BS.d (fun h => ?_) (fun h => ?_) | refine BS.e (fun h => ?_) (fun h => ?_) | refine BS.ne (fun h => ?_) (fun h => ?_) | refine BS.n ?_ | refine BS.s (fun h => ?_) (fun h => ?_) | refine And.intro ?_ ?_ | (refine Need.mk ?_; first | with_reducible rfl | (show @Eq TC _ _; rfl) | omega | (simp only [adN_zero]; omega)) | exact OutS.whole rfl rfl | (refine OpK.call c1 rfl rfl rfl rfl hE ?_ rfl rfl ?_; focus ((repeat' (first | exact PsA.lit _ | exact PsA.ref rfl rfl | constructor)); all_goals (fail "ps"))) | refine ListO.go gOk hE ?_)
      all_goals first | exact Need.mk rfl | (exfalso; exact h1 ⟨by omega, by omega, h3⟩) | trace_state
    · rw [decide_eq_false h3] at c1
      refine RunT.of_vc gOk Tryz.func173 rfl rfl (Nat.le_of_ble_eq_true rfl) (by repeat' (first | exact trivial | exact ⟨_, rfl, Nat.le_refl _⟩ | exact Nat.le_of_ble_eq_true rfl | refine And.intro ?_ ?_)) (Nat.le_of_ble_eq_true rfl) rfl (fun F hE => ?_)
      repeat' (first | exact trivial | refine BS.d (fun h => ?_) (fun h => ?_) | refine BS.e (fun h => ?_) (fun h => ?_) | refine BS.ne (fun h => ?_) (fun h => ?_) | refine BS.n ?_ | refine BS.s (fun h => ?_) (fun h => ?_) | refine And.intro ?_ ?_ | (refine Need.mk ?_; first | with_reducible rfl | (show @Eq TC _ _; rfl) | omega | (simp only [adN_zero]; omega)) | exact OutS.whole rfl rfl | (refine OpK.call c1 rfl rfl rfl rfl hE ?_ rfl rfl ?_; focus ((repeat' (first | exact PsA.lit _ | exact PsA.ref rfl rfl | constructor)); all_goals (fail "ps"))) | refine ListO.go gOk hE ?_)
      all_goals first | exact Need.mk rfl | (exfalso; omega) | trace_state
theorem shapeOk_run (b c : List Int) (hb : b.length ≤ 1048576) (hc : c.length ≤ 1048576) : RunT Tryz.prog 181 [aH2 b c] [] [ob (decide (shP b c))] [] := by
  have c1 := BytesOkI_run b hb
  by_cases h1 : b.length = 384 ∧ c.length = 6 ∧ bysOk b
  · obtain ⟨h1, h2, h3⟩ := h1
    rw [decide_eq_true h3] at c1
    refine RunT.of_vc gOk Tryz.func181 rfl rfl (Nat.le_of_ble_eq_true rfl) (by repeat' (first | exact trivial | exact ⟨_, rfl, Nat.le_refl _⟩ | exact Nat.le_of_ble_eq_true rfl | refine And.intro ?_ ?_)) (Nat.le_of_ble_eq_true rfl) rfl (fun F hE => ?_)
    repeat' (first | exact trivial | refine BS.d (fun h => ?_) (fun h => ?_) | refine BS.e (fun h => ?_) (fun h => ?_) | refine BS.ne (fun h => ?_) (fun h => ?_) | refine BS.n ?_ | refine BS.s (fun h => ?_) (fun h => ?_) | refine And.intro ?_ ?_ | (refine Need.mk ?_; first | with_reducible rfl | (show @Eq TC _ _; rfl) | omega | (simp only [adN_zero]; omega)) | exact OutS.whole rfl rfl | (refine OpK.call c1 rfl rfl rfl rfl hE ?_ rfl rfl ?_; focus ((repeat' (first | exact PsA.lit _ | exact PsA.ref rfl rfl | constructor)); all_goals (fail "ps"))) | refine ListO.go gOk hE ?_)
    all_goals (try simp only [adN_zero] at *)
    all_goals first | (exfalso; omega) | skip
    refine CodeK.loop gOk hE (fun i : Nat => ⟨[(1, .ptr 1 0 0), (22, vr 1000001 c.length), (23, vi c.length), (24, vi i)], [(1, bH b c), (1000000, rI .fro false b), (1000001, rI .fro false c)]⟩) (fun i => i ≤ 6 ∧ ∀ j, j < i → clP c j) (fun i => 6 - i) 0 (by refine leT.of ?_ ?_ rfl <;> repeat' (first | exact trivial | refine And.intro rfl ?_ | refine And.intro (by simp) ?_)) ⟨Nat.zero_le _, fun j hj => absurd hj (Nat.not_lt_zero _)⟩ ?_
    rintro i ⟨hi, hq⟩
    have c2 := clsH_run (c.getD i 0)
    by_cases hi2 : i < 6
    · by_cases hp : clP c i
      · have hp' : -1 ≤ c.getD i 0 ∧ c.getD i 0 ≤ 2 := hp
        by_cases hk : c.getD i 0 = -1
        · repeat' (first | exact trivial | refine BS.d (fun h => ?_) (fun h => ?_) | refine BS.e (fun h => ?_) (fun h => ?_) | refine BS.ne (fun h => ?_) (fun h => ?_) | refine BS.n ?_ | refine BS.s (fun h => ?_) (fun h => ?_) | refine And.intro ?_ ?_ | (refine Need.mk ?_; first | with_reducible rfl | (show @Eq TC _ _; rfl) | omega | (simp only [adN_zero]; omega)) | exact OutS.whole rfl rfl | (refine OpK.call c2 rfl rfl rfl rfl hE ?_ rfl rfl ?_; focus ((repeat' (first | exact PsA.lit _ | exact PsA.ref rfl rfl | constructor)); all_goals (fail "ps"))) | refine ListO.go gOk hE ?_)
          all_goals (try simp only [adN_zero] at *)
          all_goals first
            | (exfalso; omega)
            | (refine Need.mk ?_; omega)
            | (refine ⟨i + 1, (by refine leT.of ?_ ?_ rfl <;> repeat' (first | exact trivial | refine And.intro rfl ?_ | refine And.intro (by simp) ?_)), ⟨by omega, fun j hj => (Nat.lt_or_ge j i).elim (hq j) (fun h9 => (show j = i by omega) ▸ hp)⟩, by first | omega | (dsimp only; omega)⟩)
        · rw [decide_eq_true (show 0 ≤ c.getD i 0 ∧ c.getD i 0 < 3 by omega)] at c2
          repeat' (first | exact trivial | refine BS.d (fun h => ?_) (fun h => ?_) | refine BS.e (fun h => ?_) (fun h => ?_) | refine BS.ne (fun h => ?_) (fun h => ?_) | refine BS.n ?_ | refine BS.s (fun h => ?_) (fun h => ?_) | refine And.intro ?_ ?_ | (refine Need.mk ?_; first | with_reducible rfl | (show @Eq TC _ _; rfl) | omega | (simp only [adN_zero]; omega)) | exact OutS.whole rfl rfl | (refine OpK.call c2 rfl rfl rfl rfl hE ?_ rfl rfl ?_; focus ((repeat' (first | exact PsA.lit _ | exact PsA.ref rfl rfl | constructor)); all_goals (fail "ps"))) | refine ListO.go gOk hE ?_)
          all_goals (try simp only [adN_zero] at *)
          all_goals first
            | (exfalso; omega)
            | (refine Need.mk ?_; omega)
            | (refine ⟨i + 1, (by refine leT.of ?_ ?_ rfl <;> repeat' (first | exact trivial | refine And.intro rfl ?_ | refine And.intro (by simp) ?_)), ⟨by omega, fun j hj => (Nat.lt_or_ge j i).elim (hq j) (fun h9 => (show j = i by omega) ▸ hp)⟩, by first | omega | (dsimp only; omega)⟩)
      · have hp' : ¬ (-1 ≤ c.getD i 0 ∧ c.getD i 0 ≤ 2) := hp
        rw [decide_eq_false (show ¬ (0 ≤ c.getD i 0 ∧ c.getD i 0 < 3) by omega)] at c2
        repeat' (first | exact trivial | refine BS.d (fun h => ?_) (fun h => ?_) | refine BS.e (fun h => ?_) (fun h => ?_) | refine BS.ne (fun h => ?_) (fun h => ?_) | refine BS.n ?_ | refine BS.s (fun h => ?_) (fun h => ?_) | refine And.intro ?_ ?_ | (refine Need.mk ?_; first | with_reducible rfl | (show @Eq TC _ _; rfl) | omega | (simp only [adN_zero]; omega)) | exact OutS.whole rfl rfl | (refine OpK.call c2 rfl rfl rfl rfl hE ?_ rfl rfl ?_; focus ((repeat' (first | exact PsA.lit _ | exact PsA.ref rfl rfl | constructor)); all_goals (fail "ps"))) | refine ListO.go gOk hE ?_)
        all_goals (try simp only [adN_zero] at *)
        all_goals first
          | (exfalso; omega)
          | (refine Need.mk ?_; omega)
          | (refine Need.mk ?_; symm; apply decide_eq_false; intro hh; exact hp (hh.2.2.2 i hi2))
    · repeat' (first | exact trivial | refine BS.d (fun h => ?_) (fun h => ?_) | refine BS.e (fun h => ?_) (fun h => ?_) | refine BS.ne (fun h => ?_) (fun h => ?_) | refine BS.n ?_ | refine BS.s (fun h => ?_) (fun h => ?_) | refine And.intro ?_ ?_ | (refine Need.mk ?_; first | with_reducible rfl | (show @Eq TC _ _; rfl) | omega | (simp only [adN_zero]; omega)) | exact OutS.whole rfl rfl | refine ListO.go gOk hE ?_)
      all_goals first
        | (exfalso; omega)
        | (refine Need.mk ?_; symm; apply decide_eq_true; exact ⟨h1, h2, h3, fun j hj => hq j (by omega)⟩)
  · rw [decide_eq_false (show ¬ shP b c from fun h => h1 ⟨h.1, h.2.1, h.2.2.1⟩)]
    by_cases h3 : bysOk b
    · rw [decide_eq_true h3] at c1
      refine RunT.of_vc gOk Tryz.func181 rfl rfl (Nat.le_of_ble_eq_true rfl) (by repeat' (first | exact trivial | exact ⟨_, rfl, Nat.le_refl _⟩ | exact Nat.le_of_ble_eq_true rfl | refine And.intro ?_ ?_)) (Nat.le_of_ble_eq_true rfl) rfl (fun F hE => ?_)
      repeat' (first | exact trivial | refine BS.d (fun h => ?_) (fun h => ?_) | refine BS.e (fun h => ?_) (fun h => ?_) | refine BS.ne (fun h => ?_) (fun h => ?_) | refine BS.n ?_ | refine BS.s (fun h => ?_) (fun h => ?_) | refine And.intro ?_ ?_ | (refine Need.mk ?_; first | with_reducible rfl | (show @Eq TC _ _; rfl) | omega | (simp only [adN_zero]; omega)) | exact OutS.whole rfl rfl | (refine OpK.call c1 rfl rfl rfl rfl hE ?_ rfl rfl ?_; focus ((repeat' (first | exact PsA.lit _ | exact PsA.ref rfl rfl | constructor)); all_goals (fail "ps"))) | refine ListO.go gOk hE ?_)
      all_goals first | exact Need.mk rfl | (exfalso; exact h1 ⟨by omega, by omega, h3⟩) | trace_state
    · rw [decide_eq_false h3] at c1
      refine RunT.of_vc gOk Tryz.func181 rfl rfl (Nat.le_of_ble_eq_true rfl) (by repeat' (first | exact trivial | exact ⟨_, rfl, Nat.le_refl _⟩ | exact Nat.le_of_ble_eq_true rfl | refine And.intro ?_ ?_)) (Nat.le_of_ble_eq_true rfl) rfl (fun F hE => ?_)
      repeat' (first | exact trivial | refine BS.d (fun h => ?_) (fun h => ?_) | refine BS.e (fun h => ?_) (fun h => ?_) | refine BS.ne (fun h => ?_) (fun h => ?_) | refine BS.n ?_ | refine BS.s (fun h => ?_) (fun h => ?_) | refine And.intro ?_ ?_ | (refine Need.mk ?_; first | with_reducible rfl | (show @Eq TC _ _; rfl) | omega | (simp only [adN_zero]; omega)) | exact OutS.whole rfl rfl | (refine OpK.call c1 rfl rfl rfl rfl hE ?_ rfl rfl ?_; focus ((repeat' (first | exact PsA.lit _ | exact PsA.ref rfl rfl | constructor)); all_goals (fail "ps"))) | refine ListO.go gOk hE ?_)
      all_goals first | exact Need.mk rfl | (exfalso; omega) | trace_state
end Go.Proofs.YtfdbjiaghbeedaaGreatDoor
end

section
namespace Go.Proofs.YtfdbjiaghbeedaaGreatDoor
open Go Go.Tr
set_option maxRecDepth 100000
set_option maxHeartbeats 4000000
set_option linter.unusedVariables false
set_option linter.unusedSimpArgs false
/-- The class of a slot, out of the pages' classes. -/
def clIn (c : List Int) (s : Int) : Int := if (0 ≤ s ∧ s < 24) ∧ s % 4 < perC (c.getD (s / 4).toNat 0) then c.getD (s / 4).toNat 0 else -1
def gnIn (b c : List Int) (s : Int) : Int := if clIn c s = -1 then 0 else ldN b (genA s (clIn c s)).toNat 4
theorem clIn_yes {c : List Int} {s : Int} (h1 : 0 ≤ s ∧ s < 24) (h2 : s % 4 < perC (c.getD (s / 4).toNat 0)) : clIn c s = c.getD (s / 4).toNat 0 := if_pos ⟨h1, h2⟩
theorem clIn_no {c : List Int} {s : Int} (h : ¬ ((0 ≤ s ∧ s < 24) ∧ s % 4 < perC (c.getD (s / 4).toNat 0))) : clIn c s = -1 := if_neg h
theorem clIn_some {c : List Int} {s : Int} (h : clIn c s ≠ -1) : (0 ≤ s ∧ s < 24) ∧ s % 4 < perC (clIn c s) ∧ c.getD (s / 4).toNat 0 = clIn c s ∧ (0 ≤ clIn c s ∧ clIn c s ≤ 2) ∧ genA s (clIn c s) = s / 4 * 64 + 8 + s % 4 * strC (clIn c s) ∧ 0 ≤ genA s (clIn c s) ∧ genA s (clIn c s) + 4 + szC (clIn c s) ≤ 384 := by
  by_cases hh : (0 ≤ s ∧ s < 24) ∧ s % 4 < perC (c.getD (s / 4).toNat 0)
  · rw [clIn_yes hh.1 hh.2]
    rw [genA_yes hh.1 hh.2]
    refine ⟨hh.1, hh.2, rfl, ?_, rfl, ?_⟩ <;> rcases cls4 (c.getD (s / 4).toNat 0) with ⟨h1, h2, h3, h4⟩ | ⟨h1, h2, h3, h4⟩ | ⟨h1, h2, h3, h4⟩ | ⟨h1, h2, h3, h4⟩ <;> (try rw [h3]) <;> (try rw [h2]) <;> omega
  · exact absurd (clIn_no hh) h
theorem classIn_run (b c : List Int) (s : Int) (hc : c.length = 6) : RunH Tryz.prog hT 98 [aH2 b c, ti s] [] [oi (clIn c s)] [] := by
  have c0 := slotH_run s
  have c1 := PageOfI_run s
  have c3 := GenAtI_run s (c.getD (s / 4).toNat 0)
  by_cases hs : 0 ≤ s ∧ s < 24
  · rw [decide_eq_true hs] at c0
    rw [pg_yes hs] at c1
    by_cases h : s % 4 < perC (c.getD (s / 4).toNat 0)
    · rw [clIn_yes hs h]
      have hg := genA_yes hs h
      have h9 : 0 ≤ s % 4 * strC (c.getD (s / 4).toNat 0) := by rcases cls4 (c.getD (s / 4).toNat 0) with ⟨h1, h2, h3, h4⟩ | ⟨h1, h2, h3, h4⟩ | ⟨h1, h2, h3, h4⟩ | ⟨h1, h2, h3, h4⟩ <;> rw [h3] <;> omega
      obtain ⟨q, hd⟩ := Int.eq_ofNat_of_zero_le (show 0 ≤ s / 4 by omega)
      have hd2 : (s / 4).toNat = q := by omega
      rw [hd] at c1
      rw [hd2] at c3 hg h9 h
      rw [hd2]
      generalize genA s (c.getD q 0) = g at *
      refine RunH.of_vc gOk Tryz.func98 rfl rfl (Nat.le_of_ble_eq_true rfl) (by repeat' (first | exact trivial | exact ⟨_, rfl, Nat.le_refl _⟩ | exact Nat.le_of_ble_eq_true rfl | refine And.intro ?_ ?_)) (Nat.le_of_ble_eq_true rfl) rfl (fun F hE hA => ?_)
      repeat' (first | exact trivial | refine BS.d (fun h => ?_) (fun h => ?_) | refine BS.e (fun h => ?_) (fun h => ?_) | refine BS.ne (fun h => ?_) (fun h => ?_) | refine BS.n ?_ | refine BS.s (fun h => ?_) (fun h => ?_) | refine And.intro ?_ ?_ | (refine Need.mk ?_; first | with_reducible rfl | (show @Eq TC _ _; rfl) | omega | (simp only [adN_zero]; omega)) | exact OutS.whole rfl rfl | (refine CodeK.draw gOk hE rfl (fun _ _ h => h) (.take 0 (.take 2 (.alt 1 (.alt 3 (.take 4 (.alt 5 (.take 6 .done) .stop)) .stop) (.alt 3 (.alt 1 (.take 4 (.alt 5 (.take 6 .done) .stop)) .stop) .stop)))) ?_ ?_; focus (decide +kernel)) | (refine OpK.call c0 rfl rfl rfl rfl hE ?_ rfl rfl ?_; focus ((repeat' (first | exact PsA.lit _ | exact PsA.ref rfl rfl | constructor)); all_goals (fail "ps"))) | (refine OpK.call c1 rfl rfl rfl rfl hE ?_ rfl rfl ?_; focus ((repeat' (first | exact PsA.lit _ | exact PsA.ref rfl rfl | constructor)); all_goals (fail "ps"))) | (refine OpK.callH c3 hA rfl rfl rfl rfl hE ?_ rfl rfl ?_; focus ((repeat' (first | exact PsA.lit _ | exact PsA.ref rfl rfl | constructor)); all_goals (fail "ps"))) | refine ListO.go gOk hE ?_)
      all_goals (try simp only [adN_zero] at *)
      all_goals first | (exfalso; omega) | (refine Need.mk ?_; first | omega | rfl) | trace_state
    · rw [clIn_no (fun hh => h hh.2)]
      rw [genA_no (fun hh => h hh.2)] at c3
      obtain ⟨q, hd⟩ := Int.eq_ofNat_of_zero_le (show 0 ≤ s / 4 by omega)
      have hd2 : (s / 4).toNat = q := by omega
      rw [hd] at c1
      rw [hd2] at c3
      refine RunH.of_vc gOk Tryz.func98 rfl rfl (Nat.le_of_ble_eq_true rfl) (by repeat' (first | exact trivial | exact ⟨_, rfl, Nat.le_refl _⟩ | exact Nat.le_of_ble_eq_true rfl | refine And.intro ?_ ?_)) (Nat.le_of_ble_eq_true rfl) rfl (fun F hE hA => ?_)
      repeat' (first | exact trivial | refine BS.d (fun h => ?_) (fun h => ?_) | refine BS.e (fun h => ?_) (fun h => ?_) | refine BS.ne (fun h => ?_) (fun h => ?_) | refine BS.n ?_ | refine BS.s (fun h => ?_) (fun h => ?_) | refine And.intro ?_ ?_ | (refine Need.mk ?_; first | with_reducible rfl | (show @Eq TC _ _; rfl) | omega | (simp only [adN_zero]; omega)) | exact OutS.whole rfl rfl | (refine CodeK.draw gOk hE rfl (fun _ _ h => h) (.take 0 (.take 2 (.alt 1 (.alt 3 (.take 4 (.alt 5 (.take 6 .done) .stop)) .stop) (.alt 3 (.alt 1 (.take 4 (.alt 5 (.take 6 .done) .stop)) .stop) .stop)))) ?_ ?_; focus (decide +kernel)) | (refine OpK.call c0 rfl rfl rfl rfl hE ?_ rfl rfl ?_; focus ((repeat' (first | exact PsA.lit _ | exact PsA.ref rfl rfl | constructor)); all_goals (fail "ps"))) | (refine OpK.call c1 rfl rfl rfl rfl hE ?_ rfl rfl ?_; focus ((repeat' (first | exact PsA.lit _ | exact PsA.ref rfl rfl | constructor)); all_goals (fail "ps"))) | (refine OpK.callH c3 hA rfl rfl rfl rfl hE ?_ rfl rfl ?_; focus ((repeat' (first | exact PsA.lit _ | exact PsA.ref rfl rfl | constructor)); all_goals (fail "ps"))) | refine ListO.go gOk hE ?_)
      all_goals (try simp only [adN_zero] at *)
      all_goals first | (exfalso; omega) | (refine Need.mk ?_; first | omega | rfl) | trace_state
  · rw [decide_eq_false hs] at c0
    rw [clIn_no (fun hh => hs hh.1)]
    refine RunH.of_vc gOk Tryz.func98 rfl rfl (Nat.le_of_ble_eq_true rfl) (by repeat' (first | exact trivial | exact ⟨_, rfl, Nat.le_refl _⟩ | exact Nat.le_of_ble_eq_true rfl | refine And.intro ?_ ?_)) (Nat.le_of_ble_eq_true rfl) rfl (fun F hE hA => ?_)
    repeat' (first | exact trivial | refine BS.d (fun h => ?_) (fun h => ?_) | refine BS.e (fun h => ?_) (fun h => ?_) | refine BS.ne (fun h => ?_) (fun h => ?_) | refine BS.n ?_ | refine BS.s (fun h => ?_) (fun h => ?_) | refine And.intro ?_ ?_ | (refine Need.mk ?_; first | with_reducible rfl | (show @Eq TC _ _; rfl) | omega | (simp only [adN_zero]; omega)) | exact OutS.whole rfl rfl | (refine OpK.call c0 rfl rfl rfl rfl hE ?_ rfl rfl ?_; focus ((repeat' (first | exact PsA.lit _ | exact PsA.ref rfl rfl | constructor)); all_goals (fail "ps"))) | refine ListO.go gOk hE ?_)
    all_goals first | exact Need.mk rfl | (exfalso; omega) | trace_state
theorem genIn_run (b c : List Int) (s : Int) (h : shP b c) : RunH Tryz.prog hT 84 [aH2 b c, ti s] [] [oi (gnIn b c s)] [] := by
  obtain ⟨h1, h2, h3, h4⟩ := h
  have c1 := classIn_run b c s h2
  unfold gnIn
  by_cases hs : clIn c s = -1
  · rw [if_pos hs]
    refine RunH.of_vc gOk Tryz.func84 rfl rfl (Nat.le_of_ble_eq_true rfl) (by repeat' (first | exact trivial | exact ⟨_, rfl, Nat.le_refl _⟩ | exact Nat.le_of_ble_eq_true rfl | refine And.intro ?_ ?_)) (Nat.le_of_ble_eq_true rfl) rfl (fun F hE hA => ?_)
    repeat' (first | exact trivial | refine BS.d (fun h => ?_) (fun h => ?_) | refine BS.e (fun h => ?_) (fun h => ?_) | refine BS.ne (fun h => ?_) (fun h => ?_) | refine BS.n ?_ | refine BS.s (fun h => ?_) (fun h => ?_) | refine And.intro ?_ ?_ | (refine Need.mk ?_; first | with_reducible rfl | (show @Eq TC _ _; rfl) | omega | (simp only [adN_zero]; omega)) | exact OutS.whole rfl rfl | (refine OpK.callH c1 hA rfl rfl rfl rfl hE ?_ rfl rfl ?_; focus ((repeat' (first | exact PsA.lit _ | exact PsA.ref rfl rfl | constructor)); all_goals (fail "ps"))) | refine ListO.go gOk hE ?_)
    all_goals first | exact Need.mk rfl | (exfalso; omega) | trace_state
  · have hk := clIn_some hs
    have c2 := GenAtI_run s (clIn c s)
    have c3 := numAt_run b (genA s (clIn c s)) 4 (by omega) h3.2 hk.2.2.2.2.2.1 (by omega) (by have := hk.2.2.2.2.2; rcases cls4 (clIn c s) with h | h | h | h <;> omega)
    rw [if_neg hs]
    refine RunH.of_vc gOk Tryz.func84 rfl rfl (Nat.le_of_ble_eq_true rfl) (by repeat' (first | exact trivial | exact ⟨_, rfl, Nat.le_refl _⟩ | exact Nat.le_of_ble_eq_true rfl | refine And.intro ?_ ?_)) (Nat.le_of_ble_eq_true rfl) rfl (fun F hE hA => ?_)
    repeat' (first | exact trivial | refine BS.d (fun h => ?_) (fun h => ?_) | refine BS.e (fun h => ?_) (fun h => ?_) | refine BS.ne (fun h => ?_) (fun h => ?_) | refine BS.n ?_ | refine BS.s (fun h => ?_) (fun h => ?_) | refine And.intro ?_ ?_ | (refine Need.mk ?_; first | with_reducible rfl | (show @Eq TC _ _; rfl) | omega | (simp only [adN_zero]; omega)) | exact OutS.whole rfl rfl | (refine CodeK.draw gOk hE rfl (fun _ _ h => h) (.take 0 (.take 2 (.take 3 (.alt 1 (.alt 4 (.alt 5 (.take 6 .done) .stop) .stop) (.alt 4 (.alt 1 (.alt 5 (.take 6 .done) .stop) .stop) .stop))))) ?_ ?_; focus (decide +kernel)) | (refine OpK.callH c1 hA rfl rfl rfl rfl hE ?_ rfl rfl ?_; focus ((repeat' (first | exact PsA.lit _ | exact PsA.ref rfl rfl | constructor)); all_goals (fail "ps"))) | (refine OpK.callH c2 hA rfl rfl rfl rfl hE ?_ rfl rfl ?_; focus ((repeat' (first | exact PsA.lit _ | exact PsA.ref rfl rfl | constructor)); all_goals (fail "ps"))) | (refine OpK.call c3 rfl rfl rfl rfl hE ?_ rfl rfl ?_; focus ((repeat' (first | exact PsA.lit _ | exact PsA.ref rfl rfl | constructor)); all_goals (fail "ps"))) | refine ListO.go gOk hE ?_)
    all_goals first | exact Need.mk rfl | (exfalso; omega) | trace_state
end Go.Proofs.YtfdbjiaghbeedaaGreatDoor
end

section
namespace Go.Proofs.YtfdbjiaghbeedaaGreatDoor
open Go Go.Tr
set_option maxRecDepth 100000
set_option maxHeartbeats 4000000
set_option linter.unusedVariables false
set_option linter.unusedSimpArgs false
theorem l7Class_run (b c : List Int) (s : Int) (hc : c.length = 6) : RunT Tryz.prog 91 [aH2 b c, ti s] [] [oi (clIn c s)] [] := by
  have c1 := PageOfS_run s
  have c2 := IndexOfS_run s
  have c3 := PerPageS_run (c.getD (s / 4).toNat 0)
  by_cases hs : 0 ≤ s ∧ s < 24
  · rw [pg_yes hs] at c1
    rw [ix_yes hs] at c2
    have hq : clIn c s = if s % 4 < perC (c.getD (s / 4).toNat 0) then c.getD (s / 4).toNat 0 else -1 := by
      by_cases h : s % 4 < perC (c.getD (s / 4).toNat 0)
      · rw [clIn_yes hs h, if_pos h]
      · rw [clIn_no (fun hh => h hh.2), if_neg h]
    have hp : perC (c.getD (s / 4).toNat 0) ≤ 4 ∧ (c.getD (s / 4).toNat 0 < 0 → perC (c.getD (s / 4).toNat 0) = 0) := by rcases cls4 (c.getD (s / 4).toNat 0) with ⟨h1, h2, h3, h4⟩ | ⟨h1, h2, h3, h4⟩ | ⟨h1, h2, h3, h4⟩ | ⟨h1, h2, h3, h4⟩ <;> omega
    rw [hq]
    obtain ⟨q, hd⟩ := Int.eq_ofNat_of_zero_le (show 0 ≤ s / 4 by omega)
    have hd2 : (s / 4).toNat = q := by omega
    rw [hd] at c1
    rw [hd2] at c3 hp
    rw [hd2]
    refine RunT.of_vc gOk Tryz.func91 rfl rfl (Nat.le_of_ble_eq_true rfl) (by repeat' (first | exact trivial | exact ⟨_, rfl, Nat.le_refl _⟩ | exact Nat.le_of_ble_eq_true rfl | refine And.intro ?_ ?_)) (Nat.le_of_ble_eq_true rfl) rfl (fun F hE => ?_)
    repeat' (first | exact trivial | refine BS.d (fun h => ?_) (fun h => ?_) | refine BS.e (fun h => ?_) (fun h => ?_) | refine BS.ne (fun h => ?_) (fun h => ?_) | refine BS.n ?_ | refine BS.s (fun h => ?_) (fun h => ?_) | refine And.intro ?_ ?_ | (refine Need.mk ?_; first | with_reducible rfl | (show @Eq TC _ _; rfl) | omega | (simp only [adN_zero]; omega)) | exact OutS.whole rfl rfl | (refine CodeK.draw gOk hE rfl (fun _ _ h => h) (.take 0 (.take 1 (.take 2 (.take 3 (.take 5 (.alt 4 (.take 6 (.alt 7 (.take 8 (.take 9 (.take 10 (.take 11 (.take 13 (.take 15 (.alt 12 (.alt 14 (.take 16 (.alt 17 (.alt 18 (.take 19 (.take 20 .done)) .stop) .stop)) .stop) (.alt 14 (.take 16 (.alt 12 (.alt 17 (.alt 18 (.take 19 (.take 20 .done)) .stop) .stop) (.alt 17 (.alt 12 (.alt 18 (.take 19 (.take 20 .done)) .stop) .stop) .stop))) .stop)))))))) .stop)) .stop)))))) ?_ ?_; focus (decide +kernel)) | (refine OpK.call c1 rfl rfl rfl rfl hE ?_ rfl rfl ?_; focus ((repeat' (first | exact PsA.lit _ | exact PsA.ref rfl rfl | constructor)); all_goals (fail "ps"))) | (refine OpK.call c2 rfl rfl rfl rfl hE ?_ rfl rfl ?_; focus ((repeat' (first | exact PsA.lit _ | exact PsA.ref rfl rfl | constructor)); all_goals (fail "ps"))) | (refine OpK.call c3 rfl rfl rfl rfl hE ?_ rfl rfl ?_; focus ((repeat' (first | exact PsA.lit _ | exact PsA.ref rfl rfl | constructor)); all_goals (fail "ps"))) | refine ListO.go gOk hE ?_)
    all_goals (try simp only [adN_zero] at *)
    all_goals first | (exfalso; omega) | (refine Need.mk ?_; first | omega | (rw [if_pos (by omega)]; done) | (rw [if_neg (by omega)]; done)) | trace_state
  · rw [pg_no hs] at c1
    rw [clIn_no (fun hh => hs hh.1)]
    refine RunT.of_vc gOk Tryz.func91 rfl rfl (Nat.le_of_ble_eq_true rfl) (by repeat' (first | exact trivial | exact ⟨_, rfl, Nat.le_refl _⟩ | exact Nat.le_of_ble_eq_true rfl | refine And.intro ?_ ?_)) (Nat.le_of_ble_eq_true rfl) rfl (fun F hE => ?_)
    repeat' (first | exact trivial | refine BS.d (fun h => ?_) (fun h => ?_) | refine BS.e (fun h => ?_) (fun h => ?_) | refine BS.ne (fun h => ?_) (fun h => ?_) | refine BS.n ?_ | refine BS.s (fun h => ?_) (fun h => ?_) | refine And.intro ?_ ?_ | (refine Need.mk ?_; first | with_reducible rfl | (show @Eq TC _ _; rfl) | omega | (simp only [adN_zero]; omega)) | exact OutS.whole rfl rfl | (refine CodeK.draw gOk hE rfl (fun _ _ h => h) (.take 0 (.take 1 (.take 2 (.take 3 (.take 5 (.alt 4 (.take 6 (.alt 7 (.take 8 (.take 9 (.take 10 (.take 11 (.take 13 (.take 15 (.alt 12 (.alt 14 (.take 16 (.alt 17 (.alt 18 (.take 19 (.take 20 .done)) .stop) .stop)) .stop) (.alt 14 (.take 16 (.alt 12 (.alt 17 (.alt 18 (.take 19 (.take 20 .done)) .stop) .stop) (.alt 17 (.alt 12 (.alt 18 (.take 19 (.take 20 .done)) .stop) .stop) .stop))) .stop)))))))) .stop)) .stop)))))) ?_ ?_; focus (decide +kernel)) | (refine OpK.call c1 rfl rfl rfl rfl hE ?_ rfl rfl ?_; focus ((repeat' (first | exact PsA.lit _ | exact PsA.ref rfl rfl | constructor)); all_goals (fail "ps"))) | refine ListO.go gOk hE ?_)
    all_goals first | exact Need.mk rfl | (exfalso; omega) | trace_state
theorem l7Gen_run (b c : List Int) (s : Int) (h : shP b c) (hs : clIn c s ≠ -1) : RunT Tryz.prog 137 [aH2 b c, ti s] [] [oi (gnIn b c s)] [] := by
  obtain ⟨h1, h2, h3, h4⟩ := h
  have hk := clIn_some hs
  have c1 := l7Class_run b c s h2
  have c2 := GenAtS_run s (clIn c s)
  have c3 := l3Load_run b (genA s (clIn c s)) 4 (by omega) h3.2 hk.2.2.2.2.2.1 (by omega) (by have := hk.2.2.2.2.2; rcases cls4 (clIn c s) with h | h | h | h <;> omega)
  unfold gnIn
  rw [if_neg hs]
  refine RunT.of_vc gOk Tryz.func137 rfl rfl (Nat.le_of_ble_eq_true rfl) (by repeat' (first | exact trivial | exact ⟨_, rfl, Nat.le_refl _⟩ | exact Nat.le_of_ble_eq_true rfl | refine And.intro ?_ ?_)) (Nat.le_of_ble_eq_true rfl) rfl (fun F hE => ?_)
  repeat' (first | exact trivial | refine BS.d (fun h => ?_) (fun h => ?_) | refine BS.e (fun h => ?_) (fun h => ?_) | refine BS.ne (fun h => ?_) (fun h => ?_) | refine BS.n ?_ | refine BS.s (fun h => ?_) (fun h => ?_) | refine And.intro ?_ ?_ | (refine Need.mk ?_; first | with_reducible rfl | (show @Eq TC _ _; rfl) | omega | (simp only [adN_zero]; omega)) | exact OutS.whole rfl rfl | (refine CodeK.draw gOk hE rfl (fun _ _ h => h) (.take 0 (.take 2 (.take 4 (.alt 1 (.alt 3 (.alt 5 (.alt 6 (.alt 7 (.take 8 .done) .stop) .stop) .stop) .stop) (.alt 3 (.alt 1 (.alt 5 (.alt 6 (.alt 7 (.take 8 .done) .stop) .stop) .stop) (.alt 5 (.alt 1 (.alt 6 (.alt 7 (.take 8 .done) .stop) .stop) (.alt 6 (.alt 1 (.alt 7 (.take 8 .done) .stop) .stop) .stop)) .stop)) .stop))))) ?_ ?_; focus (decide +kernel)) | (refine OpK.call c1 rfl rfl rfl rfl hE ?_ rfl rfl ?_; focus ((repeat' (first | exact PsA.lit _ | exact PsA.ref rfl rfl | constructor)); all_goals (fail "ps"))) | (refine OpK.call c2 rfl rfl rfl rfl hE ?_ rfl rfl ?_; focus ((repeat' (first | exact PsA.lit _ | exact PsA.ref rfl rfl | constructor)); all_goals (fail "ps"))) | (refine OpK.call c3 rfl rfl rfl rfl hE ?_ rfl rfl ?_; focus ((repeat' (first | exact PsA.lit _ | exact PsA.ref rfl rfl | constructor)); all_goals (fail "ps"))) | refine ListO.go gOk hE ?_)
end Go.Proofs.YtfdbjiaghbeedaaGreatDoor
end

section
/- Numbers laid into bytes: putNum, l3Store. -/
namespace Go.Proofs.YtfdbjiaghbeedaaGreatDoor
open Go Go.Tr
set_option maxRecDepth 100000
set_option maxHeartbeats 4000000
set_option linter.unusedVariables false
set_option linter.unusedSimpArgs false
theorem Fixed_run (n k : Int) (h : n ≤ 9223372036854775807) : RunT Tryz.prog 194 [ti n, ti k] [] [.one (.lit (.string (fxS n k)))] [] :=
  RunT.of_below (vs := [.int .i64 n, .int .i64 k]) ⟨_, Tryz.func194, rfl, rfl⟩ rfl (fun w => iFixed_any n k w h)
/-- The first i digits are laid from p on. -/
def putL (xs : List Int) (p : Nat) (ds : List UInt8) : Nat → List Int
  | 0 => xs
  | i + 1 => (putL xs p ds i).set (p + i) ((ds.getD i 0).toNat : Int)
theorem putL_len (xs : List Int) (p : Nat) (ds : List UInt8) : ∀ i, (putL xs p ds i).length = xs.length
  | 0 => rfl
  | i + 1 => by unfold putL; rw [List.length_set, putL_len xs p ds i]
theorem ds_get {ds : List UInt8} {i : Nat} (h : i < ds.length) : (ByteArray.mk ds.toArray)[i]? = some (ds.getD i 0) := by
  have hlt : i < (ByteArray.mk ds.toArray).size := by show i < ds.toArray.size; simpa using h
  rw [getElem?_pos _ i hlt]
  show some (ds.toArray[i]'(by simpa using h)) = _
  simp [List.getD, h]
theorem ds_ne {ds : List UInt8} (h : 1 ≤ ds.length) : ((ByteArray.mk ds.toArray).toList == (ByteArray.mk #[]).toList) = false := by
  cases ds with
  | nil => simp at h
  | cons a l => simp
theorem putNum_run (e : Nat) (xs : List Int) (q : Nat) (k : Nat) (n : Int) (hn : xs.length ≤ 4000000) (hk : k ≤ 7) (hl : q + k ≤ xs.length) (hok : fxOk n k = true) (hk0 : 1 ≤ k) (hm : n ≤ 9223372036854775807) :
    RunT Tryz.prog 129 [.one (.h 0 xs.length), ti q, ti k, ti n] [.sl e 1 Int encI decI 0 xs] [ob true] [.sl e 1 Int encI decI 0 (putL xs q (fxd k n) k)] := by
  have c1 := Fixed_run n k hm
  have hs : fxS n k = ⟨(fxd k n).toArray⟩ := by unfold fxS; rw [if_pos hok]; rfl
  have hdl := fxd_len k n
  rw [hs] at c1
  generalize fxd k n = ds at *
  have hsz : (ByteArray.mk ds.toArray).size = k := by show ds.toArray.size = k; simp [hdl]
  have hne := ds_ne (ds := ds) (by omega)
  have hget : ∀ i : Nat, i < k → (ByteArray.mk ds.toArray)[i]? = some (ds.getD i 0) := fun i hi => ds_get (by omega)
  generalize ByteArray.mk ds.toArray = s at *
  refine RunT.of_vc gOk Tryz.func129 rfl rfl (Nat.le_of_ble_eq_true rfl) (by repeat' (first | exact trivial | exact ⟨_, rfl, Nat.le_refl _⟩ | exact Nat.le_of_ble_eq_true rfl | refine And.intro ?_ ?_)) (Nat.le_of_ble_eq_true rfl) rfl (fun F hE => ?_)
  repeat' (first | exact trivial | refine BS.d (fun h => ?_) (fun h => ?_) | refine BS.e (fun h => ?_) (fun h => ?_) | refine BS.ne (fun h => ?_) (fun h => ?_) | refine BS.n ?_ | refine BS.s (fun h => ?_) (fun h => ?_) | refine And.intro ?_ ?_ | (refine Need.mk ?_; first | with_reducible rfl | (show @Eq TC _ _; rfl) | omega | (simp only [adN_zero]; omega)) | exact OutS.whole rfl rfl | (refine OpK.call c1 rfl rfl rfl rfl hE ?_ rfl rfl ?_; focus ((repeat' (first | exact PsA.lit _ | exact PsA.ref rfl rfl | constructor)); all_goals (fail "ps"))) | (refine PK.lenS rfl rfl Tryz.underlying9 ?_) | refine ListO.go gOk hE ?_)
  refine CodeK.loop gOk hE (fun i : Nat => ⟨[(0, vr 1000000 xs.length), (1, vi q), (9, .a (.lit (.string s))), (15, vi s.size), (16, vi i)], [(1000000, .ty .own false 0 1 Int encI decI 0 (putL xs q ds i))]⟩) (fun i => i ≤ k) (fun i => k - i) 0 (by refine leT.of ?_ ?_ rfl <;> repeat' (first | exact trivial | refine And.intro rfl ?_ | refine And.intro (by first | rfl | (simp [putL]; done)) ?_)) (Nat.zero_le _) ?_
  rintro i hi
  have hl2 := putL_len xs q ds i
  by_cases hi2 : i < k
  · have hg := hget i hi2
    have hu : (ds.getD i 0).toNat < 256 := UInt8.toNat_lt _
    have ha : adN 0 ((q : Int) + (i : Int)) = q + i := by rw [adN_eq]; omega
    repeat' (first | exact trivial | refine BS.d (fun h => ?_) (fun h => ?_) | refine BS.e (fun h => ?_) (fun h => ?_) | refine BS.ne (fun h => ?_) (fun h => ?_) | refine BS.n ?_ | refine BS.s (fun h => ?_) (fun h => ?_) | refine And.intro ?_ ?_ | (refine Need.mk ?_; first | with_reducible rfl | (show @Eq TC _ _; rfl) | omega | (simp only [adN_zero]; omega)) | exact OutS.whole rfl rfl | (refine OpK.ixS rfl rfl rfl Tryz.underlying9 rfl rfl (by omega) (show s[((i : Int)).toNat]? = some (ds.getD i 0) from hg) ?_) | (refine OpK.cv8 rfl rfl rfl Tryz.underlying5 Tryz.underlying3 rfl (by omega) ?_) | refine ListO.go gOk hE ?_)
    all_goals (try simp only [adN_zero, ha] at *)
    all_goals first
      | (exfalso; omega)
      | (refine Need.mk ?_; first | omega | (rw [hl2]; omega))
      | (refine ⟨i + 1, (by refine leT.of ?_ ?_ rfl <;> repeat' (first | exact trivial | refine And.intro rfl ?_ | refine And.intro (by first | rfl | (simp; done)) ?_)), by omega, by first | omega | (dsimp only; omega)⟩)
      | trace_state
  · obtain rfl : i = k := by omega
    repeat' (first | exact trivial | refine BS.d (fun h => ?_) (fun h => ?_) | refine BS.e (fun h => ?_) (fun h => ?_) | refine BS.ne (fun h => ?_) (fun h => ?_) | refine BS.n ?_ | refine BS.s (fun h => ?_) (fun h => ?_) | refine And.intro ?_ ?_ | (refine Need.mk ?_; first | with_reducible rfl | (show @Eq TC _ _; rfl) | omega | (simp only [adN_zero]; omega)) | exact OutS.whole rfl rfl | (refine PK.neS false rfl rfl rfl Tryz.underlying9 hne ?_) | refine ListO.go gOk hE ?_)
    all_goals first | (exfalso; omega) | (refine Need.mk ?_; omega) | exact Need.mk rfl | trace_state
end Go.Proofs.YtfdbjiaghbeedaaGreatDoor
end

section
/- l3Store: the same bytes as putNum. -/
namespace Go.Proofs.YtfdbjiaghbeedaaGreatDoor
open Go Go.Tr
set_option maxRecDepth 100000
set_option maxHeartbeats 4000000
set_option linter.unusedVariables false
set_option linter.unusedSimpArgs false
theorem fxd_digit : ∀ (k : Nat) (n : Int) (t : Nat), t < k → (((fxd k n).getD (k - 1 - t) 0).toNat : Int) = n / 256 ^ t % 256
  | 0, n, t, h => by omega
  | k + 1, n, 0, h => by
    have hl := fxd_len k (n / 256)
    have h1 : (fxd (k + 1) n).getD (k + 1 - 1 - 0) 0 = UInt8.ofNat (n % 256).toNat := by
      simp only [fxd, List.getD]
      rw [List.getElem?_append_right (by omega), hl, show k + 1 - 1 - 0 - k = 0 by omega]; rfl
    rw [h1, UInt8.toNat_ofNat']
    simp
    omega
  | k + 1, n, t + 1, h => by
    have hl := fxd_len k (n / 256)
    have h1 : (fxd (k + 1) n).getD (k + 1 - 1 - (t + 1)) 0 = (fxd k (n / 256)).getD (k - 1 - t) 0 := by
      simp only [fxd, List.getD]
      rw [List.getElem?_append_left (by omega), show k + 1 - 1 - (t + 1) = k - 1 - t by omega]
    rw [h1, fxd_digit k (n / 256) t (by omega), Int.pow_succ', Int.ediv_ediv_of_nonneg (by decide)]
theorem ext_getD {α : Type} (d : α) {xs ys : List α} (hl : xs.length = ys.length) (h : ∀ q, q < xs.length → xs.getD q d = ys.getD q d) : xs = ys := by
  refine List.ext_getElem hl (fun i h1 h2 => ?_)
  have := h i h1
  simpa [List.getD, h1, h2] using this
theorem set_getDq (xs : List Int) (i q : Nat) (v : Int) (hi : i < xs.length) : (xs.set i v).getD q 0 = if q = i then v else xs.getD q 0 := by
  simp only [List.getD]
  by_cases h : q = i
  · subst h; rw [List.getElem?_set_self hi, if_pos rfl]; rfl
  · rw [List.getElem?_set_ne (Ne.symm h), if_neg h]
theorem putL_get (xs : List Int) (p : Nat) (ds : List UInt8) : ∀ i, p + i ≤ xs.length → ∀ q, (putL xs p ds i).getD q 0 = if p ≤ q ∧ q < p + i then ((ds.getD (q - p) 0).toNat : Int) else xs.getD q 0
  | 0, h, q => by rw [if_neg (by omega)]; rfl
  | i + 1, h, q => by
    have hl := putL_len xs p ds i
    rw [putL, set_getDq _ _ _ _ (by omega), putL_get xs p ds i (by omega) q]
    by_cases h1 : q = p + i
    · rw [if_pos h1, if_pos (by omega), h1, show p + i - p = i by omega]
    · rw [if_neg h1]
      by_cases h2 : p ≤ q ∧ q < p + i
      · rw [if_pos h2, if_pos (by omega)]
      · rw [if_neg h2, if_neg (by omega)]
/-- The last t digits are laid. -/
def putH (xs : List Int) (p : Nat) (ds : List UInt8) (k : Nat) : Nat → List Int
  | 0 => xs
  | t + 1 => (putH xs p ds k t).set (p + (k - 1 - t)) ((ds.getD (k - 1 - t) 0).toNat : Int)
theorem putH_len (xs : List Int) (p : Nat) (ds : List UInt8) (k : Nat) : ∀ t, (putH xs p ds k t).length = xs.length
  | 0 => rfl
  | t + 1 => by unfold putH; rw [List.length_set, putH_len xs p ds k t]
theorem putH_get (xs : List Int) (p : Nat) (ds : List UInt8) (k : Nat) (hk : p + k ≤ xs.length) : ∀ t, t ≤ k → ∀ q, (putH xs p ds k t).getD q 0 = if p + (k - t) ≤ q ∧ q < p + k then ((ds.getD (q - p) 0).toNat : Int) else xs.getD q 0
  | 0, h, q => by rw [if_neg (by omega)]; rfl
  | t + 1, h, q => by
    have hl := putH_len xs p ds k t
    rw [putH, set_getDq _ _ _ _ (by omega), putH_get xs p ds k hk t (by omega) q]
    by_cases h1 : q = p + (k - 1 - t)
    · rw [if_pos h1, if_pos (by omega), h1, show p + (k - 1 - t) - p = k - 1 - t by omega]
    · rw [if_neg h1]
      by_cases h2 : p + (k - t) ≤ q ∧ q < p + k
      · rw [if_pos h2, if_pos (by omega)]
      · rw [if_neg h2, if_neg (by omega)]
theorem putH_full (xs : List Int) (p : Nat) (ds : List UInt8) (k : Nat) (hk : p + k ≤ xs.length) : putH xs p ds k k = putL xs p ds k := by
  refine ext_getD 0 (by rw [putH_len, putL_len]) (fun q _ => ?_)
  rw [putH_get xs p ds k hk k (Nat.le_refl _), putL_get xs p ds k hk]
  simp
theorem l3Store_run (xs : List Int) (q k : Nat) (n : Int) (hn : xs.length ≤ 4000000) (hk : k ≤ 7) (hl : q + k ≤ xs.length) (h0 : 0 ≤ n) (hm : n ≤ 9223372036854775807) :
    RunT Tryz.prog 124 [.one (.m (tI xs)), ti q, ti k, ti n] [] [.one (tI (putL xs q (fxd k n) k))] [] := by
  have hd := fxd_digit k n
  have hf := putH_full xs q (fxd k n) k hl
  generalize fxd k n = ds at *
  refine RunT.of_vc gOk Tryz.func124 rfl rfl (Nat.le_of_ble_eq_true rfl) (by repeat' (first | exact trivial | exact ⟨_, rfl, Nat.le_refl _⟩ | exact Nat.le_of_ble_eq_true rfl | refine And.intro ?_ ?_)) (Nat.le_of_ble_eq_true rfl) rfl (fun F hE => ?_)
  repeat' (first | exact trivial | refine BS.d (fun h => ?_) (fun h => ?_) | refine BS.e (fun h => ?_) (fun h => ?_) | refine BS.ne (fun h => ?_) (fun h => ?_) | refine BS.n ?_ | refine BS.s (fun h => ?_) (fun h => ?_) | refine And.intro ?_ ?_ | (refine Need.mk ?_; first | with_reducible rfl | (show @Eq TC _ _; rfl) | omega | (simp only [adN_zero]; omega)) | exact OutS.whole rfl rfl | refine ListO.go gOk hE ?_)
  refine CodeK.loop gOk hE (fun t : Nat => ⟨[(0, vr 1000000 xs.length), (1, vi q), (3, vi (n / 256 ^ t)), (9, vi ((k : Int) - 1 - t))], [(1000000, rI .own true (putH xs q ds k t))]⟩) (fun t => t ≤ k) (fun t => k - t) 0 (by refine leT.of ?_ ?_ rfl <;> repeat' (first | exact trivial | refine And.intro rfl ?_ | refine And.intro (by first | rfl | (simp [putH] <;> rfl)) ?_)) (Nat.zero_le _) ?_
  rintro t ht
  have hl2 := putH_len xs q ds k t
  have hnn : 0 ≤ n / 256 ^ t := Int.ediv_nonneg h0 (Int.pow_nonneg (by decide))
  have hle : n / 256 ^ t ≤ n := Int.ediv_le_self _ h0
  by_cases ht2 : t < k
  · have hg := hd t ht2
    have hs := div_step n t
    have ha : adN 0 ((q : Int) + ((k : Int) - 1 - (t : Int))) = q + (k - 1 - t) := by rw [adN_eq]; omega
    have hr : Int.tmod (n / 256 ^ t) 256 = ((ds.getD (k - 1 - t) 0).toNat : Int) := by rw [Int.tmod_eq_emod_of_nonneg hnn, hg]
    have hq : wr .i64 (Int.tdiv (n / 256 ^ t) 256) = n / 256 ^ (t + 1) := by rw [Int.tdiv_eq_ediv_of_nonneg hnn, hs, wr_in]; rw [← hs]; omega
    generalize n / 256 ^ t = m at *
    repeat' (first | exact trivial | refine BS.d (fun h => ?_) (fun h => ?_) | refine BS.e (fun h => ?_) (fun h => ?_) | refine BS.ne (fun h => ?_) (fun h => ?_) | refine BS.n ?_ | refine BS.s (fun h => ?_) (fun h => ?_) | refine And.intro ?_ ?_ | (refine Need.mk ?_; first | with_reducible rfl | (show @Eq TC _ _; rfl) | omega | (simp only [adN_zero]; omega)) | exact OutS.whole rfl rfl | refine ListO.go gOk hE ?_)
    all_goals (try simp only [ha, hr, hq])
    all_goals first
      | (exfalso; omega)
      | (refine Need.mk ?_; first | omega | (rw [hl2]; omega))
      | (refine ⟨t + 1, (by refine leT.of ?_ ?_ rfl <;> repeat' (first | exact trivial | refine And.intro rfl ?_ | refine And.intro (by first | rfl | (refine litInt ?_; omega) | (simp; done)) ?_)), by omega, by first | omega | (dsimp only; omega)⟩)
      | trace_state
  · obtain rfl : t = k := by omega
    repeat' (first | exact trivial | refine BS.d (fun h => ?_) (fun h => ?_) | refine BS.e (fun h => ?_) (fun h => ?_) | refine BS.ne (fun h => ?_) (fun h => ?_) | refine BS.n ?_ | refine BS.s (fun h => ?_) (fun h => ?_) | refine And.intro ?_ ?_ | (refine Need.mk ?_; first | with_reducible rfl | (show @Eq TC _ _; rfl) | omega | (simp only [adN_zero]; omega)) | exact OutS.whole rfl rfl | refine ListO.go gOk hE ?_)
    all_goals first | (exfalso; omega) | exact OutS.whole hl2.symm (by rw [hf]; rfl) | (refine Need.mk ?_; omega) | trace_state
end Go.Proofs.YtfdbjiaghbeedaaGreatDoor
end

section
namespace Go.Proofs.YtfdbjiaghbeedaaGreatDoor
open Go Go.Tr
set_option maxRecDepth 100000
set_option maxHeartbeats 4000000
set_option linter.unusedVariables false
set_option linter.unusedSimpArgs false
theorem l1InB_run (x a b : Int) : RunT Tryz.prog 73 [ti x, ti a, ti b] [] [ob (decide (a ≤ x ∧ x ≤ b))] [] := by
  refine RunT.of_vc gOk Tryz.func73 rfl rfl (Nat.le_of_ble_eq_true rfl) (by repeat' (first | exact trivial | exact ⟨_, rfl, Nat.le_refl _⟩ | exact Nat.le_of_ble_eq_true rfl | refine And.intro ?_ ?_)) (Nat.le_of_ble_eq_true rfl) rfl (fun F hE => ?_)
  repeat' (first | exact trivial | refine BS.d (fun h => ?_) (fun h => ?_) | refine BS.e (fun h => ?_) (fun h => ?_) | refine BS.ne (fun h => ?_) (fun h => ?_) | refine BS.n ?_ | refine BS.s (fun h => ?_) (fun h => ?_) | refine And.intro ?_ ?_ | (refine Need.mk ?_; first | with_reducible rfl | (show @Eq TC _ _; rfl) | omega | (simp only [adN_zero]; omega)) | exact OutS.whole rfl rfl | refine ListO.go gOk hE ?_)
  all_goals (refine Need.mk ?_; simp [*])
theorem slotOkB_run (x : Int) : RunT Tryz.prog 142 [ti x] [] [ob (decide (0 ≤ x ∧ x < 24))] [] := by
  refine RunT.of_vc gOk Tryz.func142 rfl rfl (Nat.le_of_ble_eq_true rfl) (by repeat' (first | exact trivial | exact ⟨_, rfl, Nat.le_refl _⟩ | exact Nat.le_of_ble_eq_true rfl | refine And.intro ?_ ?_)) (Nat.le_of_ble_eq_true rfl) rfl (fun F hE => ?_)
  repeat' (first | exact trivial | refine BS.d (fun h => ?_) (fun h => ?_) | refine BS.e (fun h => ?_) (fun h => ?_) | refine BS.ne (fun h => ?_) (fun h => ?_) | refine BS.n ?_ | refine BS.s (fun h => ?_) (fun h => ?_) | refine And.intro ?_ ?_ | (refine Need.mk ?_; first | with_reducible rfl | (show @Eq TC _ _; rfl) | omega | (simp only [adN_zero]; omega)) | exact OutS.whole rfl rfl | refine ListO.go gOk hE ?_)
  all_goals (refine Need.mk ?_; first | rfl | (symm; apply decide_eq_true; omega) | (symm; apply decide_eq_false; omega) | (apply decide_eq_decide.2; omega))
end Go.Proofs.YtfdbjiaghbeedaaGreatDoor
end

section
/- Handles. -/
namespace Go.Proofs.YtfdbjiaghbeedaaGreatDoor
open Go Go.Tr
set_option maxRecDepth 100000
set_option maxHeartbeats 4000000
set_option linter.unusedVariables false
set_option linter.unusedSimpArgs false
def hOk (h : Int) : Bool := decide (32 ≤ h ∧ h ≤ 223 ∧ h % 32 < 24)
def hSlot (h : Int) : Int := if hOk h then h % 32 else -1
def hGen (h : Int) : Int := if hOk h then h / 32 else 0
theorem hOk_iff {h : Int} : hOk h = true ↔ 32 ≤ h ∧ h ≤ 223 ∧ h % 32 < 24 := by unfold hOk; exact decide_eq_true_iff
theorem sHandleOk_run (x : Int) : RunT Tryz.prog 176 [ti x] [] [ob (hOk x)] [] := by
  unfold hOk
  refine RunT.of_vc gOk Tryz.func176 rfl rfl (Nat.le_of_ble_eq_true rfl) (by repeat' (first | exact trivial | exact ⟨_, rfl, Nat.le_refl _⟩ | exact Nat.le_of_ble_eq_true rfl | refine And.intro ?_ ?_)) (Nat.le_of_ble_eq_true rfl) rfl (fun F hE => ?_)
  repeat' (first | exact trivial | refine BS.d (fun h => ?_) (fun h => ?_) | refine BS.e (fun h => ?_) (fun h => ?_) | refine BS.ne (fun h => ?_) (fun h => ?_) | refine BS.n ?_ | refine BS.s (fun h => ?_) (fun h => ?_) | refine And.intro ?_ ?_ | (refine Need.mk ?_; first | with_reducible rfl | (show @Eq TC _ _; rfl) | omega | (simp only [adN_zero]; omega)) | exact OutS.whole rfl rfl | refine ListO.go gOk hE ?_)
  refine OpK.call (l1InB_run _ _ _) rfl rfl rfl rfl hE (by repeat' (first | exact PsA.lit _ | exact PsA.ref rfl rfl | constructor)) rfl rfl ?_
  repeat' (first | exact trivial | refine BS.d (fun h => ?_) (fun h => ?_) | refine BS.e (fun h => ?_) (fun h => ?_) | refine BS.ne (fun h => ?_) (fun h => ?_) | refine BS.n ?_ | refine BS.s (fun h => ?_) (fun h => ?_) | refine And.intro ?_ ?_ | (refine Need.mk ?_; first | with_reducible rfl | (show @Eq TC _ _; rfl) | omega | (simp only [adN_zero]; omega)) | exact OutS.whole rfl rfl | refine ListO.go gOk hE ?_)
  all_goals first
    | (refine Need.mk ?_; rw [Int.tmod_eq_emod_of_nonneg (by omega)]; apply decide_eq_decide.2; omega)
    | (refine Need.mk ?_; first | rfl | (symm; apply decide_eq_true; omega) | (symm; apply decide_eq_false; omega) | (apply decide_eq_decide.2; omega) | (simp only [beq_iff_eq, Bool.beq_eq_decide_eq] at *; apply decide_eq_decide.2; omega) | (simp; omega))
theorem genOk_run (x : Int) : RunT Tryz.prog 143 [ti x] [] [ob (decide (1 ≤ x ∧ x ≤ 6))] [] := by
  refine RunT.of_vc gOk Tryz.func143 rfl rfl (Nat.le_of_ble_eq_true rfl) (by repeat' (first | exact trivial | exact ⟨_, rfl, Nat.le_refl _⟩ | exact Nat.le_of_ble_eq_true rfl | refine And.intro ?_ ?_)) (Nat.le_of_ble_eq_true rfl) rfl (fun F hE => ?_)
  repeat' (first | exact trivial | refine BS.d (fun h => ?_) (fun h => ?_) | refine BS.e (fun h => ?_) (fun h => ?_) | refine BS.ne (fun h => ?_) (fun h => ?_) | refine BS.n ?_ | refine BS.s (fun h => ?_) (fun h => ?_) | refine And.intro ?_ ?_ | (refine Need.mk ?_; first | with_reducible rfl | (show @Eq TC _ _; rfl) | omega | (simp only [adN_zero]; omega)) | exact OutS.whole rfl rfl | refine ListO.go gOk hE ?_)
  all_goals (refine Need.mk ?_; first | rfl | (symm; apply decide_eq_true; omega) | (symm; apply decide_eq_false; omega) | (apply decide_eq_decide.2; omega) | (simp only [beq_iff_eq, Bool.beq_eq_decide_eq] at *; apply decide_eq_decide.2; omega) | (simp; omega))
theorem iHandleOf_run (s g : Int) : RunT Tryz.prog 83 [ti s, ti g] [] [oi (if (0 ≤ s ∧ s < 24) ∧ 1 ≤ g ∧ g ≤ 6 then g * 32 + s else 0)] [] := by
  refine RunT.of_vc gOk Tryz.func83 rfl rfl (Nat.le_of_ble_eq_true rfl) (by repeat' (first | exact trivial | exact ⟨_, rfl, Nat.le_refl _⟩ | exact Nat.le_of_ble_eq_true rfl | refine And.intro ?_ ?_)) (Nat.le_of_ble_eq_true rfl) rfl (fun F hE => ?_)
  repeat' (first | exact trivial | refine BS.d (fun h => ?_) (fun h => ?_) | refine BS.e (fun h => ?_) (fun h => ?_) | refine BS.ne (fun h => ?_) (fun h => ?_) | refine BS.n ?_ | refine BS.s (fun h => ?_) (fun h => ?_) | refine And.intro ?_ ?_ | (refine Need.mk ?_; first | with_reducible rfl | (show @Eq TC _ _; rfl) | omega | (simp only [adN_zero]; omega)) | exact OutS.whole rfl rfl | (refine OpK.call (slotOkB_run ?_) rfl rfl rfl rfl hE ?_ rfl rfl ?_; rotate_left 1; focus ((repeat' (first | exact PsA.lit _ | exact PsA.ref rfl rfl | constructor)); all_goals (fail "ps"))) | (refine OpK.call (genOk_run ?_) rfl rfl rfl rfl hE ?_ rfl rfl ?_; rotate_left 1; focus ((repeat' (first | exact PsA.lit _ | exact PsA.ref rfl rfl | constructor)); all_goals (fail "ps"))) | refine ListO.go gOk hE ?_)
  all_goals (refine Need.mk ?_; first | omega | (rw [if_pos (by omega)]) | (rw [if_neg (by omega)]))
theorem iHandleOk_run (x : Int) (hm : x ≤ 9223372036854775807) : RunT Tryz.prog 191 [ti x] [] [ob (hOk x)] [] := by
  unfold hOk
  refine RunT.of_vc gOk Tryz.func191 rfl rfl (Nat.le_of_ble_eq_true rfl) (by repeat' (first | exact trivial | exact ⟨_, rfl, Nat.le_refl _⟩ | exact Nat.le_of_ble_eq_true rfl | refine And.intro ?_ ?_)) (Nat.le_of_ble_eq_true rfl) rfl (fun F hE => ?_)
  repeat' (first | exact trivial | refine BS.d (fun h => ?_) (fun h => ?_) | refine BS.e (fun h => ?_) (fun h => ?_) | refine BS.ne (fun h => ?_) (fun h => ?_) | refine BS.n ?_ | refine BS.s (fun h => ?_) (fun h => ?_) | refine And.intro ?_ ?_ | (refine Need.mk ?_; first | with_reducible rfl | (show @Eq TC _ _; rfl) | omega | (simp only [adN_zero]; omega)) | exact OutS.whole rfl rfl | (refine OpK.call (iHandleOf_run ?_ ?_) rfl rfl rfl rfl hE ?_ rfl rfl ?_; rotate_left 2; focus ((repeat' (first | exact PsA.lit _ | exact PsA.ref rfl rfl | constructor)); all_goals (fail "ps"))) | refine ListO.go gOk hE ?_)
  all_goals first
    | (refine Need.mk ?_; rw [Int.tmod_eq_emod_of_nonneg (by omega), Int.tdiv_eq_ediv_of_nonneg (by omega), wr_in (by omega)]; split <;> (rw [Bool.beq_eq_decide_eq]; apply decide_eq_decide.2; omega))
    | (refine Need.mk ?_; first | rfl | (symm; apply decide_eq_true; omega) | (symm; apply decide_eq_false; omega) | (apply decide_eq_decide.2; omega) | (simp only [beq_iff_eq, Bool.beq_eq_decide_eq] at *; apply decide_eq_decide.2; omega) | (simp; omega))
theorem sHandleSlot_run (x : Int) : RunT Tryz.prog 177 [ti x] [] [oi (hSlot x)] [] := by
  have c1 := sHandleOk_run x
  unfold hSlot
  cases hk : hOk x with
  | true =>
    have := hOk_iff.1 hk
    rw [hk] at c1
    refine RunT.of_vc gOk Tryz.func177 rfl rfl (Nat.le_of_ble_eq_true rfl) (by repeat' (first | exact trivial | exact ⟨_, rfl, Nat.le_refl _⟩ | exact Nat.le_of_ble_eq_true rfl | refine And.intro ?_ ?_)) (Nat.le_of_ble_eq_true rfl) rfl (fun F hE => ?_)
    repeat' (first | exact trivial | refine BS.d (fun h => ?_) (fun h => ?_) | refine BS.e (fun h => ?_) (fun h => ?_) | refine BS.ne (fun h => ?_) (fun h => ?_) | refine BS.n ?_ | refine BS.s (fun h => ?_) (fun h => ?_) | refine And.intro ?_ ?_ | (refine Need.mk ?_; first | with_reducible rfl | (show @Eq TC _ _; rfl) | omega | (simp only [adN_zero]; omega)) | exact OutS.whole rfl rfl | (refine OpK.call c1 rfl rfl rfl rfl hE ?_ rfl rfl ?_; focus ((repeat' (first | exact PsA.lit _ | exact PsA.ref rfl rfl | constructor)); all_goals (fail "ps"))) | refine ListO.go gOk hE ?_)
    all_goals (refine Need.mk ?_; rw [Int.tmod_eq_emod_of_nonneg (by omega)]; rfl)
  | false =>
    rw [hk] at c1
    refine RunT.of_vc gOk Tryz.func177 rfl rfl (Nat.le_of_ble_eq_true rfl) (by repeat' (first | exact trivial | exact ⟨_, rfl, Nat.le_refl _⟩ | exact Nat.le_of_ble_eq_true rfl | refine And.intro ?_ ?_)) (Nat.le_of_ble_eq_true rfl) rfl (fun F hE => ?_)
    repeat' (first | exact trivial | refine BS.d (fun h => ?_) (fun h => ?_) | refine BS.e (fun h => ?_) (fun h => ?_) | refine BS.ne (fun h => ?_) (fun h => ?_) | refine BS.n ?_ | refine BS.s (fun h => ?_) (fun h => ?_) | refine And.intro ?_ ?_ | (refine Need.mk ?_; first | with_reducible rfl | (show @Eq TC _ _; rfl) | omega | (simp only [adN_zero]; omega)) | exact OutS.whole rfl rfl | (refine OpK.call c1 rfl rfl rfl rfl hE ?_ rfl rfl ?_; focus ((repeat' (first | exact PsA.lit _ | exact PsA.ref rfl rfl | constructor)); all_goals (fail "ps"))) | refine ListO.go gOk hE ?_)
    all_goals exact Need.mk rfl
theorem iHandleSlot_run (x : Int) (hm : x ≤ 9223372036854775807) : RunT Tryz.prog 186 [ti x] [] [oi (hSlot x)] [] := by
  have c1 := iHandleOk_run x hm
  unfold hSlot
  cases hk : hOk x with
  | true =>
    have := hOk_iff.1 hk
    rw [hk] at c1
    refine RunT.of_vc gOk Tryz.func186 rfl rfl (Nat.le_of_ble_eq_true rfl) (by repeat' (first | exact trivial | exact ⟨_, rfl, Nat.le_refl _⟩ | exact Nat.le_of_ble_eq_true rfl | refine And.intro ?_ ?_)) (Nat.le_of_ble_eq_true rfl) rfl (fun F hE => ?_)
    repeat' (first | exact trivial | refine BS.d (fun h => ?_) (fun h => ?_) | refine BS.e (fun h => ?_) (fun h => ?_) | refine BS.ne (fun h => ?_) (fun h => ?_) | refine BS.n ?_ | refine BS.s (fun h => ?_) (fun h => ?_) | refine And.intro ?_ ?_ | (refine Need.mk ?_; first | with_reducible rfl | (show @Eq TC _ _; rfl) | omega | (simp only [adN_zero]; omega)) | exact OutS.whole rfl rfl | (refine OpK.call c1 rfl rfl rfl rfl hE ?_ rfl rfl ?_; focus ((repeat' (first | exact PsA.lit _ | exact PsA.ref rfl rfl | constructor)); all_goals (fail "ps"))) | refine ListO.go gOk hE ?_)
    all_goals (refine Need.mk ?_; rw [Int.tmod_eq_emod_of_nonneg (by omega)]; rfl)
  | false =>
    rw [hk] at c1
    refine RunT.of_vc gOk Tryz.func186 rfl rfl (Nat.le_of_ble_eq_true rfl) (by repeat' (first | exact trivial | exact ⟨_, rfl, Nat.le_refl _⟩ | exact Nat.le_of_ble_eq_true rfl | refine And.intro ?_ ?_)) (Nat.le_of_ble_eq_true rfl) rfl (fun F hE => ?_)
    repeat' (first | exact trivial | refine BS.d (fun h => ?_) (fun h => ?_) | refine BS.e (fun h => ?_) (fun h => ?_) | refine BS.ne (fun h => ?_) (fun h => ?_) | refine BS.n ?_ | refine BS.s (fun h => ?_) (fun h => ?_) | refine And.intro ?_ ?_ | (refine Need.mk ?_; first | with_reducible rfl | (show @Eq TC _ _; rfl) | omega | (simp only [adN_zero]; omega)) | exact OutS.whole rfl rfl | (refine OpK.call c1 rfl rfl rfl rfl hE ?_ rfl rfl ?_; focus ((repeat' (first | exact PsA.lit _ | exact PsA.ref rfl rfl | constructor)); all_goals (fail "ps"))) | refine ListO.go gOk hE ?_)
    all_goals exact Need.mk rfl
end Go.Proofs.YtfdbjiaghbeedaaGreatDoor
end

section
namespace Go.Proofs.YtfdbjiaghbeedaaGreatDoor
open Go Go.Tr
set_option maxRecDepth 100000
set_option maxHeartbeats 4000000
set_option linter.unusedVariables false
set_option linter.unusedSimpArgs false
theorem StartOfS_run (s c : Int) : RunT Tryz.prog 153 [ti s, ti c] [] [oi (if genA s c < 0 then -1 else genA s c + 4)] [] := by
  have c1 := GenAtS_run s c
  have hb : genA s c ≤ 1000 := by
    unfold genA
    split
    · rcases cls4 c with ⟨h1, h2, h3, h4⟩ | ⟨h1, h2, h3, h4⟩ | ⟨h1, h2, h3, h4⟩ | ⟨h1, h2, h3, h4⟩ <;> rw [h3] <;> omega
    · omega
  generalize genA s c = z at *
  refine RunT.of_vc gOk Tryz.func153 rfl rfl (Nat.le_of_ble_eq_true rfl) (by repeat' (first | exact trivial | exact ⟨_, rfl, Nat.le_refl _⟩ | exact Nat.le_of_ble_eq_true rfl | refine And.intro ?_ ?_)) (Nat.le_of_ble_eq_true rfl) rfl (fun F hE => ?_)
  repeat' (first | exact trivial | refine BS.d (fun h => ?_) (fun h => ?_) | refine BS.e (fun h => ?_) (fun h => ?_) | refine BS.ne (fun h => ?_) (fun h => ?_) | refine BS.n ?_ | refine BS.s (fun h => ?_) (fun h => ?_) | refine And.intro ?_ ?_ | (refine Need.mk ?_; first | with_reducible rfl | (show @Eq TC _ _; rfl) | omega | (simp only [adN_zero]; omega)) | exact OutS.whole rfl rfl | (refine OpK.call c1 rfl rfl rfl rfl hE ?_ rfl rfl ?_; focus ((repeat' (first | exact PsA.lit _ | exact PsA.ref rfl rfl | constructor)); all_goals (fail "ps"))) | refine ListO.go gOk hE ?_)
  all_goals (refine Need.mk ?_; first | omega | (rw [if_pos (by omega)]; done) | (rw [if_neg (by omega)]; done))
theorem StartOfI_run (s c : Int) : RunH Tryz.prog hT 165 [ti s, ti c] [] [oi (if genA s c < 0 then -1 else genA s c + 4)] [] := by
  have c1 := GenAtI_run s c
  have hb : genA s c ≤ 1000 := by
    unfold genA
    split
    · rcases cls4 c with ⟨h1, h2, h3, h4⟩ | ⟨h1, h2, h3, h4⟩ | ⟨h1, h2, h3, h4⟩ | ⟨h1, h2, h3, h4⟩ <;> rw [h3] <;> omega
    · omega
  generalize genA s c = z at *
  refine RunH.of_vc gOk Tryz.func165 rfl rfl (Nat.le_of_ble_eq_true rfl) (by repeat' (first | exact trivial | exact ⟨_, rfl, Nat.le_refl _⟩ | exact Nat.le_of_ble_eq_true rfl | refine And.intro ?_ ?_)) (Nat.le_of_ble_eq_true rfl) rfl (fun F hE hA => ?_)
  repeat' (first | exact trivial | refine BS.d (fun h => ?_) (fun h => ?_) | refine BS.e (fun h => ?_) (fun h => ?_) | refine BS.ne (fun h => ?_) (fun h => ?_) | refine BS.n ?_ | refine BS.s (fun h => ?_) (fun h => ?_) | refine And.intro ?_ ?_ | (refine Need.mk ?_; first | with_reducible rfl | (show @Eq TC _ _; rfl) | omega | (simp only [adN_zero]; omega)) | exact OutS.whole rfl rfl | (refine OpK.callH c1 hA rfl rfl rfl rfl hE ?_ rfl rfl ?_; focus ((repeat' (first | exact PsA.lit _ | exact PsA.ref rfl rfl | constructor)); all_goals (fail "ps"))) | refine ListO.go gOk hE ?_)
  all_goals (refine Need.mk ?_; first | omega | (rw [if_pos (by omega)]; done) | (rw [if_neg (by omega)]; done))
end Go.Proofs.YtfdbjiaghbeedaaGreatDoor
end

section
/- Where a node lies. -/
namespace Go.Proofs.YtfdbjiaghbeedaaGreatDoor
open Go Go.Tr
set_option maxRecDepth 100000
set_option maxHeartbeats 4000000
set_option linter.unusedVariables false
set_option linter.unusedSimpArgs false
def ndX (c : List Int) (x : Int) : Int × Int := if clIn c (hSlot x) = -1 then (0, 4) else if szC (clIn c (hSlot x)) < 10 then (0, 2) else (genA (hSlot x) (clIn c (hSlot x)) + 4, 0)
theorem ndX_ok {c : List Int} {x : Int} (h : (ndX c x).2 = 0) : clIn c (hSlot x) ≠ -1 ∧ 10 ≤ szC (clIn c (hSlot x)) ∧ (ndX c x).1 = genA (hSlot x) (clIn c (hSlot x)) + 4 ∧ 0 ≤ (ndX c x).1 ∧ (ndX c x).1 + 10 ≤ 384 := by
  by_cases h1 : clIn c (hSlot x) = -1
  · unfold ndX at h; rw [if_pos h1] at h; cases h
  · by_cases h2 : szC (clIn c (hSlot x)) < 10
    · unfold ndX at h; rw [if_neg h1, if_pos h2] at h; cases h
    · have e : ndX c x = (genA (hSlot x) (clIn c (hSlot x)) + 4, 0) := by unfold ndX; rw [if_neg h1, if_neg h2]
      have hs := clIn_some h1
      rw [e]
      exact ⟨h1, by omega, rfl, by dsimp only; omega, by dsimp only; omega⟩
theorem ndX_cd (c : List Int) (x : Int) : (ndX c x).2 = 0 ∨ ndX c x = (0, 4) ∨ ndX c x = (0, 2) := by
  unfold ndX
  split
  · exact .inr (.inl rfl)
  · split
    · exact .inr (.inr rfl)
    · exact .inl rfl
theorem nodeStart_run (e : Nat) (b c : List Int) (g o : List (List Int)) (x : Int) (hc : c.length = 6) (hx : x ≤ 9223372036854775807) : RunH Tryz.prog hT 119 [aMm e b c g o, ti x] [] [oi (ndX c x).1, oi (ndX c x).2] [] := by
  have c1 := iHandleSlot_run x hx
  have c2 := classIn_run b c (hSlot x) hc
  unfold ndX
  by_cases h1 : clIn c (hSlot x) = -1
  · rw [if_pos h1]
    rw [h1] at c2
    refine RunH.of_vc gOk Tryz.func119 rfl rfl (Nat.le_of_ble_eq_true rfl) (by repeat' (first | exact trivial | exact ⟨_, rfl, Nat.le_refl _⟩ | exact Nat.le_of_ble_eq_true rfl | refine And.intro ?_ ?_)) (Nat.le_of_ble_eq_true rfl) rfl (fun F hE hA => ?_)
    repeat' (first | exact trivial | refine BS.d (fun h => ?_) (fun h => ?_) | refine BS.e (fun h => ?_) (fun h => ?_) | refine BS.ne (fun h => ?_) (fun h => ?_) | refine BS.n ?_ | refine BS.s (fun h => ?_) (fun h => ?_) | refine And.intro ?_ ?_ | (refine Need.mk ?_; first | with_reducible rfl | (show @Eq TC _ _; rfl) | omega | (simp only [adN_zero]; omega)) | exact OutS.whole rfl rfl | (refine OpK.call c1 rfl rfl rfl rfl hE ?_ rfl rfl ?_; focus ((repeat' (first | exact PsA.lit _ | exact PsA.ref rfl rfl | constructor)); all_goals (fail "ps"))) | (refine OpK.callH c2 hA rfl rfl rfl rfl hE ?_ rfl rfl ?_; focus ((repeat' (first | exact PsA.lit _ | exact PsA.ref rfl rfl | constructor)); all_goals (fail "ps"))) | refine ListO.go gOk hE ?_)
    all_goals first | exact Need.mk rfl | (exfalso; omega) | trace_state
  · rw [if_neg h1]
    have c3 := SizeOfI_run (clIn c (hSlot x))
    have c4 := StartOfI_run (hSlot x) (clIn c (hSlot x))
    have hs := clIn_some h1
    rw [if_neg (by omega)] at c4
    generalize genA (hSlot x) (clIn c (hSlot x)) = gg at *
    generalize szC (clIn c (hSlot x)) = z at *
    generalize clIn c (hSlot x) = cl at *
    by_cases h2 : z < 10
    · rw [if_pos h2]
      refine RunH.of_vc gOk Tryz.func119 rfl rfl (Nat.le_of_ble_eq_true rfl) (by repeat' (first | exact trivial | exact ⟨_, rfl, Nat.le_refl _⟩ | exact Nat.le_of_ble_eq_true rfl | refine And.intro ?_ ?_)) (Nat.le_of_ble_eq_true rfl) rfl (fun F hE hA => ?_)
      repeat' (first | exact trivial | refine BS.d (fun h => ?_) (fun h => ?_) | refine BS.e (fun h => ?_) (fun h => ?_) | refine BS.ne (fun h => ?_) (fun h => ?_) | refine BS.n ?_ | refine BS.s (fun h => ?_) (fun h => ?_) | refine And.intro ?_ ?_ | (refine Need.mk ?_; first | with_reducible rfl | (show @Eq TC _ _; rfl) | omega | (simp only [adN_zero]; omega)) | exact OutS.whole rfl rfl | (refine OpK.call c1 rfl rfl rfl rfl hE ?_ rfl rfl ?_; focus ((repeat' (first | exact PsA.lit _ | exact PsA.ref rfl rfl | constructor)); all_goals (fail "ps"))) | (refine OpK.callH c2 hA rfl rfl rfl rfl hE ?_ rfl rfl ?_; focus ((repeat' (first | exact PsA.lit _ | exact PsA.ref rfl rfl | constructor)); all_goals (fail "ps"))) | (refine OpK.callH c3 hA rfl rfl rfl rfl hE ?_ rfl rfl ?_; focus ((repeat' (first | exact PsA.lit _ | exact PsA.ref rfl rfl | constructor)); all_goals (fail "ps"))) | refine ListO.go gOk hE ?_)
      all_goals first | exact Need.mk rfl | (exfalso; omega) | trace_state
    · rw [if_neg h2]
      refine RunH.of_vc gOk Tryz.func119 rfl rfl (Nat.le_of_ble_eq_true rfl) (by repeat' (first | exact trivial | exact ⟨_, rfl, Nat.le_refl _⟩ | exact Nat.le_of_ble_eq_true rfl | refine And.intro ?_ ?_)) (Nat.le_of_ble_eq_true rfl) rfl (fun F hE hA => ?_)
      repeat' (first | exact trivial | refine BS.d (fun h => ?_) (fun h => ?_) | refine BS.e (fun h => ?_) (fun h => ?_) | refine BS.ne (fun h => ?_) (fun h => ?_) | refine BS.n ?_ | refine BS.s (fun h => ?_) (fun h => ?_) | refine And.intro ?_ ?_ | (refine Need.mk ?_; first | with_reducible rfl | (show @Eq TC _ _; rfl) | omega | (simp only [adN_zero]; omega)) | exact OutS.whole rfl rfl | (refine OpK.call c1 rfl rfl rfl rfl hE ?_ rfl rfl ?_; focus ((repeat' (first | exact PsA.lit _ | exact PsA.ref rfl rfl | constructor)); all_goals (fail "ps"))) | (refine OpK.callH c2 hA rfl rfl rfl rfl hE ?_ rfl rfl ?_; focus ((repeat' (first | exact PsA.lit _ | exact PsA.ref rfl rfl | constructor)); all_goals (fail "ps"))) | (refine OpK.callH c3 hA rfl rfl rfl rfl hE ?_ rfl rfl ?_; focus ((repeat' (first | exact PsA.lit _ | exact PsA.ref rfl rfl | constructor)); all_goals (fail "ps"))) | (refine OpK.callH c4 hA rfl rfl rfl rfl hE ?_ rfl rfl ?_; focus ((repeat' (first | exact PsA.lit _ | exact PsA.ref rfl rfl | constructor)); all_goals (fail "ps"))) | refine ListO.go gOk hE ?_)
      all_goals first | exact Need.mk rfl | (exfalso; omega) | trace_state
theorem l19Spot_run (e : Nat) (b c : List Int) (g o : List (List Int)) (x : Int) (hc : c.length = 6) : RunT Tryz.prog 110 [aMm e b c g o, ti x] [] [oi (ndX c x).1, oi (ndX c x).2] [] := by
  have c0 := sHandleOk_run x
  have c1 := sHandleSlot_run x
  have c2 := l7Class_run b c (hSlot x) hc
  unfold ndX
  cases hk : hOk x with
  | false =>
    have hs : hSlot x = -1 := by unfold hSlot; rw [hk]; rfl
    have h1 : clIn c (hSlot x) = -1 := by rw [hs]; exact clIn_no (by omega)
    rw [if_pos h1]
    rw [hk] at c0
    refine RunT.of_vc gOk Tryz.func110 rfl rfl (Nat.le_of_ble_eq_true rfl) (by repeat' (first | exact trivial | exact ⟨_, rfl, Nat.le_refl _⟩ | exact Nat.le_of_ble_eq_true rfl | refine And.intro ?_ ?_)) (Nat.le_of_ble_eq_true rfl) rfl (fun F hE => ?_)
    repeat' (first | exact trivial | refine BS.d (fun h => ?_) (fun h => ?_) | refine BS.e (fun h => ?_) (fun h => ?_) | refine BS.ne (fun h => ?_) (fun h => ?_) | refine BS.n ?_ | refine BS.s (fun h => ?_) (fun h => ?_) | refine And.intro ?_ ?_ | (refine Need.mk ?_; first | with_reducible rfl | (show @Eq TC _ _; rfl) | omega | (simp only [adN_zero]; omega)) | exact OutS.whole rfl rfl | (refine OpK.call c0 rfl rfl rfl rfl hE ?_ rfl rfl ?_; focus ((repeat' (first | exact PsA.lit _ | exact PsA.ref rfl rfl | constructor)); all_goals (fail "ps"))) | (refine CodeK.draw gOk hE rfl (fun _ _ h => h) (.take 0 (.alt 1 (.take 2 (.take 3 (.take 4 (.take 6 (.alt 5 (.alt 7 (.alt 8 (.take 9 (.take 10 .done)) .stop) .stop) (.alt 7 (.alt 5 (.alt 8 (.take 9 (.take 10 .done)) .stop) .stop) .stop)))))) .stop)) ?_ ?_; focus (decide +kernel)) | refine ListO.go gOk hE ?_)
    all_goals first | exact Need.mk rfl | (exfalso; omega) | trace_state
  | true =>
    rw [hk] at c0
    by_cases h1 : clIn c (hSlot x) = -1
    · rw [if_pos h1]
      rw [h1] at c2
      refine RunT.of_vc gOk Tryz.func110 rfl rfl (Nat.le_of_ble_eq_true rfl) (by repeat' (first | exact trivial | exact ⟨_, rfl, Nat.le_refl _⟩ | exact Nat.le_of_ble_eq_true rfl | refine And.intro ?_ ?_)) (Nat.le_of_ble_eq_true rfl) rfl (fun F hE => ?_)
      repeat' (first | exact trivial | refine BS.d (fun h => ?_) (fun h => ?_) | refine BS.e (fun h => ?_) (fun h => ?_) | refine BS.ne (fun h => ?_) (fun h => ?_) | refine BS.n ?_ | refine BS.s (fun h => ?_) (fun h => ?_) | refine And.intro ?_ ?_ | (refine Need.mk ?_; first | with_reducible rfl | (show @Eq TC _ _; rfl) | omega | (simp only [adN_zero]; omega)) | exact OutS.whole rfl rfl | (refine OpK.call c0 rfl rfl rfl rfl hE ?_ rfl rfl ?_; focus ((repeat' (first | exact PsA.lit _ | exact PsA.ref rfl rfl | constructor)); all_goals (fail "ps"))) | (refine OpK.call c1 rfl rfl rfl rfl hE ?_ rfl rfl ?_; focus ((repeat' (first | exact PsA.lit _ | exact PsA.ref rfl rfl | constructor)); all_goals (fail "ps"))) | (refine OpK.call c2 rfl rfl rfl rfl hE ?_ rfl rfl ?_; focus ((repeat' (first | exact PsA.lit _ | exact PsA.ref rfl rfl | constructor)); all_goals (fail "ps"))) | (refine CodeK.draw gOk hE rfl (fun _ _ h => h) (.take 0 (.alt 1 (.take 2 (.take 3 (.take 4 (.take 6 (.alt 5 (.alt 7 (.alt 8 (.take 9 (.take 10 .done)) .stop) .stop) (.alt 7 (.alt 5 (.alt 8 (.take 9 (.take 10 .done)) .stop) .stop) .stop)))))) .stop)) ?_ ?_; focus (decide +kernel)) | (refine CodeK.draw gOk hE rfl (fun _ _ h => h) (.take 0 (.take 2 (.alt 1 (.alt 3 (.alt 4 (.take 5 .done) .stop) .stop) (.alt 3 (.alt 1 (.alt 4 (.take 5 .done) .stop) .stop) .stop)))) ?_ ?_; focus (decide +kernel)) | refine ListO.go gOk hE ?_)
      all_goals first | exact Need.mk rfl | (exfalso; omega) | trace_state
    · rw [if_neg h1]
      have c3 := SizeOfS_run (clIn c (hSlot x))
      have c4 := StartOfS_run (hSlot x) (clIn c (hSlot x))
      have hs := clIn_some h1
      rw [if_neg (by omega)] at c4
      generalize genA (hSlot x) (clIn c (hSlot x)) = gg at *
      generalize szC (clIn c (hSlot x)) = z at *
      generalize clIn c (hSlot x) = cl at *
      by_cases h2 : z < 10
      · rw [if_pos h2]
        refine RunT.of_vc gOk Tryz.func110 rfl rfl (Nat.le_of_ble_eq_true rfl) (by repeat' (first | exact trivial | exact ⟨_, rfl, Nat.le_refl _⟩ | exact Nat.le_of_ble_eq_true rfl | refine And.intro ?_ ?_)) (Nat.le_of_ble_eq_true rfl) rfl (fun F hE => ?_)
        repeat' (first | exact trivial | refine BS.d (fun h => ?_) (fun h => ?_) | refine BS.e (fun h => ?_) (fun h => ?_) | refine BS.ne (fun h => ?_) (fun h => ?_) | refine BS.n ?_ | refine BS.s (fun h => ?_) (fun h => ?_) | refine And.intro ?_ ?_ | (refine Need.mk ?_; first | with_reducible rfl | (show @Eq TC _ _; rfl) | omega | (simp only [adN_zero]; omega)) | exact OutS.whole rfl rfl | (refine OpK.call c0 rfl rfl rfl rfl hE ?_ rfl rfl ?_; focus ((repeat' (first | exact PsA.lit _ | exact PsA.ref rfl rfl | constructor)); all_goals (fail "ps"))) | (refine OpK.call c1 rfl rfl rfl rfl hE ?_ rfl rfl ?_; focus ((repeat' (first | exact PsA.lit _ | exact PsA.ref rfl rfl | constructor)); all_goals (fail "ps"))) | (refine OpK.call c2 rfl rfl rfl rfl hE ?_ rfl rfl ?_; focus ((repeat' (first | exact PsA.lit _ | exact PsA.ref rfl rfl | constructor)); all_goals (fail "ps"))) | (refine OpK.call c3 rfl rfl rfl rfl hE ?_ rfl rfl ?_; focus ((repeat' (first | exact PsA.lit _ | exact PsA.ref rfl rfl | constructor)); all_goals (fail "ps"))) | (refine CodeK.draw gOk hE rfl (fun _ _ h => h) (.take 0 (.alt 1 (.take 2 (.take 3 (.take 4 (.take 6 (.alt 5 (.alt 7 (.alt 8 (.take 9 (.take 10 .done)) .stop) .stop) (.alt 7 (.alt 5 (.alt 8 (.take 9 (.take 10 .done)) .stop) .stop) .stop)))))) .stop)) ?_ ?_; focus (decide +kernel)) | (refine CodeK.draw gOk hE rfl (fun _ _ h => h) (.take 0 (.take 2 (.alt 1 (.alt 3 (.alt 4 (.take 5 .done) .stop) .stop) (.alt 3 (.alt 1 (.alt 4 (.take 5 .done) .stop) .stop) .stop)))) ?_ ?_; focus (decide +kernel)) | refine ListO.go gOk hE ?_)
        all_goals first | exact Need.mk rfl | (exfalso; omega) | trace_state
      · rw [if_neg h2]
        refine RunT.of_vc gOk Tryz.func110 rfl rfl (Nat.le_of_ble_eq_true rfl) (by repeat' (first | exact trivial | exact ⟨_, rfl, Nat.le_refl _⟩ | exact Nat.le_of_ble_eq_true rfl | refine And.intro ?_ ?_)) (Nat.le_of_ble_eq_true rfl) rfl (fun F hE => ?_)
        repeat' (first | exact trivial | refine BS.d (fun h => ?_) (fun h => ?_) | refine BS.e (fun h => ?_) (fun h => ?_) | refine BS.ne (fun h => ?_) (fun h => ?_) | refine BS.n ?_ | refine BS.s (fun h => ?_) (fun h => ?_) | refine And.intro ?_ ?_ | (refine Need.mk ?_; first | with_reducible rfl | (show @Eq TC _ _; rfl) | omega | (simp only [adN_zero]; omega)) | exact OutS.whole rfl rfl | (refine OpK.call c0 rfl rfl rfl rfl hE ?_ rfl rfl ?_; focus ((repeat' (first | exact PsA.lit _ | exact PsA.ref rfl rfl | constructor)); all_goals (fail "ps"))) | (refine OpK.call c1 rfl rfl rfl rfl hE ?_ rfl rfl ?_; focus ((repeat' (first | exact PsA.lit _ | exact PsA.ref rfl rfl | constructor)); all_goals (fail "ps"))) | (refine OpK.call c2 rfl rfl rfl rfl hE ?_ rfl rfl ?_; focus ((repeat' (first | exact PsA.lit _ | exact PsA.ref rfl rfl | constructor)); all_goals (fail "ps"))) | (refine OpK.call c3 rfl rfl rfl rfl hE ?_ rfl rfl ?_; focus ((repeat' (first | exact PsA.lit _ | exact PsA.ref rfl rfl | constructor)); all_goals (fail "ps"))) | (refine OpK.call c4 rfl rfl rfl rfl hE ?_ rfl rfl ?_; focus ((repeat' (first | exact PsA.lit _ | exact PsA.ref rfl rfl | constructor)); all_goals (fail "ps"))) | (refine CodeK.draw gOk hE rfl (fun _ _ h => h) (.take 0 (.alt 1 (.take 2 (.take 3 (.take 4 (.take 6 (.alt 5 (.alt 7 (.alt 8 (.take 9 (.take 10 .done)) .stop) .stop) (.alt 7 (.alt 5 (.alt 8 (.take 9 (.take 10 .done)) .stop) .stop) .stop)))))) .stop)) ?_ ?_; focus (decide +kernel)) | (refine CodeK.draw gOk hE rfl (fun _ _ h => h) (.take 0 (.take 2 (.alt 1 (.alt 3 (.alt 4 (.take 5 .done) .stop) .stop) (.alt 3 (.alt 1 (.alt 4 (.take 5 .done) .stop) .stop) .stop)))) ?_ ?_; focus (decide +kernel)) | refine ListO.go gOk hE ?_)
        all_goals first | exact Need.mk rfl | (exfalso; omega) | trace_state
end Go.Proofs.YtfdbjiaghbeedaaGreatDoor
end

section
/- An array out of a slice: a run of literal elements read together. -/
set_option linter.unusedVariables false
set_option linter.unusedSimpArgs false
universe u
namespace Go.Tr
open Go Go.RowKit
section
variable {P : Program} {F : Fm} {N : Nat} {G : Gt} {o : Oper} {τ σ : TS} {k : TS → Prop}
theorem OpK.toArr (hG : GOk P G) {t m e ke kt : Nat} {z : List ZC} {x : Operand} {κ lo n : Nat} {R : TRoot} (hop : o.op = .sliceToArrayPointer t x) (hg : o.guard = none) (hd : okD N o.dst = true) (hx : evS σ x = .a (.ref κ lo n)) (ht : G.T t = some ⟨kt, .arr m e ke, z⟩) (hR : lkR σ.r κ = some R) (hm : 0 < n ∧ m ≤ n)
    (h : stO o σ (.ptr κ lo 0) k) : OpK P F N o σ k :=
  ⟨fun ops Q rest kk => by
    obtain ⟨h1, inf, h2, h3⟩ := (hG.T t _ ht).kind
    refine AL.val hg hd (fun a w ω β hr => ?_) (stO_ok hd kk h)
    have hv := hr.ev x
    rw [evS_eq, hx] at hv
    obtain ⟨R', e1, _, A, c, e2, e3, _, _, _, e5⟩ := hv
    obtain ⟨g, o', e6, e7⟩ := e5 (by omega)
    refine ⟨.pointer A, ?_, R', g, _, e1, ⟨o', e6, rfl⟩, by rw [e7]; rfl⟩
    generalize a.eval = ρ at e2 ⊢
    simp [execOp, hop, go_sem, e2, e7, Instr.arrayAt, underlying, h1]
    omega⟩
theorem OpK.ldArr (hG : GOk P G) {t m κ lo e : Nat} {oo : RO} {f : Bool} {kd : TK} {z : List ZC} {x : Operand} {X : Type} {enc : X → Nat → TC} {dec : List Value → Option X} {d : X} {xs : List X} (v : X → Value) (hop : o.op = .load t x) (hg : o.guard = none) (hd : okD N o.dst = true) (hx : evS σ x = .ptr κ lo 0) (ht : G.T t = some ⟨m, kd, z⟩) (hk : agK kd = true)
    (hR : lkR σ.r κ = some (.ty oo f e 1 X enc dec d xs)) (hl : lo + m ≤ xs.length) (he : ∀ x, enc x 0 = .lit (v x))
    (h : stO o σ (.agg ((List.range m).map fun q => .lit (v (xs.getD (lo + q) d)))) k) : OpK P F N o σ k :=
  ⟨fun ops Q rest kk => by
    have hF := hG.T t _ ht
    obtain ⟨D, h1, h2⟩ : ∃ D, P.underlying t = some D ∧ scD D = false := by
      have h := hF.kind
      cases kd with
      | st pl => obtain ⟨fs, h1, _⟩ := h; exact ⟨_, h1, rfl⟩
      | arr n e ke => exact ⟨_, h.1, rfl⟩
      | sc => cases hk
      | sl _ _ _ => cases hk
      | ot => cases hk
    obtain ⟨inf, zv, h3, h4, _⟩ := hF.info
    have hRe := TS.rt_some hR
    refine AL.val hg hd (fun a w ω β hr => ?_) (stO_ok hd kk h)
    have hv := hr.ev x
    rw [evS_eq, hx] at hv
    obtain ⟨R', g, j, e1, ⟨o', e2, e3⟩, e4⟩ := hv
    rw [hRe] at e1; injection e1 with e1; subst e1
    have hcell : ∀ q, q < m → w.cell? ⟨g, j + q, none⟩ = some (v (xs.getD (lo + q) d)) ∧ scal (v (xs.getD (lo + q) d)) = true := by
      intro q hq
      obtain ⟨g', j', u, ⟨o2, f1, f2⟩, k2, k3⟩ := hr.load hRe (i := lo + q) (r := 0) (show lo + q < xs.length by omega) (show 0 < 1 by omega) rfl
      rw [e2] at f1; injection f1 with f1; injection f1 with f3 f4 _
      subst f3 f4
      have e5 : j = o' + (lo * 1 + 0) := e3
      have f5 : j' = o' + ((lo + q) * 1 + 0) := f2
      have : j' = j + q := by omega
      subst this
      have ha : (TRoot.ty oo f e 1 X enc dec d xs).er.atom κ (lo + q) 0 = .lit (v (xs.getD (lo + q) d)) := by
        show (match Cl.cl ((enc (xs.getD (lo + q) d) 0).er (owOf oo)) with
          | .ref κ' lo n => At.ref κ' lo n
          | .cl (.lit v) => .lit v
          | .cl (.sl _ _ _ _ _) => .spot κ (lo + q) 0
          | .cl _ => .any) = _
        rw [he]; rfl
      rw [ha] at k3
      obtain ⟨rfl, k4⟩ := k3
      exact ⟨k2, k4⟩
    refine ⟨.agg ((List.range m).map fun q => v (xs.getD (lo + q) d)).toArray, run_load _ w hop e4 (run_loadVar_agg (P := P) (w := w) (g := g) (j := j) h1 h2 h3 (show inf.size = m from h4) (fun q => v (xs.getD (lo + q) d)) (fun q hq => (hcell q hq).1)), _, rfl, by simp, fun i x hi => ?_⟩
    rw [List.getElem?_map, List.getElem?_map] at hi
    by_cases hlt : i < m
    · rw [List.getElem?_range hlt] at hi
      injection hi with hi; subst hi
      refine ⟨v (xs.getD (lo + i) d), ?_, rfl, (hcell i hlt).2⟩
      simp [List.getElem?_range hlt]
    · rw [List.getElem?_eq_none (by simp; omega)] at hi
      cases hi⟩
theorem OpK.buildArr (hG : GOk P G) {t m n e ke : Nat} {z : List ZC} {parts : Array (Nat × Operand)} {qs : List (Nat × List At)} (hop : o.op = .build t parts) (hg : o.guard = none) (hd : okD N o.dst = true)
    (ht : G.T t = some ⟨m, .arr n e ke, z⟩) (hz : z.all ZC.ok = true) (hq : partsQ σ (fun i => some (i * ke, ke)) parts.toList = some qs) (hok : fillOk m qs = true) (h : stO o σ (.agg (fillA (z.map ZC.at_) qs)) k) : OpK P F N o σ k :=
  ⟨fun ops Q rest kk => by
    have hp := partsQ_ok hq
    have hF := hG.T t _ ht
    obtain ⟨inf, zv, h3, h4, h5, h6⟩ := hF.info
    have hlen : z.length = m := hF.zl
    obtain ⟨h1, ie, h7, h8⟩ := hF.kind
    refine AL.val hg hd (fun a w ω β h => ?_) (stO_ok hd kk h)
    have hr0 : FillR σ.er β w zv.cells (z.map ZC.at_) := by
      refine ⟨by rw [← Array.length_toList, h6]; simp, fun j x hj => ?_⟩
      rw [List.getElem?_map] at hj
      cases hq : z[j]? with
      | none => rw [hq] at hj; cases hj
      | some zc =>
        rw [hq] at hj; injection hj with hj
        subst hj
        refine ⟨zc.val, ?_, ZC.arel (List.all_eq_true.1 hz _ (List.mem_of_getElem? hq))⟩
        rw [← Array.getElem?_toList, h6]
        show (z.map ZC.val)[j]? = _
        rw [List.getElem?_map, hq]; rfl
    obtain ⟨c', k1, k2, k3⟩ := fill_rel h parts.toList qs zv.cells (z.map ZC.at_) hp (by simpa [hlen] using hok) hr0
    have est := fillA_st _ _ (zat_st z) (partsQ_st hq)
    refine ⟨.agg c', ?_, c', rfl, by rw [est]; exact k2.1, by rw [est]; exact k2.2⟩
    have hbuilt : P.built t ((parts.map fun (i, x) => (i, a.eval x)).toList) = some c' := by
      unfold Program.built
      rw [h3, h1]
      simp only [h5, h7, h8]
      rw [Array.toList_map, ← k1]
    have hrun := run_build w t (parts.map fun (i, x) => (i, a.eval x)) c' hbuilt
    unfold execOp
    rw [hop]
    show ((Instr.build t (parts.map fun (i, x) => (i, a.eval x)) >>= fun v => pure (Next.value v)) : Sem Next).run P w = _
    rw [Sem.run_bind, hrun]
    rfl⟩
theorem arr_items {e : TypeId} {d : Nat} {w : World} (he : P.underlying e = some (.int .i64)) (f g : Nat → Int) (n : Nat) (xs ys : Array Value) (hx : ∀ i, i < n → xs[i]? = some (.int .i64 (f i))) (hy : ∀ i, i < n → ys[i]? = some (.int .i64 (g i))) :
    ∀ is : List Nat, (∀ i ∈ is, i < n) → (Op.eqItems (d + 1) e 1 xs ys is).run P w = .ok (decide (∀ i ∈ is, f i = g i)) w
  | [], _ => by simp [Op.eqItems]
  | i :: is, h => by
    have h1 := hx i (h i (by simp))
    have h2 := hy i (h i (by simp))
    have p1 : (part e xs (i * 1)).run P w = .ok (.int .i64 (f i)) w := by simp [part, isAgg, he, go_sem, run_underlying, h1]
    have p2 : (part e ys (i * 1)).run P w = .ok (.int .i64 (g i)) w := by simp [part, isAgg, he, go_sem, run_underlying, h2]
    have ih := arr_items (d := d) (w := w) he f g n xs ys hx hy is (fun j hj => h j (by simp [hj]))
    simp only [Op.eqItems, Sem.run_bind, p1, p2, Result.andThen_ok, run_equalIn_int w d e .i64 .i64 (f i) (g i) he]
    by_cases e1 : f i = g i
    · simp [e1, ih]
    · simp [e1]
theorem arr_eq {t e : TypeId} {n : Nat} {w : World} {inf : TypeInfo} (ht : P.underlying t = some (.array n e)) (he : P.underlying e = some (.int .i64)) (hi : P.info? e = some inf) (hc : P.cellsOf e = 1) (f g : Nat → Int) (xs ys : Array Value) (hx : ∀ i, i < n → xs[i]? = some (.int .i64 (f i))) (hy : ∀ i, i < n → ys[i]? = some (.int .i64 (g i))) :
    (Op.equalIn 10000 t (.agg xs) (.agg ys)).run P w = .ok (decide (∀ i ∈ List.range n, f i = g i)) w := by
  rw [show (10000 : Nat) = 9999 + 1 from rfl, run_equalIn_array w 9999 xs ys ht hi, hc]
  exact arr_items (d := 9998) he f g n xs ys hx hy _ (fun i hi => List.mem_range.1 hi)
end
end Go.Tr
end

section
/- A page of a heap: what it must hold. -/
namespace Go.Proofs.YtfdbjiaghbeedaaGreatDoor
open Go Go.Tr
set_option maxRecDepth 100000
set_option maxHeartbeats 4000000
set_option linter.unusedVariables false
set_option linter.unusedSimpArgs false
def zrP (b : List Int) (lo n : Nat) : Prop := ∀ j, j < n → b.getD (lo + j) 0 = 0
def hdP (b : List Int) (lo : Nat) (k : Int) : Prop := b.getD lo 0 = 171 ∧ b.getD (lo + 1) 0 = k ∧ b.getD (lo + 2) 0 = perC k ∧ zrP b (lo + 3) 5
def gsP (b c : List Int) (p : Nat) : Prop := ∀ i : Nat, (i : Int) < perC (c.getD p 0) → 1 ≤ gnIn b c (slA p i) ∧ gnIn b c (slA p i) ≤ 7
def pgP (b c : List Int) (p : Nat) : Prop := if c.getD p 0 < 0 then zrP b (p * 64) 64 else hdP b (p * 64) (c.getD p 0) ∧ gsP b c p
noncomputable def dcB (p : Prop) : Bool := @decide p (Classical.propDecidable _)
theorem dcB_true {p : Prop} (h : p) : dcB p = true := by unfold dcB; exact @decide_eq_true _ (Classical.propDecidable _) h
theorem dcB_false {p : Prop} (h : ¬ p) : dcB p = false := by unfold dcB; exact @decide_eq_false _ (Classical.propDecidable _) h
theorem slA_at {p i : Nat} (hp : p < 6) (hi : i < 4) : slA p i = (p : Int) * 4 + i := if_pos (by omega)
theorem clIn_at {c : List Int} {p i : Nat} (hp : p < 6) (hi : (i : Int) < perC (c.getD p 0)) : clIn c (slA p i) = c.getD p 0 ∧ i < 4 := by
  have h4 : i < 4 := by rcases cls4 (c.getD p 0) with ⟨h1, h2, h3, h4⟩ | ⟨h1, h2, h3, h4⟩ | ⟨h1, h2, h3, h4⟩ | ⟨h1, h2, h3, h4⟩ <;> omega
  rw [slA_at hp h4]
  have e1 : (((p : Int) * 4 + i) / 4).toNat = p := by omega
  refine ⟨?_, h4⟩
  rw [clIn_yes (by omega) (by rw [e1]; omega), e1]
theorem genMaySet_run (x : Int) : RunT Tryz.prog 217 [ti x] [] [ob (decide (1 ≤ x ∧ x ≤ 7))] [] := by
  refine RunT.of_vc gOk Tryz.func217 rfl rfl (Nat.le_of_ble_eq_true rfl) (by repeat' (first | exact trivial | exact ⟨_, rfl, Nat.le_refl _⟩ | exact Nat.le_of_ble_eq_true rfl | refine And.intro ?_ ?_)) (Nat.le_of_ble_eq_true rfl) rfl (fun F hE => ?_)
  repeat' (first | exact trivial | refine BS.d (fun h => ?_) (fun h => ?_) | refine BS.e (fun h => ?_) (fun h => ?_) | refine BS.ne (fun h => ?_) (fun h => ?_) | refine BS.n ?_ | refine BS.s (fun h => ?_) (fun h => ?_) | refine And.intro ?_ ?_ | (refine Need.mk ?_; first | with_reducible rfl | (show @Eq TC _ _; rfl) | omega | (simp only [adN_zero]; omega)) | exact OutS.whole rfl rfl | refine ListO.go gOk hE ?_)
  all_goals (refine Need.mk ?_; first | rfl | (symm; apply decide_eq_true; omega) | (symm; apply decide_eq_false; omega) | (apply decide_eq_decide.2; omega) | (simp only [beq_iff_eq, Bool.beq_eq_decide_eq] at *; apply decide_eq_decide.2; omega) | (simp; omega))
theorem allZero_run (xs : List Int) (hn : xs.length ≤ 1048576) : RunT Tryz.prog 182 [.one (.c (tI xs))] [] [ob (decide (zeroP xs))] [] := by
  refine RunT.of_vc gOk Tryz.func182 rfl rfl (Nat.le_of_ble_eq_true rfl) (by repeat' (first | exact trivial | exact ⟨_, rfl, Nat.le_refl _⟩ | exact Nat.le_of_ble_eq_true rfl | refine And.intro ?_ ?_)) (Nat.le_of_ble_eq_true rfl) rfl (fun F hE => ?_)
  repeat' (first | exact trivial | refine BS.d (fun h => ?_) (fun h => ?_) | refine BS.e (fun h => ?_) (fun h => ?_) | refine BS.ne (fun h => ?_) (fun h => ?_) | refine BS.n ?_ | refine BS.s (fun h => ?_) (fun h => ?_) | refine And.intro ?_ ?_ | (refine Need.mk ?_; first | with_reducible rfl | (show @Eq TC _ _; rfl) | omega | (simp only [adN_zero]; omega)) | exact OutS.whole rfl rfl | refine ListO.go gOk hE ?_)
  refine CodeK.loop gOk hE (fun i : Nat => ⟨[(5, vr 1000000 xs.length), (6, vi xs.length), (7, vi i)], [(1000000, rI .fro false xs)]⟩) (fun i => i ≤ xs.length ∧ ∀ j, j < i → xs.getD j 0 = 0) (fun i => xs.length - i) 0 (by refine leT.of ?_ ?_ rfl <;> repeat' (first | exact trivial | refine And.intro rfl ?_ | refine And.intro (by simp) ?_)) ⟨Nat.zero_le _, fun j hj => absurd hj (Nat.not_lt_zero _)⟩ ?_
  rintro i ⟨hi, hq⟩
  by_cases hp : xs.getD i 0 = 0
  all_goals (repeat' (first | exact trivial | refine BS.d (fun h => ?_) (fun h => ?_) | refine BS.e (fun h => ?_) (fun h => ?_) | refine BS.ne (fun h => ?_) (fun h => ?_) | refine BS.n ?_ | refine BS.s (fun h => ?_) (fun h => ?_) | refine And.intro ?_ ?_ | (refine Need.mk ?_; first | with_reducible rfl | (show @Eq TC _ _; rfl) | omega | (simp only [adN_zero]; omega)) | exact OutS.whole rfl rfl | refine ListO.go gOk hE ?_))
  all_goals (try simp only [adN_zero] at *)
  all_goals first
    | (exfalso; first | omega | (simp_all; done))
    | (refine Need.mk ?_; omega)
    | (refine Need.mk ?_; symm; apply decide_eq_true; exact fun j hj => hq j (by omega))
    | (refine Need.mk ?_; symm; apply decide_eq_false; intro hh; exact hp (hh i (by omega)))
    | (refine ⟨i + 1, (by refine leT.of ?_ ?_ rfl <;> repeat' (first | exact trivial | refine And.intro rfl ?_ | refine And.intro (by simp) ?_)), ⟨by omega, fun j hj => (Nat.lt_or_ge j i).elim (hq j) (fun h9 => (show j = i by omega) ▸ hp)⟩, by first | omega | (dsimp only; omega)⟩)
    | trace_state
theorem pageHead_run (k : Int) : RunH Tryz.prog hT 183 [ti k] [] [.agg [.lit (.int .i64 171), .lit (.int .i64 k), .lit (.int .i64 (perC k)), .lit (.int .i64 0), .lit (.int .i64 0), .lit (.int .i64 0), .lit (.int .i64 0), .lit (.int .i64 0)]] [] := by
  have c1 := PerPageI_run k
  refine RunH.of_vc gOk Tryz.func183 rfl rfl (Nat.le_of_ble_eq_true rfl) (by repeat' (first | exact trivial | exact ⟨_, rfl, Nat.le_refl _⟩ | exact Nat.le_of_ble_eq_true rfl | refine And.intro ?_ ?_)) (Nat.le_of_ble_eq_true rfl) rfl (fun F hE hA => ?_)
  repeat' (first | exact trivial | refine BS.d (fun h => ?_) (fun h => ?_) | refine BS.e (fun h => ?_) (fun h => ?_) | refine BS.ne (fun h => ?_) (fun h => ?_) | refine BS.n ?_ | refine BS.s (fun h => ?_) (fun h => ?_) | refine And.intro ?_ ?_ | (refine Need.mk ?_; first | with_reducible rfl | (show @Eq TC _ _; rfl) | omega | (simp only [adN_zero]; omega)) | exact OutS.whole rfl rfl | (refine OpK.callH c1 hA rfl rfl rfl rfl hE ?_ rfl rfl ?_; focus ((repeat' (first | exact PsA.lit _ | exact PsA.ref rfl rfl | constructor)); all_goals (fail "ps"))) | (refine OpK.buildArr gOk rfl rfl rfl rfl rfl rfl rfl ?_) | refine ListO.go gOk hE ?_)
theorem gensOk_run (b c : List Int) (p : Nat) (hp : p < 6) (h : shP b c) : RunH Tryz.prog hT 184 [aH2 b c, ti p] [] [ob (dcB (gsP b c p))] [] := by
  have hc := h.2.1
  have hb := h.1
  have c1 := PerPageI_run (c.getD p 0)
  have hper : 0 ≤ perC (c.getD p 0) ∧ perC (c.getD p 0) ≤ 4 := by rcases cls4 (c.getD p 0) with ⟨h1, h2, h3, h4⟩ | ⟨h1, h2, h3, h4⟩ | ⟨h1, h2, h3, h4⟩ | ⟨h1, h2, h3, h4⟩ <;> omega
  refine RunH.of_vc gOk Tryz.func184 rfl rfl (Nat.le_of_ble_eq_true rfl) (by repeat' (first | exact trivial | exact ⟨_, rfl, Nat.le_refl _⟩ | exact Nat.le_of_ble_eq_true rfl | refine And.intro ?_ ?_)) (Nat.le_of_ble_eq_true rfl) rfl (fun F hE hA => ?_)
  repeat' (first | exact trivial | refine BS.d (fun h => ?_) (fun h => ?_) | refine BS.e (fun h => ?_) (fun h => ?_) | refine BS.ne (fun h => ?_) (fun h => ?_) | refine BS.n ?_ | refine BS.s (fun h => ?_) (fun h => ?_) | refine And.intro ?_ ?_ | (refine Need.mk ?_; first | with_reducible rfl | (show @Eq TC _ _; rfl) | omega | (simp only [adN_zero]; omega)) | exact OutS.whole rfl rfl | (refine OpK.callH c1 hA rfl rfl rfl rfl hE ?_ rfl rfl ?_; focus ((repeat' (first | exact PsA.lit _ | exact PsA.ref rfl rfl | constructor)); all_goals (fail "ps"))) | refine ListO.go gOk hE ?_)
  all_goals (try simp only [adN_zero] at *)
  all_goals first | (refine Need.mk ?_; omega) | skip
  refine CodeK.loop gOk hE (fun i : Nat => ⟨[(1, vi p), (2, .ptr 2 0 0), (11, vi (perC (c.getD p 0))), (12, vi i)], [(2, bH b c), (1000000, rI .fro false b), (1000001, rI .fro false c)]⟩) (fun i => (i : Int) ≤ perC (c.getD p 0) ∧ ∀ j : Nat, j < i → 1 ≤ gnIn b c (slA p j) ∧ gnIn b c (slA p j) ≤ 7) (fun i => (perC (c.getD p 0)).toNat - i) 0 (by refine leT.of ?_ ?_ rfl <;> repeat' (first | exact trivial | refine And.intro rfl ?_ | refine And.intro (by simp) ?_)) ⟨hper.1, fun j hj => absurd hj (Nat.not_lt_zero _)⟩ ?_
  rintro i ⟨hi, hq⟩
  by_cases hi2 : (i : Int) < perC (c.getD p 0)
  · obtain ⟨hk, hi4⟩ := clIn_at (c := c) hp hi2
    have c2 := SlotAtI_run p i
    have c3 := genIn_run b c (slA p i) h
    have c4 := genMaySet_run (gnIn b c (slA p i))
    by_cases hg : 1 ≤ gnIn b c (slA p i) ∧ gnIn b c (slA p i) ≤ 7
    · rw [decide_eq_true hg] at c4
      repeat' (first | exact trivial | refine BS.d (fun h => ?_) (fun h => ?_) | refine BS.e (fun h => ?_) (fun h => ?_) | refine BS.ne (fun h => ?_) (fun h => ?_) | refine BS.n ?_ | refine BS.s (fun h => ?_) (fun h => ?_) | refine And.intro ?_ ?_ | (refine Need.mk ?_; first | with_reducible rfl | (show @Eq TC _ _; rfl) | omega | (simp only [adN_zero]; omega)) | exact OutS.whole rfl rfl | (refine CodeK.draw gOk hE rfl (fun _ _ h => h) (.take 1 (.take 2 (.alt 0 (.alt 3 (.alt 4 (.alt 5 (.take 6 .done) .stop) .stop) .stop) (.alt 3 (.alt 0 (.alt 4 (.alt 5 (.take 6 .done) .stop) .stop) .stop) .stop)))) ?_ ?_; focus (decide +kernel)) | (refine OpK.call c2 rfl rfl rfl rfl hE ?_ rfl rfl ?_; focus ((repeat' (first | exact PsA.lit _ | exact PsA.ref rfl rfl | constructor)); all_goals (fail "ps"))) | (refine OpK.callH c3 hA rfl rfl rfl rfl hE ?_ rfl rfl ?_; focus ((repeat' (first | exact PsA.lit _ | exact PsA.ref rfl rfl | constructor)); all_goals (fail "ps"))) | (refine OpK.call c4 rfl rfl rfl rfl hE ?_ rfl rfl ?_; focus ((repeat' (first | exact PsA.lit _ | exact PsA.ref rfl rfl | constructor)); all_goals (fail "ps"))) | refine ListO.go gOk hE ?_)
      all_goals first
        | (exfalso; omega)
        | (refine Need.mk ?_; omega)
        | (refine ⟨i + 1, (by refine leT.of ?_ ?_ rfl <;> repeat' (first | exact trivial | refine And.intro rfl ?_ | refine And.intro (by simp) ?_)), ⟨by omega, fun j hj => (Nat.lt_or_ge j i).elim (hq j) (fun h9 => (show j = i by omega) ▸ hg)⟩, by first | omega | (dsimp only; omega)⟩)
        | trace_state
    · rw [decide_eq_false hg] at c4
      repeat' (first | exact trivial | refine BS.d (fun h => ?_) (fun h => ?_) | refine BS.e (fun h => ?_) (fun h => ?_) | refine BS.ne (fun h => ?_) (fun h => ?_) | refine BS.n ?_ | refine BS.s (fun h => ?_) (fun h => ?_) | refine And.intro ?_ ?_ | (refine Need.mk ?_; first | with_reducible rfl | (show @Eq TC _ _; rfl) | omega | (simp only [adN_zero]; omega)) | exact OutS.whole rfl rfl | (refine CodeK.draw gOk hE rfl (fun _ _ h => h) (.take 1 (.take 2 (.alt 0 (.alt 3 (.alt 4 (.alt 5 (.take 6 .done) .stop) .stop) .stop) (.alt 3 (.alt 0 (.alt 4 (.alt 5 (.take 6 .done) .stop) .stop) .stop) .stop)))) ?_ ?_; focus (decide +kernel)) | (refine OpK.call c2 rfl rfl rfl rfl hE ?_ rfl rfl ?_; focus ((repeat' (first | exact PsA.lit _ | exact PsA.ref rfl rfl | constructor)); all_goals (fail "ps"))) | (refine OpK.callH c3 hA rfl rfl rfl rfl hE ?_ rfl rfl ?_; focus ((repeat' (first | exact PsA.lit _ | exact PsA.ref rfl rfl | constructor)); all_goals (fail "ps"))) | (refine OpK.call c4 rfl rfl rfl rfl hE ?_ rfl rfl ?_; focus ((repeat' (first | exact PsA.lit _ | exact PsA.ref rfl rfl | constructor)); all_goals (fail "ps"))) | refine ListO.go gOk hE ?_)
      all_goals first
        | (exfalso; omega)
        | (refine Need.mk ?_; omega)
        | (refine Need.mk ?_; symm; apply dcB_false; intro hh; exact hg (hh i hi2))
        | trace_state
  · repeat' (first | exact trivial | refine BS.d (fun h => ?_) (fun h => ?_) | refine BS.e (fun h => ?_) (fun h => ?_) | refine BS.ne (fun h => ?_) (fun h => ?_) | refine BS.n ?_ | refine BS.s (fun h => ?_) (fun h => ?_) | refine And.intro ?_ ?_ | (refine Need.mk ?_; first | with_reducible rfl | (show @Eq TC _ _; rfl) | omega | (simp only [adN_zero]; omega)) | exact OutS.whole rfl rfl | refine ListO.go gOk hE ?_)
    all_goals first
      | (exfalso; omega)
      | (refine Need.mk ?_; symm; apply dcB_true; exact fun j hj => hq j (by omega))
      | trace_state
end Go.Proofs.YtfdbjiaghbeedaaGreatDoor
end

section
/- HeapOk in both packages. -/
namespace Go.Proofs.YtfdbjiaghbeedaaGreatDoor
open Go Go.Tr
set_option maxRecDepth 100000
set_option maxHeartbeats 4000000
set_option linter.unusedVariables false
set_option linter.unusedSimpArgs false
theorem l7Page_run (b c : List Int) (p : Nat) (hp : p < 6) (hsh : shP b c) : RunT Tryz.prog 174 [aH2 b c, ti p] [] [ob (dcB (pgP b c p))] [] := by
  have hc := hsh.2.1
  have hb := hsh.1
  have hcp := hsh.2.2.2 p hp
  have c1 := PerPageS_run (c.getD p 0)
  have hper : 0 ≤ perC (c.getD p 0) ∧ perC (c.getD p 0) ≤ 4 := by rcases cls4 (c.getD p 0) with ⟨h1, h2, h3, h4⟩ | ⟨h1, h2, h3, h4⟩ | ⟨h1, h2, h3, h4⟩ | ⟨h1, h2, h3, h4⟩ <;> omega
  by_cases hk : c.getD p 0 < 0
  · have hq0 : pgP b c p = zrP b (p * 64) 64 := if_pos hk
    rw [hq0]
    refine RunT.of_vc gOk Tryz.func174 rfl rfl (Nat.le_of_ble_eq_true rfl) (by repeat' (first | exact trivial | exact ⟨_, rfl, Nat.le_refl _⟩ | exact Nat.le_of_ble_eq_true rfl | refine And.intro ?_ ?_)) (Nat.le_of_ble_eq_true rfl) rfl (fun F hE => ?_)
    repeat' (first | exact trivial | refine BS.d (fun h => ?_) (fun h => ?_) | refine BS.e (fun h => ?_) (fun h => ?_) | refine BS.ne (fun h => ?_) (fun h => ?_) | refine BS.n ?_ | refine BS.s (fun h => ?_) (fun h => ?_) | refine And.intro ?_ ?_ | (refine Need.mk ?_; first | with_reducible rfl | (show @Eq TC _ _; rfl) | omega | (simp only [adN_zero]; omega)) | exact OutS.whole rfl rfl | refine ListO.go gOk hE ?_)
    all_goals (try simp only [adN_zero] at *)
    all_goals first | (exfalso; omega) | (refine Need.mk ?_; omega) | skip
    refine CodeK.loop gOk hE (fun j : Nat => ⟨[(2, .ptr 2 0 0), (5, vi ((p * 64 : Nat) : Int)), (7, vi ((p * 64 + j : Nat) : Int))], [(2, bH b c), (1000000, rI .fro false b), (1000001, rI .fro false c)]⟩) (fun j => j ≤ 64 ∧ ∀ i, i < j → b.getD (p * 64 + i) 0 = 0) (fun j => 64 - j) 0 (by refine leT.of ?_ ?_ rfl <;> repeat' (first | exact trivial | refine And.intro rfl ?_ | refine And.intro (by simp) ?_)) ⟨Nat.zero_le _, fun j hj => absurd hj (Nat.not_lt_zero _)⟩ ?_
    rintro j ⟨hj, hq⟩
    by_cases hz : b.getD (p * 64 + j) 0 = 0
    all_goals (repeat' (first | exact trivial | refine BS.d (fun h => ?_) (fun h => ?_) | refine BS.e (fun h => ?_) (fun h => ?_) | refine BS.ne (fun h => ?_) (fun h => ?_) | refine BS.n ?_ | refine BS.s (fun h => ?_) (fun h => ?_) | refine And.intro ?_ ?_ | (refine Need.mk ?_; first | with_reducible rfl | (show @Eq TC _ _; rfl) | omega | (simp only [adN_zero]; omega)) | exact OutS.whole rfl rfl | refine ListO.go gOk hE ?_))
    all_goals (try simp only [adN_zero] at *)
    all_goals first
      | (exfalso; omega)
      | (refine Need.mk ?_; omega)
      | (refine Need.mk ?_; symm; apply dcB_true; exact fun i hi => hq i (by omega))
      | (refine Need.mk ?_; symm; apply dcB_false; intro hh; exact hz (hh j (by omega)))
      | (refine ⟨j + 1, (by refine leT.of ?_ ?_ rfl <;> repeat' (first | exact trivial | refine And.intro rfl ?_ | refine And.intro (by simp) ?_)), ⟨by omega, fun i hi => (Nat.lt_or_ge i j).elim (hq i) (fun h9 => (show i = j by omega) ▸ hz)⟩, by first | omega | (dsimp only; omega)⟩)
      | trace_state
  · have hq0 : pgP b c p = (hdP b (p * 64) (c.getD p 0) ∧ gsP b c p) := if_neg hk
    rw [hq0]
    have a0 : adN 0 ((p : Int) * 64) = p * 64 := by rw [adN_eq]; omega
    have a1 : adN 0 ((p : Int) * 64 + 1) = p * 64 + 1 := by rw [adN_eq]; omega
    have a2 : adN 0 ((p : Int) * 64 + 2) = p * 64 + 2 := by rw [adN_eq]; omega
    refine RunT.of_vc gOk Tryz.func174 rfl rfl (Nat.le_of_ble_eq_true rfl) (by repeat' (first | exact trivial | exact ⟨_, rfl, Nat.le_refl _⟩ | exact Nat.le_of_ble_eq_true rfl | refine And.intro ?_ ?_)) (Nat.le_of_ble_eq_true rfl) rfl (fun F hE => ?_)
    repeat' (first | exact trivial | refine BS.d (fun h => ?_) (fun h => ?_) | refine BS.e (fun h => ?_) (fun h => ?_) | refine BS.ne (fun h => ?_) (fun h => ?_) | refine BS.n ?_ | refine BS.s (fun h => ?_) (fun h => ?_) | refine And.intro ?_ ?_ | (refine Need.mk ?_; first | with_reducible rfl | (show @Eq TC _ _; rfl) | omega | (simp only [adN_zero]; omega)) | exact OutS.whole rfl rfl | (refine CodeK.draw gOk hE rfl (fun _ _ h => h) (.take 0 (.take 2 (.alt 1 (.take 3 (.alt 4 (.take 5 (.take 6 (.take 7 (.take 9 (.take 10 (.take 13 (.alt 8 (.take 11 (.alt 12 (.take 14 (.take 15 (.take 16 (.take 17 (.take 19 (.take 20 (.take 23 (.alt 18 (.take 21 (.alt 22 (.alt 24 (.take 25 (.take 26 .done)) .stop) (.alt 24 (.alt 22 (.take 25 (.take 26 .done)) .stop) .stop))) (.alt 24 (.alt 18 (.take 21 (.alt 22 (.take 25 (.take 26 .done)) .stop)) .stop) .stop))))))))) .stop)) .stop))))))) .stop)) .stop))) ?_ ?_; focus (decide +kernel)) | (refine OpK.call c1 rfl rfl rfl rfl hE ?_ rfl rfl ?_; focus ((repeat' (first | exact PsA.lit _ | exact PsA.ref rfl rfl | constructor)); all_goals (fail "ps"))) | refine ListO.go gOk hE ?_)
    all_goals (try simp only [adN_zero, a0, a1, a2] at *)
    all_goals first
      | (exfalso; omega)
      | (refine Need.mk ?_; omega)
      | (refine Need.mk ?_; symm; apply dcB_false; rintro ⟨⟨h1, h2, h3, h4⟩, h5⟩; omega)
      | skip
    all_goals (
      refine CodeK.loop gOk hE (fun j : Nat => ⟨[(1, vi p), (2, .ptr 2 0 0), (5, vi ((p * 64 : Nat) : Int)), (6, vi (c.getD p 0)), (8, vi ((p * 64 + 3 + j : Nat) : Int))], [(2, bH b c), (1000000, rI .fro false b), (1000001, rI .fro false c)]⟩) (fun j => j ≤ 5 ∧ ∀ i, i < j → b.getD (p * 64 + 3 + i) 0 = 0) (fun j => 5 - j) 0 (by refine leT.of ?_ ?_ rfl <;> repeat' (first | exact trivial | refine And.intro rfl ?_ | refine And.intro (by simp) ?_)) ⟨Nat.zero_le _, fun j hj => absurd hj (Nat.not_lt_zero _)⟩ ?_
      rintro j ⟨hj, hq⟩
      by_cases hj2 : j < 5
      · by_cases hz : b.getD (p * 64 + 3 + j) 0 = 0
        all_goals (repeat' (first | exact trivial | refine BS.d (fun h => ?_) (fun h => ?_) | refine BS.e (fun h => ?_) (fun h => ?_) | refine BS.ne (fun h => ?_) (fun h => ?_) | refine BS.n ?_ | refine BS.s (fun h => ?_) (fun h => ?_) | refine And.intro ?_ ?_ | (refine Need.mk ?_; first | with_reducible rfl | (show @Eq TC _ _; rfl) | omega | (simp only [adN_zero]; omega)) | exact OutS.whole rfl rfl | refine ListO.go gOk hE ?_))
        all_goals (try simp only [adN_zero] at *)
        all_goals first
          | (exfalso; omega)
          | (refine Need.mk ?_; omega)
          | (refine Need.mk ?_; symm; apply dcB_false; rintro ⟨⟨h1, h2, h3, h4⟩, h5⟩; exact hz (h4 j (by omega)))
          | (refine ⟨j + 1, (by refine leT.of ?_ ?_ rfl <;> repeat' (first | exact trivial | refine And.intro rfl ?_ | refine And.intro (by simp) ?_)), ⟨by omega, fun i hi => (Nat.lt_or_ge i j).elim (hq i) (fun h9 => (show i = j by omega) ▸ hz)⟩, by first | omega | (dsimp only; omega)⟩)
          | trace_state
      repeat' (first | exact trivial | refine BS.d (fun h => ?_) (fun h => ?_) | refine BS.e (fun h => ?_) (fun h => ?_) | refine BS.ne (fun h => ?_) (fun h => ?_) | refine BS.n ?_ | refine BS.s (fun h => ?_) (fun h => ?_) | refine And.intro ?_ ?_ | (refine Need.mk ?_; first | with_reducible rfl | (show @Eq TC _ _; rfl) | omega | (simp only [adN_zero]; omega)) | exact OutS.whole rfl rfl | refine ListO.go gOk hE ?_)
      all_goals first | (exfalso; omega) | skip
      have hz5 : zrP b (p * 64 + 3) 5 := fun i hi => hq i (by omega)
      have hhd : hdP b (p * 64) (c.getD p 0) := ⟨by assumption, by assumption, by assumption, hz5⟩
      refine CodeK.loop gOk hE (fun i : Nat => ⟨[(1, vi p), (2, .ptr 2 0 0), (6, vi (c.getD p 0)), (9, vi i)], [(2, bH b c), (1000000, rI .fro false b), (1000001, rI .fro false c)]⟩) (fun i => (i : Int) ≤ perC (c.getD p 0) ∧ ∀ j : Nat, j < i → 1 ≤ gnIn b c (slA p j) ∧ gnIn b c (slA p j) ≤ 7) (fun i => (perC (c.getD p 0)).toNat - i) 0 (by refine leT.of ?_ ?_ rfl <;> repeat' (first | exact trivial | refine And.intro rfl ?_ | refine And.intro (by simp) ?_)) ⟨hper.1, fun j hj => absurd hj (Nat.not_lt_zero _)⟩ ?_
      rintro i ⟨hi, hg⟩
      by_cases hi2 : (i : Int) < perC (c.getD p 0)
      · obtain ⟨hcl, hi4⟩ := clIn_at (c := c) hp hi2
        have hne : clIn c (slA p i) ≠ -1 := by rw [hcl]; unfold clP at hcp; omega
        have hsm := clIn_some hne
        have hgn : gnIn b c (slA p i) = ldN b (genA (slA p i) (c.getD p 0)).toNat 4 := by unfold gnIn; rw [if_neg hne, hcl]
        rw [hcl] at hsm
        have c2 := SlotAtS_run p i
        have c3 := GenAtS_run (slA p i) (c.getD p 0)
        have c4 := l3Load_run b (genA (slA p i) (c.getD p 0)) 4 (by omega) hsh.2.2.1.2 hsm.2.2.2.2.2.1 (by omega) (by have := hsm.2.2.2.2.2; rcases cls4 (c.getD p 0) with h | h | h | h <;> omega)
        rw [← hgn] at c4
        have c5 := inH_run (gnIn b c (slA p i)) 1 7
        by_cases hgg : 1 ≤ gnIn b c (slA p i) ∧ gnIn b c (slA p i) ≤ 7
        · rw [decide_eq_true hgg] at c5
          repeat' (first | exact trivial | refine BS.d (fun h => ?_) (fun h => ?_) | refine BS.e (fun h => ?_) (fun h => ?_) | refine BS.ne (fun h => ?_) (fun h => ?_) | refine BS.n ?_ | refine BS.s (fun h => ?_) (fun h => ?_) | refine And.intro ?_ ?_ | (refine Need.mk ?_; first | with_reducible rfl | (show @Eq TC _ _; rfl) | omega | (simp only [adN_zero]; omega)) | exact OutS.whole rfl rfl | (refine CodeK.draw gOk hE rfl (fun _ _ h => h) (.take 0 (.take 2 (.take 3 (.take 5 (.alt 1 (.alt 4 (.alt 6 (.alt 7 (.alt 8 (.take 9 .done) .stop) .stop) .stop) .stop) (.alt 4 (.alt 1 (.alt 6 (.alt 7 (.alt 8 (.take 9 .done) .stop) .stop) .stop) (.alt 6 (.alt 1 (.alt 7 (.alt 8 (.take 9 .done) .stop) .stop) .stop) .stop)) .stop)))))) ?_ ?_; focus (decide +kernel)) | (refine OpK.call c1 rfl rfl rfl rfl hE ?_ rfl rfl ?_; focus ((repeat' (first | exact PsA.lit _ | exact PsA.ref rfl rfl | constructor)); all_goals (fail "ps"))) | (refine OpK.call c2 rfl rfl rfl rfl hE ?_ rfl rfl ?_; focus ((repeat' (first | exact PsA.lit _ | exact PsA.ref rfl rfl | constructor)); all_goals (fail "ps"))) | (refine OpK.call c3 rfl rfl rfl rfl hE ?_ rfl rfl ?_; focus ((repeat' (first | exact PsA.lit _ | exact PsA.ref rfl rfl | constructor)); all_goals (fail "ps"))) | (refine OpK.call c4 rfl rfl rfl rfl hE ?_ rfl rfl ?_; focus ((repeat' (first | exact PsA.lit _ | exact PsA.ref rfl rfl | constructor)); all_goals (fail "ps"))) | (refine OpK.call c5 rfl rfl rfl rfl hE ?_ rfl rfl ?_; focus ((repeat' (first | exact PsA.lit _ | exact PsA.ref rfl rfl | constructor)); all_goals (fail "ps"))) | refine ListO.go gOk hE ?_)
          all_goals first
            | (exfalso; omega)
            | (refine Need.mk ?_; omega)
            | (refine ⟨i + 1, (by refine leT.of ?_ ?_ rfl <;> repeat' (first | exact trivial | refine And.intro rfl ?_ | refine And.intro (by simp) ?_)), ⟨by omega, fun j hj => (Nat.lt_or_ge j i).elim (hg j) (fun h9 => (show j = i by omega) ▸ hgg)⟩, by first | omega | (dsimp only; omega)⟩)
            | trace_state
        · rw [decide_eq_false hgg] at c5
          repeat' (first | exact trivial | refine BS.d (fun h => ?_) (fun h => ?_) | refine BS.e (fun h => ?_) (fun h => ?_) | refine BS.ne (fun h => ?_) (fun h => ?_) | refine BS.n ?_ | refine BS.s (fun h => ?_) (fun h => ?_) | refine And.intro ?_ ?_ | (refine Need.mk ?_; first | with_reducible rfl | (show @Eq TC _ _; rfl) | omega | (simp only [adN_zero]; omega)) | exact OutS.whole rfl rfl | (refine CodeK.draw gOk hE rfl (fun _ _ h => h) (.take 0 (.take 2 (.take 3 (.take 5 (.alt 1 (.alt 4 (.alt 6 (.alt 7 (.alt 8 (.take 9 .done) .stop) .stop) .stop) .stop) (.alt 4 (.alt 1 (.alt 6 (.alt 7 (.alt 8 (.take 9 .done) .stop) .stop) .stop) (.alt 6 (.alt 1 (.alt 7 (.alt 8 (.take 9 .done) .stop) .stop) .stop) .stop)) .stop)))))) ?_ ?_; focus (decide +kernel)) | (refine OpK.call c1 rfl rfl rfl rfl hE ?_ rfl rfl ?_; focus ((repeat' (first | exact PsA.lit _ | exact PsA.ref rfl rfl | constructor)); all_goals (fail "ps"))) | (refine OpK.call c2 rfl rfl rfl rfl hE ?_ rfl rfl ?_; focus ((repeat' (first | exact PsA.lit _ | exact PsA.ref rfl rfl | constructor)); all_goals (fail "ps"))) | (refine OpK.call c3 rfl rfl rfl rfl hE ?_ rfl rfl ?_; focus ((repeat' (first | exact PsA.lit _ | exact PsA.ref rfl rfl | constructor)); all_goals (fail "ps"))) | (refine OpK.call c4 rfl rfl rfl rfl hE ?_ rfl rfl ?_; focus ((repeat' (first | exact PsA.lit _ | exact PsA.ref rfl rfl | constructor)); all_goals (fail "ps"))) | (refine OpK.call c5 rfl rfl rfl rfl hE ?_ rfl rfl ?_; focus ((repeat' (first | exact PsA.lit _ | exact PsA.ref rfl rfl | constructor)); all_goals (fail "ps"))) | refine ListO.go gOk hE ?_)
          all_goals first
            | (exfalso; omega)
            | (refine Need.mk ?_; omega)
            | (refine Need.mk ?_; symm; apply dcB_false; rintro ⟨h5, h6⟩; exact hgg (h6 i hi2))
            | trace_state
      · repeat' (first | exact trivial | refine BS.d (fun h => ?_) (fun h => ?_) | refine BS.e (fun h => ?_) (fun h => ?_) | refine BS.ne (fun h => ?_) (fun h => ?_) | refine BS.n ?_ | refine BS.s (fun h => ?_) (fun h => ?_) | refine And.intro ?_ ?_ | (refine Need.mk ?_; first | with_reducible rfl | (show @Eq TC _ _; rfl) | omega | (simp only [adN_zero]; omega)) | exact OutS.whole rfl rfl | (refine OpK.call c1 rfl rfl rfl rfl hE ?_ rfl rfl ?_; focus ((repeat' (first | exact PsA.lit _ | exact PsA.ref rfl rfl | constructor)); all_goals (fail "ps"))) | refine ListO.go gOk hE ?_)
        all_goals first
          | (exfalso; omega)
          | (refine Need.mk ?_; symm; apply dcB_true; exact ⟨hhd, fun j hj => hg j (by omega)⟩)
          | trace_state)
end Go.Proofs.YtfdbjiaghbeedaaGreatDoor
end

section
namespace Go.Proofs.YtfdbjiaghbeedaaGreatDoor
open Go Go.Tr
set_option maxRecDepth 100000
set_option maxHeartbeats 4000000
set_option linter.unusedVariables false
set_option linter.unusedSimpArgs false
/-- What a heap must be. -/
def hpP (b c : List Int) : Prop := shP b c ∧ ∀ p, p < 6 → pgP b c p
theorem HeapOkS_run (b c : List Int) (hb : b.length ≤ 1048576) (hc : c.length ≤ 1048576) : RunT Tryz.prog 105 [aH2 b c] [] [ob (dcB (hpP b c))] [] := by
  have c1 := l7Shape_run b c hb hc
  by_cases hsh : shP b c
  · rw [decide_eq_true hsh] at c1
    refine RunT.of_vc gOk Tryz.func105 rfl rfl (Nat.le_of_ble_eq_true rfl) (by repeat' (first | exact trivial | exact ⟨_, rfl, Nat.le_refl _⟩ | exact Nat.le_of_ble_eq_true rfl | refine And.intro ?_ ?_)) (Nat.le_of_ble_eq_true rfl) rfl (fun F hE => ?_)
    repeat' (first | exact trivial | refine BS.d (fun h => ?_) (fun h => ?_) | refine BS.e (fun h => ?_) (fun h => ?_) | refine BS.ne (fun h => ?_) (fun h => ?_) | refine BS.n ?_ | refine BS.s (fun h => ?_) (fun h => ?_) | refine And.intro ?_ ?_ | (refine Need.mk ?_; first | with_reducible rfl | (show @Eq TC _ _; rfl) | omega | (simp only [adN_zero]; omega)) | exact OutS.whole rfl rfl | (refine OpK.call c1 rfl rfl rfl rfl hE ?_ rfl rfl ?_; focus ((repeat' (first | exact PsA.lit _ | exact PsA.ref rfl rfl | constructor)); all_goals (fail "ps"))) | refine ListO.go gOk hE ?_)
    refine CodeK.loop gOk hE (fun i : Nat => ⟨[(1, .ptr 1 0 0), (3, vi i)], [(1, bH b c), (1000000, rI .fro false b), (1000001, rI .fro false c)]⟩) (fun i => i ≤ 6 ∧ ∀ j, j < i → pgP b c j) (fun i => 6 - i) 0 (by refine leT.of ?_ ?_ rfl <;> repeat' (first | exact trivial | refine And.intro rfl ?_ | refine And.intro (by simp) ?_)) ⟨Nat.zero_le _, fun j hj => absurd hj (Nat.not_lt_zero _)⟩ ?_
    rintro i ⟨hi, hq⟩
    by_cases hi2 : i < 6
    · have c2 := l7Page_run b c i hi2 hsh
      by_cases hp : pgP b c i
      · rw [dcB_true hp] at c2
        repeat' (first | exact trivial | refine BS.d (fun h => ?_) (fun h => ?_) | refine BS.e (fun h => ?_) (fun h => ?_) | refine BS.ne (fun h => ?_) (fun h => ?_) | refine BS.n ?_ | refine BS.s (fun h => ?_) (fun h => ?_) | refine And.intro ?_ ?_ | (refine Need.mk ?_; first | with_reducible rfl | (show @Eq TC _ _; rfl) | omega | (simp only [adN_zero]; omega)) | exact OutS.whole rfl rfl | (refine OpK.call c2 rfl rfl rfl rfl hE ?_ rfl rfl ?_; focus ((repeat' (first | exact PsA.lit _ | exact PsA.ref rfl rfl | constructor)); all_goals (fail "ps"))) | refine ListO.go gOk hE ?_)
        all_goals first
          | (exfalso; omega)
          | (refine Need.mk ?_; omega)
          | (refine ⟨i + 1, (by refine leT.of ?_ ?_ rfl <;> repeat' (first | exact trivial | refine And.intro rfl ?_ | refine And.intro (by simp) ?_)), ⟨by omega, fun j hj => (Nat.lt_or_ge j i).elim (hq j) (fun h9 => (show j = i by omega) ▸ hp)⟩, by first | omega | (dsimp only; omega)⟩)
          | trace_state
      · rw [dcB_false hp] at c2
        repeat' (first | exact trivial | refine BS.d (fun h => ?_) (fun h => ?_) | refine BS.e (fun h => ?_) (fun h => ?_) | refine BS.ne (fun h => ?_) (fun h => ?_) | refine BS.n ?_ | refine BS.s (fun h => ?_) (fun h => ?_) | refine And.intro ?_ ?_ | (refine Need.mk ?_; first | with_reducible rfl | (show @Eq TC _ _; rfl) | omega | (simp only [adN_zero]; omega)) | exact OutS.whole rfl rfl | (refine OpK.call c2 rfl rfl rfl rfl hE ?_ rfl rfl ?_; focus ((repeat' (first | exact PsA.lit _ | exact PsA.ref rfl rfl | constructor)); all_goals (fail "ps"))) | refine ListO.go gOk hE ?_)
        all_goals first
          | (exfalso; omega)
          | (refine Need.mk ?_; symm; apply dcB_false; intro hh; exact hp (hh.2 i hi2))
          | trace_state
    · repeat' (first | exact trivial | refine BS.d (fun h => ?_) (fun h => ?_) | refine BS.e (fun h => ?_) (fun h => ?_) | refine BS.ne (fun h => ?_) (fun h => ?_) | refine BS.n ?_ | refine BS.s (fun h => ?_) (fun h => ?_) | refine And.intro ?_ ?_ | (refine Need.mk ?_; first | with_reducible rfl | (show @Eq TC _ _; rfl) | omega | (simp only [adN_zero]; omega)) | exact OutS.whole rfl rfl | refine ListO.go gOk hE ?_)
      all_goals first
        | (exfalso; omega)
        | (refine Need.mk ?_; symm; apply dcB_true; exact ⟨hsh, fun j hj => hq j (by omega)⟩)
        | trace_state
  · rw [decide_eq_false hsh] at c1
    rw [dcB_false (fun h => hsh h.1)]
    refine RunT.of_vc gOk Tryz.func105 rfl rfl (Nat.le_of_ble_eq_true rfl) (by repeat' (first | exact trivial | exact ⟨_, rfl, Nat.le_refl _⟩ | exact Nat.le_of_ble_eq_true rfl | refine And.intro ?_ ?_)) (Nat.le_of_ble_eq_true rfl) rfl (fun F hE => ?_)
    repeat' (first | exact trivial | refine BS.d (fun h => ?_) (fun h => ?_) | refine BS.e (fun h => ?_) (fun h => ?_) | refine BS.ne (fun h => ?_) (fun h => ?_) | refine BS.n ?_ | refine BS.s (fun h => ?_) (fun h => ?_) | refine And.intro ?_ ?_ | (refine Need.mk ?_; first | with_reducible rfl | (show @Eq TC _ _; rfl) | omega | (simp only [adN_zero]; omega)) | exact OutS.whole rfl rfl | (refine OpK.call c1 rfl rfl rfl rfl hE ?_ rfl rfl ?_; focus ((repeat' (first | exact PsA.lit _ | exact PsA.ref rfl rfl | constructor)); all_goals (fail "ps"))) | refine ListO.go gOk hE ?_)
theorem zero_seg {b : List Int} {p : Nat} (hp : p < 6) (hb : b.length = 384) : zeroP ((b.drop (p * 64)).take 64) ↔ zrP b (p * 64) 64 := by
  have hg : ∀ j, j < 64 → ((b.drop (p * 64)).take 64).getD j 0 = b.getD (p * 64 + j) 0 := fun j hj => by
    rw [List.getD_eq_getElem?_getD, List.getD_eq_getElem?_getD, List.getElem?_take, if_pos hj, List.getElem?_drop]
  have hl : ((b.drop (p * 64)).take 64).length = 64 := by simp; omega
  constructor
  · intro h j hj; rw [← hg j hj]; exact h j (by omega)
  · intro h j hj; rw [hl] at hj; rw [hg j hj]; exact h j hj
/-- A page's head. -/
def hdF (k : Int) (i : Nat) : Int := if i = 0 then 171 else if i = 1 then k else if i = 2 then perC k else 0
theorem hd_iff {b : List Int} {p : Nat} {k : Int} : (∀ i ∈ List.range 8, b.getD (p * 64 + i) 0 = hdF k i) ↔ hdP b (p * 64) k := by
  constructor
  · intro h
    refine ⟨h 0 (by simp), h 1 (by simp), h 2 (by simp), fun j hj => ?_⟩
    have h9 := h (3 + j) (by simp; omega)
    rw [show p * 64 + (3 + j) = p * 64 + 3 + j by omega] at h9
    rw [h9]; unfold hdF; rw [if_neg (by omega), if_neg (by omega), if_neg (by omega)]
  · rintro ⟨h0, h1, h2, h3⟩ i hi
    have hi := List.mem_range.1 hi
    match i, hi with
    | 0, _ => exact h0
    | 1, _ => exact h1
    | 2, _ => exact h2
    | 3, _ => exact h3 0 (by decide)
    | 4, _ => exact h3 1 (by decide)
    | 5, _ => exact h3 2 (by decide)
    | 6, _ => exact h3 3 (by decide)
    | 7, _ => exact h3 4 (by decide)
abbrev hdX (b : List Int) (p : Nat) : List Value := (List.range 8).map fun q => .int .i64 (b.getD (p * 64 + q) 0)
abbrev hdY (k : Int) : List Value := [.int .i64 171, .int .i64 k, .int .i64 (perC k), .int .i64 0, .int .i64 0, .int .i64 0, .int .i64 0, .int .i64 0]
theorem hd_run (b : List Int) (p : Nat) (k : Int) (w : World) : (Op.equalIn 10000 180 (.agg (hdX b p).toArray) (.agg (hdY k).toArray)).run Tryz.prog w = .ok (dcB (hdP b (p * 64) k)) w := by
  obtain ⟨inf, hi⟩ : ∃ inf, Tryz.prog.info? 3 = some inf := Option.isSome_iff_exists.1 (by kernel_rfl)
  rw [arr_eq (n := 8) (e := 3) Tryz.underlying180 Tryz.underlying3 hi (by kernel_rfl) (fun i => b.getD (p * 64 + i) 0) (hdF k) _ _ (fun i hi => ?_) (fun i hi => ?_)]
  · congr 1
    by_cases h : hdP b (p * 64) k
    · rw [dcB_true h]; exact decide_eq_true (hd_iff.2 h)
    · rw [dcB_false h]; exact decide_eq_false (fun hh => h (hd_iff.1 hh))
  · simp [hi]
  · match i, hi with
    | 0, _ => rfl
    | 1, _ => rfl
    | 2, _ => rfl
    | 3, _ => rfl
    | 4, _ => rfl
    | 5, _ => rfl
    | 6, _ => rfl
    | 7, _ => rfl
end Go.Proofs.YtfdbjiaghbeedaaGreatDoor
end

section
namespace Go.Proofs.YtfdbjiaghbeedaaGreatDoor
open Go Go.Tr
set_option maxRecDepth 100000
set_option maxHeartbeats 4000000
set_option linter.unusedVariables false
set_option linter.unusedSimpArgs false
theorem HeapOkI_run (b c : List Int) (hb : b.length ≤ 1048576) (hc : c.length ≤ 1048576) : RunH Tryz.prog hT 113 [aH2 b c] [] [ob (dcB (hpP b c))] [] := by
  have c1 := shapeOk_run b c hb hc
  by_cases hsh : shP b c
  · rw [decide_eq_true hsh] at c1
    have hl := hsh.1
    have hlc := hsh.2.1
    refine RunH.of_vc gOk Tryz.func113 rfl rfl (Nat.le_of_ble_eq_true rfl) (by repeat' (first | exact trivial | exact ⟨_, rfl, Nat.le_refl _⟩ | exact Nat.le_of_ble_eq_true rfl | refine And.intro ?_ ?_)) (Nat.le_of_ble_eq_true rfl) rfl (fun F hE hA => ?_)
    repeat' (first | exact trivial | refine BS.d (fun h => ?_) (fun h => ?_) | refine BS.e (fun h => ?_) (fun h => ?_) | refine BS.ne (fun h => ?_) (fun h => ?_) | refine BS.n ?_ | refine BS.s (fun h => ?_) (fun h => ?_) | refine And.intro ?_ ?_ | (refine Need.mk ?_; first | with_reducible rfl | (show @Eq TC _ _; rfl) | omega | (simp only [adN_zero]; omega)) | exact OutS.whole rfl rfl | (refine OpK.call c1 rfl rfl rfl rfl hE ?_ rfl rfl ?_; focus ((repeat' (first | exact PsA.lit _ | exact PsA.ref rfl rfl | constructor)); all_goals (fail "ps"))) | refine ListO.go gOk hE ?_)
    refine CodeK.loop gOk hE (fun i : Nat => ⟨[(1, .ptr 1 0 0), (10, vr 1000001 c.length), (11, vi c.length), (12, vi i)], [(1, bH b c), (1000000, rI .fro false b), (1000001, rI .fro false c)]⟩) (fun i => i ≤ 6 ∧ ∀ j, j < i → pgP b c j) (fun i => 6 - i) 0 (by refine leT.of ?_ ?_ rfl <;> repeat' (first | exact trivial | refine And.intro rfl ?_ | refine And.intro (by simp) ?_)) ⟨Nat.zero_le _, fun j hj => absurd hj (Nat.not_lt_zero _)⟩ ?_
    rintro i ⟨hi, hq⟩
    by_cases hi2 : i < 6
    · have hcp := hsh.2.2.2 i hi2
      unfold clP at hcp
      have a0 : adN 0 ((i : Int) * 64) = i * 64 := by rw [adN_eq]; omega
      have a1 : (((i : Int) + 1) * 64).toNat - ((i : Int) * 64).toNat = 64 := by omega
      have cz := allZero_run ((b.drop (i * 64)).take 64) (by simp; omega)
      have ch := pageHead_run (c.getD i 0)
      have cg := gensOk_run b c i hi2 hsh
      have hrun := hd_run b i (c.getD i 0)
      by_cases hk : c.getD i 0 = -1
      · have hq0 : pgP b c i = zrP b (i * 64) 64 := if_pos (by omega)
        have hzi := zero_seg (b := b) hi2 hl
        by_cases hz : zrP b (i * 64) 64
        · rw [decide_eq_true (hzi.2 hz)] at cz
          repeat' (first | exact trivial | refine BS.d (fun h => ?_) (fun h => ?_) | refine BS.e (fun h => ?_) (fun h => ?_) | refine BS.ne (fun h => ?_) (fun h => ?_) | refine BS.n ?_ | refine BS.s (fun h => ?_) (fun h => ?_) | refine And.intro ?_ ?_ | (refine Need.mk ?_; first | with_reducible rfl | (show @Eq TC _ _; rfl) | omega | (simp only [adN_zero]; omega)) | exact OutS.whole rfl rfl | refine ListO.go gOk hE ?_)
          all_goals (try simp only [adN_zero] at *)
          all_goals first | (exfalso; omega) | (refine Need.mk ?_; omega) | skip
          all_goals rw [a0, a1]
          all_goals (repeat' (first | exact trivial | refine BS.d (fun h => ?_) (fun h => ?_) | refine BS.e (fun h => ?_) (fun h => ?_) | refine BS.ne (fun h => ?_) (fun h => ?_) | refine BS.n ?_ | refine BS.s (fun h => ?_) (fun h => ?_) | refine And.intro ?_ ?_ | (refine Need.mk ?_; first | with_reducible rfl | (show @Eq TC _ _; rfl) | omega | (simp only [adN_zero]; omega)) | exact OutS.whole rfl rfl | (refine OpK.call cz rfl rfl rfl rfl hE ?_ rfl rfl ?_; focus (exact PsVs.cons (.one (.seg rfl (by omega) rfl)) .nil)) | (refine CodeK.draw gOk hE rfl (fun _ _ h => h) (.take 0 (.take 1 (.take 2 (.take 3 (.take 6 (.alt 4 (.alt 5 (.alt 7 (.take 8 (.take 9 (.take 11 (.alt 10 (.alt 12 (.take 13 (.take 14 (.take 15 .done))) .stop) .stop)))) .stop) (.alt 7 (.alt 5 (.take 8 (.take 9 (.take 11 (.alt 10 (.alt 12 (.take 13 (.take 14 (.take 15 .done))) .stop) .stop)))) .stop) .stop)) (.alt 7 (.alt 4 (.alt 5 (.take 8 (.take 9 (.take 11 (.alt 10 (.alt 12 (.take 13 (.take 14 (.take 15 .done))) .stop) .stop)))) .stop) .stop) .stop))))))) ?_ ?_; focus (decide +kernel)) | refine ListO.go gOk hE ?_))
          all_goals (try simp only [adN_zero] at *)
          all_goals first
            | (exfalso; omega)
            | (refine ⟨i + 1, (by refine leT.of ?_ ?_ rfl <;> repeat' (first | exact trivial | refine And.intro rfl ?_ | refine And.intro (by simp) ?_)), ⟨by omega, fun j hj => (Nat.lt_or_ge j i).elim (hq j) (fun h9 => (show j = i by omega) ▸ (hq0 ▸ hz))⟩, by first | omega | (dsimp only; omega)⟩)
            | trace_state
        · rw [decide_eq_false (fun h => hz (hzi.1 h))] at cz
          repeat' (first | exact trivial | refine BS.d (fun h => ?_) (fun h => ?_) | refine BS.e (fun h => ?_) (fun h => ?_) | refine BS.ne (fun h => ?_) (fun h => ?_) | refine BS.n ?_ | refine BS.s (fun h => ?_) (fun h => ?_) | refine And.intro ?_ ?_ | (refine Need.mk ?_; first | with_reducible rfl | (show @Eq TC _ _; rfl) | omega | (simp only [adN_zero]; omega)) | exact OutS.whole rfl rfl | refine ListO.go gOk hE ?_)
          all_goals (try simp only [adN_zero] at *)
          all_goals first | (exfalso; omega) | (refine Need.mk ?_; omega) | skip
          all_goals rw [a0, a1]
          all_goals (repeat' (first | exact trivial | refine BS.d (fun h => ?_) (fun h => ?_) | refine BS.e (fun h => ?_) (fun h => ?_) | refine BS.ne (fun h => ?_) (fun h => ?_) | refine BS.n ?_ | refine BS.s (fun h => ?_) (fun h => ?_) | refine And.intro ?_ ?_ | (refine Need.mk ?_; first | with_reducible rfl | (show @Eq TC _ _; rfl) | omega | (simp only [adN_zero]; omega)) | exact OutS.whole rfl rfl | (refine OpK.call cz rfl rfl rfl rfl hE ?_ rfl rfl ?_; focus (exact PsVs.cons (.one (.seg rfl (by omega) rfl)) .nil)) | (refine CodeK.draw gOk hE rfl (fun _ _ h => h) (.take 0 (.take 1 (.take 2 (.take 3 (.take 6 (.alt 4 (.alt 5 (.alt 7 (.take 8 (.take 9 (.take 11 (.alt 10 (.alt 12 (.take 13 (.take 14 (.take 15 .done))) .stop) .stop)))) .stop) (.alt 7 (.alt 5 (.take 8 (.take 9 (.take 11 (.alt 10 (.alt 12 (.take 13 (.take 14 (.take 15 .done))) .stop) .stop)))) .stop) .stop)) (.alt 7 (.alt 4 (.alt 5 (.take 8 (.take 9 (.take 11 (.alt 10 (.alt 12 (.take 13 (.take 14 (.take 15 .done))) .stop) .stop)))) .stop) .stop) .stop))))))) ?_ ?_; focus (decide +kernel)) | refine ListO.go gOk hE ?_))
          all_goals (try simp only [adN_zero] at *)
          all_goals first
            | (exfalso; omega)
            | (refine Need.mk ?_; symm; apply dcB_false; intro hh; exact hz (hq0 ▸ hh.2 i hi2))
            | trace_state
      · have hq0 : pgP b c i = (hdP b (i * 64) (c.getD i 0) ∧ gsP b c i) := if_neg (by omega)
        repeat' (first | exact trivial | refine BS.d (fun h => ?_) (fun h => ?_) | refine BS.e (fun h => ?_) (fun h => ?_) | refine BS.ne (fun h => ?_) (fun h => ?_) | refine BS.n ?_ | refine BS.s (fun h => ?_) (fun h => ?_) | refine And.intro ?_ ?_ | (refine Need.mk ?_; first | with_reducible rfl | (show @Eq TC _ _; rfl) | omega | (simp only [adN_zero]; omega)) | exact OutS.whole rfl rfl | refine ListO.go gOk hE ?_)
        all_goals (try simp only [adN_zero] at *)
        all_goals first | (exfalso; omega) | (refine Need.mk ?_; omega) | skip
        all_goals rw [a0, a1]
        by_cases hh : hdP b (i * 64) (c.getD i 0)
        · rw [dcB_true hh] at hrun
          by_cases hg : gsP b c i
          · rw [dcB_true hg] at cg
            all_goals (repeat' (first | exact trivial | refine BS.d (fun h => ?_) (fun h => ?_) | refine BS.e (fun h => ?_) (fun h => ?_) | refine BS.ne (fun h => ?_) (fun h => ?_) | refine BS.n ?_ | refine BS.s (fun h => ?_) (fun h => ?_) | refine And.intro ?_ ?_ | (refine Need.mk ?_; first | with_reducible rfl | (show @Eq TC _ _; rfl) | omega | (simp only [adN_zero]; omega)) | exact OutS.whole rfl rfl | (refine CodeK.draw gOk hE rfl (fun _ _ h => h) (.take 0 (.take 1 (.take 2 (.take 3 (.take 6 (.alt 4 (.alt 5 (.alt 7 (.take 8 (.take 9 (.take 11 (.alt 10 (.alt 12 (.take 13 (.take 14 (.take 15 .done))) .stop) .stop)))) .stop) (.alt 7 (.alt 5 (.take 8 (.take 9 (.take 11 (.alt 10 (.alt 12 (.take 13 (.take 14 (.take 15 .done))) .stop) .stop)))) .stop) .stop)) (.alt 7 (.alt 4 (.alt 5 (.take 8 (.take 9 (.take 11 (.alt 10 (.alt 12 (.take 13 (.take 14 (.take 15 .done))) .stop) .stop)))) .stop) .stop) .stop))))))) ?_ ?_; focus (decide +kernel)) | (refine OpK.toArr gOk rfl rfl rfl rfl rfl rfl (by omega) ?_) | (refine OpK.ldArr gOk (fun x => Value.int .i64 x) rfl rfl rfl rfl rfl rfl rfl (by omega) (fun x => rfl) ?_) | (refine OpK.callH ch hA rfl rfl rfl rfl hE ?_ rfl rfl ?_; focus ((repeat' (first | exact PsA.lit _ | exact PsA.ref rfl rfl | constructor)); all_goals (fail "ps"))) | (refine OpK.callH cg hA rfl rfl rfl rfl hE ?_ rfl rfl ?_; focus ((repeat' (first | exact PsA.lit _ | exact PsA.ref rfl rfl | constructor)); all_goals (fail "ps"))) | (refine PK.neA (hdX b i) (hdY (c.getD i 0)) rfl rfl rfl rfl rfl (by kernel_rfl) hrun ?_) | refine ListO.go gOk hE ?_))
            all_goals (try simp only [adN_zero] at *)
            all_goals first
              | (exfalso; omega)
              | (refine ⟨i + 1, (by refine leT.of ?_ ?_ rfl <;> repeat' (first | exact trivial | refine And.intro rfl ?_ | refine And.intro (by simp) ?_)), ⟨by omega, fun j hj => (Nat.lt_or_ge j i).elim (hq j) (fun h9 => (show j = i by omega) ▸ (hq0 ▸ ⟨hh, hg⟩))⟩, by first | omega | (dsimp only; omega)⟩)
              | trace_state
          · rw [dcB_false hg] at cg
            all_goals (repeat' (first | exact trivial | refine BS.d (fun h => ?_) (fun h => ?_) | refine BS.e (fun h => ?_) (fun h => ?_) | refine BS.ne (fun h => ?_) (fun h => ?_) | refine BS.n ?_ | refine BS.s (fun h => ?_) (fun h => ?_) | refine And.intro ?_ ?_ | (refine Need.mk ?_; first | with_reducible rfl | (show @Eq TC _ _; rfl) | omega | (simp only [adN_zero]; omega)) | exact OutS.whole rfl rfl | (refine CodeK.draw gOk hE rfl (fun _ _ h => h) (.take 0 (.take 1 (.take 2 (.take 3 (.take 6 (.alt 4 (.alt 5 (.alt 7 (.take 8 (.take 9 (.take 11 (.alt 10 (.alt 12 (.take 13 (.take 14 (.take 15 .done))) .stop) .stop)))) .stop) (.alt 7 (.alt 5 (.take 8 (.take 9 (.take 11 (.alt 10 (.alt 12 (.take 13 (.take 14 (.take 15 .done))) .stop) .stop)))) .stop) .stop)) (.alt 7 (.alt 4 (.alt 5 (.take 8 (.take 9 (.take 11 (.alt 10 (.alt 12 (.take 13 (.take 14 (.take 15 .done))) .stop) .stop)))) .stop) .stop) .stop))))))) ?_ ?_; focus (decide +kernel)) | (refine OpK.toArr gOk rfl rfl rfl rfl rfl rfl (by omega) ?_) | (refine OpK.ldArr gOk (fun x => Value.int .i64 x) rfl rfl rfl rfl rfl rfl rfl (by omega) (fun x => rfl) ?_) | (refine OpK.callH ch hA rfl rfl rfl rfl hE ?_ rfl rfl ?_; focus ((repeat' (first | exact PsA.lit _ | exact PsA.ref rfl rfl | constructor)); all_goals (fail "ps"))) | (refine OpK.callH cg hA rfl rfl rfl rfl hE ?_ rfl rfl ?_; focus ((repeat' (first | exact PsA.lit _ | exact PsA.ref rfl rfl | constructor)); all_goals (fail "ps"))) | (refine PK.neA (hdX b i) (hdY (c.getD i 0)) rfl rfl rfl rfl rfl (by kernel_rfl) hrun ?_) | refine ListO.go gOk hE ?_))
            all_goals (try simp only [adN_zero] at *)
            all_goals first
              | (exfalso; omega)
              | (refine Need.mk ?_; symm; apply dcB_false; intro h9; exact hg (hq0 ▸ h9.2 i hi2 : hdP b (i * 64) (c.getD i 0) ∧ gsP b c i).2)
              | trace_state
        · rw [dcB_false hh] at hrun
          all_goals (repeat' (first | exact trivial | refine BS.d (fun h => ?_) (fun h => ?_) | refine BS.e (fun h => ?_) (fun h => ?_) | refine BS.ne (fun h => ?_) (fun h => ?_) | refine BS.n ?_ | refine BS.s (fun h => ?_) (fun h => ?_) | refine And.intro ?_ ?_ | (refine Need.mk ?_; first | with_reducible rfl | (show @Eq TC _ _; rfl) | omega | (simp only [adN_zero]; omega)) | exact OutS.whole rfl rfl | (refine CodeK.draw gOk hE rfl (fun _ _ h => h) (.take 0 (.take 1 (.take 2 (.take 3 (.take 6 (.alt 4 (.alt 5 (.alt 7 (.take 8 (.take 9 (.take 11 (.alt 10 (.alt 12 (.take 13 (.take 14 (.take 15 .done))) .stop) .stop)))) .stop) (.alt 7 (.alt 5 (.take 8 (.take 9 (.take 11 (.alt 10 (.alt 12 (.take 13 (.take 14 (.take 15 .done))) .stop) .stop)))) .stop) .stop)) (.alt 7 (.alt 4 (.alt 5 (.take 8 (.take 9 (.take 11 (.alt 10 (.alt 12 (.take 13 (.take 14 (.take 15 .done))) .stop) .stop)))) .stop) .stop) .stop))))))) ?_ ?_; focus (decide +kernel)) | (refine OpK.toArr gOk rfl rfl rfl rfl rfl rfl (by omega) ?_) | (refine OpK.ldArr gOk (fun x => Value.int .i64 x) rfl rfl rfl rfl rfl rfl rfl (by omega) (fun x => rfl) ?_) | (refine OpK.callH ch hA rfl rfl rfl rfl hE ?_ rfl rfl ?_; focus ((repeat' (first | exact PsA.lit _ | exact PsA.ref rfl rfl | constructor)); all_goals (fail "ps"))) | (refine OpK.callH cg hA rfl rfl rfl rfl hE ?_ rfl rfl ?_; focus ((repeat' (first | exact PsA.lit _ | exact PsA.ref rfl rfl | constructor)); all_goals (fail "ps"))) | (refine PK.neA (hdX b i) (hdY (c.getD i 0)) rfl rfl rfl rfl rfl (by kernel_rfl) hrun ?_) | refine ListO.go gOk hE ?_))
          all_goals (try simp only [adN_zero] at *)
          all_goals first
            | (exfalso; omega)
            | (refine Need.mk ?_; symm; apply dcB_false; intro h9; exact hh (hq0 ▸ h9.2 i hi2 : hdP b (i * 64) (c.getD i 0) ∧ gsP b c i).1)
            | trace_state
    · repeat' (first | exact trivial | refine BS.d (fun h => ?_) (fun h => ?_) | refine BS.e (fun h => ?_) (fun h => ?_) | refine BS.ne (fun h => ?_) (fun h => ?_) | refine BS.n ?_ | refine BS.s (fun h => ?_) (fun h => ?_) | refine And.intro ?_ ?_ | (refine Need.mk ?_; first | with_reducible rfl | (show @Eq TC _ _; rfl) | omega | (simp only [adN_zero]; omega)) | exact OutS.whole rfl rfl | refine ListO.go gOk hE ?_)
      all_goals first
        | (exfalso; omega)
        | (refine Need.mk ?_; symm; apply dcB_true; exact ⟨hsh, fun j hj => hq j (by omega)⟩)
        | trace_state
  · rw [decide_eq_false hsh] at c1
    rw [dcB_false (fun h => hsh h.1)]
    refine RunH.of_vc gOk Tryz.func113 rfl rfl (Nat.le_of_ble_eq_true rfl) (by repeat' (first | exact trivial | exact ⟨_, rfl, Nat.le_refl _⟩ | exact Nat.le_of_ble_eq_true rfl | refine And.intro ?_ ?_)) (Nat.le_of_ble_eq_true rfl) rfl (fun F hE hA => ?_)
    repeat' (first | exact trivial | refine BS.d (fun h => ?_) (fun h => ?_) | refine BS.e (fun h => ?_) (fun h => ?_) | refine BS.ne (fun h => ?_) (fun h => ?_) | refine BS.n ?_ | refine BS.s (fun h => ?_) (fun h => ?_) | refine And.intro ?_ ?_ | (refine Need.mk ?_; first | with_reducible rfl | (show @Eq TC _ _; rfl) | omega | (simp only [adN_zero]; omega)) | exact OutS.whole rfl rfl | (refine OpK.call c1 rfl rfl rfl rfl hE ?_ rfl rfl ?_; focus ((repeat' (first | exact PsA.lit _ | exact PsA.ref rfl rfl | constructor)); all_goals (fail "ps"))) | refine ListO.go gOk hE ?_)
end Go.Proofs.YtfdbjiaghbeedaaGreatDoor
end
