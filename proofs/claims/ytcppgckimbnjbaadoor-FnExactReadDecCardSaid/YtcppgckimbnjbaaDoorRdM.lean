/- Reading a decimal numeral: plain mathematics. -/
import Derived.Lib.ItoaNum
import Derived.Lib.AtoiAll
namespace Go.Proofs.YtcppgckimbnjbaaDoor

def isDig (c : UInt8) : Prop := 48 ≤ c.toNat ∧ c.toNat ≤ 57
instance (c : UInt8) : Decidable (isDig c) := inferInstanceAs (Decidable (_ ∧ _))

/-- spec.ReadDec's fold over bytes: the number that the digits among them spell, and how many they are. -/
def rdStep (p : Int × Nat) (c : UInt8) : Int × Nat := if isDig c then (p.1 * 10 + ((c.toNat : Int) - 48), p.2 + 1) else p
def rdFold (l : List UInt8) : Int × Nat := l.foldl rdStep (0, 0)

theorem rdFold_snoc (l : List UInt8) (c : UInt8) : rdFold (l ++ [c]) = rdStep (rdFold l) c := by simp [rdFold, List.foldl_append]

theorem rdFold_bd : ∀ (k : Nat) (l : List UInt8), l.length = k → 0 ≤ (rdFold l).1 ∧ (rdFold l).1 < 10 ^ (rdFold l).2 ∧ (rdFold l).2 ≤ k
  | 0, l, h => by
    have : l = [] := List.length_eq_zero_iff.1 h
    subst this; simp [rdFold]
  | k + 1, l, h => by
    have hn : l ≠ [] := by intro e; simp [e] at h
    have e := List.dropLast_concat_getLast hn
    have ih := rdFold_bd k l.dropLast (by simp [h])
    rw [← e, rdFold_snoc, rdStep]
    split
    · rename_i hd
      obtain ⟨d0, d1⟩ := hd
      rw [Int.pow_succ]
      dsimp only
      omega
    · omega

theorem pow10_up (k : Nat) : ∀ d : Nat, (10 : Int) ^ k ≤ 10 ^ (k + d) ∧ 0 < (10 : Int) ^ k
  | 0 => ⟨Int.le_refl _, Int.pow_pos (by omega)⟩
  | d + 1 => by
    have ⟨a, b⟩ := pow10_up k d
    refine ⟨?_, b⟩
    rw [← Nat.add_assoc, Int.pow_succ]; omega
theorem pow10_le {k n : Nat} (h : k ≤ n) : (10 : Int) ^ k ≤ 10 ^ n := by
  have := (pow10_up k (n - k)).1
  rwa [Nat.add_sub_cancel' h] at this

theorem rdFold_9 (l : List UInt8) (h : (rdFold l).2 ≤ 9) : 0 ≤ (rdFold l).1 ∧ (rdFold l).1 ≤ 999999999 := by
  have b := rdFold_bd _ l rfl
  have := pow10_le h
  omega
theorem rdFold_11 (l : List UInt8) (h : l.length ≤ 11) : 0 ≤ (rdFold l).1 ∧ (rdFold l).1 ≤ 99999999999 ∧ (rdFold l).2 ≤ 11 := by
  have b := rdFold_bd _ l rfl
  have : (10 : Int) ^ (rdFold l).2 ≤ 10 ^ 11 := pow10_le (by omega)
  omega
theorem rdFold_10 (l : List UInt8) (h : l.length ≤ 10) : 0 ≤ (rdFold l).1 ∧ (rdFold l).1 ≤ 9999999999 ∧ (rdFold l).2 ≤ 10 := by
  have b := rdFold_bd _ l rfl
  have : (10 : Int) ^ (rdFold l).2 ≤ 10 ^ 10 := pow10_le (by omega)
  omega

def rdNeg (l : List UInt8) : Bool := l.head? == some 45
def rdVal (l : List UInt8) : Int := if rdNeg l then -(rdFold (l.take 11)).1 else (rdFold (l.take 11)).1
def rdOk (l : List UInt8) : Bool := decide ((rdFold (l.take 11)).2 ≤ 9) && decide (l.length ≤ 10) && (Lib.itoa (rdVal l) == l)

/-- l is the numeral of n, of at most nine digits. -/
def Num9 (l : List UInt8) (n : Int) : Prop := Lib.itoa n = l ∧ -999999999 ≤ n ∧ n ≤ 999999999

theorem num9_of {l : List UInt8} (h : rdOk l = true) : Num9 l (rdVal l) := by
  simp only [rdOk, Bool.and_eq_true, decide_eq_true_eq, beq_iff_eq] at h
  have := rdFold_9 _ h.1.1
  refine ⟨h.2, ?_, ?_⟩ <;> (unfold rdVal; split <;> omega)

theorem digit_toNat (d : Nat) (h : d < 10) : (UInt8.ofNat (48 + d)).toNat = 48 + d := by simp; omega

theorem nDigits_le_of : ∀ (k u : Nat), u < 10 ^ k → 1 ≤ k → Lib.nDigits u ≤ k
  | 0, u, _, h => by omega
  | k + 1, u, hu, _ => by
    by_cases hs : u < 10
    · rw [Lib.nDigits_small hs]; omega
    · rw [Lib.nDigits_big hs]
      have h1 : 1 ≤ k := by
        rcases Nat.eq_zero_or_pos k with h0 | h0
        · subst h0; simp at hu; omega
        · exact h0
      have := nDigits_le_of k (u / 10) (by rw [Nat.pow_succ] at hu; omega) h1
      omega

theorem rdFold_dec (u : Nat) : ∀ p : Int × Nat, (Lib.decDigits u).foldl rdStep p = (p.1 * 10 ^ (Lib.nDigits u) + u, p.2 + Lib.nDigits u) := by
  induction u using Nat.strongRecOn with
  | _ u ih =>
    intro p
    by_cases h : u < 10
    · rw [Lib.decDigits_one h, Lib.nDigits_small h]
      have := digit_toNat u h
      simp only [List.foldl_cons, List.foldl_nil, rdStep]
      rw [if_pos (by unfold isDig; omega)]
      ext <;> simp only [] <;> omega
    · rw [Lib.decDigits, dif_neg h, List.foldl_append, ih (u / 10) (by omega), Lib.nDigits_big h]
      have := digit_toNat (u % 10) (by omega)
      simp only [List.foldl_cons, List.foldl_nil, rdStep]
      rw [if_pos (by unfold isDig; omega)]
      ext
      · simp only []
        rw [Int.pow_succ, Int.add_mul, ← Int.mul_assoc, this]; omega
      · simp only []; omega

theorem dec_digits : ∀ (u : Nat), ∀ c ∈ Lib.decDigits u, isDig c := by
  intro u
  induction u using Nat.strongRecOn with
  | _ u ih =>
    intro c hc
    by_cases h : u < 10
    · rw [Lib.decDigits_one h] at hc
      simp only [List.mem_singleton] at hc; subst hc
      have := digit_toNat u h; unfold isDig; omega
    · rw [Lib.decDigits, dif_neg h] at hc
      rcases List.mem_append.1 hc with h1 | h1
      · exact ih (u / 10) (by omega) c h1
      · simp only [List.mem_singleton] at h1; subst h1
        have := digit_toNat (u % 10) (by omega); unfold isDig; omega

theorem dec_ne (u : Nat) : Lib.decDigits u ≠ [] := by
  intro h
  have := Lib.decDigits_length u
  have h1 := Lib.nDigits_pos u
  rw [h] at this; simp at this; omega

theorem rd_of_num9 {l : List UInt8} {n : Int} (h : Num9 l n) : rdOk l = true ∧ rdVal l = n := by
  obtain ⟨rfl, h0, h1⟩ := h
  by_cases hn : n < 0
  · obtain ⟨u, rfl⟩ : ∃ u : Nat, n = -(u : Int) := ⟨(-n).toNat, by omega⟩
    have hi : Lib.itoa (-(u : Int)) = 45 :: Lib.decDigits u := by rw [Lib.itoa, if_pos hn, show (-(u : Int)).natAbs = u by omega]
    have hd := nDigits_le_of 9 u (by omega) (by omega)
    have hl := Lib.decDigits_length u
    have hf : rdFold ((45 :: Lib.decDigits u).take 11) = ((u : Int), Lib.nDigits u) := by
      rw [List.take_of_length_le (by simp; omega), rdFold, List.foldl_cons]
      have : rdStep (0, 0) 45 = (0, 0) := by decide
      rw [this, rdFold_dec]; simp
    have hv : rdVal (45 :: Lib.decDigits u) = -(u : Int) := by rw [rdVal, hf]; simp [rdNeg]
    rw [hi]
    refine ⟨?_, hv⟩
    rw [rdOk, hv, hf, hi]
    simp; omega
  · obtain ⟨u, rfl⟩ : ∃ u : Nat, n = (u : Int) := ⟨n.toNat, by omega⟩
    have hi : Lib.itoa (u : Int) = Lib.decDigits u := by rw [Lib.itoa, if_neg hn, show (u : Int).toNat = u by omega]
    have hd := nDigits_le_of 9 u (by omega) (by omega)
    have hl := Lib.decDigits_length u
    have hf : rdFold ((Lib.decDigits u).take 11) = ((u : Int), Lib.nDigits u) := by
      rw [List.take_of_length_le (by omega), rdFold, rdFold_dec]; simp
    have hng : rdNeg (Lib.decDigits u) = false := by
      cases hx : Lib.decDigits u with
      | nil => exact absurd hx (dec_ne u)
      | cons c r =>
        have := dec_digits u c (by rw [hx]; exact List.mem_cons_self ..)
        unfold isDig at this
        simp only [rdNeg, List.head?_cons]
        simp only [beq_eq_false_iff_ne, ne_eq, Option.some.injEq]
        intro e; subst e; simp at this
    have hv : rdVal (Lib.decDigits u) = (u : Int) := by rw [rdVal, hf, hng]; rfl
    rw [hi]
    refine ⟨?_, hv⟩
    rw [rdOk, hv, hf, hi]
    simp; omega

theorem parse_dec (u : Nat) : ∀ (acc : Nat) (r : List UInt8), (acc * 10 ^ Lib.nDigits u + u) < 1000000000 → Lib.parseUint10 acc (Lib.decDigits u ++ r) = Lib.parseUint10 (acc * 10 ^ Lib.nDigits u + u) r := by
  induction u using Nat.strongRecOn with
  | _ u ih =>
    intro acc r hb
    by_cases h : u < 10
    · rw [Lib.decDigits_one h, Lib.nDigits_small h] at *
      have := digit_toNat u h
      simp only [List.cons_append, List.nil_append, Lib.parseUint10]
      rw [if_pos (by omega), if_neg (by omega), if_neg (by omega), this]
      congr 1; omega
    · rw [Lib.nDigits_big h, Nat.pow_succ, ← Nat.mul_assoc] at *
      have := digit_toNat (u % 10) (by omega)
      rw [Lib.decDigits, dif_neg h, List.append_assoc, ih (u / 10) (by omega) acc _ (by omega)]
      simp only [List.cons_append, List.nil_append, Lib.parseUint10]
      rw [if_pos (by omega), if_neg (by omega), if_neg (by omega), this]
      congr 1; omega

theorem atoi_of_num9 {l : List UInt8} {n : Int} (h : Num9 l n) : Lib.atoiAll l = .ok n := by
  obtain ⟨rfl, h0, h1⟩ := h
  have mag : ∀ u : Nat, u ≤ 999999999 → Lib.parseMag (Lib.decDigits u) = .ok u := by
    intro u hu
    rw [Lib.parseMag, if_neg (dec_ne u)]
    have := parse_dec u 0 [] (by omega)
    simpa [Lib.parseUint10] using this
  by_cases hn : n < 0
  · obtain ⟨u, rfl⟩ : ∃ u : Nat, n = -(u : Int) := ⟨(-n).toNat, by omega⟩
    have hi : Lib.itoa (-(u : Int)) = 45 :: Lib.decDigits u := by rw [Lib.itoa, if_pos hn, show (-(u : Int)).natAbs = u by omega]
    rw [hi, Lib.atoiAll]
    rw [if_pos (by right; rfl), mag u (by omega)]
    simp only []
    rw [if_neg (by simp), if_neg (by omega), if_pos (by rfl)]
  · obtain ⟨u, rfl⟩ : ∃ u : Nat, n = (u : Int) := ⟨n.toNat, by omega⟩
    have hi : Lib.itoa (u : Int) = Lib.decDigits u := by rw [Lib.itoa, if_neg hn, show (u : Int).toNat = u by omega]
    rw [hi]
    cases hx : Lib.decDigits u with
    | nil => exact absurd hx (dec_ne u)
    | cons c r =>
      have hc := dec_digits u c (by rw [hx]; exact List.mem_cons_self ..)
      unfold isDig at hc
      rw [Lib.atoiAll]
      rw [if_neg (by omega), ← hx, mag u (by omega)]
      simp only []
      rw [if_neg (by omega), if_neg (by omega), if_neg (by omega)]
end Go.Proofs.YtcppgckimbnjbaaDoor
