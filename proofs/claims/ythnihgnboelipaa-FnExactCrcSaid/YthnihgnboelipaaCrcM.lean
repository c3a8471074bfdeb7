/- Plain mathematics of chapter 2: the checksum, linear over the bits, sees every burst of at most four bytes. -/
namespace Go.Proofs.Ythnihgnboelipaa
namespace Crc
def T (c : Nat) : Nat := if c % 2 = 1 then (c / 2) ^^^ 2197175160 else c / 2
def Tn : Nat → Nat → Nat
  | 0, c => c
  | k + 1, c => Tn k (T c)
def B (c : Nat) : Nat := Tn 8 c
def go (c : Nat) (l : List Nat) : Nat := l.foldl (fun c b => B (c ^^^ b)) c

theorem T_lt {c : Nat} (h : c < 4294967296) : T c < 4294967296 := by
  unfold T
  split
  · exact Nat.xor_lt_two_pow (n := 32) (by omega) (by omega)
  · omega
theorem Tn_lt : ∀ (k : Nat) {c : Nat}, c < 4294967296 → Tn k c < 4294967296
  | 0, _, h => h
  | k + 1, _, h => Tn_lt k (T_lt h)
theorem B_lt {c : Nat} (h : c < 4294967296) : B c < 4294967296 := Tn_lt 8 h

theorem half_xor (a b : Nat) : (a ^^^ b) / 2 = a / 2 ^^^ b / 2 := by
  have := Nat.shiftRight_xor_distrib (a := a) (b := b) (i := 1)
  simpa [Nat.shiftRight_eq_div_pow] using this
theorem odd_xor (a b : Nat) : (a ^^^ b) % 2 = (a % 2 + b % 2) % 2 := by
  have h := Nat.testBit_xor a b 0
  simp only [Nat.testBit_zero] at h
  have ha : a % 2 = 0 ∨ a % 2 = 1 := by omega
  have hb : b % 2 = 0 ∨ b % 2 = 1 := by omega
  have hx : (a ^^^ b) % 2 = 0 ∨ (a ^^^ b) % 2 = 1 := by omega
  rcases ha with ha | ha <;> rcases hb with hb | hb <;> rcases hx with hx | hx <;> simp [ha, hb, hx] at h ⊢
theorem T_lin (a b : Nat) : T (a ^^^ b) = T a ^^^ T b := by
  unfold T
  have h := odd_xor a b
  rw [half_xor]
  have ha : a % 2 = 0 ∨ a % 2 = 1 := by omega
  have hb : b % 2 = 0 ∨ b % 2 = 1 := by omega
  rcases ha with ha | ha <;> rcases hb with hb | hb <;> simp only [ha, hb] at h <;> simp [ha, hb, h]
  · exact Nat.xor_assoc _ _ _
  · rw [Nat.xor_assoc, Nat.xor_comm (b / 2), ← Nat.xor_assoc]
  · have : a / 2 ^^^ 2197175160 ^^^ (b / 2 ^^^ 2197175160) = (a / 2 ^^^ b / 2) ^^^ (2197175160 ^^^ 2197175160) := by ac_rfl
    rw [this]; simp
theorem T_zero {a : Nat} (h : a < 4294967296) (hz : T a = 0) : a = 0 := by
  unfold T at hz
  split at hz
  · have : a / 2 = 2197175160 := by
      have e : (a / 2 ^^^ 2197175160) ^^^ 2197175160 = 0 ^^^ 2197175160 := by rw [hz]
      rwa [Nat.xor_assoc, Nat.xor_self, Nat.xor_zero, Nat.zero_xor] at e
    omega
  · omega
theorem Tn_lin : ∀ (k a b : Nat), Tn k (a ^^^ b) = Tn k a ^^^ Tn k b
  | 0, _, _ => rfl
  | k + 1, a, b => by rw [Tn, T_lin, Tn_lin k]; rfl
theorem Tn_zero : ∀ (k : Nat) {a : Nat}, a < 4294967296 → Tn k a = 0 → a = 0
  | 0, _, _, h => h
  | k + 1, _, h, hz => T_zero h (Tn_zero k (T_lt h) hz)
theorem B_lin (a b : Nat) : B (a ^^^ b) = B a ^^^ B b := Tn_lin 8 a b
theorem B_zero {a : Nat} (h : a < 4294967296) (hz : B a = 0) : a = 0 := Tn_zero 8 h hz
theorem T_dbl (z : Nat) : T (2 * z) = z := by unfold T; split <;> omega
theorem B_shift (y : Nat) : B (256 * y) = y := by
  have e : 256 * y = 2 * (2 * (2 * (2 * (2 * (2 * (2 * (2 * y))))))) := by omega
  rw [e]
  simp only [B, Tn, T_dbl]

/-- What a difference of the two states comes to over the differences of the bytes. -/
def dif (d : Nat) (ms : List Nat) : Nat := ms.foldl (fun d m => B (d ^^^ m)) d
theorem xor4 (a b c d : Nat) : (a ^^^ b) ^^^ (c ^^^ d) = (a ^^^ c) ^^^ (b ^^^ d) := by ac_rfl
theorem go_dif : ∀ (l l' : List Nat) (c c' : Nat), l.length = l'.length → go c l ^^^ go c' l' = dif (c ^^^ c') (List.zipWith (· ^^^ ·) l l')
  | [], [], _, _, _ => rfl
  | a :: l, b :: l', c, c', h => by
    have ih := go_dif l l' (B (c ^^^ a)) (B (c' ^^^ b)) (by simpa using h)
    rw [← B_lin, xor4] at ih
    exact ih
  | [], _ :: _, _, _, h => by simp at h
  | _ :: _, [], _, _, h => by simp at h
theorem dif_append (d : Nat) (a b : List Nat) : dif d (a ++ b) = dif (dif d a) b := by simp [dif, List.foldl_append]
theorem dif_zeros : ∀ (k d : Nat), d < 4294967296 → (dif d (List.replicate k 0) = 0 ↔ d = 0)
  | 0, _, _ => Iff.rfl
  | k + 1, d, h => by
    rw [List.replicate_succ]
    show dif (B (d ^^^ 0)) (List.replicate k 0) = 0 ↔ _
    rw [Nat.xor_zero, dif_zeros k (B d) (B_lt h)]
    exact ⟨B_zero h, fun e => by subst e; decide⟩
def comb : List Nat → Nat
  | [] => 0
  | m :: ms => m ^^^ 256 * comb ms
def Bn : Nat → Nat → Nat
  | 0, c => c
  | k + 1, c => Bn k (B c)
theorem Bn_lin : ∀ (k a b : Nat), Bn k (a ^^^ b) = Bn k a ^^^ Bn k b
  | 0, _, _ => rfl
  | k + 1, a, b => by rw [Bn, B_lin, Bn_lin k]; rfl
theorem Bn_zero : ∀ (k : Nat) {a : Nat}, a < 4294967296 → Bn k a = 0 → a = 0
  | 0, _, _, h => h
  | k + 1, _, h, hz => B_zero h (Bn_zero k (B_lt h) hz)
theorem dif_comb : ∀ (ms : List Nat) (d : Nat), dif d ms = Bn ms.length (d ^^^ comb ms)
  | [], d => by simp [dif, Bn, comb]
  | m :: ms, d => by
    show dif (B (d ^^^ m)) ms = Bn ms.length (B (d ^^^ (m ^^^ 256 * comb ms)))
    rw [dif_comb ms, ← Nat.xor_assoc, B_lin (d ^^^ m), B_shift]
theorem comb_lt : ∀ (ms : List Nat), (∀ m ∈ ms, m < 256) → comb ms < 256 ^ ms.length
  | [], _ => by simp [comb]
  | m :: ms, h => by
    have ih := comb_lt ms (fun x hx => h x (by simp [hx]))
    have hm := h m (by simp)
    have e : (256 : Nat) ^ (ms.length + 1) = 2 ^ (8 * (ms.length + 1)) := by rw [Nat.pow_mul]
    have h1 : 256 * comb ms < 256 ^ (ms.length + 1) := by rw [Nat.pow_succ]; omega
    have h2 : m < 256 ^ (ms.length + 1) := by
      have := Nat.pow_le_pow_right (n := 256) (by omega) (show 1 ≤ ms.length + 1 by omega)
      omega
    show m ^^^ 256 * comb ms < 256 ^ (ms.length + 1)
    rw [e] at h1 h2 ⊢
    exact Nat.xor_lt_two_pow h2 h1
theorem comb_zero : ∀ (ms : List Nat), (∀ m ∈ ms, m < 256) → comb ms = 0 → ∀ m ∈ ms, m = 0
  | [], _, _, m, hm => by simp at hm
  | a :: ms, h, hz, m, hm => by
    have ha := h a (by simp)
    have he : a = 256 * comb ms := by
      have e : (a ^^^ 256 * comb ms) ^^^ (256 * comb ms) = 0 ^^^ (256 * comb ms) := by
        have : a ^^^ 256 * comb ms = 0 := hz
        rw [this]
      rwa [Nat.xor_assoc, Nat.xor_self, Nat.xor_zero, Nat.zero_xor] at e
    have h0 : comb ms = 0 := by omega
    rcases List.mem_cons.1 hm with rfl | hm
    · omega
    · exact comb_zero ms (fun x hx => h x (by simp [hx])) h0 m hm
/-- A change of at most four bytes in a row is seen. -/
theorem burst (ms : List Nat) (h : ∀ m ∈ ms, m < 256) (hl : ms.length ≤ 4) (i j : Nat) :
    dif 0 (List.replicate i 0 ++ (ms ++ List.replicate j 0)) = 0 ↔ ∀ m ∈ ms, m = 0 := by
  have hlt : comb ms < 4294967296 := by
    have := comb_lt ms h
    have := Nat.pow_le_pow_right (n := 256) (by omega) hl
    omega
  have hz : dif 0 (List.replicate i 0) = 0 := (dif_zeros i 0 (by omega)).2 rfl
  have key : dif 0 ms = 0 ↔ ∀ m ∈ ms, m = 0 := by
    rw [dif_comb, Nat.zero_xor]
    refine ⟨fun e => comb_zero ms h (Bn_zero _ hlt e), fun e => ?_⟩
    have hc : ∀ ms : List Nat, (∀ m ∈ ms, m = 0) → comb ms = 0 := by
      intro ms
      induction ms with
      | nil => intro _; rfl
      | cons a ms ih => intro e; rw [comb, ih (fun m hm => e m (by simp [hm])), e a (by simp)]; rfl
    have hb : ∀ k, Bn k 0 = 0 := by
      intro k
      induction k with
      | zero => rfl
      | succ k ih => rw [Bn, show B 0 = 0 by decide, ih]
    rw [hc ms e, hb]
  have hd : dif 0 ms < 4294967296 := by
    have hBn : ∀ k c, c < 4294967296 → Bn k c < 4294967296 := by
      intro k
      induction k with
      | zero => intro c h; exact h
      | succ k ih => intro c h; exact ih _ (B_lt h)
    rw [dif_comb, Nat.zero_xor]; exact hBn _ _ hlt
  rw [dif_append, dif_append, hz, dif_zeros j _ hd, key]
end Crc
end Go.Proofs.Ythnihgnboelipaa
