
/- Plain mathematics of chapter 1: big-endian numbers, LEB128, hexadecimal digits. -/
namespace Go.Proofs.YtpmhkpmkmbkjbaaDoor

def inB (n lo hi : Int) : Bool := decide (lo ≤ n ∧ n ≤ hi)

theorem inB_iff {n lo hi : Int} : inB n lo hi = true ↔ lo ≤ n ∧ n ≤ hi := by simp [inB]
theorem inB_no {n lo hi : Int} : inB n lo hi = false ↔ ¬ (lo ≤ n ∧ n ≤ hi) := by simp [inB]

/-- The number that bytes stand for, most significant first. -/
def be (l : List UInt8) : Int := l.foldl (fun n c => n * 256 + (c.toNat : Int)) 0

theorem be_snoc (l : List UInt8) (c : UInt8) : be (l ++ [c]) = be l * 256 + (c.toNat : Int) := by
  simp [be, List.foldl_append]

theorem u8_le (c : UInt8) : 0 ≤ (c.toNat : Int) ∧ (c.toNat : Int) ≤ 255 := by
  have := c.toNat_lt; omega

theorem be_bd : ∀ (k : Nat) (l : List UInt8), l.length = k → 0 ≤ be l ∧ be l < 256 ^ k
  | 0, l, h => by
    have : l = [] := List.length_eq_zero_iff.1 h
    subst this; simp [be]
  | k + 1, l, h => by
    have hn : l ≠ [] := by intro e; simp [e] at h
    have e := List.dropLast_concat_getLast hn
    have hl : (l.dropLast).length = k := by simp [h]
    have ih := be_bd k _ hl
    rw [← e, be_snoc]
    have := u8_le (l.getLast hn)
    rw [Int.pow_succ]
    omega

theorem pow_up (k : Nat) : ∀ d : Nat, (256 : Int) ^ k ≤ 256 ^ (k + d) ∧ 0 < (256 : Int) ^ k
  | 0 => ⟨Int.le_refl _, Int.pow_pos (by omega)⟩
  | d + 1 => by
    have ⟨a, b⟩ := pow_up k d
    refine ⟨?_, b⟩
    rw [← Nat.add_assoc, Int.pow_succ]; omega

theorem pow_le {k n : Nat} (h : k ≤ n) : (256 : Int) ^ k ≤ 256 ^ n := by
  have := (pow_up k (n - k)).1
  rwa [Nat.add_sub_cancel' h] at this

theorem be_bd6 (l : List UInt8) (h : l.length ≤ 6) : 0 ≤ be l ∧ be l ≤ 281474976710655 := by
  have := be_bd l.length l rfl
  have h2 : (256 : Int) ^ l.length ≤ 256 ^ 6 := pow_le h
  omega

theorem be_bd7 (l : List UInt8) (h : l.length ≤ 7) : 0 ≤ be l ∧ be l ≤ 72057594037927935 := by
  have := be_bd l.length l rfl
  have h2 : (256 : Int) ^ l.length ≤ 256 ^ 7 := pow_le h
  omega

theorem take_snoc (s : ByteArray) (k : Nat) (h : k < s.size) : s.data.toList.take (k + 1) = s.data.toList.take k ++ [s[k]] := by
  rw [List.take_succ_eq_append_getElem (by simpa using h)]; rfl

theorem be_take_succ (s : ByteArray) (k : Nat) (h : k < s.size) :
    be (s.data.toList.take (k + 1)) = be (s.data.toList.take k) * 256 + (s[k].toNat : Int) := by
  rw [take_snoc s k h, be_snoc]
end Go.Proofs.YtpmhkpmkmbkjbaaDoor
