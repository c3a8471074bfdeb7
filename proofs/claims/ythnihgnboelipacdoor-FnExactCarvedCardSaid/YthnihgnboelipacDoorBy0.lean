/- Plain mathematics of chapter 3: lists of bytes, numbers in them. -/
import Derived.Test.YthnihgnboelipacDoorNumM
namespace Go.Proofs.YthnihgnboelipacDoor
/-- A list of bytes that is valid. -/
def bytesOk (xs : List Int) : Bool := xs.all (fun x => inB x 0 255) && decide (xs.length ≤ 1000)
/-- n elements from at on exist among len. -/
def spot (at_ n : Int) (len : Nat) : Bool := decide (0 ≤ at_ ∧ 0 ≤ n ∧ at_ + n ≤ len)
/-- The number that bytes stand for, most significant first. -/
def beI (l : List Int) : Int := l.foldl (fun n c => n * 256 + c) 0
def cut (xs : List Int) (at_ n : Nat) : List Int := (xs.drop at_).take n
def loadOk (xs : List Int) (at_ k : Int) : Bool := bytesOk xs && (inB k 1 7 && spot at_ k xs.length)
def loadN (xs : List Int) (at_ k : Int) : Int := if loadOk xs at_ k then beI (cut xs at_.toNat k.toNat) else 0
/-- The list with ds laid from at on. -/
def lay (xs : List Int) (at_ : Nat) (ds : List Int) : List Int := xs.take at_ ++ ds ++ xs.drop (at_ + ds.length)

theorem beI_snoc (l : List Int) (c : Int) : beI (l ++ [c]) = beI l * 256 + c := by simp [beI, List.foldl_append]
theorem beI_bd : ∀ (k : Nat) (l : List Int), l.length = k → (∀ x ∈ l, 0 ≤ x ∧ x ≤ 255) → 0 ≤ beI l ∧ beI l < 256 ^ k
  | 0, l, h, _ => by
    have : l = [] := List.length_eq_zero_iff.1 h
    subst this; simp [beI]
  | k + 1, l, h, hx => by
    have hn : l ≠ [] := by intro e; simp [e] at h
    have e := List.dropLast_concat_getLast hn
    have hl : (l.dropLast).length = k := by simp [h]
    have ih := beI_bd k _ hl (fun x hm => hx x (by rw [← e]; simp [hm]))
    rw [← e, beI_snoc]
    have := hx (l.getLast hn) (List.getLast_mem hn)
    rw [Int.pow_succ]
    omega
theorem bytesOk_mem {xs : List Int} (h : bytesOk xs = true) : ∀ x ∈ xs, 0 ≤ x ∧ x ≤ 255 := by
  simp [bytesOk] at h
  intro x hx
  exact inB_iff.1 (h.1 x hx)
theorem lay_len {xs : List Int} {at_ : Nat} {ds : List Int} (h : at_ + ds.length ≤ xs.length) : (lay xs at_ ds).length = xs.length := by
  simp [lay]; omega
theorem lay_nil (xs : List Int) (at_ : Nat) : lay xs at_ [] = xs := by simp [lay]
theorem lay_snoc {xs : List Int} {at_ : Nat} {ds : List Int} (x : Int) (h : at_ + ds.length < xs.length) : (lay xs at_ ds).set (at_ + ds.length) x = lay xs at_ (ds ++ [x]) := by
  unfold lay
  have e : xs.drop (at_ + ds.length) = xs[at_ + ds.length] :: xs.drop (at_ + ds.length + 1) := by rw [List.drop_eq_getElem_cons h]
  rw [e, List.set_append_right _ _ (by simp; omega)]
  have : at_ + ds.length - (xs.take at_ ++ ds).length = 0 := by simp; omega
  rw [this, List.set_cons_zero]
  simp [Nat.add_assoc]
theorem lay_get {xs : List Int} {at_ : Nat} {ds : List Int} {i : Nat} (h : at_ + ds.length ≤ xs.length) (hi : i < at_ ∨ at_ + ds.length ≤ i) : (lay xs at_ ds)[i]? = xs[i]? := by
  unfold lay
  rcases hi with hi | hi
  · rw [List.append_assoc, List.getElem?_append_left (by simp; omega), List.getElem?_take, if_pos hi]
  · rw [List.getElem?_append_right (by simp; omega), List.getElem?_drop]
    congr 1
    simp; omega
theorem cut_lay {xs : List Int} {at_ : Nat} {ds : List Int} (h : at_ + ds.length ≤ xs.length) : cut (lay xs at_ ds) at_ ds.length = ds := by
  unfold cut lay
  rw [List.append_assoc, List.drop_append, List.drop_take]
  have : (xs.take at_).length = at_ := by simp; omega
  simp [this]
theorem cut_succ {xs : List Int} {at_ k : Nat} {x : Int} (h : xs[at_ + k]? = some x) : cut xs at_ (k + 1) = cut xs at_ k ++ [x] := by
  unfold cut
  rw [List.take_add_one, List.getElem?_drop, h]; rfl
theorem cut_len {xs : List Int} {at_ k : Nat} (h : at_ + k ≤ xs.length) : (cut xs at_ k).length = k := by simp [cut]; omega
theorem cut_mem {xs : List Int} {at_ k : Nat} {x : Int} (h : x ∈ cut xs at_ k) : x ∈ xs := List.mem_of_mem_drop (List.mem_of_mem_take h)
theorem lay_mem {xs : List Int} {at_ : Nat} {ds : List Int} {x : Int} (h : x ∈ lay xs at_ ds) : x ∈ xs ∨ x ∈ ds := by
  simp [lay] at h
  rcases h with h | h | h
  · exact .inl (List.mem_of_mem_take h)
  · exact .inr h
  · exact .inl (List.mem_of_mem_drop h)
theorem cut_bd {xs : List Int} (hb : bytesOk xs = true) {at_ k : Nat} (h : at_ + k ≤ xs.length) (hk : k ≤ 7) : 0 ≤ beI (cut xs at_ k) ∧ beI (cut xs at_ k) ≤ 72057594037927935 := by
  have := beI_bd k _ (cut_len h) (fun x hx => bytesOk_mem hb x (cut_mem hx))
  have h2 : (256 : Int) ^ k ≤ 256 ^ 7 := pow_le hk
  omega
theorem cut_bd6 {xs : List Int} (hb : bytesOk xs = true) {at_ k : Nat} (h : at_ + k ≤ xs.length) (hk : k ≤ 6) : 0 ≤ beI (cut xs at_ k) ∧ beI (cut xs at_ k) ≤ 281474976710655 := by
  have := beI_bd k _ (cut_len h) (fun x hx => bytesOk_mem hb x (cut_mem hx))
  have h2 : (256 : Int) ^ k ≤ 256 ^ 6 := pow_le hk
  omega
end Go.Proofs.YthnihgnboelipacDoor
