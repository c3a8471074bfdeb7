import Derived.Test.YtpmhkpmkmbkjbaaDoorZIn
import Derived.Test.YtpmhkpmkmbkjbaaDoorZP
import Derived.Laws.BytesArg
import Derived.Below
/- impl.Fixed, the old walk, alone. -/
namespace Go.Proofs.YtpmhkpmkmbkjbaaDoor
open Go Go.RowKit
set_option maxRecDepth 100000
/-- The k low bytes of n, most significant first. -/
def fxd : Nat → Int → List UInt8
  | 0, _ => []
  | k + 1, n => fxd k (n / 256) ++ [UInt8.ofNat (n % 256).toNat]

theorem fxd_len : ∀ (k : Nat) (n : Int), (fxd k n).length = k
  | 0, _ => rfl
  | k + 1, n => by simp [fxd, fxd_len k]

theorem conv_one (W : World) (z : Int) : (convert 126 9 (.slice (some ⟨W.heap.size, 0, none⟩) 1 1)).run Tryd.prog (W.alloc (.cells #[.int .u8 z] 5)) =
    .ok (.string ⟨[UInt8.ofNat z.toNat].toArray⟩) (W.alloc (.cells #[.int .u8 z] 5)) := by
  refine run_convert_bytes_arg _ _ 5 Tryd.underlying126 Tryd.underlying5 W.heap.size 0 1 1 [z] rfl (fun i hi => ?_) _ Tryd.underlying9
  obtain rfl : i = 0 := by omega
  simp [go_sem]

theorem cat_one (z : UInt8) (l : List UInt8) : (ByteArray.mk [z].toArray ++ ByteArray.mk l.toArray) = ByteArray.mk (z :: l).toArray := by
  simpa using ByteArray.mk_append_mk [z] l

theorem div_step (n : Int) (j : Nat) : n / 256 ^ j / 256 = n / 256 ^ (j + 1) := by
  rw [Int.ediv_ediv_of_nonneg (Int.pow_nonneg (by omega)), Int.pow_succ]
theorem div_pos_iff (n : Int) (m : Nat) (h : 0 ≤ n) : 0 < n / 256 ^ m ↔ (256 : Int) ^ m ≤ n := by
  have hp : (0 : Int) < 256 ^ m := Int.pow_pos (by omega)
  constructor
  · intro h'
    have := (Int.le_ediv_iff_mul_le hp (a := 1) (b := n)).1 (by omega)
    omega
  · intro h'
    have := (Int.le_ediv_iff_mul_le hp (a := 1) (b := n)).2 (by omega)
    omega


/-- What Fixed gives. -/
def fxOk (n k : Int) : Bool := decide (1 ≤ k ∧ k ≤ 7 ∧ 0 ≤ n ∧ n < 256 ^ k.toNat)
def fxS (n k : Int) : ByteArray := if fxOk n k then ⟨(fxd k.toNat n).toArray⟩ else ⟨#[]⟩


theorem widthOk_any (n : Int) (w : World) :
    Calls Tryd.prog 66 #[.int .i64 n] w fun e w' => e = .returned (.bool (inB n 1 7)) ∧ w = w' := by
  go_enter Tryd.func66, Tryd.ntmps66
  go_wp2
  all_goals (go_ret; exact ⟨by simp [inB] <;> omega, rfl⟩)
theorem A_info5 : (Tryd.prog.info? 5).map (fun i => (i.zero, i.size, i.bytes)) = some (some (.int .u8 0), 1, 1) := by kernel_rfl

theorem pow28 (m : Nat) : (2 : Int) ^ (8 * m) = 256 ^ m := by
  rw [Int.pow_mul]; rfl

theorem set_mid (k : Nat) (L : List Int) (v : Int) : (List.replicate (k + 1) (0 : Int) ++ L).set k v = List.replicate k 0 ++ v :: L := by
  rw [List.replicate_succ', List.append_assoc, List.set_append_right _ _ (by simp)]
  simp

theorem ofNat_mod (y : Int) (h : 0 ≤ y) : UInt8.ofNat (y % 256).toNat = UInt8.ofNat y.toNat := by
  apply UInt8.toNat_inj.1
  simp
  omega

set_option maxHeartbeats 400000 in
theorem iFixed_over (n : Int) (k : Int) (w : World) (h1 : 1 ≤ k) (h2 : k ≤ 7) (h3 : 0 ≤ n) (h5 : 256 ^ k.toNat ≤ n) :
    Calls Tryd.prog 81 #[.int .i64 n, .int .i64 k] w fun e w' => e = .returned (.string ⟨#[]⟩) ∧ w = w' := by
  obtain ⟨m, rfl⟩ : ∃ m : Nat, k = m := ⟨k.toNat, by omega⟩
  have hb : inB (m : Int) 1 7 = true := by simp [inB]; omega
  have hd : (n / 2 ^ (8 * m) != 0) = true := by
    have := (div_pos_iff n m h3).2 (by simpa using h5)
    rw [pow28]; simp; omega
  clear h5
  go_enter Tryd.func81, Tryd.ntmps81
  go_wp2_with (go_at_call 66; refine (widthOk_any _ _).mono ?_; rintro e w' ⟨rfl, rfl⟩)
  go_ret
  exact ⟨rfl, rfl⟩

set_option maxHeartbeats 400000 in
theorem iFixed_in (n : Int) (k : Int) (w : World) (h1 : 1 ≤ k) (h2 : k ≤ 7) (h3 : 0 ≤ n) (h4 : n ≤ 9223372036854775807) (h5 : n < 256 ^ k.toNat) :
    Calls Tryd.prog 81 #[.int .i64 n, .int .i64 k] w fun e w' => e = .returned (.string ⟨(fxd k.toNat n).toArray⟩) ∧ Below w.heap.size w w' := by
  obtain ⟨m, rfl⟩ : ∃ m : Nat, k = m := ⟨k.toNat, by omega⟩
  have hb : inB (m : Int) 1 7 = true := by simp [inB]; omega
  have hd : (n / 2 ^ (8 * m) != 0) = false := by
    have := (mt (div_pos_iff n m h3).1 (by simpa using h5))
    have := Int.ediv_nonneg h3 (show (0 : Int) ≤ 256 ^ m from Int.pow_nonneg (by omega))
    rw [pow28]; simp; omega
  clear h5
  obtain ⟨i0, hi, hz0, hz1, hz2⟩ := info_parts A_info5
  go_enter Tryd.func81, Tryd.ntmps81
  go_wp2_with (first
    | (go_at_call 66; refine (widthOk_any _ _).mono ?_; rintro e w' ⟨rfl, rfl⟩)
    | (at_make; refine wpList_make_full _ rfl _ _ 126 rfl w.heap.size 5 i0 (.int .u8 0) 1 Tryd.underlying126 hi hz0 hz1 .i64 .i64 _ _ m rfl rfl rfl rfl (by rw [hz2]; omega) (by unfold maxLen; omega) (Nat.le_refl _) ?_; intro w1 hown1 hgrow1))
  go_loopw [0, 6] (fun x i wr => ∃ (q : Nat) (z y : Int) (l : List UInt8), z + 1 = q ∧ i = .int .i64 z ∧ x = .int .i64 y ∧ 0 ≤ y ∧ y ≤ 9223372036854775807 ∧ l.length + q = m ∧ fxd m n = fxd q y ++ l ∧ Below w.heap.size w wr ∧ wr.ownsRow w.heap.size 5 1 (.slice (some ⟨w.heap.size, 0, none⟩) m m) m ((List.replicate q (0 : Int) ++ l.map (fun c => (c.toNat : Int))).map (Value.int .u8))) (fun _ i _ => (intOf i + 1).toNat)
  case atStart => exact ⟨m, (m : Int) - 1, n, [], by omega, rfl, rfl, h3, h4, by simp, by simp, (Below.refl _ _).grown hgrow1 (Nat.le_refl _) (by intro k hk; cases hk), by simpa [Value.cells, toList_madeCells_one] using hown1⟩
  case round =>
    obtain ⟨q, z, y, l, hz, rfl, rfl, hy0, hy1, hl, hf, hbel, hown⟩ := hrel
    have HF := Lib.hid hf; clear hf
    clear hown1
    by_cases hlt : 0 < q
    · obtain ⟨p, rfl⟩ : ∃ p, q = p + 1 := ⟨q - 1, by omega⟩
      obtain rfl : z = (p : Int) := by omega
      have hpm : p < m := by omega
      have HL := Lib.hid hl; clear hl
      have hc : wr.cell? ⟨w.heap.size, p, none⟩ = some (.int .u8 0) := by
        rw [hown.cellAt p (by omega)]
        simp [List.getElem?_append]
      have hzz := hown.frozenAt p
      have HS := Lib.hid (hown.stored p (.int .u8 (y % 256)))
      have HO := Lib.hid hown; clear hown
      clear hz
      go_wp2
      go_roundw
      case rel =>
        obtain ⟨ho, hg⟩ := HS.out
        refine ⟨p, (p : Int) - 1, y / 256, UInt8.ofNat (y % 256).toNat :: l, by omega, rfl, rfl, by omega, by omega, by have := HL.out; simp; omega, ?_, hbel.grown hg hbel.size (by rintro k ⟨⟩; exact Nat.le_refl _), ?_⟩
        · rw [HF.out, fxd]; simp
        · rw [List.map_append] at ho
          have e := set_mid p (l.map (fun c => (c.toNat : Int))) (y % 256)
          have e2 : (((UInt8.ofNat (y % 256).toNat).toNat : Nat) : Int) = y % 256 := by simp; omega
          rw [← List.map_append, ← List.map_set, e] at ho
          have e3 : (UInt8.ofNat (y % 256).toNat :: l).map (fun c => (c.toNat : Int)) = y % 256 :: l.map (fun c => (c.toNat : Int)) := by rw [List.map_cons, e2]
          rw [e3]; exact ho
      case measure => simp [intOf]
    · obtain rfl : q = 0 := by omega
      obtain rfl : z = -1 := by omega
      have hm : l.length = m := by omega
      have hcv := run_convert_bytes_arg (P := Tryd.prog) wr 126 5 Tryd.underlying126 Tryd.underlying5 w.heap.size 0 m m (l.map (fun c => (c.toNat : Int))) (by simpa using hm) (fun i hi => by
        have := hown.cellAt i (by omega)
        rw [Nat.zero_add, this]
        simp [List.getD, hm, hi]) 9 Tryd.underlying9
      have HS := Lib.hid (show strOfNums (l.map (fun c => (c.toNat : Int))) = ⟨l.toArray⟩ by simp [strOfNums, Function.comp_def])
      have HM := Lib.hid hm; clear hm
      clear hz hl hown
      go_wp2
      go_ret
      exact ⟨ret_str (by rw [HS.out]; simp [HF.out, fxd]), hbel⟩

theorem iFixed_any (n : Int) (k : Int) (w : World) (h4 : n ≤ 9223372036854775807) :
    Calls Tryd.prog 81 #[.int .i64 n, .int .i64 k] w fun e w' => e = .returned (.string (fxS n k)) ∧ Below w.heap.size w w' := by
  by_cases h : 1 ≤ k ∧ k ≤ 7 ∧ 0 ≤ n
  · by_cases h5 : n < 256 ^ k.toNat
    · rw [fxS, if_pos (by simp [fxOk]; omega)]
      exact iFixed_in n k w h.1 h.2.1 h.2.2 h4 h5
    · rw [fxS, if_neg (by simp [fxOk]; omega)]
      exact (iFixed_over n k w h.1 h.2.1 h.2.2 (by omega)).mono fun e w' ⟨a, b⟩ => ⟨a, by subst b; exact Below.refl _ _⟩
  · have HX := Lib.hid (show fxOk n k = false by simp [fxOk]; omega)
    by_cases hb : inB k 1 7 = true
    · have h3 : n < 0 := by simp [inB] at hb; omega
      go_enter Tryd.func81, Tryd.ntmps81
      go_wp2_with (go_at_call 66; refine (widthOk_any _ _).mono ?_; rintro e w' ⟨rfl, rfl⟩)
      go_ret
      exact ⟨by simp [fxS, HX.out], Below.refl _ _⟩
    · have hb : inB k 1 7 = false := by simpa using hb
      go_enter Tryd.func81, Tryd.ntmps81
      go_wp2_with (go_at_call 66; refine (widthOk_any _ _).mono ?_; rintro e w' ⟨rfl, rfl⟩)
      go_ret
      exact ⟨by simp [fxS, HX.out], Below.refl _ _⟩
end Go.Proofs.YtpmhkpmkmbkjbaaDoor
