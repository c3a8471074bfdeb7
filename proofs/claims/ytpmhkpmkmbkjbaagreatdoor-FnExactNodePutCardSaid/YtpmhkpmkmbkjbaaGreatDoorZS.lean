import Derived.Test.YtpmhkpmkmbkjbaaGreatDoorVZ
import Derived.Below
import Derived.Test.YtpmhkpmkmbkjbaaGreatDoorChecked
import Derived.WalkKit
import Derived.BigQuiet
import Derived.Deep.QuietTactic
import Derived.IntWalk
import Derived.Handy
import Derived.Lib.Hide
import Derived.Test.YtpmhkpmkmbkjbaaGreatDoorZP
import Derived.Laws.BytesArg
import Derived.Test.YtpmhkpmkmbkjbaaGreatDoorZB
import Derived.Test.YtpmhkpmkmbkjbaaGreatDoorMkL
section
/- Strings as literals: length, index, comparison; a byte as a number; a contract of the old form over numbers and strings. -/
set_option linter.unusedVariables false
set_option linter.unusedSimpArgs false
universe u
namespace Go.Tr
open Go Go.RowKit
section
variable {P : Program} {F : Fm} {N : Nat} {G : Gt} {o : Oper} {σ : TS} {k : TS → Prop}
theorem PK.lenS {x : Operand} {t : Nat} {s : ByteArray} {kv : V → Prop} (hop : o.op = .call { callee := .builtin .len, args := #[x], argTypes := #[t] }) (hx : evS σ x = .a (.lit (.string s))) (ht : P.underlying t = some .string) (h : kv (.a (.lit (.int .i64 s.size)))) : PK P F N o σ kv := by
  refine ⟨_, h, fun a w ω β hr => ?_⟩
  have ex : a.eval x = .string s := ev_lit hr (by rw [evS_eq, hx]; rfl)
  refine ⟨.int .i64 s.size, fun w' => ?_, VRel.lit rfl⟩
  generalize a.eval = ρ at ex ⊢
  simp [execOp, hop, go_sem, ex, resolve, invoke, builtin, Builtin.len_, underlying, ht, goInt]
theorem OpK.ixS {t : Nat} {x ix : Operand} {ki : IntKind} {s : ByteArray} {i : Int} (hop : o.op = .index t x ix) (hg : o.guard = none) (hd : okD N o.dst = true) (ht : P.underlying t = some .string) (hx : evS σ x = .a (.lit (.string s))) (hi : evS σ ix = .a (.lit (.int ki i))) {b8 : UInt8} (h0 : 0 ≤ i) (hb : s[i.toNat]? = some b8)
    (h : stO o σ (.a (.lit (.int .u8 b8.toNat))) k) : OpK P F N o σ k :=
  ⟨fun ops Q rest kk => AL.val hg hd (fun a w ω β hr => by
    have ex : a.eval x = .string s := ev_lit hr (by rw [evS_eq, hx]; rfl)
    have ei : a.eval ix = .int ki i := ev_lit hr (by rw [evS_eq, hi]; rfl)
    refine ⟨.int .u8 b8.toNat, ?_, VRel.lit rfl⟩
    generalize a.eval = ρ at ex ei ⊢
    have hi2 : (Instr.index t (.string s) (.int ki i)).run P w = .ok (.int .u8 b8.toNat) w := by
      unfold Instr.index
      simp [asIntOf, go_sem, underlying, ht, h0]
      rw [hb]
      simp [go_sem]
    simp [execOp, hop, go_sem, ex, ei, hi2]) (stO_ok hd kk h)⟩
theorem OpK.cv8 {t u : Nat} {x : Operand} {z : Int} (hop : o.op = .convert t u x) (hg : o.guard = none) (hd : okD N o.dst = true) (ht : P.underlying t = some (.int .u8)) (hu : P.underlying u = some (.int .i64)) (hx : evS σ x = .a (.lit (.int .u8 z))) (hz : 0 ≤ z ∧ z ≤ 255)
    (h : stO o σ (.a (.lit (.int .i64 z))) k) : OpK P F N o σ k :=
  ⟨fun ops Q rest kk => AL.val hg hd (fun a w ω β hr => by
    have ex : a.eval x = .int .u8 z := ev_lit hr (by rw [evS_eq, hx]; rfl)
    refine ⟨.int .i64 z, ?_, VRel.lit rfl⟩
    have hw : IntKind.i64.wrap z = z := IntWalk.i64_in _ (by omega)
    generalize a.eval = ρ at ex ⊢
    simp [execOp, hop, go_sem, ex, convert, underlying, ht, hu, hw]) (stO_ok hd kk h)⟩
theorem PK.neS {t u : Nat} {x y : Operand} {s r : ByteArray} {kv : V → Prop} (bb : Bool) (hop : o.op = .binOp .neq t x y u) (hx : evS σ x = .a (.lit (.string s))) (hy : evS σ y = .a (.lit (.string r))) (ht : P.underlying t = some .string) (hb : (s.toList == r.toList) = bb) (h : kv (.a (.lit (.bool (!bb))))) : PK P F N o σ kv := by
  refine ⟨_, h, fun a w ω β hr => ?_⟩
  have ex : a.eval x = .string s := ev_lit hr (by rw [evS_eq, hx]; rfl)
  have ey : a.eval y = .string r := ev_lit hr (by rw [evS_eq, hy]; rfl)
  refine ⟨.bool (!bb), fun w' => ?_, VRel.lit rfl⟩
  generalize a.eval = ρ at ex ey ⊢
  refine run_bin ρ w' hop (by rw [ex, ey]; rfl) ?_
  rw [ex, ey]
  show (Op.stringOp .neq s r).run P w' = _
  unfold Op.stringOp
  rw [hb]
  rfl
/-- A contract of the old form, over scalars. -/
theorem RunT.of_below {f : FuncId} {vs : List Value} {out : Value} (hfn : CallF P f) (hs : scal out = true) (h : ∀ w, Calls P f vs.toArray w fun e w' => e = .returned out ∧ Below w.heap.size w w') : RunT P f (vs.map fun v => .one (.c (.lit v))) [] [.one (.lit out)] [] := by
  refine ⟨hfn, fun w q A cargs hent => ?_⟩
  have hc : cargs = vs.toArray := by
    apply Array.ext'
    apply List.ext_getElem?
    intro i
    have hsz := hent.size
    simp only [List.length_map] at hsz
    by_cases hi : i < vs.length
    · obtain ⟨u, h1, h2⟩ := hent.args i (.one (.c (.lit vs[i]))) (by simp [hi]; rfl)
      obtain ⟨h2, _⟩ := h2
      rw [Array.getElem?_toList, h1, h2]
      simp [hi]
    · rw [Array.getElem?_toList, Array.getElem?_eq_none (by omega)]
      simp; omega
  subst hc
  refine (h w).mono fun e w' ⟨he, hb⟩ => ?_
  refine ⟨[out], _, _, q, he, ⟨rfl, rfl⟩, ⟨rfl, fun i x hi => ?_, fun ρ x hx => by simp at hx, fun b j x hx => ⟨Nat.lt_of_lt_of_le (hent.lt b j x hx) hb.size, fun hne => .inl ⟨x, hx, hne⟩, fun e => e ▸ hx⟩, ⟨hb.os, hb.tape, hb.output, ⟨hb.size, fun b cur e fz hh => ⟨cur, ?_, rfl⟩⟩, fun b j hlt _ => ?_, fun b hlt _ => hb.block b hlt⟩⟩⟩
  · cases i with
    | zero => injection hi with hi; subst hi; exact ⟨out, rfl, rfl, hs⟩
    | succ i => simp at hi
  · rw [hb.block b (Array.getElem?_eq_some_iff.1 hh).1]; exact hh
  · unfold World.cell?
    simp only [hb.block b hlt]
end
end Go.Tr
end

section
/- Plain mathematics of chapter 1: big-endian numbers, LEB128, hexadecimal digits. -/
set_option linter.unusedVariables false
set_option linter.unusedSimpArgs false
namespace Go.Proofs.YtpmhkpmkmbkjbaaGreatDoor

def inB (n lo hi : Int) : Bool := decide (lo ≤ n ∧ n ≤ hi)

theorem inB_iff {n lo hi : Int} : inB n lo hi = true ↔ lo ≤ n ∧ n ≤ hi := by simp [inB]
theorem inB_no {n lo hi : Int} : inB n lo hi = false ↔ ¬ (lo ≤ n ∧ n ≤ hi) := by simp [inB]

/-- The number that bytes stand for, most significant first. -/
def be (l : List UInt8) : Int := l.foldl (fun n c => n * 256 + (c.toNat : Int)) 0

theorem be_snoc (l : List UInt8) (c : UInt8) : be (l ++ [c]) = be l * 256 + (c.toNat : Int) := by
  simp [be, List.foldl_append]

theorem u8_le (c : UInt8) : 0 ≤ (c.toNat : Int) ∧ (c.toNat : Int) ≤ 255 := by
  have := c.toNat_lt; omega

theorem be_bd : ∀ (k : Nat) (l : List UInt8), l.length = k → 0 ≤ be l ∧ be l < 256 ^ k
  | 0, l, h => by
    have : l = [] := List.length_eq_zero_iff.1 h
    subst this; simp [be]
  | k + 1, l, h => by
    have hn : l ≠ [] := by intro e; simp [e] at h
    have e := List.dropLast_concat_getLast hn
    have hl : (l.dropLast).length = k := by simp [h]
    have ih := be_bd k _ hl
    rw [← e, be_snoc]
    have := u8_le (l.getLast hn)
    rw [Int.pow_succ]
    omega

theorem pow_up (k : Nat) : ∀ d : Nat, (256 : Int) ^ k ≤ 256 ^ (k + d) ∧ 0 < (256 : Int) ^ k
  | 0 => ⟨Int.le_refl _, Int.pow_pos (by omega)⟩
  | d + 1 => by
    have ⟨a, b⟩ := pow_up k d
    refine ⟨?_, b⟩
    rw [← Nat.add_assoc, Int.pow_succ]; omega

theorem pow_le {k n : Nat} (h : k ≤ n) : (256 : Int) ^ k ≤ 256 ^ n := by
  have := (pow_up k (n - k)).1
  rwa [Nat.add_sub_cancel' h] at this

theorem be_bd6 (l : List UInt8) (h : l.length ≤ 6) : 0 ≤ be l ∧ be l ≤ 281474976710655 := by
  have := be_bd l.length l rfl
  have h2 : (256 : Int) ^ l.length ≤ 256 ^ 6 := pow_le h
  omega

theorem be_bd7 (l : List UInt8) (h : l.length ≤ 7) : 0 ≤ be l ∧ be l ≤ 72057594037927935 := by
  have := be_bd l.length l rfl
  have h2 : (256 : Int) ^ l.length ≤ 256 ^ 7 := pow_le h
  omega

theorem take_snoc (s : ByteArray) (k : Nat) (h : k < s.size) : s.data.toList.take (k + 1) = s.data.toList.take k ++ [s[k]] := by
  rw [List.take_succ_eq_append_getElem (by simpa using h)]; rfl

theorem be_take_succ (s : ByteArray) (k : Nat) (h : k < s.size) :
    be (s.data.toList.take (k + 1)) = be (s.data.toList.take k) * 256 + (s[k].toNat : Int) := by
  rw [take_snoc s k h, be_snoc]
end Go.Proofs.YtpmhkpmkmbkjbaaGreatDoor
end

section
/- Contract of l1In. -/
set_option linter.unusedVariables false
set_option linter.unusedSimpArgs false
namespace Go.Proofs.YtpmhkpmkmbkjbaaGreatDoor
open Go Go.RowKit

theorem l1In_any (n lo hi : Int) (w : World) :
    Calls Tryz.prog 88 #[.int .i64 n, .int .i64 lo, .int .i64 hi] w fun e w' => e = .returned (.bool (inB n lo hi)) ∧ w = w' := by
  go_enter Tryz.func88, Tryz.ntmps88
  go_wp2
  all_goals (go_ret; exact ⟨by simp [inB] <;> omega, rfl⟩)
end Go.Proofs.YtpmhkpmkmbkjbaaGreatDoor
end

section
/- impl.Fixed, the old walk, alone. -/
set_option linter.unusedVariables false
set_option linter.unusedSimpArgs false
namespace Go.Proofs.YtpmhkpmkmbkjbaaGreatDoor
open Go Go.RowKit
set_option maxRecDepth 100000
/-- The k low bytes of n, most significant first. -/
def fxd : Nat → Int → List UInt8
  | 0, _ => []
  | k + 1, n => fxd k (n / 256) ++ [UInt8.ofNat (n % 256).toNat]

theorem fxd_len : ∀ (k : Nat) (n : Int), (fxd k n).length = k
  | 0, _ => rfl
  | k + 1, n => by simp [fxd, fxd_len k]

theorem conv_one (W : World) (z : Int) : (convert 128 9 (.slice (some ⟨W.heap.size, 0, none⟩) 1 1)).run Tryz.prog (W.alloc (.cells #[.int .u8 z] 5)) =
    .ok (.string ⟨[UInt8.ofNat z.toNat].toArray⟩) (W.alloc (.cells #[.int .u8 z] 5)) := by
  refine run_convert_bytes_arg _ _ 5 Tryz.underlying128 Tryz.underlying5 W.heap.size 0 1 1 [z] rfl (fun i hi => ?_) _ Tryz.underlying9
  obtain rfl : i = 0 := by omega
  simp [go_sem]

theorem cat_one (z : UInt8) (l : List UInt8) : (ByteArray.mk [z].toArray ++ ByteArray.mk l.toArray) = ByteArray.mk (z :: l).toArray := by
  simpa using ByteArray.mk_append_mk [z] l

theorem div_step (n : Int) (j : Nat) : n / 256 ^ j / 256 = n / 256 ^ (j + 1) := by
  rw [Int.ediv_ediv_of_nonneg (Int.pow_nonneg (by omega)), Int.pow_succ]
theorem div_pos_iff (n : Int) (m : Nat) (h : 0 ≤ n) : 0 < n / 256 ^ m ↔ (256 : Int) ^ m ≤ n := by
  have hp : (0 : Int) < 256 ^ m := Int.pow_pos (by omega)
  constructor
  · intro h'
    have := (Int.le_ediv_iff_mul_le hp (a := 1) (b := n)).1 (by omega)
    omega
  · intro h'
    have := (Int.le_ediv_iff_mul_le hp (a := 1) (b := n)).2 (by omega)
    omega


/-- What Fixed gives. -/
def fxOk (n k : Int) : Bool := decide (1 ≤ k ∧ k ≤ 7 ∧ 0 ≤ n ∧ n < 256 ^ k.toNat)
def fxS (n k : Int) : ByteArray := if fxOk n k then ⟨(fxd k.toNat n).toArray⟩ else ⟨#[]⟩


theorem widthOk_any (n : Int) (w : World) :
    Calls Tryz.prog 117 #[.int .i64 n] w fun e w' => e = .returned (.bool (inB n 1 7)) ∧ w = w' := by
  go_enter Tryz.func117, Tryz.ntmps117
  go_wp2
  all_goals (go_ret; exact ⟨by simp [inB] <;> omega, rfl⟩)
theorem A_info5 : (Tryz.prog.info? 5).map (fun i => (i.zero, i.size, i.bytes)) = some (some (.int .u8 0), 1, 1) := by kernel_rfl

theorem pow28 (m : Nat) : (2 : Int) ^ (8 * m) = 256 ^ m := by
  rw [Int.pow_mul]; rfl

theorem set_mid (k : Nat) (L : List Int) (v : Int) : (List.replicate (k + 1) (0 : Int) ++ L).set k v = List.replicate k 0 ++ v :: L := by
  rw [List.replicate_succ', List.append_assoc, List.set_append_right _ _ (by simp)]
  simp

theorem ofNat_mod (y : Int) (h : 0 ≤ y) : UInt8.ofNat (y % 256).toNat = UInt8.ofNat y.toNat := by
  apply UInt8.toNat_inj.1
  simp
  omega

set_option maxHeartbeats 400000 in
theorem iFixed_over (n : Int) (k : Int) (w : World) (h1 : 1 ≤ k) (h2 : k ≤ 7) (h3 : 0 ≤ n) (h5 : 256 ^ k.toNat ≤ n) :
    Calls Tryz.prog 121 #[.int .i64 n, .int .i64 k] w fun e w' => e = .returned (.string ⟨#[]⟩) ∧ w = w' := by
  obtain ⟨m, rfl⟩ : ∃ m : Nat, k = m := ⟨k.toNat, by omega⟩
  have hb : inB (m : Int) 1 7 = true := by simp [inB]; omega
  have hd : (n / 2 ^ (8 * m) != 0) = true := by
    have := (div_pos_iff n m h3).2 (by simpa using h5)
    rw [pow28]; simp; omega
  clear h5
  go_enter Tryz.func121, Tryz.ntmps121
  go_wp2_with (go_at_call 117; refine (widthOk_any _ _).mono ?_; rintro e w' ⟨rfl, rfl⟩)
  go_ret
  exact ⟨rfl, rfl⟩

set_option maxHeartbeats 400000 in
theorem iFixed_in (n : Int) (k : Int) (w : World) (h1 : 1 ≤ k) (h2 : k ≤ 7) (h3 : 0 ≤ n) (h4 : n ≤ 9223372036854775807) (h5 : n < 256 ^ k.toNat) :
    Calls Tryz.prog 121 #[.int .i64 n, .int .i64 k] w fun e w' => e = .returned (.string ⟨(fxd k.toNat n).toArray⟩) ∧ Below w.heap.size w w' := by
  obtain ⟨m, rfl⟩ : ∃ m : Nat, k = m := ⟨k.toNat, by omega⟩
  have hb : inB (m : Int) 1 7 = true := by simp [inB]; omega
  have hd : (n / 2 ^ (8 * m) != 0) = false := by
    have := (mt (div_pos_iff n m h3).1 (by simpa using h5))
    have := Int.ediv_nonneg h3 (show (0 : Int) ≤ 256 ^ m from Int.pow_nonneg (by omega))
    rw [pow28]; simp; omega
  clear h5
  obtain ⟨i0, hi, hz0, hz1, hz2⟩ := info_parts A_info5
  go_enter Tryz.func121, Tryz.ntmps121
  go_wp2_with (first
    | (go_at_call 117; refine (widthOk_any _ _).mono ?_; rintro e w' ⟨rfl, rfl⟩)
    | (at_make; refine wpList_make_full _ rfl _ _ 128 rfl w.heap.size 5 i0 (.int .u8 0) 1 Tryz.underlying128 hi hz0 hz1 .i64 .i64 _ _ m rfl rfl rfl rfl (by rw [hz2]; omega) (by unfold maxLen; omega) (Nat.le_refl _) ?_; intro w1 hown1 hgrow1))
  go_loopw [0, 6] (fun x i wr => ∃ (q : Nat) (z y : Int) (l : List UInt8), z + 1 = q ∧ i = .int .i64 z ∧ x = .int .i64 y ∧ 0 ≤ y ∧ y ≤ 9223372036854775807 ∧ l.length + q = m ∧ fxd m n = fxd q y ++ l ∧ Below w.heap.size w wr ∧ wr.ownsRow w.heap.size 5 1 (.slice (some ⟨w.heap.size, 0, none⟩) m m) m ((List.replicate q (0 : Int) ++ l.map (fun c => (c.toNat : Int))).map (Value.int .u8))) (fun _ i _ => (intOf i + 1).toNat)
  case atStart => exact ⟨m, (m : Int) - 1, n, [], by omega, rfl, rfl, h3, h4, by simp, by simp, (Below.refl _ _).grown hgrow1 (Nat.le_refl _) (by intro k hk; cases hk), by simpa [Value.cells, toList_madeCells_one] using hown1⟩
  case round =>
    obtain ⟨q, z, y, l, hz, rfl, rfl, hy0, hy1, hl, hf, hbel, hown⟩ := hrel
    have HF := Lib.hid hf; clear hf
    clear hown1
    by_cases hlt : 0 < q
    · obtain ⟨p, rfl⟩ : ∃ p, q = p + 1 := ⟨q - 1, by omega⟩
      obtain rfl : z = (p : Int) := by omega
      have hpm : p < m := by omega
      have HL := Lib.hid hl; clear hl
      have hc : wr.cell? ⟨w.heap.size, p, none⟩ = some (.int .u8 0) := by
        rw [hown.cellAt p (by omega)]
        simp [List.getElem?_append]
      have hzz := hown.frozenAt p
      have HS := Lib.hid (hown.stored p (.int .u8 (y % 256)))
      have HO := Lib.hid hown; clear hown
      clear hz
      go_wp2
      go_roundw
      case rel =>
        obtain ⟨ho, hg⟩ := HS.out
        refine ⟨p, (p : Int) - 1, y / 256, UInt8.ofNat (y % 256).toNat :: l, by omega, rfl, rfl, by omega, by omega, by have := HL.out; simp; omega, ?_, hbel.grown hg hbel.size (by rintro k ⟨⟩; exact Nat.le_refl _), ?_⟩
        · rw [HF.out, fxd]; simp
        · rw [List.map_append] at ho
          have e := set_mid p (l.map (fun c => (c.toNat : Int))) (y % 256)
          have e2 : (((UInt8.ofNat (y % 256).toNat).toNat : Nat) : Int) = y % 256 := by simp; omega
          rw [← List.map_append, ← List.map_set, e] at ho
          have e3 : (UInt8.ofNat (y % 256).toNat :: l).map (fun c => (c.toNat : Int)) = y % 256 :: l.map (fun c => (c.toNat : Int)) := by rw [List.map_cons, e2]
          rw [e3]; exact ho
      case measure => simp [intOf]
    · obtain rfl : q = 0 := by omega
      obtain rfl : z = -1 := by omega
      have hm : l.length = m := by omega
      have hcv := run_convert_bytes_arg (P := Tryz.prog) wr 128 5 Tryz.underlying128 Tryz.underlying5 w.heap.size 0 m m (l.map (fun c => (c.toNat : Int))) (by simpa using hm) (fun i hi => by
        have := hown.cellAt i (by omega)
        rw [Nat.zero_add, this]
        simp [List.getD, hm, hi]) 9 Tryz.underlying9
      have HS := Lib.hid (show strOfNums (l.map (fun c => (c.toNat : Int))) = ⟨l.toArray⟩ by simp [strOfNums, Function.comp_def])
      have HM := Lib.hid hm; clear hm
      clear hz hl hown
      go_wp2
      go_ret
      exact ⟨ret_str (by rw [HS.out]; simp [HF.out, fxd]), hbel⟩

theorem iFixed_any (n : Int) (k : Int) (w : World) (h4 : n ≤ 9223372036854775807) :
    Calls Tryz.prog 121 #[.int .i64 n, .int .i64 k] w fun e w' => e = .returned (.string (fxS n k)) ∧ Below w.heap.size w w' := by
  by_cases h : 1 ≤ k ∧ k ≤ 7 ∧ 0 ≤ n
  · by_cases h5 : n < 256 ^ k.toNat
    · rw [fxS, if_pos (by simp [fxOk]; omega)]
      exact iFixed_in n k w h.1 h.2.1 h.2.2 h4 h5
    · rw [fxS, if_neg (by simp [fxOk]; omega)]
      exact (iFixed_over n k w h.1 h.2.1 h.2.2 (by omega)).mono fun e w' ⟨a, b⟩ => ⟨a, by subst b; exact Below.refl _ _⟩
  · have HX := Lib.hid (show fxOk n k = false by simp [fxOk]; omega)
    by_cases hb : inB k 1 7 = true
    · have h3 : n < 0 := by simp [inB] at hb; omega
      go_enter Tryz.func121, Tryz.ntmps121
      go_wp2_with (go_at_call 117; refine (widthOk_any _ _).mono ?_; rintro e w' ⟨rfl, rfl⟩)
      go_ret
      exact ⟨by simp [fxS, HX.out], Below.refl _ _⟩
    · have hb : inB k 1 7 = false := by simpa using hb
      go_enter Tryz.func121, Tryz.ntmps121
      go_wp2_with (go_at_call 117; refine (widthOk_any _ _).mono ?_; rintro e w' ⟨rfl, rfl⟩)
      go_ret
      exact ⟨by simp [fxS, HX.out], Below.refl _ _⟩
end Go.Proofs.YtpmhkpmkmbkjbaaGreatDoor
end

section
/- Numbers laid into bytes: putNum, l3Store. -/
namespace Go.Proofs.YtpmhkpmkmbkjbaaGreatDoor
open Go Go.Tr
set_option maxRecDepth 100000
set_option maxHeartbeats 4000000
set_option linter.unusedVariables false
set_option linter.unusedSimpArgs false
theorem Fixed_run (n k : Int) (h : n ≤ 9223372036854775807) : RunT Tryz.prog 121 [ti n, ti k] [] [.one (.lit (.string (fxS n k)))] [] :=
  RunT.of_below (vs := [.int .i64 n, .int .i64 k]) ⟨_, Tryz.func121, rfl, rfl⟩ rfl (fun w => iFixed_any n k w h)
/-- The first i digits are laid from p on. -/
def putL (xs : List Int) (p : Nat) (ds : List UInt8) : Nat → List Int
  | 0 => xs
  | i + 1 => (putL xs p ds i).set (p + i) ((ds.getD i 0).toNat : Int)
theorem putL_len (xs : List Int) (p : Nat) (ds : List UInt8) : ∀ i, (putL xs p ds i).length = xs.length
  | 0 => rfl
  | i + 1 => by unfold putL; rw [List.length_set, putL_len xs p ds i]
theorem ds_get {ds : List UInt8} {i : Nat} (h : i < ds.length) : (ByteArray.mk ds.toArray)[i]? = some (ds.getD i 0) := by
  have hlt : i < (ByteArray.mk ds.toArray).size := by show i < ds.toArray.size; simpa using h
  rw [getElem?_pos _ i hlt]
  show some (ds.toArray[i]'(by simpa using h)) = _
  simp [List.getD, h]
theorem ds_ne {ds : List UInt8} (h : 1 ≤ ds.length) : ((ByteArray.mk ds.toArray).toList == (ByteArray.mk #[]).toList) = false := by
  cases ds with
  | nil => simp at h
  | cons a l => simp
theorem putNum_run (e : Nat) (xs : List Int) (q : Nat) (k : Nat) (n : Int) (hn : xs.length ≤ 4000000) (hk : k ≤ 7) (hl : q + k ≤ xs.length) (hok : fxOk n k = true) (hk0 : 1 ≤ k) (hm : n ≤ 9223372036854775807) :
    RunT Tryz.prog 50 [.one (.h 0 xs.length), ti q, ti k, ti n] [.sl e 1 Int encI decI 0 xs] [ob true] [.sl e 1 Int encI decI 0 (putL xs q (fxd k n) k)] := by
  have c1 := Fixed_run n k hm
  have hs : fxS n k = ⟨(fxd k n).toArray⟩ := by unfold fxS; rw [if_pos hok]; rfl
  have hdl := fxd_len k n
  rw [hs] at c1
  generalize fxd k n = ds at *
  have hsz : (ByteArray.mk ds.toArray).size = k := by show ds.toArray.size = k; simp [hdl]
  have hne := ds_ne (ds := ds) (by omega)
  have hget : ∀ i : Nat, i < k → (ByteArray.mk ds.toArray)[i]? = some (ds.getD i 0) := fun i hi => ds_get (by omega)
  generalize ByteArray.mk ds.toArray = s at *
  refine RunT.of_vc gOk Tryz.func50 rfl rfl (Nat.le_of_ble_eq_true rfl) (by repeat' (first | exact trivial | exact ⟨_, rfl, Nat.le_refl _⟩ | exact Nat.le_of_ble_eq_true rfl | refine And.intro ?_ ?_)) (Nat.le_of_ble_eq_true rfl) rfl (fun F hE => ?_)
  repeat' (first | exact trivial | refine BS.d (fun h => ?_) (fun h => ?_) | refine BS.e (fun h => ?_) (fun h => ?_) | refine BS.ne (fun h => ?_) (fun h => ?_) | refine BS.n ?_ | refine BS.s (fun h => ?_) (fun h => ?_) | refine And.intro ?_ ?_ | (refine Need.mk ?_; first | with_reducible rfl | (show @Eq TC _ _; rfl) | omega | (simp only [adN_zero]; omega)) | exact OutS.whole rfl rfl | (refine OpK.call c1 rfl rfl rfl rfl hE ?_ rfl rfl ?_; focus ((repeat' (first | exact PsA.lit _ | exact PsA.ref rfl rfl | constructor)); all_goals (fail "ps"))) | (refine PK.lenS rfl rfl Tryz.underlying9 ?_) | refine ListO.go gOk hE ?_)
  refine CodeK.loop gOk hE (fun i : Nat => ⟨[(0, vr 1000000 xs.length), (1, vi q), (9, .a (.lit (.string s))), (15, vi s.size), (16, vi i)], [(1000000, .ty .own false 0 1 Int encI decI 0 (putL xs q ds i))]⟩) (fun i => i ≤ k) (fun i => k - i) 0 (by refine leT.of ?_ ?_ rfl <;> repeat' (first | exact trivial | refine And.intro rfl ?_ | refine And.intro (by first | rfl | (simp [putL]; done)) ?_)) (Nat.zero_le _) ?_
  rintro i hi
  have hl2 := putL_len xs q ds i
  by_cases hi2 : i < k
  · have hg := hget i hi2
    have hu : (ds.getD i 0).toNat < 256 := UInt8.toNat_lt _
    have ha : adN 0 ((q : Int) + (i : Int)) = q + i := by rw [adN_eq]; omega
    repeat' (first | exact trivial | refine BS.d (fun h => ?_) (fun h => ?_) | refine BS.e (fun h => ?_) (fun h => ?_) | refine BS.ne (fun h => ?_) (fun h => ?_) | refine BS.n ?_ | refine BS.s (fun h => ?_) (fun h => ?_) | refine And.intro ?_ ?_ | (refine Need.mk ?_; first | with_reducible rfl | (show @Eq TC _ _; rfl) | omega | (simp only [adN_zero]; omega)) | exact OutS.whole rfl rfl | (refine OpK.ixS rfl rfl rfl Tryz.underlying9 rfl rfl (by omega) (show s[((i : Int)).toNat]? = some (ds.getD i 0) from hg) ?_) | (refine OpK.cv8 rfl rfl rfl Tryz.underlying5 Tryz.underlying3 rfl (by omega) ?_) | refine ListO.go gOk hE ?_)
    all_goals (try simp only [adN_zero, ha] at *)
    all_goals first
      | (exfalso; omega)
      | (refine Need.mk ?_; first | omega | (rw [hl2]; omega))
      | (refine ⟨i + 1, (by refine leT.of ?_ ?_ rfl <;> repeat' (first | exact trivial | refine And.intro rfl ?_ | refine And.intro (by first | rfl | (simp; done)) ?_)), by omega, by first | omega | (dsimp only; omega)⟩)
      | trace_state
  · obtain rfl : i = k := by omega
    repeat' (first | exact trivial | refine BS.d (fun h => ?_) (fun h => ?_) | refine BS.e (fun h => ?_) (fun h => ?_) | refine BS.ne (fun h => ?_) (fun h => ?_) | refine BS.n ?_ | refine BS.s (fun h => ?_) (fun h => ?_) | refine And.intro ?_ ?_ | (refine Need.mk ?_; first | with_reducible rfl | (show @Eq TC _ _; rfl) | omega | (simp only [adN_zero]; omega)) | exact OutS.whole rfl rfl | (refine PK.neS false rfl rfl rfl Tryz.underlying9 hne ?_) | refine ListO.go gOk hE ?_)
    all_goals first | (exfalso; omega) | (refine Need.mk ?_; omega) | exact Need.mk rfl | trace_state
end Go.Proofs.YtpmhkpmkmbkjbaaGreatDoor
end

section
/- l3Store: the same bytes as putNum. -/
namespace Go.Proofs.YtpmhkpmkmbkjbaaGreatDoor
open Go Go.Tr
set_option maxRecDepth 100000
set_option maxHeartbeats 4000000
set_option linter.unusedVariables false
set_option linter.unusedSimpArgs false
theorem fxd_digit : ∀ (k : Nat) (n : Int) (t : Nat), t < k → (((fxd k n).getD (k - 1 - t) 0).toNat : Int) = n / 256 ^ t % 256
  | 0, n, t, h => by omega
  | k + 1, n, 0, h => by
    have hl := fxd_len k (n / 256)
    have h1 : (fxd (k + 1) n).getD (k + 1 - 1 - 0) 0 = UInt8.ofNat (n % 256).toNat := by
      simp only [fxd, List.getD]
      rw [List.getElem?_append_right (by omega), hl, show k + 1 - 1 - 0 - k = 0 by omega]; rfl
    rw [h1, UInt8.toNat_ofNat']
    simp
    omega
  | k + 1, n, t + 1, h => by
    have hl := fxd_len k (n / 256)
    have h1 : (fxd (k + 1) n).getD (k + 1 - 1 - (t + 1)) 0 = (fxd k (n / 256)).getD (k - 1 - t) 0 := by
      simp only [fxd, List.getD]
      rw [List.getElem?_append_left (by omega), show k + 1 - 1 - (t + 1) = k - 1 - t by omega]
    rw [h1, fxd_digit k (n / 256) t (by omega), Int.pow_succ', Int.ediv_ediv_of_nonneg (by decide)]
theorem ext_getD {α : Type} (d : α) {xs ys : List α} (hl : xs.length = ys.length) (h : ∀ q, q < xs.length → xs.getD q d = ys.getD q d) : xs = ys := by
  refine List.ext_getElem hl (fun i h1 h2 => ?_)
  have := h i h1
  simpa [List.getD, h1, h2] using this
theorem set_getDq (xs : List Int) (i q : Nat) (v : Int) (hi : i < xs.length) : (xs.set i v).getD q 0 = if q = i then v else xs.getD q 0 := by
  simp only [List.getD]
  by_cases h : q = i
  · subst h; rw [List.getElem?_set_self hi, if_pos rfl]; rfl
  · rw [List.getElem?_set_ne (Ne.symm h), if_neg h]
theorem putL_get (xs : List Int) (p : Nat) (ds : List UInt8) : ∀ i, p + i ≤ xs.length → ∀ q, (putL xs p ds i).getD q 0 = if p ≤ q ∧ q < p + i then ((ds.getD (q - p) 0).toNat : Int) else xs.getD q 0
  | 0, h, q => by rw [if_neg (by omega)]; rfl
  | i + 1, h, q => by
    have hl := putL_len xs p ds i
    rw [putL, set_getDq _ _ _ _ (by omega), putL_get xs p ds i (by omega) q]
    by_cases h1 : q = p + i
    · rw [if_pos h1, if_pos (by omega), h1, show p + i - p = i by omega]
    · rw [if_neg h1]
      by_cases h2 : p ≤ q ∧ q < p + i
      · rw [if_pos h2, if_pos (by omega)]
      · rw [if_neg h2, if_neg (by omega)]
/-- The last t digits are laid. -/
def putH (xs : List Int) (p : Nat) (ds : List UInt8) (k : Nat) : Nat → List Int
  | 0 => xs
  | t + 1 => (putH xs p ds k t).set (p + (k - 1 - t)) ((ds.getD (k - 1 - t) 0).toNat : Int)
theorem putH_len (xs : List Int) (p : Nat) (ds : List UInt8) (k : Nat) : ∀ t, (putH xs p ds k t).length = xs.length
  | 0 => rfl
  | t + 1 => by unfold putH; rw [List.length_set, putH_len xs p ds k t]
theorem putH_get (xs : List Int) (p : Nat) (ds : List UInt8) (k : Nat) (hk : p + k ≤ xs.length) : ∀ t, t ≤ k → ∀ q, (putH xs p ds k t).getD q 0 = if p + (k - t) ≤ q ∧ q < p + k then ((ds.getD (q - p) 0).toNat : Int) else xs.getD q 0
  | 0, h, q => by rw [if_neg (by omega)]; rfl
  | t + 1, h, q => by
    have hl := putH_len xs p ds k t
    rw [putH, set_getDq _ _ _ _ (by omega), putH_get xs p ds k hk t (by omega) q]
    by_cases h1 : q = p + (k - 1 - t)
    · rw [if_pos h1, if_pos (by omega), h1, show p + (k - 1 - t) - p = k - 1 - t by omega]
    · rw [if_neg h1]
      by_cases h2 : p + (k - t) ≤ q ∧ q < p + k
      · rw [if_pos h2, if_pos (by omega)]
      · rw [if_neg h2, if_neg (by omega)]
theorem putH_full (xs : List Int) (p : Nat) (ds : List UInt8) (k : Nat) (hk : p + k ≤ xs.length) : putH xs p ds k k = putL xs p ds k := by
  refine ext_getD 0 (by rw [putH_len, putL_len]) (fun q _ => ?_)
  rw [putH_get xs p ds k hk k (Nat.le_refl _), putL_get xs p ds k hk]
  simp
theorem l3Store_run (xs : List Int) (q k : Nat) (n : Int) (hn : xs.length ≤ 4000000) (hk : k ≤ 7) (hl : q + k ≤ xs.length) (h0 : 0 ≤ n) (hm : n ≤ 9223372036854775807) :
    RunT Tryz.prog 45 [.one (.m (tI xs)), ti q, ti k, ti n] [] [.one (tI (putL xs q (fxd k n) k))] [] := by
  have hd := fxd_digit k n
  have hf := putH_full xs q (fxd k n) k hl
  generalize fxd k n = ds at *
  refine RunT.of_vc gOk Tryz.func45 rfl rfl (Nat.le_of_ble_eq_true rfl) (by repeat' (first | exact trivial | exact ⟨_, rfl, Nat.le_refl _⟩ | exact Nat.le_of_ble_eq_true rfl | refine And.intro ?_ ?_)) (Nat.le_of_ble_eq_true rfl) rfl (fun F hE => ?_)
  repeat' (first | exact trivial | refine BS.d (fun h => ?_) (fun h => ?_) | refine BS.e (fun h => ?_) (fun h => ?_) | refine BS.ne (fun h => ?_) (fun h => ?_) | refine BS.n ?_ | refine BS.s (fun h => ?_) (fun h => ?_) | refine And.intro ?_ ?_ | (refine Need.mk ?_; first | with_reducible rfl | (show @Eq TC _ _; rfl) | omega | (simp only [adN_zero]; omega)) | exact OutS.whole rfl rfl | refine ListO.go gOk hE ?_)
  refine CodeK.loop gOk hE (fun t : Nat => ⟨[(0, vr 1000000 xs.length), (1, vi q), (3, vi (n / 256 ^ t)), (9, vi ((k : Int) - 1 - t))], [(1000000, rI .own true (putH xs q ds k t))]⟩) (fun t => t ≤ k) (fun t => k - t) 0 (by refine leT.of ?_ ?_ rfl <;> repeat' (first | exact trivial | refine And.intro rfl ?_ | refine And.intro (by first | rfl | (simp [putH] <;> rfl)) ?_)) (Nat.zero_le _) ?_
  rintro t ht
  have hl2 := putH_len xs q ds k t
  have hnn : 0 ≤ n / 256 ^ t := Int.ediv_nonneg h0 (Int.pow_nonneg (by decide))
  have hle : n / 256 ^ t ≤ n := Int.ediv_le_self _ h0
  by_cases ht2 : t < k
  · have hg := hd t ht2
    have hs := div_step n t
    have ha : adN 0 ((q : Int) + ((k : Int) - 1 - (t : Int))) = q + (k - 1 - t) := by rw [adN_eq]; omega
    have hr : Int.tmod (n / 256 ^ t) 256 = ((ds.getD (k - 1 - t) 0).toNat : Int) := by rw [Int.tmod_eq_emod_of_nonneg hnn, hg]
    have hq : wr .i64 (Int.tdiv (n / 256 ^ t) 256) = n / 256 ^ (t + 1) := by rw [Int.tdiv_eq_ediv_of_nonneg hnn, hs, wr_in]; rw [← hs]; omega
    generalize n / 256 ^ t = m at *
    repeat' (first | exact trivial | refine BS.d (fun h => ?_) (fun h => ?_) | refine BS.e (fun h => ?_) (fun h => ?_) | refine BS.ne (fun h => ?_) (fun h => ?_) | refine BS.n ?_ | refine BS.s (fun h => ?_) (fun h => ?_) | refine And.intro ?_ ?_ | (refine Need.mk ?_; first | with_reducible rfl | (show @Eq TC _ _; rfl) | omega | (simp only [adN_zero]; omega)) | exact OutS.whole rfl rfl | refine ListO.go gOk hE ?_)
    all_goals (try simp only [ha, hr, hq])
    all_goals first
      | (exfalso; omega)
      | (refine Need.mk ?_; first | omega | (rw [hl2]; omega))
      | (refine ⟨t + 1, (by refine leT.of ?_ ?_ rfl <;> repeat' (first | exact trivial | refine And.intro rfl ?_ | refine And.intro (by first | rfl | (refine litInt ?_; omega) | (simp; done)) ?_)), by omega, by first | omega | (dsimp only; omega)⟩)
      | trace_state
  · obtain rfl : t = k := by omega
    repeat' (first | exact trivial | refine BS.d (fun h => ?_) (fun h => ?_) | refine BS.e (fun h => ?_) (fun h => ?_) | refine BS.ne (fun h => ?_) (fun h => ?_) | refine BS.n ?_ | refine BS.s (fun h => ?_) (fun h => ?_) | refine And.intro ?_ ?_ | (refine Need.mk ?_; first | with_reducible rfl | (show @Eq TC _ _; rfl) | omega | (simp only [adN_zero]; omega)) | exact OutS.whole rfl rfl | refine ListO.go gOk hE ?_)
    all_goals first | (exfalso; omega) | exact OutS.whole hl2.symm (by rw [hf]; rfl) | (refine Need.mk ?_; omega) | trace_state
end Go.Proofs.YtpmhkpmkmbkjbaaGreatDoor
end
