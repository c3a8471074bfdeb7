import Derived.Test.YtnclkdpocjhphaaPB
import Derived.Test.YtnclkdpocjhphaaVW
import Derived.Test.YtnclkdpocjhphaaVS
import Derived.Test.YtnclkdpocjhphaaTy
import Derived.Test.YtnclkdpocjhphaaPD
import Derived.Test.YtnclkdpocjhphaaUN
import Derived.Lib.AppendZerosOnto
import Derived.Lib.Overlaps
import Derived.Laws.Externs
import Derived.Test.YtnclkdpocjhphaaVP
import Derived.Test.YtnclkdpocjhphaaVRs
import Derived.Test.YtnclkdpocjhphaaMkL
import Derived.Test.YtnclkdpocjhphaaVZ
section
/- Shifts right by a number, conversions between kinds of integers. -/
set_option linter.unusedVariables false
set_option linter.unusedSimpArgs false
universe u
namespace Go.Tr
open Go Go.RowKit
section
variable {P : Program} {F : Fm} {N : Nat} {G : Gt} {o : Oper} {τ σ : TS} {k : TS → Prop}
theorem PK.shr {t u n : Nat} {x y : Operand} {k1 k2 : IntKind} {i j : Int} {kv : V → Prop} (hop : o.op = .binOp .shr t x y u) (hx : evS σ x = .a (.lit (.int k1 i))) (hy : evS σ y = .a (.lit (.int k2 j))) (hj : j = (n : Int)) (hn : n ≤ k1.bits)
    (h : kv (.a (.lit (.int k1 (i / 2 ^ n))))) : PK P F N o σ kv := by
  subst hj
  refine ⟨_, h, fun a w ω β hr => ?_⟩
  have ex : a.eval x = .int k1 i := ev_lit hr (by rw [evS_eq, hx]; rfl)
  have ey : a.eval y = .int k2 n := ev_lit hr (by rw [evS_eq, hy]; rfl)
  refine ⟨.int k1 (i / 2 ^ n), fun w' => ?_, rfl, rfl⟩
  generalize a.eval = ρ at ex ey ⊢
  refine run_bin ρ w' hop (by rw [ex, ey]; exact run_guard_int w' _ _ _ _ _ _ _ _) ?_
  rw [ex, ey]
  show (Op.shift .shr k1 i k2 n).run P w' = _
  unfold Op.shift
  rw [if_neg (by omega)]
  show Result.ok (Value.int k1 (i.fdiv (2 ^ (min (n : Int).toNat k1.bits)))) w' = _
  rw [Int.toNat_natCast, Nat.min_eq_left hn, Int.fdiv_eq_ediv_of_nonneg _ (by have : (0 : Int) < 2 ^ n := Int.pow_pos (by decide); omega)]
theorem PK.cvI {t u : Nat} {x : Operand} {k1 k2 : IntKind} {z : Int} {kv : V → Prop} (z' : Int) (hop : o.op = .convert t u x) (ht : P.underlying t = some (.int k1)) (hu : P.underlying u = some (.int k2)) (hx : evS σ x = .a (.lit (.int k1 z))) (hz : k2.wrap z = z')
    (h : kv (.a (.lit (.int k2 z')))) : PK P F N o σ kv := by
  refine ⟨_, h, fun a w ω β hr => ?_⟩
  have ex : a.eval x = .int k1 z := ev_lit hr (by rw [evS_eq, hx]; rfl)
  refine ⟨.int k2 z', fun w' => ?_, rfl, rfl⟩
  generalize a.eval = ρ at ex ⊢
  simp [execOp, hop, go_sem, ex, convert, underlying, ht, hu, hz]
theorem PK.cvS {t u : Nat} {x : Operand} {k1 k2 : IntKind} {z : Int} {kv : V → Prop} (hop : o.op = .convert t u x) (ht : P.underlying t = some (.int k1)) (hu : P.underlying u = some (.int k2)) (hx : evS σ x = .a (.lit (.int k1 z))) (hz : k2.wrap z = z)
    (h : kv (.a (.lit (.int k2 z)))) : PK P F N o σ kv := PK.cvI z hop ht hu hx hz h
theorem OpK.ofP1 (hg : o.guard = none) (hd : okD N o.dst = true) (h : PK P F N o σ fun v => stO o σ v k) : OpK P F N o σ k := ⟨fun ops Q rest kk => by
  obtain ⟨v, hv, hp⟩ := h.ok
  exact AL.pure hg hd hp (stO_ok hd kk hv)⟩
theorem wr_u64 {x : Int} (h0 : 0 ≤ x) (h1 : x < 18446744073709551616) : wr .u64 x = x := by
  rw [wr_eq]; simp [IntKind.wrap, IntKind.bits, IntKind.signed]; omega
end
end Go.Tr
end

section
namespace Go.Proofs.Ytnclkdpocjhphaa
open Go Go.Tr
set_option maxRecDepth 100000
set_option linter.unusedVariables false
set_option linter.unusedSimpArgs false
def encI (x : Int) (_ : Nat) : TC := .lit (.int .i64 x)
def decI : List Value → Option Int
  | [.int .i64 x] => some x
  | _ => none
def tI (xs : List Int) : TC := .sl 3 1 Int encI decI 0 xs
def encL (x : List Int) (_ : Nat) : TC := tI x
def decL : List Value → Option (List Int) := fun _ => none
def tSL (e : Nat) (xs : List (List Int)) : TC := .sl e 1 (List Int) encL decL [] xs
abbrev Row := Int × Int
def encR (x : Row) : Nat → TC
  | 0 => .lit (.int .i64 x.1)
  | _ => .lit (.int .i64 x.2)
def decR : List Value → Option Row
  | [.int .i64 x, .int .i64 y] => some (x, y)
  | _ => none
def tR (e : Nat) (xs : List Row) : TC := .sl e 2 Row encR decR (0, 0) xs
def encLL (e : Nat) (x : List Row) (_ : Nat) : TC := tR e x
def decLL : List Value → Option (List Row) := fun _ => none
def tLL (e' e : Nat) (xs : List (List Row)) : TC := .sl e 1 (List Row) (encLL e') decLL [] xs
abbrev rR (o : RO) (f : Bool) (e : Nat) (xs : List Row) : TRoot := .ty o f e 2 Row encR decR (0, 0) xs
abbrev rLL (o : RO) (f : Bool) (e' e : Nat) (xs : List (List Row)) : TRoot := .ty o f e 1 (List Row) (encLL e') decLL [] xs
abbrev PinT := Bool × Int × Bool × Int
def encPin (x : PinT) : Nat → TC
  | 0 => .lit (.bool x.1)
  | 1 => .lit (.int .i64 x.2.1)
  | 2 => .lit (.bool x.2.2.1)
  | _ => .lit (.int .i64 x.2.2.2)
def decPin : List Value → Option PinT
  | [.bool x0, .int .i64 x1, .bool x2, .int .i64 x3] => some (x0, x1, x2, x3)
  | _ => none
abbrev zPin : PinT := (false, 0, false, 0)
def tPin (e : Nat) (xs : List PinT) : TC := .sl e 4 PinT encPin decPin zPin xs
abbrev rPin (o : RO) (f : Bool) (e : Nat) (xs : List PinT) : TRoot := .ty o f e 4 PinT encPin decPin zPin xs
abbrev aPin (x : PinT) : TAg := .agg [.c (.lit (.bool (x.1))), .c (.lit (.int .i64 x.2.1)), .c (.lit (.bool x.2.2.1)), .c (.lit (.int .i64 x.2.2.2))]
abbrev oPin (x : PinT) : TAr := .agg [.lit (.bool (x.1)), .lit (.int .i64 x.2.1), .lit (.bool x.2.2.1), .lit (.int .i64 x.2.2.2)]
abbrev vPin (x : PinT) : List Value := [Value.bool (x.1), Value.int .i64 (x.2.1), Value.bool (x.2.2.1), Value.int .i64 (x.2.2.2)]
def gT : Gt := ⟨tyT, 4, fun e =>
  if e = 3 then some ⟨Int, encI, decI, 0⟩
  else if e = 115 then some ⟨List Int, encL, decL, []⟩
  else if e = 277 then some ⟨Row, encR, decR, (0, 0)⟩
  else if e = 210 then some ⟨List Row, encLL 277, decLL, []⟩
  else if e = 274 then some ⟨PinT, encPin, decPin, zPin⟩
  else none⟩
theorem gOk : GOk Try.prog gT := ⟨tyOk, Try.underlying4⟩
def ti (x : Int) : TAg := .one (.c (.lit (.int .i64 x)))
def tb (x : Bool) : TAg := .one (.c (.lit (.bool x)))
def oi (x : Int) : TAr := .one (.lit (.int .i64 x))
def ob (x : Bool) : TAr := .one (.lit (.bool x))
abbrev vi (x : Int) : V := .a (.lit (.int .i64 x))
abbrev vb (x : Bool) : V := .a (.lit (.bool x))
abbrev vr (κ n : Nat) : V := .a (.ref κ 0 n)
abbrev rI (o : RO) (f : Bool) (xs : List Int) : TRoot := .ty o f 3 1 Int encI decI 0 xs
abbrev rSL (o : RO) (f : Bool) (e : Nat) (xs : List (List Int)) : TRoot := .ty o f e 1 (List Int) encL decL [] xs
theorem drop_cons {α : Type} {xs : List α} {i : Nat} (d : α) (h : i < xs.length) : xs.drop i = xs.getD i d :: xs.drop (i + 1) := by
  rw [List.drop_eq_getElem_cons h]; simp [List.getD, h]
end Go.Proofs.Ytnclkdpocjhphaa
end

section
/- bits.Mul of one and a small number. -/
namespace Go.Proofs.Ytnclkdpocjhphaa
open Go Go.Tr
set_option maxRecDepth 100000
set_option maxHeartbeats 4000000
set_option linter.unusedVariables false
set_option linter.unusedSimpArgs false
abbrev tu (n : Nat) : TAg := .one (.c (.lit (.int .u64 n)))
abbrev ou (n : Nat) : TAr := .one (.lit (.int .u64 n))
theorem mask_u (n : Nat) (h : n ≤ 4294967295) : wr .u64 ((BitVec.ofInt IntKind.u64.bits (n : Int) &&& BitVec.ofInt IntKind.u64.bits 4294967295).toNat) = n := by
  have e : ((BitVec.ofInt IntKind.u64.bits (n : Int) &&& BitVec.ofInt IntKind.u64.bits 4294967295).toNat) = n := by
    show ((BitVec.ofInt 64 (n : Int) &&& BitVec.ofInt 64 4294967295).toNat) = n
    rw [BitVec.toNat_and, BitVec.toNat_ofInt, BitVec.toNat_ofInt]
    have e1 : (((n : Int) % ((2 ^ 64 : Nat) : Int)).toNat) = n := by omega
    have e2 : (((4294967295 : Int) % ((2 ^ 64 : Nat) : Int)).toNat) = 2 ^ 32 - 1 := by decide
    rw [e1, e2, Nat.and_two_pow_sub_one_eq_mod]; omega
  rw [e, wr_u64 (by omega) (by omega)]
theorem Mul64_run (n : Nat) (h : n ≤ 1048576) : RunT Try.prog 196 [tu 1, tu n] [] [ou 0, ou n] [] := by
  have m1 := mask_u 1 (by omega)
  have mn := mask_u n (by omega)
  have m0 := mask_u 0 (by omega)
  have f1 : ((1 : Nat) : Int).fdiv (2 ^ min (Int.toNat 32) IntKind.u64.bits) = 0 := by decide
  have f0 : (0 : Int).fdiv (2 ^ min (Int.toNat 32) IntKind.u64.bits) = 0 := by decide
  have fn : (n : Int).fdiv (2 ^ min (Int.toNat 32) IntKind.u64.bits) = 0 := by
    show (n : Int).fdiv 4294967296 = 0
    rw [Int.fdiv_eq_ediv_of_nonneg _ (by decide)]; omega
  have w0 : wr .u64 0 = 0 := wr_u64 (by decide) (by decide)
  have wn : wr .u64 (n : Int) = n := wr_u64 (by omega) (by omega)
  simp only [Int.natCast_one, Int.natCast_zero] at m1 m0 f1
  refine RunT.of_vc gOk Try.func196 rfl rfl (Nat.le_of_ble_eq_true rfl) (by repeat' (first | exact trivial | exact ⟨_, rfl, Nat.le_refl _⟩ | exact Nat.le_of_ble_eq_true rfl | refine And.intro ?_ ?_)) (Nat.le_of_ble_eq_true rfl) rfl (fun F hE => ?_)
  repeat' (first | exact trivial | refine BS.d (fun h => ?_) (fun h => ?_) | refine BS.e (fun h => ?_) (fun h => ?_) | refine BS.ne (fun h => ?_) (fun h => ?_) | refine BS.n ?_ | refine BS.s (fun h => ?_) (fun h => ?_) | refine And.intro ?_ ?_ | (refine Need.mk ?_; first | with_reducible rfl | (show @Eq TC _ _; rfl) | omega | (simp only [adN_zero]; omega)) | exact OutS.whole rfl rfl | (refine PK.shr (n := 32) rfl rfl rfl rfl (by decide) ?_) | refine ListO.go gOk hE ?_)
  all_goals first
    | exact Need.mk trivial
    | (refine Need.mk ?_; (try simp only [Int.natCast_one, Int.natCast_zero]); simp only [m1, mn, f1, fn, w0, wn, f0, m0, Int.one_mul, Int.mul_one, Int.zero_mul, Int.mul_zero, Int.add_zero, Int.zero_add]; done)
    | trace_state
theorem Mul_run (n : Nat) (h : n ≤ 1048576) : RunT Try.prog 149 [tu 1, tu n] [] [ou 0, ou n] [] := by
  have c1 := Mul64_run n h
  refine RunT.of_vc gOk Try.func149 rfl rfl (Nat.le_of_ble_eq_true rfl) (by repeat' (first | exact trivial | exact ⟨_, rfl, Nat.le_refl _⟩ | exact Nat.le_of_ble_eq_true rfl | refine And.intro ?_ ?_)) (Nat.le_of_ble_eq_true rfl) rfl (fun F hE => ?_)
  repeat' (first | exact trivial | refine BS.d (fun h => ?_) (fun h => ?_) | refine BS.e (fun h => ?_) (fun h => ?_) | refine BS.ne (fun h => ?_) (fun h => ?_) | refine BS.n ?_ | refine BS.s (fun h => ?_) (fun h => ?_) | refine And.intro ?_ ?_ | (refine Need.mk ?_; first | with_reducible rfl | (show @Eq TC _ _; rfl) | omega | (simp only [adN_zero]; omega)) | exact OutS.whole rfl rfl | (refine OpK.call c1 rfl rfl rfl rfl hE ?_ rfl rfl ?_; focus ((repeat' (first | exact PsA.lit _ | exact PsA.ref rfl rfl | constructor)); all_goals (fail "ps"))) | refine ListO.go gOk hE ?_)
  all_goals trace_state
end Go.Proofs.Ytnclkdpocjhphaa
end

section
namespace Go.Proofs.Ytnclkdpocjhphaa
open Go Go.Tr
set_option maxRecDepth 100000
set_option linter.unusedVariables false
set_option linter.unusedSimpArgs false
/-- The first elements are laid down, the rest is as made. -/
theorem eqIntS_run (xs : List Int) (hn : xs.length ≤ 4000000) : RunT Try.prog 80 [.one (.c (tI xs)), .one (.c (tI xs))] [] [ob true] [] := by
  refine RunT.of_vc gOk Try.func80 rfl rfl (Nat.le_of_ble_eq_true rfl) (by repeat' (first | exact trivial | exact ⟨_, rfl, Nat.le_refl _⟩ | exact Nat.le_of_ble_eq_true rfl | refine And.intro ?_ ?_)) (Nat.le_of_ble_eq_true rfl) rfl (fun F hE => ?_)
  repeat' (first | exact trivial | refine BS.d (fun h => ?_) (fun h => ?_) | refine BS.e (fun h => ?_) (fun h => ?_) | refine BS.ne (fun h => ?_) (fun h => ?_) | refine BS.n ?_ | refine BS.s (fun h => ?_) (fun h => ?_) | refine And.intro ?_ ?_ | (refine Need.mk ?_; first | with_reducible rfl | (show @Eq TC _ _; rfl) | omega | (simp only [adN_zero]; omega)) | exact OutS.whole rfl rfl | refine ListO.go gOk hE ?_)
  · refine CodeK.loop gOk hE (fun i : Nat => ⟨[(0, vr 1000000 xs.length), (1, vr 1000001 xs.length), (5, vi i)], [(1000000, rI .fro false xs), (1000001, rI .fro false xs)]⟩) (fun i => i ≤ xs.length) (fun i => xs.length - i) 0 (by refine leT.of ?_ ?_ rfl <;> repeat' (first | exact trivial | refine And.intro rfl ?_ | refine And.intro (by simp) ?_)) (Nat.zero_le _) ?_
    rintro i hi
    repeat' (first | exact trivial | refine BS.d (fun h => ?_) (fun h => ?_) | refine BS.e (fun h => ?_) (fun h => ?_) | refine BS.ne (fun h => ?_) (fun h => ?_) | refine BS.n ?_ | refine BS.s (fun h => ?_) (fun h => ?_) | refine And.intro ?_ ?_ | (refine Need.mk ?_; first | with_reducible rfl | (show @Eq TC _ _; rfl) | omega | (simp only [adN_zero]; omega)) | exact OutS.whole rfl rfl | refine ListO.go gOk hE ?_)
    · refine CodeK.draw gOk hE rfl (fun _ _ h => h) (.take 0 (.take 1 (.take 2 (.take 4 (.take 5 (.take 6 (.alt 3 (.alt 7 (.take 8 .done) .stop) (.alt 7 (.alt 3 (.take 8 .done) .stop) .stop)))))))) (by decide +kernel) ?_
      repeat' (first | exact trivial | refine BS.d (fun h => ?_) (fun h => ?_) | refine BS.e (fun h => ?_) (fun h => ?_) | refine BS.ne (fun h => ?_) (fun h => ?_) | refine BS.n ?_ | refine BS.s (fun h => ?_) (fun h => ?_) | refine And.intro ?_ ?_ | (refine Need.mk ?_; first | with_reducible rfl | (show @Eq TC _ _; rfl) | omega | (simp only [adN_zero]; omega)) | exact OutS.whole rfl rfl | refine ListO.go gOk hE ?_)
      all_goals (refine ⟨i + 1, (by refine leT.of ?_ ?_ rfl <;> repeat' (first | exact trivial | refine And.intro rfl ?_ | refine And.intro (by simp) ?_)), ?_⟩; (refine And.intro ?_ ?_) <;> (first | omega | (dsimp only; omega) | trivial))
def fl {α : Type} (d : α) (xs : List α) (i : Nat) : List α := xs.take i ++ List.replicate (xs.length - i) d
theorem fl_zero {α : Type} (d : α) (xs : List α) : fl d xs 0 = List.replicate xs.length d := by simp [fl]
theorem fl_len {α : Type} (d : α) (xs : List α) (i : Nat) (h : i ≤ xs.length) : (fl d xs i).length = xs.length := by simp [fl]; omega
theorem fl_full {α : Type} (d : α) (xs : List α) (i : Nat) (h : ¬ i < xs.length) (h' : i ≤ xs.length) : fl d xs i = xs := by
  have : i = xs.length := by omega
  subst this; simp [fl]
theorem fl_set {α : Type} (d : α) (xs : List α) (i : Nat) (h : i < xs.length) : (fl d xs i).set i (xs.getD i d) = fl d xs (i + 1) := by
  apply List.ext_getElem
  · simp [fl]; omega
  · intro j h1 h2
    simp only [List.getElem_set, fl, List.getElem_append, List.length_take, List.getElem_take, List.getElem_replicate]
    by_cases e : i = j
    · subst e; simp [List.getD, h]
      omega
    · simp only [e, if_false]
      by_cases hj : j < i
      · rw [dif_pos (by omega), dif_pos (by omega)]
      · rw [dif_neg (by omega), dif_neg (by omega)]
def szI (xs : List Int) (m : Int) : Int := if m - xs.length < 0 then -1 else m - xs.length
theorem szIntS_run (xs : List Int) (m : Int) (h0 : 0 ≤ m) (h1 : m ≤ 1048576) (hn : xs.length ≤ 9223372036854775807) : RunT Try.prog 98 [.one (.c (tI xs)), ti m] [] [oi (szI xs m)] [] := by
  refine RunT.of_vc gOk Try.func98 rfl rfl (Nat.le_of_ble_eq_true rfl) (by repeat' (first | exact trivial | exact ⟨_, rfl, Nat.le_refl _⟩ | exact Nat.le_of_ble_eq_true rfl | refine And.intro ?_ ?_)) (Nat.le_of_ble_eq_true rfl) rfl (fun F hE => ?_)
  repeat' (first | exact trivial | refine BS.d (fun h => ?_) (fun h => ?_) | refine BS.e (fun h => ?_) (fun h => ?_) | refine BS.ne (fun h => ?_) (fun h => ?_) | refine BS.n ?_ | refine BS.s (fun h => ?_) (fun h => ?_) | refine And.intro ?_ ?_ | (refine Need.mk ?_; first | with_reducible rfl | (show @Eq TC _ _; rfl) | omega | (simp only [adN_zero]; omega)) | exact OutS.whole rfl rfl | refine ListO.go gOk hE ?_)
  all_goals (refine Need.mk ?_; unfold szI; first | rw [if_pos (by omega)] | rw [if_neg (by omega)])
theorem toIntS_run (xs : List Int) (hn : xs.length ≤ 1048576) : RunT Try.prog 102 [.one (.c (tI xs))] [] [.one (tI xs)] [] := by
  refine RunT.of_vc gOk Try.func102 rfl rfl (Nat.le_of_ble_eq_true rfl) (by repeat' (first | exact trivial | exact ⟨_, rfl, Nat.le_refl _⟩ | exact Nat.le_of_ble_eq_true rfl | refine And.intro ?_ ?_)) (Nat.le_of_ble_eq_true rfl) rfl (fun F hE => ?_)
  repeat' (first | exact trivial | refine BS.d (fun h => ?_) (fun h => ?_) | refine BS.e (fun h => ?_) (fun h => ?_) | refine BS.ne (fun h => ?_) (fun h => ?_) | refine BS.n ?_ | refine BS.s (fun h => ?_) (fun h => ?_) | refine And.intro ?_ ?_ | (refine Need.mk ?_; first | with_reducible rfl | (show @Eq TC _ _; rfl) | omega | (simp only [adN_zero]; omega)) | exact OutS.whole rfl rfl | refine ListO.go gOk hE ?_)
  refine CodeK.loop gOk hE (fun i : Nat => ⟨[(0, vr 1000000 xs.length), (3, vr 7 xs.length), (4, vi i)], [(7, rI .own true (fl 0 xs i)), (1000000, rI .fro false xs)]⟩) (fun i => i ≤ xs.length) (fun i => xs.length - i) 0 (by refine leT.of ?_ ?_ rfl <;> repeat' (first | exact trivial | refine And.intro rfl ?_ | refine And.intro (by simp [fl_zero] <;> rfl) ?_)) (Nat.zero_le _) ?_
  rintro i hi
  have hl := fl_len 0 xs i hi
  repeat' (first | exact trivial | refine BS.d (fun h => ?_) (fun h => ?_) | refine BS.e (fun h => ?_) (fun h => ?_) | refine BS.ne (fun h => ?_) (fun h => ?_) | refine BS.n ?_ | refine BS.s (fun h => ?_) (fun h => ?_) | refine And.intro ?_ ?_ | (refine Need.mk ?_; first | with_reducible rfl | (show @Eq TC _ _; rfl) | omega | (simp only [adN_zero]; omega)) | exact OutS.whole rfl rfl | refine ListO.go gOk hE ?_)
  · all_goals (refine ⟨i + 1, (by refine leT.of ?_ ?_ rfl <;> repeat' (first | exact trivial | refine And.intro rfl ?_ | refine And.intro (by first | (rw [← fl_set 0 xs i (by omega)]; rfl) | (simp <;> rfl)) ?_)), ?_⟩; (refine And.intro ?_ ?_) <;> (first | omega | (dsimp only; omega) | trivial))
  · exact OutS.whole hl.symm (by rw [fl_full _ _ _ (by omega) hi]; rfl)
theorem szI_le (x : List Int) (m : Int) (h0 : 0 ≤ m) : szI x m ≤ m ∧ -1 ≤ szI x m ∧ (0 ≤ szI x m → x.length ≤ m) := by
  unfold szI; split <;> omega
end Go.Proofs.Ytnclkdpocjhphaa
end

section
/- slices.Repeat of one number. -/
namespace Go.Proofs.Ytnclkdpocjhphaa
open Go Go.Tr
set_option maxRecDepth 100000
set_option maxHeartbeats 4000000
set_option linter.unusedVariables false
set_option linter.unusedSimpArgs false
def rpL {α : Type} (x z : α) (m n : Nat) : List α := List.replicate n x ++ List.replicate (m - n) z
theorem rpL_len {α : Type} (x z : α) {m n : Nat} (h : n ≤ m) : (rpL x z m n).length = m := by unfold rpL; simp; omega
theorem rpL_get {α : Type} (x z : α) {m n : Nat} (h : n ≤ m) (q : Nat) : (rpL x z m n).getD q z = if q < n then x else z := by
  unfold rpL
  simp only [List.getD]
  by_cases h1 : q < n
  · rw [List.getElem?_append_left (by simp; exact h1), List.getElem?_replicate, if_pos h1, if_pos h1]; rfl
  · rw [List.getElem?_append_right (by simp; omega), List.getElem?_replicate, if_neg h1]
    split <;> rfl
theorem rpL_full {α : Type} (x z : α) (m : Nat) : rpL x z m m = List.replicate m x := by unfold rpL; simp
theorem rep_getD {α : Type} (z : α) (m q : Nat) : (List.replicate m z).getD q z = z := by
  simp only [List.getD]; rw [List.getElem?_replicate]; split <;> rfl
theorem u64_id {z : Int} (h0 : 0 ≤ z) (h1 : z < 18446744073709551616) : IntKind.u64.wrap z = z := by rw [← wr_eq]; exact wr_u64 h0 h1
theorem RepI_run (x : Int) (m : Nat) (hm : m ≤ 1048576) : RunT Try.prog 79 [.one (.c (tI [x])), ti m] [] [.one (tI (List.replicate m x))] [] := by
  obtain ⟨vs, hvs⟩ : ∃ vs, vs = [x] := ⟨_, rfl⟩
  have hvl : vs.length = 1 := by rw [hvs]; rfl
  have hv0 : vs.getD 0 0 = x := by rw [hvs]; rfl
  have c1 : RunT Try.prog 149 [tu vs.length, tu m] [] [ou 0, ou m] [] := by rw [hvl]; exact Mul_run m hm
  rw [← hvs]
  have hflat : ∀ (y : Int) (r : Nat), r < 1 → ∃ v, encI y r = .lit v ∧ encI y r = .lit v := fun y r _ => ⟨_, rfl, rfl⟩
  refine RunT.of_vc gOk Try.func79 rfl rfl (Nat.le_of_ble_eq_true rfl) (by repeat' (first | exact trivial | exact ⟨_, rfl, Nat.le_refl _⟩ | exact Nat.le_of_ble_eq_true rfl | refine And.intro ?_ ?_)) (Nat.le_of_ble_eq_true rfl) rfl (fun F hE => ?_)
  repeat' (first | exact trivial | refine BS.d (fun h => ?_) (fun h => ?_) | refine BS.e (fun h => ?_) (fun h => ?_) | refine BS.ne (fun h => ?_) (fun h => ?_) | refine BS.n ?_ | refine BS.s (fun h => ?_) (fun h => ?_) | refine And.intro ?_ ?_ | (refine Need.mk ?_; first | with_reducible rfl | (show @Eq TC _ _; rfl) | omega | (simp only [adN_zero]; omega)) | exact OutS.whole rfl rfl | (refine OpK.call c1 rfl rfl rfl rfl hE ?_ rfl rfl ?_; focus ((repeat' (first | exact PsA.lit _ | exact PsA.ref rfl rfl | constructor)); all_goals (fail "ps"))) | (refine OpK.ofP1 rfl rfl (PK.cvS rfl Try.underlying3 Try.underlying203 rfl ?_ ?_)) | (refine OpK.ofP1 rfl rfl (PK.cvS rfl Try.underlying203 Try.underlying3 rfl ?_ ?_)) | (refine OpK.copyT gOk (rpL x 0 m (min 1 m)) rfl rfl rfl rfl rfl rfl rfl rfl rfl ?_ ?_ ?_ ?_) | refine ListO.go gOk hE ?_)
  all_goals first
    | (exfalso; omega)
    | (refine u64_id ?_ ?_ <;> omega)
    | (rw [← wr_eq, wr_in (by omega)])
    | (rw [rpL_len _ _ (by omega)]; simp; done)
    | (refine Need.mk ?_; first | omega | (refine ⟨?_, ?_⟩ <;> (try unfold maxLen) <;> omega))
    | (intro q r hq hr
       have hq1 := Nat.lt_of_lt_of_le hq (Nat.min_le_left _ _)
       have hq2 := Nat.lt_of_lt_of_le hq (Nat.min_le_right _ _)
       simp only [List.length_replicate, Int.toNat_natCast] at hq2
       obtain rfl : q = 0 := by omega
       rw [Nat.zero_add, hv0, rpL_get _ _ (by omega), if_pos (by omega)]
       exact hflat x r hr)
    | (intro q hq
       show (rpL x 0 m (min 1 m)).getD q 0 = (List.replicate (m : Int).toNat (0 : Int)).getD q 0
       rw [rep_getD, rpL_get _ _ (by omega)]
       split
       · exfalso; refine hq ⟨Nat.zero_le _, ?_⟩
         simp only [List.length_replicate, Int.toNat_natCast]
         rw [hvl, show Nat.min 1 m = min 1 m from rfl]; omega
       · rfl)
    | skip
  refine CodeK.loop gOk hE (fun n : Nat => ⟨[(7, vr 30 m), (8, vi n)], [(30, rI .own true (rpL x 0 m n))]⟩) (fun n => n ≤ m ∧ (m = 0 ∨ 1 ≤ n)) (fun n => m - n) (min 1 m) (by refine leT.of ?_ ?_ rfl <;> repeat' (first | exact trivial | refine And.intro rfl ?_ | refine And.intro (by first | rfl | (simp [hvl] <;> rfl)) ?_)) (by omega) ?_
  rintro n ⟨hi, hm1⟩
  have hl := rpL_len x 0 hi
  have hmn : (n : Int).toNat.min (m - (n : Int).toNat) = min n (m - n) := rfl
  obtain ⟨d, hd⟩ : ∃ d, d = min n (m - n) := ⟨_, rfl⟩
  rw [← hd] at hmn
  have hd1 : d ≤ n ∧ d ≤ m - n ∧ (n < m → 1 ≤ d) := by omega
  clear hd
  repeat' (first | exact trivial | refine BS.d (fun h => ?_) (fun h => ?_) | refine BS.e (fun h => ?_) (fun h => ?_) | refine BS.ne (fun h => ?_) (fun h => ?_) | refine BS.n ?_ | refine BS.s (fun h => ?_) (fun h => ?_) | refine And.intro ?_ ?_ | (refine Need.mk ?_; first | with_reducible rfl | (show @Eq TC _ _; rfl) | omega | (simp only [adN_zero]; omega)) | exact OutS.whole rfl rfl | (refine CodeK.draw gOk hE rfl (fun _ _ h => h) (.take 0 (.take 1 (.take 2 (.take 3 (.take 4 (.take 5 (.take 6 (.alt 7 (.take 8 (.take 9 .done)) .stop)))))))) ?_ ?_; focus (decide +kernel)) | (refine OpK.copyT gOk (rpL x 0 m (n + d)) rfl rfl rfl rfl rfl rfl rfl rfl rfl ?_ ?_ ?_ ?_) | refine ListO.go gOk hE ?_)
  all_goals (try simp only [adN_zero, hmn] at *)
  all_goals first
    | (exfalso; omega)
    | (rw [rpL_len _ _ (by omega), hl]; done)
    | (intro q r hq hr
       rw [Nat.zero_add, rpL_get _ _ (by omega), if_pos (by omega), rpL_get _ _ hi, if_pos (by omega)]
       exact hflat x r hr)
    | (intro q hq
       rw [rpL_get _ _ (by omega), rpL_get _ _ hi]
       by_cases h1 : q < n
       · rw [if_pos h1, if_pos (by omega)]
       · rw [if_neg h1, if_neg (by omega)])
    | (refine Need.mk ?_; omega)
    | (refine OutS.whole hl.symm ?_; rw [show n = m by omega, rpL_full]; rfl)
    | (refine ⟨n + d, (by refine leT.of ?_ ?_ rfl <;> repeat' (first | exact trivial | refine And.intro rfl ?_ | refine And.intro (by first | rfl | (refine litInt ?_; omega) | (simp <;> rfl)) ?_)), ⟨by omega, by omega⟩, by first | omega | (dsimp only; omega)⟩)
    | trace_state
end Go.Proofs.Ytnclkdpocjhphaa
end

section
/- The capacity of a row, whatever it is. -/
set_option linter.unusedVariables false
set_option linter.unusedSimpArgs false
universe u
namespace Go.Tr
open Go Go.RowKit
section
variable {P : Program} {F : Fm} {N : Nat} {G : Gt} {o : Oper} {ops : Array Oper} {l : List Oper} {σ : TS} {k : TS → Prop}
theorem OpK.cap (hG : GOk P G) {t e ke bs kt κ l0 n : Nat} {z : List ZC} {x : Operand} (hop : o.op = .call { callee := .builtin .cap, args := #[x], argTypes := #[t] }) (hg : o.guard = none) (hd : okD N o.dst = true) (ht : G.T t = some ⟨kt, .sl e ke bs, z⟩) (hx : evS σ x = .a (.ref κ l0 n))
    (h : ∀ c : Nat, n ≤ c → stO o σ (.a (.lit (.int .i64 c))) k) : OpK P F N o σ k := by
  refine ⟨fun ops Q rest kk => ?_⟩
  intro a w hr
  obtain ⟨ω, β, hrel⟩ := hr
  obtain ⟨h1, _⟩ := (hG.T t _ ht).kind
  have hx' := hrel.ev x
  rw [evS_eq, hx] at hx'
  obtain ⟨R1, e1, e2, A, c, e3, e4, e5, e6, e7, e8⟩ := hx'
  have hrun : ∀ w', (execOp a.eval o).run P w' = .ok (.value (.int .i64 c)) w' := fun w' => by
    generalize a.eval = ρ at e3 ⊢
    simp [execOp, hop, go_sem, e3, resolve, invoke, builtin, Builtin.cap_, underlying, h1, goInt]
  have hk := stO_ok hd kk (h c (by omega))
  have hv : VRel σ.er β w (.a (.lit (.int .i64 c))) (.int .i64 c) := VRel.lit rfl
  refine wpList_plain hg fun K hK => ?_
  unfold Oper.wp
  rw [hrun w, Oper.upon_value]
  exact hK _ _ (hk _ _ ⟨ω, β, hrel.putO hd hv⟩)
end
end Go.Tr
end

section
/- What lies beyond a row's length: a capacity that is known, elements that are there whatever they hold, an append of zeros that makes a new row; slices.overlaps of two rows. -/
set_option linter.unusedVariables false
set_option linter.unusedSimpArgs false
universe u
namespace Go.Tr
open Go Go.RowKit
/-- An element, or room for one. -/
def encO {X : Type} (enc : X → Nat → TC) : Option X → Nat → TC
  | some x, r => enc x r
  | none, _ => .any
def decO {X : Type} (dec : List Value → Option X) (l : List Value) : Option (Option X) := (dec l).map some
section
variable {P : Program} {F : Fm} {N : Nat} {σ : St} {a : Act} {w : World} {ω : Om} {β : Nat → Bs}
/-- A row of one element more, of which nothing is known. -/
theorem Rel1.reveal (h : Rel1 F N σ a w ω β) {κ : Nat} {R R' : Root} (hR : σ.rt κ = some R) (hf : R.full = true) (h1 : R'.o = R.o) (he : R'.e = R.e) (h3 : R'.k = R.k) (h4 : R'.n = R.n + 1) (hc : R.n + 1 ≤ (β κ).cap)
    (h5 : ∀ i r, i < R.n → r < R.k → R'.get i r = R.get i r) (h6 : ∀ r, r < R.k → R'.get R.n r = .cl .any) : Rel1 F N (σ.setR κ R') a w ω β := by
  have hrt : ∀ κ', (σ.setR κ R').rt κ' = if κ' = κ then some R' else σ.rt κ' := fun _ => rfl
  have href : ∀ {κ' lo n : Nat} {v : Value}, RefRel σ β κ' lo n v → RefRel (σ.setR κ R') β κ' lo n v := by
    rintro κ' lo n v ⟨R2, hR2, k1⟩
    by_cases e : κ' = κ
    · subst e; rw [hR] at hR2; injection hR2 with hR2; subst hR2; exact ⟨R', by rw [hrt, if_pos rfl], k1.le h3 (by omega)⟩
    · exact ⟨R2, by rw [hrt, if_neg e]; exact hR2, k1⟩
  have hat : ∀ i r g j, AtA R (β κ) i r g j → AtA R' (β κ) i r g j := fun i r g j ⟨o, e1, e2⟩ => ⟨o, e1, by rw [h3]; exact e2⟩
  refine ⟨h.tsz, h.dfr, fun t => VRel.same (fun x u hx => ?_) (fun κ' R2 hR2 => ⟨rfl, ?_⟩) (h.tmps t), fun κ' R2 hR2 => ?_, h.wr, h.fr, h.fz, fun ρ R2 hρ hR2 => ?_⟩
  rotate_left 3
  · by_cases e : 1000000 + ρ = κ
    · exact h.ex ρ R hρ (by rw [e]; exact hR)
    · rw [hrt, if_neg e] at hR2; exact h.ex ρ R2 hρ hR2
  · cases x with
    | any => exact hx
    | lit v => exact hx
    | nil e k => exact hx
    | ref κ' lo n => exact href hx
    | spot κ' i r =>
      obtain ⟨R2, g, j, hR2, hi, hr, hl, ha, hcu⟩ := hx
      by_cases e : κ' = κ
      · subst e; rw [hR] at hR2; injection hR2 with hR2; subst hR2
        exact ⟨R', g, j, by rw [hrt, if_pos rfl], by rw [h4]; omega, by rw [h3]; exact hr, by rw [h5 i r hi hr]; exact hl, hat _ _ _ _ ha, hcu⟩
      · exact ⟨R2, g, j, by rw [hrt, if_neg e]; exact hR2, hi, hr, hl, ha, hcu⟩
  · by_cases e : κ' = κ
    · subst e; rw [hR] at hR2; injection hR2 with hR2; subst hR2; exact ⟨R', by rw [hrt, if_pos rfl], h3⟩
    · exact ⟨R2, by rw [hrt, if_neg e]; exact hR2, rfl⟩
  · by_cases e : κ' = κ
    · subst e
      rw [hrt, if_pos rfl] at hR2; injection hR2 with hR2; subst hR2
      have h0 := h.roots κ' R hR
      obtain ⟨m0, m1, m2, m3, m4⟩ := h0.full hf
      refine ⟨fun i r hi hr hl => ?_, fun _ => ?_⟩
      · rw [h4] at hi; rw [h3] at hr
        by_cases hin : i < R.n
        · rw [h5 i r hin hr] at hl
          obtain ⟨g, j, u, k1, k2, k3, k4, k5⟩ := h0.cells i r hin hr hl
          refine ⟨g, j, u, hat _ _ _ _ k1, k2, by rw [h1]; exact k3, by rw [h1]; exact k4, ?_⟩
          unfold CellRel at k5 ⊢
          rw [h5 i r hin hr, h1]
          cases hg : R.get i r with
          | ref κ2 lo n => rw [hg] at k5; exact href k5
          | cl c => rw [hg] at k5; exact k5
        · obtain rfl : i = R.n := by omega
          rcases m4 with ⟨_, m5⟩ | ⟨g, cur, n1, n2, n3, n4⟩
          · omega
          · have hlt : R.n * R.k + r < (β κ').cap * R.k := lt_cap (i := R.n) (by omega) hr (Nat.le_refl _)
            obtain ⟨o1, u, o2, o3⟩ := n4 _ hlt
            refine ⟨g, R.n * R.k + r, u, ⟨0, n1, by rw [h3, Nat.zero_add]⟩, o2, by rw [h1, m1]; exact o1, fun _ => by simp [World.frozen?, n2], ?_⟩
            unfold CellRel
            rw [h6 r hr]
            exact o3
      · rw [h1, h3, h4, he]
        exact ⟨fun i r hi hr => by
          by_cases hin : i < R.n
          · rw [h5 i r hin hr]; exact m0 i r hin hr
          · rw [show i = R.n by omega, h6 r hr]; rfl, m1, hc, m3, m4⟩
    · rw [hrt, if_neg e] at hR2
      exact (h.roots κ' R2 hR2).upd (fun i r κ2 lo n _ u hu => href hu) rfl (Meta.refl w) (fun b j x hx _ => ⟨hx, rfl⟩)
theorem AC.know {c : Code} {Q : Exit → St → Prop} (ρ : Nat) (hρ : F.nE ≤ ρ) (h : ∀ F' : Fm, F'.nE = ρ + 1 → AC P F' N c Q σ) : AC P F N c Q σ := by
  rintro a w ⟨ω, β, hr⟩
  refine wp_mono (h { F with nE := ρ + 1, E := fun i => if i < F.nE then F.E i else β (1000000 + i) } rfl a w ⟨ω, β, hr.tsz, hr.dfr, hr.tmps, hr.roots, hr.wr, hr.fr, hr.fz, fun i R hi hR => ?_⟩) (fun e a w hq => ?_)
  · show _ = if i < F.nE then F.E i else β (1000000 + i)
    split
    · rename_i hi2; exact hr.ex i R hi2 hR
    · rfl
  · obtain ⟨σ', h1, ω', β', h2⟩ := hq
    refine ⟨σ', h1, ω', β', h2.tsz, h2.dfr, h2.tmps, h2.roots, h2.wr, h2.fr, h2.fz, fun i R hi hR => ?_⟩
    have := h2.ex i R (by show i < ρ + 1; omega) hR
    rw [this]
    show (if i < F.nE then F.E i else _) = _
    rw [if_pos hi]
end
section
variable {P : Program} {F : Fm} {N : Nat} {G : Gt} {o : Oper} {ops : Array Oper} {l : List Oper} {σ : TS} {k : TS → Prop} {Q : Exit → TS → Prop} {c : Code}
/-- The capacity of a row that was handed in becomes a number. -/
theorem CodeK.know (ρ : Nat) (hρ : F.nE ≤ ρ) (h : ∀ F' : Fm, F'.nE = ρ + 1 → CodeK P F' N c σ Q) : CodeK P F N c σ Q :=
  ⟨AC.know ρ hρ (fun F' hF => (h F' hF).h)⟩
theorem OpK.capE (hG : GOk P G) {t e ke bs kt κ n ρ : Nat} {z : List ZC} {x : Operand} (hρ : ρ < F.nE) (hop : o.op = .call { callee := .builtin .cap, args := #[x], argTypes := #[t] }) (hg : o.guard = none) (hd : okD N o.dst = true) (ht : G.T t = some ⟨kt, .sl e ke bs, z⟩) (hx : evS σ x = .a (.ref κ 0 n)) (hκ : κ = 1000000 + ρ)
    (h : stO o σ (.a (.lit (.int .i64 (F.E ρ).cap))) k) : OpK P F N o σ k := by
  refine ⟨fun ops Q rest kk => ?_⟩
  rintro a w ⟨ω, β, hrel⟩
  obtain ⟨h1, _⟩ := (hG.T t _ ht).kind
  have hx' := hrel.ev x
  rw [evS_eq, hx] at hx'
  obtain ⟨R1, e1, e2, A, c, e3, e4, e5, e6, e7, e8⟩ := hx'
  have hc : c = (F.E ρ).cap := by
    rw [(e7 rfl).2, hκ, hrel.ex ρ R1 hρ (by rw [← hκ]; exact e1)]
  subst hc
  have hrun : ∀ w', (execOp a.eval o).run P w' = .ok (.value (.int .i64 (F.E ρ).cap)) w' := fun w' => by
    generalize a.eval = ρ' at e3 ⊢
    simp [execOp, hop, go_sem, e3, resolve, invoke, builtin, Builtin.cap_, underlying, h1, goInt]
  have hk := stO_ok hd kk h
  have hv : VRel σ.er β w (.a (.lit (.int .i64 (F.E ρ).cap))) (.int .i64 (F.E ρ).cap) := VRel.lit rfl
  refine wpList_plain hg fun K hK => ?_
  unfold Oper.wp
  rw [hrun w, Oper.upon_value]
  exact hK _ _ (hk _ _ ⟨ω, β, hrel.putO hd hv⟩)
theorem encO_get {X : Type} {enc : X → Nat → TC} (d : X) (xs : List X) (i r : Nat) (hi : i < xs.length) : encO enc ((xs.map some ++ [none]).getD i none) r = enc (xs.getD i d) r := by
  have h1 : (xs.map some ++ [none]).getD i none = some (xs.getD i d) := by
    simp only [List.getD, List.getElem?_append_left (show i < (xs.map some).length by simp; exact hi), List.getElem?_map, List.getElem?_eq_getElem hi, Option.map_some, Option.getD_some]
  rw [h1]; rfl
/-- There is room for one more: the row is told with it. -/
theorem CodeK.reveal {κ e kw ρ : Nat} {X : Type} {enc : X → Nat → TC} {dec : List Value → Option X} {d : X} {xs : List X} (hρ : ρ < F.nE) (hκ : κ = 1000000 + ρ) (hc : xs.length + 1 ≤ (F.E ρ).cap) (hR : lkR σ.r κ = some (.ty .own true e kw X enc dec d xs))
    (h : fS ⟨σ.t, (κ, .ty .own true e kw (Option X) (encO enc) (decO dec) none (xs.map some ++ [none])) :: erl σ.r κ⟩ fun σ => CodeK P F N c σ Q) : CodeK P F N c σ Q := by
  rw [fS_eq] at h
  refine ⟨?_⟩
  rintro a w ⟨ω, β, hr⟩
  have hb : β κ = F.E ρ := by rw [hκ]; exact hr.ex ρ _ hρ (by rw [← hκ]; exact TS.rt_some hR)
  have h2 := hr.reveal (R' := (TRoot.ty .own true e kw (Option X) (encO enc) (decO dec) none (xs.map some ++ [none])).er) (TS.rt_some hR) rfl rfl rfl rfl (by show (xs.map some ++ [none]).length = xs.length + 1; simp) (by rw [hb]; exact hc)
    (fun i r hi hr' => by rw [ty_get, ty_get]; show Cl.cl ((encO enc _ r).er _) = Cl.cl ((enc _ r).er _); rw [encO_get d xs i r hi])
    (fun r hr' => by
      rw [ty_get]
      show Cl.cl ((encO enc ((xs.map some ++ [none]).getD xs.length none) r).er _) = _
      have h0 : (xs.map some ++ [(none : Option X)]).getD xs.length none = none := by simp [List.getD, List.getElem?_append_right]
      rw [h0]
      rfl)
  refine h.h a w (le_lk (s := σ.er.setR κ (TRoot.ty .own true e kw (Option X) (encO enc) (decO dec) none (xs.map some ++ [none])).er) (fun t' => .inr ?_) (fun κ' => ?_) F N a w ⟨ω, β, h2⟩)
  · exact (TS.tv_er σ t').symm
  · show OSim (if κ' = κ then some _ else σ.er.rt κ') _
    rw [lkR_cons, lkR_erl]
    by_cases e1 : κ' = κ
    · rw [if_pos e1, if_pos e1]; exact OSim.rfl _
    · rw [if_neg e1, if_neg e1, if_neg e1, TS.rt_er]; exact OSim.rfl _
theorem CodeK.revealR {b : Code} {id : Nat} (n : Nat) {κ e kw ρ : Nat} {X : Type} {enc : X → Nat → TC} {dec : List Value → Option X} {d : X} {xs : List X} (hid : id = n) (hρ : ρ < F.nE) (hκ : κ = 1000000 + ρ) (hc : xs.length + 1 ≤ (F.E ρ).cap) (hR : lkR σ.r κ = some (.ty .own true e kw X enc dec d xs))
    (h : fS ⟨σ.t, (κ, .ty .own true e kw (Option X) (encO enc) (decO dec) none (xs.map some ++ [none])) :: erl σ.r κ⟩ fun σ => CodeK P F N (.seq (.region id ops false) b) σ Q) : CodeK P F N (.seq (.region id ops false) b) σ Q := CodeK.reveal hρ hκ hc hR h
/-- All of its elements are known: the row is told as one of elements again. -/
theorem CodeK.retell {κ e kw : Nat} {X : Type} {enc : X → Nat → TC} {decx : List Value → Option (Option X)} (dec : List Value → Option X) (d : X) (ys : List X) (hR : lkR σ.r κ = some (.ty .own true e kw (Option X) (encO enc) decx none (ys.map some)))
    (h : fS ⟨σ.t, (κ, .ty .own true e kw X enc dec d ys) :: erl σ.r κ⟩ fun σ => CodeK P F N c σ Q) : CodeK P F N c σ Q := by
  rw [fS_eq] at h
  refine ⟨AC.le (le_lk (fun t' => .inr ?_) (fun κ' => ?_)) h.h⟩
  · exact (TS.tv_er σ t').symm
  · rw [lkR_cons, lkR_erl, TS.rt_er]
    by_cases e1 : κ' = κ
    · subst e1
      rw [if_pos rfl, hR]
      refine ⟨rfl, fun hf => ⟨hf, rfl⟩, rfl, (by show ys.length = (ys.map some).length; simp), fun i r hi hr' => ?_⟩
      have hi' : i < ys.length := by have : i < (ys.map some).length := hi; simpa using this
      rw [ty_get, ty_get]
      show ClSim (Cl.cl ((encO enc ((ys.map some).getD i none) r).er _)) (Cl.cl ((enc (ys.getD i d) r).er _))
      rw [show (ys.map some).getD i none = some (ys.getD i d) by simp [List.getD, hi']]
      exact CSame.rfl _
    · rw [if_neg e1, if_neg e1]; exact OSim.rfl _
theorem CodeK.retellR {b : Code} {id : Nat} (n : Nat) {κ e kw : Nat} {X : Type} {enc : X → Nat → TC} {decx : List Value → Option (Option X)} (dec : List Value → Option X) (d : X) (ys : List X) (hid : id = n) (hR : lkR σ.r κ = some (.ty .own true e kw (Option X) (encO enc) decx none (ys.map some)))
    (h : fS ⟨σ.t, (κ, .ty .own true e kw X enc dec d ys) :: erl σ.r κ⟩ fun σ => CodeK P F N (.seq (.region id ops false) b) σ Q) : CodeK P F N (.seq (.region id ops false) b) σ Q := CodeK.retell dec d ys hR h
/-- An append of m zeros to the first elements of a row that has no room for them: a new row. -/
theorem OpK.growP (hG : GOk P G) {s x : Operand} {t tn e ke bs kt d' κ i e0 ρ : Nat} {kn : IntKind} {m : Nat} {zt z : List ZC} {kd : TK} {X : Type} {enc : X → Nat → TC} {dec : List Value → Option X} {d : X} {xs : List X} {mi : Int} {full : Bool} (zx : X) (hρ : ρ < F.nE)
    (hop : o.op = .call { callee := .builtin .append, args := #[s, x], argTypes := #[t, tn] }) (hg : o.guard = none) (hdst : o.dst = some d') (hd : okD N o.dst = true)
    (ht : G.T t = some ⟨kt, .sl e ke bs, zt⟩) (he : G.T e = some ⟨ke, kd, z⟩) (htn : P.underlying tn = some (.int kn)) (hs : evS σ s = .a (.ref κ 0 i)) (hR : lkR σ.r κ = some (.ty .own full e0 ke X enc dec d xs)) (hκ : κ = 1000000 + ρ) (hi : i ≤ xs.length)
    (hx : evS σ x = .a (.lit (.int .i64 mi))) (hmi : mi = (m : Int)) (hm : 0 < m) (hcap : (F.E ρ).cap < i + m) (hmx : i + m ≤ maxLen ∧ (i + m) * bs ≤ 140737488355328)
    (hz : ∀ r, r < ke → ∃ v, enc zx r = .lit v ∧ z[r]? = some (.lit v) ∧ scal v = true) (hfl : ∀ j r, j < i → r < ke → ∃ v, enc (xs.getD j d) r = .lit v) (hf : (lkR σ.r d').isNone = true) (hdd : d' < 1000000)
    (h : setK σ d' (.ty .own true e ke X enc dec d (xs.take i ++ List.replicate m zx)) fun σ => putK σ d' (.a (.ref d' 0 (i + m))) k) : OpK P F N o σ k := by
  subst hmi
  refine ⟨fun ops Q rest kk => ?_⟩
  obtain ⟨h1, inf, zv, h2, h3, h4, h5, h6, h7, hzo⟩ := (hG.T t _ ht).kind
  have hF := hG.T e _ he
  obtain ⟨inf', zv', g3, g4, g5, g6⟩ := hF.info
  rw [h2] at g3; injection g3 with g3; subst g3
  rw [h5] at g5; injection g5 with g5; subst g5
  have hlt : (xs.take i).length = i := by rw [List.length_take]; omega
  refine AL.step (σ' := σ.er.setR d' (TRoot.ty .own true e ke X enc dec d (xs.take i ++ List.replicate m zx)).er) (v := .a (.ref d' 0 (i + m))) hg hd (fun a w ω β hr => ?_) ?_
  · have hs' := hr.ev s
    rw [evS_eq, hs] at hs'
    obtain ⟨R1, q1, q2, A, c, q3, q4, q5, q6, q7, q8⟩ := hs'
    rw [TS.rt_some hR] at q1; injection q1 with q1
    have hcE : c = (F.E ρ).cap := by rw [(q7 rfl).2, hκ, hr.ex ρ _ hρ (by rw [← hκ]; exact TS.rt_some hR)]
    subst hcE
    have hAe := (q7 rfl).1
    have hk1 : R1.k = ke := by rw [← q1]; rfl
    obtain ⟨us, u1, u2, u3, u4⟩ := hr.cellsOf (κs := κ) (ls := 0) (m := i) (ke := ke) (A' := A) (TS.rt_some hR) rfl rfl (by show 0 + i ≤ xs.length; omega) (fun hp => by
      obtain ⟨g, o, f1, f2⟩ := q8 hp
      exact ⟨g, o, f1, by rw [f2, hk1]; rfl⟩)
    have hul : ∀ j r, j < i → r < ke → ∃ v, enc (xs.getD j d) r = .lit v ∧ us[j * ke + r]? = some v ∧ scal v = true := by
      intro j r hj hr'
      obtain ⟨v, v1⟩ := hfl j r hj hr'
      obtain ⟨u, k1, k2, k3⟩ := u2 j r hj hr'
      rw [Nat.zero_add] at k2
      change ARel σ.er β w (flatA ((enc (xs.getD j d) r).er _)) u at k2
      rw [v1] at k2
      obtain ⟨k4, k5⟩ := k2
      subst k4
      exact ⟨_, v1, k1, k5⟩
    have hfc : (Builtin.firstCells inf.size i (.slice A i (F.E ρ).cap)).run P w.drew = .ok us.toArray w.drew := by
      cases A with
      | none =>
        have hi0 : i = 0 := by
          rcases Nat.eq_zero_or_pos i with h | h
          · exact h
          · obtain ⟨g, o, _, f2⟩ := q8 h; cases f2
        subst hi0
        have : us = [] := List.eq_nil_of_length_eq_zero (by rw [u1, Nat.zero_mul])
        subst this
        exact run_firstCells_none _ _ _ _ _
      | some x0 =>
        have hl := run_loadCells_list (P := P) w.drew x0 us (fun j v hj => u4 x0 rfl j v hj)
        simp only [Builtin.firstCells]
        rw [h3, ← u1]; exact hl
    have hge := grownCap_ge w (i + m) (F.E ρ).cap e
    have hle := grownCap_le_maxLen w (i + m) (F.E ρ).cap e hmx.1
    have hgs : (us.toArray ++ Builtin.zeroCells zv.cells m ++ Builtin.zeroCells zv.cells (grownCap w (i + m) (F.E ρ).cap e - (i + m))).size = grownCap w (i + m) (F.E ρ).cap e * ke := by
      simp only [Array.size_append, List.size_toArray, size_zeroCells, h6, u1, ← Nat.add_mul]
      congr 1; omega
    have hzc : ∀ q r n, q < n → r < ke → (Builtin.zeroCells zv.cells n)[q * ke + r]? = (z[r]?).map ZC.val := by
      intro q r n hq hr'
      have hlt2 : q * ke + r < n * ke := lt_cap hq hr' (Nat.le_refl _)
      unfold Builtin.zeroCells
      rw [Array.getElem?_map, Array.getElem?_range, h6, if_pos hlt2]
      simp only [Option.map_some, Nat.mul_comm q ke, Nat.mul_add_mod, Nat.mod_eq_of_lt hr']
      have : zv.cells[r]? = (z[r]?).map ZC.val := by rw [← Array.getElem?_toList, g6, List.getElem?_map]
      rw [← this, getElem!_pos zv.cells r (by omega)]
      exact (Array.getElem?_eq_getElem _).symm
    have hr1 := (hr.drew).alloc (okK_lt hdd) (none_of hf) (cs := us.toArray ++ Builtin.zeroCells zv.cells m ++ Builtin.zeroCells zv.cells (grownCap w (i + m) (F.E ρ).cap e - (i + m))) (e := e) (cap := grownCap w (i + m) (F.E ρ).cap e) (R := (TRoot.ty .own true e ke X enc dec d (xs.take i ++ List.replicate m zx)).er) rfl (fun j r hj hr' _ => ?_) (fun _ => ⟨fun _ _ _ _ => rfl, rfl, ?_, hle, hgs, ?_⟩)
    · refine ⟨.slice (some ⟨w.heap.size, 0, none⟩) (i + m) (grownCap w (i + m) (F.E ρ).cap e), _, _, _, ?_, hr1, ?_⟩
      · have e2 : a.eval x = .int .i64 m := ev_lit hr (by rw [evS_eq, hx]; rfl)
        have hrun := Lib.run_append_grow_zeros (P := P) w t tn o.type e inf zv .i64 kn h1 htn h2 h5 A i (F.E ρ).cap us hfc m hm (by rw [h3]; exact h7) hcap (by have := hmx.1; unfold maxLen at this; omega) (by rw [h4]; have := Nat.le_trans (Nat.mul_le_mul_right bs (show m ≤ i + m by omega)) hmx.2; omega) (growslice_fits (by omega) (by rw [h4]; exact hmx.2))
        generalize a.eval = ρ' at q3 e2 ⊢
        simp [execOp, hop, resolve, invoke, builtin, q3, e2, hrun]
      · exact ⟨_, by show (if d' = d' then _ else _) = _; rw [if_pos rfl], by show 0 + (i + m) ≤ (xs.take i ++ List.replicate m zx).length; simp; omega, some ⟨w.heap.size, 0, none⟩, grownCap w (i + m) (F.E ρ).cap e, rfl, hge, hle, (by intro e; cases e), fun _ => by simp, fun _ => ⟨w.heap.size, 0, by simp, by simp⟩⟩
    · change j < (xs.take i ++ List.replicate m zx).length at hj
      change r < ke at hr'
      have hj2 : j < i + m := by rw [List.length_append, hlt, List.length_replicate] at hj; exact hj
      show ∃ u, _[j * ke + r]? = some u ∧ LayAt _ ω β w.drew d' j r (Root.get _ j r) u
      rw [ty_get]
      by_cases h8 : j < i
      · obtain ⟨v, v1, v2, v3⟩ := hul j r h8 hr'
        have hlt3 : j * ke + r < us.length := by rw [u1]; exact lt_cap h8 hr' (Nat.le_refl _)
        refine ⟨v, ?_, ?_⟩
        · rw [← Array.getElem?_toList]
          simp only [Array.toList_append, List.append_assoc]
          rw [List.getElem?_append_left hlt3]; exact v2
        · show LayAt _ ω β w.drew d' j r (.cl ((enc ((xs.take i ++ List.replicate m zx).getD j d) r).er .own)) v
          rw [show (xs.take i ++ List.replicate m zx).getD j d = xs.getD j d by
            simp only [List.getD]; rw [List.getElem?_append_left (by omega), List.getElem?_take, if_pos h8], v1]
          exact ⟨rfl, v3⟩
      · obtain ⟨v, v1, v2, v3⟩ := hz r hr'
        obtain ⟨q, rfl⟩ : ∃ q, j = i + q := ⟨j - i, by omega⟩
        refine ⟨v, ?_, ?_⟩
        · rw [← Array.getElem?_toList]
          simp only [Array.toList_append, List.append_assoc]
          rw [List.getElem?_append_right (by rw [u1, Nat.add_mul]; omega), show (i + q) * ke + r - us.length = q * ke + r by rw [u1, Nat.add_mul]; omega, List.getElem?_append_left (by simp only [Array.length_toList, size_zeroCells, h6]; exact lt_cap (by omega) hr' (Nat.le_refl _)), Array.getElem?_toList, hzc q r m (by omega) hr', v2]
          rfl
        · show LayAt _ ω β w.drew d' (i + q) r (.cl ((enc ((xs.take i ++ List.replicate m zx).getD (i + q) d) r).er .own)) v
          rw [show (xs.take i ++ List.replicate m zx).getD (i + q) d = zx by
            simp only [List.getD]; rw [List.getElem?_append_right (by omega), List.getElem?_replicate, if_pos (by omega)]; rfl, v1]
          exact ⟨rfl, v3⟩
    · show (xs.take i ++ List.replicate m zx).length ≤ _
      rw [List.length_append, hlt, List.length_replicate]; exact hge
    · intro j u hu
      rw [Array.getElem?_append] at hu
      split at hu
      · rw [Array.getElem?_append] at hu
        split at hu
        · exact u3 u (List.mem_of_getElem? (by simpa using hu))
        · exact zo_mod hzo (.inr (by omega)) hu
      · exact zo_mod hzo (.inr (by omega)) hu
  · rw [hdst]
    exact new_ok (v := .a (.ref d' 0 (i + m))) (R := .ty .own true e ke X enc dec d (xs.take i ++ List.replicate m zx)) (RSim.rfl _) kk h
end
end Go.Tr
end

section
/- slices.overlaps of two rows of one's own: false. -/
set_option linter.unusedVariables false
set_option linter.unusedSimpArgs false
universe u
namespace Go.Tr
open Go Go.RowKit
section
variable {P : Program} {F : Fm} {N : Nat} {G : Gt} {o : Oper} {σ : TS} {k : TS → Prop}
theorem run_ovl0 {P : Program} (w : World) (tS tR e : TypeId) (ht : P.underlying tS = some (.slice e)) (size : Nat) (hz : ∀ w, (Go.sizeOf e).run P w = .ok size w) (A B : Option Addr) (la ca lb cb : Nat) (h0 : A = none ∨ B = none ∨ la = 0 ∨ lb = 0) :
    (Extern.SlicesOverlaps.overlaps #[tS, tS] #[tR] #[.slice A la ca, .slice B lb cb]).run P w = .ok (.bool false) w := by
  change Sem.run P (α := Value) (do
    let some t := (#[tS, tS] : Array TypeId)[0]? | stuck "slices.overlaps: no parameter types"
    let .slice elem ← underlying t | stuck "slices.overlaps: slice type expected"
    let size ← sizeOf elem
    match A, B with
    | some a, some b =>
      if la = 0 ∨ lb = 0 ∨ size = 0 then pure (Value.bool false)
      else if a.block != b.block && (← frozen a) && (← frozen b) then unsupported .addressObserved
      else do
        if a.block != b.block then do
          noView a; noView b
          if ← mayBeOne a b then return Value.bool ((← choose (.extern "sameAddr.stringBytes" 2)) == 1)
        pure (Value.bool (a.block == b.block && a.off < b.off + lb * size && b.off < a.off + la * size))
    | _, _ => pure (Value.bool false)) w = _
  cases A with
  | none => simp [run_underlying ht, hz]
  | some a =>
    cases B with
    | none => simp [run_underlying ht, hz]
    | some b =>
      have : la = 0 ∨ lb = 0 := by rcases h0 with h | h | h | h; cases h; cases h; exact .inl h; exact .inr h
      have h3 : la = 0 ∨ lb = 0 ∨ size = 0 := by omega
      simp [run_underlying ht, hz, h3]
theorem OpK.ovl (hG : GOk P G) {f : FuncId} {fn : Func} {ags : Array Operand} {ats : Array TypeId} {fx x y : Operand} {t tR e ke bs kt κ1 κ2 l1 l2 n1 n2 e1 e2 k1 : Nat} {zt : List ZC} {X Y : Type} {enc1 : X → Nat → TC} {dec1 : List Value → Option X} {d1 : X} {xs1 : List X} {enc2 : Y → Nat → TC} {dec2 : List Value → Option Y} {d2 : Y} {xs2 : List Y}
    (hop : o.op = .call ⟨.value fx, ags, ats⟩) (hags : ags = #[x, y]) (hfx : evS σ fx = .a (.lit (.func (.func f) #[] #[]))) (hg : o.guard = none) (hd : okD N o.dst = true)
    (hf : P.funcs[f]? = some fn) (hname : (fn.name == "runtime.NumGoroutine") = false) (hb : fn.body.isNone = true) (hn : Extern.findNext fn = none) (he : Extern.find fn = some (Extern.SlicesOverlaps.overlaps #[t, t] #[tR]))
    (ht : G.T t = some ⟨kt, .sl e ke bs, zt⟩) (hx : evS σ x = .a (.ref κ1 l1 n1)) (hy : evS σ y = .a (.ref κ2 l2 n2)) (hR1 : lkR σ.r κ1 = some (.ty .own true e1 k1 X enc1 dec1 d1 xs1)) (hR2 : lkR σ.r κ2 = some (.ty .own true e2 ke Y enc2 dec2 d2 xs2)) (hk1 : k1 = ke) (hne : Nat.beq κ1 κ2 = false)
    (h : stO o σ (.a (.lit (.bool false))) k) : OpK P F N o σ k := by
  simp only [beq_dec, decide_eq_false_iff_not] at hne
  subst hags hk1
  refine ⟨fun ops Q rest kk => ?_⟩
  rintro a w ⟨ω, β, hr⟩
  obtain ⟨h1, inf, zv, h2, h3, h4, h5, h6, h7, hzo⟩ := (hG.T t _ ht).kind
  have hsz : ∀ w, (Go.sizeOf e).run P w = .ok k1 w := fun w => by simp [sizeOf, typeInfo, h2, h3]
  have hx' := hr.ev x
  rw [evS_eq, hx] at hx'
  obtain ⟨R1, a1, a2, A, c1, a3, a4, a5, a6, a7, a8⟩ := hx'
  rw [TS.rt_some hR1] at a1; injection a1 with a1; subst a1
  have hy' := hr.ev y
  rw [evS_eq, hy] at hy'
  obtain ⟨R2, b1, b2, B, c2, b3, b4, b5, b6, b7, b8⟩ := hy'
  rw [TS.rt_some hR2] at b1; injection b1 with b1; subst b1
  have hov : (Extern.SlicesOverlaps.overlaps #[t, t] #[tR] #[.slice A n1 c1, .slice B n2 c2]).run P w = .ok (.bool false) w := by
    by_cases h0 : n1 = 0 ∨ n2 = 0
    · exact run_ovl0 w t tR e h1 _ hsz A B n1 c1 n2 c2 (by omega)
    · obtain ⟨g1, o1, f1, f2⟩ := a8 (by omega)
      obtain ⟨g2, o2, f3, f4⟩ := b8 (by omega)
      obtain ⟨m0, m1, m2, m3, m4⟩ := (hr.roots κ1 _ (TS.rt_some hR1)).full rfl
      obtain ⟨p0, p1, p2, p3, p4⟩ := (hr.roots κ2 _ (TS.rt_some hR2)).full rfl
      rcases m4 with ⟨m5, _⟩ | ⟨u1, cur1, m5, m6, m7, m8⟩
      · rw [m5] at f1; cases f1
      rcases p4 with ⟨p5, _⟩ | ⟨u2, cur2, p5, p6, p7, p8⟩
      · rw [p5] at f3; cases f3
      rw [m5] at f1; injection f1 with f1; injection f1 with q1 q2 _
      rw [p5] at f3; injection f3 with f3; injection f3 with q3 q4 _
      subst q1 q2 q3 q4
      have w1 : 0 < (β κ1).cap * k1 := by
        have : 0 < (β κ1).cap := by have : l1 + n1 ≤ _ := a2; omega
        exact Nat.mul_pos this h7
      have w2 : 0 < (β κ2).cap * k1 := by
        have : 0 < (β κ2).cap := by have : l2 + n2 ≤ _ := b2; omega
        exact Nat.mul_pos this h7
      have hgg : u1 ≠ u2 := by
        rintro rfl
        have t1 := (m8 0 w1).1
        have t2 := (p8 0 w2).1
        rw [t1] at t2; injection t2 with t2; injection t2 with t2; exact hne t2
      rw [f2, f4]
      refine Lib.run_overlaps_apart w t tR e h1 _ hsz _ _ n1 c1 n2 c2 hgg e1 e2 cur1.size cur2.size ?_ ?_ ?_ ?_ ?_
      · simp [World.shape?, m6]; rfl
      · simp [World.shape?, p6]; rfl
      · change cur2.size = (β κ2).cap * k1 at p7; omega
      · simp [World.frozen?, m6]
      · simp [World.frozen?, m6]
  have hrun : (execOp a.eval o).run P w = .ok (.value (.bool false)) w := by
    have hfv : a.eval fx = .func (.func f) #[] #[] := ev_lit (v := .func (.func f) #[] #[]) hr (by rw [evS_eq, hfx]; rfl)
    have hcf := run_callFunc_extern hf hname hb hn he #[a.eval x, a.eval y] w
    rw [a3, b3, hov] at hcf
    unfold execOp
    simp [hop, resolve, Deferred.ofValue, invoke, hfv, a3, b3, hcf]
  have hk := stO_ok hd kk h
  have hv : VRel σ.er β w (.a (.lit (.bool false))) (.bool false) := VRel.lit rfl
  refine wpList_plain hg fun K hK => ?_
  unfold Oper.wp
  rw [hrun, Oper.upon_value]
  exact hK _ _ (hk _ _ ⟨ω, β, hr.putO hd hv⟩)
theorem OpK.appsK (hG : GOk P G) {s x : Operand} {t κ n κs e e2 ke bs kt d' m : Nat} {z : List ZC} {X : Type} {enc enc2 : X → Nat → TC} {dec dec2 : List Value → Option X} {d d2 : X} {xs ys : List X} {f : Bool} {ro : RO} (hop : o.op = .call { callee := .builtin .append, args := #[s, x], argTypes := #[t, t] }) (hg : o.guard = none) (hdst : o.dst = some d') (hd : okD N o.dst = true)
    (ht : G.T t = some ⟨kt, .sl e ke bs, z⟩) (hs : evS σ s = .a (.ref κ 0 n)) (hR : lkR σ.r κ = some (.ty .own true e ke X enc dec d xs)) (hn : n = xs.length) (hx : evS σ x = .a (.ref κs 0 m)) (hS : lkR σ.r κs = some (.ty ro f e2 ke X enc2 dec2 d2 ys)) (hm : m = ys.length)
    (hfl : ∀ (x : X) (r : Nat), r < ke → ∃ v, enc x r = .lit v ∧ enc2 x r = .lit v) (hkk : okK F κ) (h63 : xs.length + m ≤ maxLen ∧ (xs.length + m) * bs ≤ 140737488355328)
    (h : dropK σ κ fun σ => setK σ κ (.ty .own true e ke X enc dec d (xs ++ ys)) fun σ => putK σ d' (.a (.ref κ 0 (xs ++ ys).length)) k) : OpK P F N o σ k := by
  subst hm
  refine ⟨fun ops Q rest kk => ?_⟩
  rw [dropK, fS_eq, setK_eq, putK_eq] at h
  have hRe := TS.rt_some hR
  have hSe := TS.rt_some hS
  refine AL.appendL hG.T hop hg hd ht (by rw [evS_eq, hs]; rfl) hRe rfl hn rfl rfl rfl (by rw [evS_eq, hx]; rfl) hSe rfl rfl (fun _ _ _ _ => rfl) hkk h63.1 h63.2 ?_
  rw [hdst]
  refine AL.le (le_lk (τ := ⟨(d', .a (.ref κ 0 (xs ++ ys).length)) :: (σ.drop κ).t, (κ, .ty .own true e ke X enc dec d (xs ++ ys)) :: erl (σ.drop κ).r κ⟩) (fun t' => .inr ?_) (fun κ' => ?_)) (kk _ h)
  · rw [lkT_cons]
    show _ = (((σ.er.drop κ).setR κ _).put d' _).tv t'
    rw [St.tv_put]
    by_cases e2 : t' = d'
    · simp [e2, stV, Tr.stA, hn]
    · simp only [e2, if_neg, not_false_eq_true, if_false]
      rw [← TS.tv_er, drop_tv]; rfl
  · rw [lkR_cons, lkR_erl]
    show OSim (if κ' = κ then some _ else (σ.er.drop κ).rt κ') _
    by_cases e2 : κ' = κ
    · rw [if_pos e2, if_pos e2]
      refine ⟨rfl, fun _ => ⟨rfl, rfl⟩, rfl, by show (xs ++ ys).length = xs.length + ys.length; simp, fun i r hi hr => ?_⟩
      change i < xs.length + ys.length at hi; change r < ke at hr
      rw [ty_get]
      show ClSim (.cl (if i < xs.length then (enc (xs.getD i d) r).er .own else flat ((enc2 (ys.getD (0 + (i - xs.length)) d2) r).er (owOf ro)))) _
      by_cases hin : i < xs.length
      · rw [if_pos hin]
        have hgd : (xs ++ ys).getD i d = xs.getD i d := by simp only [List.getD]; rw [List.getElem?_append_left hin]
        rw [hgd]; exact CSame.rfl _
      · rw [if_neg hin, Nat.zero_add]
        have hj : i - xs.length < ys.length := by omega
        have hgd : (xs ++ ys).getD i d = ys.getD (i - xs.length) d2 := by
          simp only [List.getD]; rw [List.getElem?_append_right (by omega), List.getElem?_eq_getElem hj]; rfl
        rw [hgd]
        obtain ⟨v, h1, h2⟩ := hfl (ys.getD (i - xs.length) d2) r hr
        rw [h1, h2]
        exact CSame.rfl _
    · rw [if_neg e2, if_neg e2, if_neg e2]
      rw [← TS.rt_er, drop_rt]; exact OSim.rfl _

theorem RunT.of_ck0 (hG : GOk P G) {f : FuncId} {fn : Func} {c : Code} (hf : P.funcs[f]? = some fn) (hb : fn.body = some c) (hname : (fn.name == "runtime.NumGoroutine") = false) {args : List TAg} {outs : List TAr}
    (hn : args.length ≤ fn.ntmps) (hp : argsOk [] (args.map TAg.er)) (h : ∀ F : Fm, F.nE = 0 → fS (enterE args []) fun σ => CodeK P F fn.ntmps c σ (finT G fn outs [])) : RunT P f args [] outs [] := by
  refine ⟨⟨fn, hf, hname, by rw [hb]; rfl⟩, Run.sim ?_⟩
  refine Run.of_body hG.T hf hb (by simpa using hn) hp [] rfl (fun F hF => ?_)
  have h1 := h F (by rw [hF]; rfl)
  rw [fS_eq] at h1
  refine AC.le (enterE_ok args []) (AC.unle (AC.mono h1.h (fun e s hq => ?_)))
  obtain ⟨τ, hle, hfin⟩ := hq
  obtain ⟨τ', hle', hfin'⟩ := finT_ok hfin
  exact ⟨τ'.er, hle.trans hle', hfin'⟩
theorem ow_finX {κ e ke ld m : Nat} {full : Bool} {X : Type} {enc : X → Nat → TC} {dec : List Value → Option X} {d : X} {xs : List X} {Y : Type} (enc' : Y → Nat → TC) (dec' : List Value → Option Y) (d' : Y) (xs' : List Y) {S : Nat → Nat → C} (hR : lkR σ.r κ = some (.ty .own full e ke X enc dec d xs)) (hl : xs'.length = xs.length)
    (hin : ∀ i r, i < m → r < ke → ∃ v, enc' (xs'.getD (ld + i) d') r = .lit v ∧ flat (S i r) = .lit v) (hout : ∀ q r, q < xs.length → r < ke → ¬ (ld ≤ q ∧ q < ld + m) → enc' (xs'.getD q d') r = enc (xs.getD q d) r) {v : V} (hv : stV v = v) {ops : Array Oper} {Q : Exit → St → Prop} {rest : List Oper} (kk : ∀ τ, k τ → AL P F N ops Q rest τ.er)
    (h : stO o ⟨σ.t, (κ, .ty .own full e ke Y enc' dec' d' xs') :: erl σ.r κ⟩ v k) : AL P F N ops Q rest ((σ.er.ow κ (TRoot.ty .own full e ke X enc dec d xs).er S ld m).putO o.dst v) := by
  have hos : ∀ κ', OSim ((σ.er.ow κ (TRoot.ty .own full e ke X enc dec d xs).er S ld m).rt κ') ((lkR ((κ, .ty .own full e ke Y enc' dec' d' xs') :: erl σ.r κ) κ').map TRoot.er) := by
    intro κ'
    rw [lkR_cons, lkR_erl]
    show OSim (if κ' = κ then some _ else σ.er.rt κ') _
    by_cases e2 : κ' = κ
    · rw [if_pos e2, if_pos e2]
      refine ⟨rfl, fun hf => ⟨hf, rfl⟩, rfl, hl, fun i r hi hr => ?_⟩
      change r < ke at hr
      change i < xs.length at hi
      rw [ty_get]
      show ClSim (.cl (if ld ≤ i ∧ i < ld + m then flat (S (i - ld) r) else (enc (xs.getD i d) r).er .own)) _
      by_cases h2 : ld ≤ i ∧ i < ld + m
      · obtain ⟨v, h3, h4⟩ := hin (i - ld) r (by omega) hr
        rw [show ld + (i - ld) = i by omega] at h3
        rw [if_pos h2, h3, h4]; exact CSame.rfl _
      · rw [if_neg h2, hout i r hi hr h2]; exact CSame.rfl _
    · rw [if_neg e2, if_neg e2, if_neg e2, TS.rt_er]; exact OSim.rfl _
  have htv : ∀ t, (σ.er.ow κ (TRoot.ty .own full e ke X enc dec d xs).er S ld m).tv t = stV (lkT σ.t t) := by
    intro t
    show (look (σ.er.t.map fun p => (p.1, p.2.map (dimA κ) none)) t).getD .any = _
    rw [St.tv_map σ.er _ rfl, TS.tv_er, dim_st]
  unfold stO at h
  cases hd : o.dst with
  | none =>
    rw [hd] at h
    exact AL.le (le_lk (τ := ⟨σ.t, (κ, .ty .own full e ke Y enc' dec' d' xs') :: erl σ.r κ⟩) (fun t => .inr (htv t).symm) hos) (kk _ h)
  | some d9 =>
    rw [hd] at h
    dsimp only at h
    split at h
    · rw [asK_eq] at h
      refine AL.le (le_lk (τ := ⟨(d9, v) :: erl σ.t d9, (κ, .ty .own full e ke Y enc' dec' d' xs') :: erl σ.r κ⟩) (fun t => .inr ?_) hos) (kk _ h)
      rw [lkT_cons]
      show _ = ((σ.er.ow κ (TRoot.ty .own full e ke X enc dec d xs).er S ld m).put d9 v).tv t
      rw [St.tv_put]
      by_cases e2 : t = d9
      · rw [if_pos e2, if_pos e2, hv]
      · rw [if_neg e2, if_neg e2, htv, lkT_erl, if_neg e2]
    · rw [putK_eq] at h
      refine AL.le (le_lk (τ := ⟨(d9, v) :: σ.t, (κ, .ty .own full e ke Y enc' dec' d' xs') :: erl σ.r κ⟩) (fun t => .inr ?_) hos) (kk _ h)
      rw [lkT_cons]
      show _ = ((σ.er.ow κ (TRoot.ty .own full e ke X enc dec d xs).er S ld m).put d9 v).tv t
      rw [St.tv_put]
      by_cases e2 : t = d9
      · rw [if_pos e2, if_pos e2, hv]
      · rw [if_neg e2, if_neg e2, htv]
theorem OpK.copyX (hG : GOk P G) {t e0 e e2 ke bs kt κ κs ld ls nd ns m : Nat} {z : List ZC} {x y : Operand} {full f2 : Bool} {ro : RO} {X Y : Type} {enc : X → Nat → TC} {dec : List Value → Option X} {d : X} {xs : List X} {enc2 : Y → Nat → TC} {dec2 : List Value → Option Y} {d2 : Y} {ys : List Y} {Z : Type} (encZ : Z → Nat → TC) (decZ : List Value → Option Z) (dZ : Z) (xs' : List Z)
    (hop : o.op = .call { callee := .builtin .copy, args := #[x, y], argTypes := #[t, t] }) (hg : o.guard = none) (hd : okD N o.dst = true) (ht : G.T t = some ⟨kt, .sl e ke bs, z⟩) (hx : evS σ x = .a (.ref κ ld nd)) (hR : lkR σ.r κ = some (.ty .own full e0 ke X enc dec d xs))
    (hy : evS σ y = .a (.ref κs ls ns)) (hS : lkR σ.r κs = some (.ty ro f2 e2 ke Y enc2 dec2 d2 ys)) (hm : m = Nat.min ns nd) (hl : xs'.length = xs.length)
    (hin : ∀ i r, i < m → r < ke → ∃ v, encZ (xs'.getD (ld + i) dZ) r = .lit v ∧ enc2 (ys.getD (ls + i) d2) r = .lit v) (hout : ∀ q r, q < xs.length → r < ke → ¬ (ld ≤ q ∧ q < ld + m) → encZ (xs'.getD q dZ) r = enc (xs.getD q d) r)
    (h : setK σ κ (.ty .own full e0 ke Z encZ decZ dZ xs') fun σ => stO o σ (.a (.lit (.int .i64 m))) k) : OpK P F N o σ k :=
  ⟨fun ops Q rest kk => AL.copyO hG.T hop hg hd ht (by rw [evS_eq, hx]; rfl) (TS.rt_some hR) rfl rfl rfl (by rw [evS_eq, hy]; rfl) (TS.rt_some hS) rfl rfl hm
    (ow_finX (v := .a (.lit (.int .i64 m))) encZ decZ dZ xs' hR hl (fun i r hi hr => by
      obtain ⟨v, h1, h2⟩ := hin i r hi hr
      refine ⟨v, h1, ?_⟩
      show flat ((enc2 (ys.getD (ls + i) d2) r).er (owOf ro)) = _
      rw [h2]; rfl) hout rfl kk (by rw [setK_eq] at h; exact h))⟩

theorem map_some_getD {α : Type} (d : α) (xs : List α) (q : Nat) (h : q < xs.length) : (xs.map some).getD q none = some (xs.getD q d) := by simp [List.getD, h]
theorem mapn_getD {α : Type} (d : α) (xs : List α) (q : Nat) (h : q < xs.length) : (xs.map some ++ [none]).getD q none = some (xs.getD q d) := by
  simp only [List.getD, List.getElem?_append_left (show q < (xs.map some).length by simpa using h), List.getElem?_map, List.getElem?_eq_getElem h, Option.map_some, Option.getD_some]
theorem ins1_getD {α : Type} (d : α) (xs : List α) (i q : Nat) (hi : i < xs.length) : (xs.take (i + 1) ++ xs.drop i).getD q d = if q ≤ i then xs.getD q d else xs.getD (q - 1) d := by
  have hl : (xs.take (i + 1)).length = i + 1 := by simp; omega
  simp only [List.getD]
  split
  · rw [List.getElem?_append_left (by omega), List.getElem?_take, if_pos (by omega)]
  · rw [List.getElem?_append_right (by omega), hl, List.getElem?_drop]; congr 2; omega
theorem ins2_getD {α : Type} (d : α) (xs : List α) (i q : Nat) (x : α) (hi : i ≤ xs.length) : (xs.take i ++ x :: xs.drop i).getD q d = if q < i then xs.getD q d else if q = i then x else xs.getD (q - 1) d := by
  have hl : (xs.take i).length = i := by simp; omega
  simp only [List.getD]
  split
  · rw [List.getElem?_append_left (by omega), List.getElem?_take, if_pos (by omega)]
  · rw [List.getElem?_append_right (by omega), hl]
    split
    · subst q; simp
    · obtain ⟨t, rfl⟩ : ∃ t, q = i + 1 + t := ⟨q - i - 1, by omega⟩
      rw [show i + 1 + t - i = t + 1 by omega, List.getElem?_cons_succ, List.getElem?_drop]; congr 2; omega

/-- A literal row of one element is told as a row of elements. -/
theorem OpK.litTy (κ : Nat) {e kw : Nat} {cs : List TCl} {X : Type} (enc : X → Nat → TC) (dec : List Value → Option X) (d x : X) (hR : lkR σ.r κ = some (.litr e kw [cs])) (hl : cs.length = kw) (hx : ∀ r, r < kw → cs[r]? = some (.cl (enc x r)))
    (h : fS ⟨σ.t, (κ, .ty .own true e kw X enc dec d [x]) :: erl σ.r κ⟩ fun σ => OpK P F N o σ k) : OpK P F N o σ k := by
  rw [fS_eq] at h
  refine ⟨fun ops Q rest kk => AL.le (le_lk (fun t' => .inr ?_) (fun κ' => ?_)) (h.h ops Q rest kk)⟩
  · exact (TS.tv_er σ t').symm
  · rw [lkR_cons, lkR_erl, TS.rt_er]
    by_cases e1 : κ' = κ
    · subst e1
      rw [if_pos rfl, hR]
      refine ⟨rfl, fun _ => ⟨rfl, rfl⟩, rfl, rfl, fun i r hi hr' => ?_⟩
      change i < 1 at hi; change r < kw at hr'
      obtain rfl : i = 0 := by omega
      rw [ty_get, litr_get hl hr', hx r hr']
      exact CSame.rfl _
    · rw [if_neg e1, if_neg e1]; exact OSim.rfl _
end
end Go.Tr
end

section
namespace Go.Proofs.Ytnclkdpocjhphaa
open Go Go.Tr
set_option maxRecDepth 100000
set_option linter.unusedVariables false
set_option linter.unusedSimpArgs false
theorem ints_of {e n : Nat} {row : Nat → Nat → C} (hn : n ≤ 9223372036854775807) (h : ∀ i r t, i < n → ([Dt.i] : List Dt)[r]? = some t → DtOk t (row i r)) : ∃ xs : List Int, xs.length = n ∧ (∀ x ∈ xs, -9223372036854775808 ≤ x ∧ x ≤ 9223372036854775807) ∧ CSame (.sl .fro e 1 n row) ((tI xs).er .fro) :=
  list_of decI 0 1 (fun f hf => by
    obtain ⟨z, hz, h1, h2⟩ := (hf 0 .i rfl).int
    refine ⟨z, ⟨h1, h2⟩, fun r hr => ?_⟩
    obtain rfl : r = 0 := by omega
    rw [hz]; exact rfl) h
end Go.Proofs.Ytnclkdpocjhphaa
end

section
namespace Go.Proofs.Ytnclkdpocjhphaa
open Go Go.Tr
set_option maxRecDepth 100000
set_option maxHeartbeats 4000000
set_option linter.unusedVariables false
set_option linter.unusedSimpArgs false
abbrev aHp (b c : List Int) : TAg := .agg [.c (tI b), .c (tI c)]
def szH (b c : List Int) (m : Int) : Int := if szI b m < 0 then -1 else szI c (szI b m)
theorem szH_le (b c : List Int) (m : Int) (h : 0 ≤ m) : szH b c m ≤ m ∧ -1 ≤ szH b c m ∧ (0 ≤ szH b c m → b.length ≤ m ∧ c.length ≤ m) := by
  unfold szH
  have h1 := szI_le b m h
  split
  · omega
  · have h2 := szI_le c (szI b m) (by omega)
    omega
theorem szHeap_run (b c : List Int) (m : Int) (h0 : 0 ≤ m) (h1 : m ≤ 1048576) (hb : b.length ≤ 9223372036854775807) (hc : c.length ≤ 9223372036854775807) : RunT Try.prog 199 [aHp b c, ti m] [] [oi (szH b c m)] [] := by
  have q1 := szI_le b m h0
  have c1 := szIntS_run b m h0 h1 hb
  refine RunT.of_vc gOk Try.func199 rfl rfl (Nat.le_of_ble_eq_true rfl) (by repeat' (first | exact trivial | exact ⟨_, rfl, Nat.le_refl _⟩ | exact Nat.le_of_ble_eq_true rfl | refine And.intro ?_ ?_)) (Nat.le_of_ble_eq_true rfl) rfl (fun F hE => ?_)
  repeat' (first | exact trivial | refine BS.d (fun h => ?_) (fun h => ?_) | refine BS.e (fun h => ?_) (fun h => ?_) | refine BS.ne (fun h => ?_) (fun h => ?_) | refine BS.n ?_ | refine BS.s (fun h => ?_) (fun h => ?_) | refine And.intro ?_ ?_ | (refine Need.mk ?_; first | with_reducible rfl | (show @Eq TC _ _; rfl) | omega | (simp only [adN_zero]; omega)) | exact OutS.whole rfl rfl | (refine OpK.call c1 rfl rfl rfl rfl hE ?_ rfl rfl ?_; focus ((repeat' (first | exact PsA.lit _ | exact PsA.ref rfl rfl | constructor)); all_goals (fail "ps"))) | refine ListO.go gOk hE ?_)
  all_goals first | (refine Need.mk ?_; unfold szH; rw [if_pos (by assumption)]) | skip
  all_goals have c2 := szIntS_run c (szI b m) (by omega) (by omega) hc
  all_goals (repeat' (first | exact trivial | refine BS.d (fun h => ?_) (fun h => ?_) | refine BS.e (fun h => ?_) (fun h => ?_) | refine BS.ne (fun h => ?_) (fun h => ?_) | refine BS.n ?_ | refine BS.s (fun h => ?_) (fun h => ?_) | refine And.intro ?_ ?_ | (refine Need.mk ?_; first | with_reducible rfl | (show @Eq TC _ _; rfl) | omega | (simp only [adN_zero]; omega)) | exact OutS.whole rfl rfl | (refine OpK.call c2 rfl rfl rfl rfl hE ?_ rfl rfl ?_; focus ((repeat' (first | exact PsA.lit _ | exact PsA.ref rfl rfl | constructor)); all_goals (fail "ps"))) | refine ListO.go gOk hE ?_))
  all_goals (refine Need.mk ?_; unfold szH; rw [if_neg (by assumption)])
  all_goals (have q2 := szI_le c (szI b m) (by omega); omega)
theorem toHeap_run (b c : List Int) (hb : b.length ≤ 1048576) (hc : c.length ≤ 1048576) : RunT Try.prog 202 [aHp b c] [] [.agg [tI b, tI c]] [] := by
  have c1 := toIntS_run b hb
  have c2 := toIntS_run c hc
  refine RunT.of_vc gOk Try.func202 rfl rfl (Nat.le_of_ble_eq_true rfl) (by repeat' (first | exact trivial | exact ⟨_, rfl, Nat.le_refl _⟩ | exact Nat.le_of_ble_eq_true rfl | refine And.intro ?_ ?_)) (Nat.le_of_ble_eq_true rfl) rfl (fun F hE => ?_)
  repeat' (first | exact trivial | refine BS.d (fun h => ?_) (fun h => ?_) | refine BS.e (fun h => ?_) (fun h => ?_) | refine BS.ne (fun h => ?_) (fun h => ?_) | refine BS.n ?_ | refine BS.s (fun h => ?_) (fun h => ?_) | refine And.intro ?_ ?_ | (refine Need.mk ?_; first | with_reducible rfl | (show @Eq TC _ _; rfl) | omega | (simp only [adN_zero]; omega)) | exact OutS.whole rfl rfl | (refine OpK.call c1 rfl rfl rfl rfl hE ?_ rfl rfl ?_; focus ((repeat' (first | exact PsA.lit _ | exact PsA.ref rfl rfl | constructor)); all_goals (fail "ps"))) | (refine OpK.call c2 rfl rfl rfl rfl hE ?_ rfl rfl ?_; focus ((repeat' (first | exact PsA.lit _ | exact PsA.ref rfl rfl | constructor)); all_goals (fail "ps"))) | refine ListO.go gOk hE ?_)
theorem eqHeap_run (b c : List Int) (hb : b.length ≤ 4000000) (hc : c.length ≤ 4000000) : RunT Try.prog 26 [aHp b c, aHp b c] [] [ob true] [] := by
  have c1 := eqIntS_run b hb
  have c2 := eqIntS_run c hc
  refine RunT.of_vc gOk Try.func26 rfl rfl (Nat.le_of_ble_eq_true rfl) (by repeat' (first | exact trivial | exact ⟨_, rfl, Nat.le_refl _⟩ | exact Nat.le_of_ble_eq_true rfl | refine And.intro ?_ ?_)) (Nat.le_of_ble_eq_true rfl) rfl (fun F hE => ?_)
  repeat' (first | exact trivial | refine BS.d (fun h => ?_) (fun h => ?_) | refine BS.e (fun h => ?_) (fun h => ?_) | refine BS.ne (fun h => ?_) (fun h => ?_) | refine BS.n ?_ | refine BS.s (fun h => ?_) (fun h => ?_) | refine And.intro ?_ ?_ | (refine Need.mk ?_; first | with_reducible rfl | (show @Eq TC _ _; rfl) | omega | (simp only [adN_zero]; omega)) | exact OutS.whole rfl rfl | (refine OpK.call c1 rfl rfl rfl rfl hE ?_ rfl rfl ?_; focus ((repeat' (first | exact PsA.lit _ | exact PsA.ref rfl rfl | constructor)); all_goals (fail "ps"))) | (refine OpK.call c2 rfl rfl rfl rfl hE ?_ rfl rfl ?_; focus ((repeat' (first | exact PsA.lit _ | exact PsA.ref rfl rfl | constructor)); all_goals (fail "ps"))) | refine ListO.go gOk hE ?_)
end Go.Proofs.Ytnclkdpocjhphaa
end

section
/- HeapNew in both packages. -/
namespace Go.Proofs.Ytnclkdpocjhphaa
open Go Go.Tr
set_option maxRecDepth 100000
set_option maxHeartbeats 4000000
set_option linter.unusedVariables false
set_option linter.unusedSimpArgs false
def hnB : List Int := List.replicate 384 0
def hnC : List Int := List.replicate 6 (-1)
theorem HeapNewI_run : RunT Try.prog 25 [] [] [.agg [tI hnB, tI hnC]] [] := by
  have c1 := RepI_run (-1) 6 (by decide)
  refine RunT.of_vc gOk Try.func25 rfl rfl (Nat.le_of_ble_eq_true rfl) (by repeat' (first | exact trivial | exact ⟨_, rfl, Nat.le_refl _⟩ | exact Nat.le_of_ble_eq_true rfl | refine And.intro ?_ ?_)) (Nat.le_of_ble_eq_true rfl) rfl (fun F hE => ?_)
  repeat' (first | exact trivial | refine BS.d (fun h => ?_) (fun h => ?_) | refine BS.e (fun h => ?_) (fun h => ?_) | refine BS.ne (fun h => ?_) (fun h => ?_) | refine BS.n ?_ | refine BS.s (fun h => ?_) (fun h => ?_) | refine And.intro ?_ ?_ | (refine Need.mk ?_; first | with_reducible rfl | (show @Eq TC _ _; rfl) | omega | (simp only [adN_zero]; omega)) | exact OutS.whole rfl rfl | (refine CodeK.draw gOk hE rfl (fun _ _ h => h) (.alt 0 (.alt 1 (.alt 2 (.alt 3 (.alt 4 .done .stop) .stop) .stop) .stop) (.alt 1 (.alt 0 (.alt 2 (.alt 3 (.alt 4 .done .stop) .stop) .stop) (.alt 2 (.alt 0 (.alt 3 (.alt 4 .done .stop) .stop) .stop) .stop)) .stop)) ?_ ?_; focus (decide +kernel)) | (refine OpK.call c1 rfl rfl rfl rfl hE ?_ rfl rfl ?_; focus ((repeat' (first | exact PsA.lit _ | exact PsA.ref rfl rfl | constructor)); all_goals (fail "ps"))) | (refine OpK.litTy 2 encI decI 0 (-1) rfl rfl (fun r hr => by rcases r with _ | r <;> first | rfl | omega) ?_) | refine ListO.go gOk hE ?_)
  all_goals trace_state
abbrev hnR (i : Nat) : List (Nat × TRoot) := match i with
  | 0 => [(3, rI .own true hnB), (1, .box 42 [.ref 3 0 384, .cl (.nil 3 1)])]
  | i + 1 => [(3, rI .own true hnB), (3010000, rI .own true (List.replicate (i + 1) (-1))), (1, .box 42 [.ref 3 0 384, (.ref 3010000 0 (i + 1))])]
theorem rep_snoc (x : Int) (i : Nat) : List.replicate i x ++ [x] = List.replicate (i + 1) x := by rw [← List.replicate_succ']
theorem HeapNewS_run : RunT Try.prog 24 [] [] [.agg [tI hnB, tI hnC]] [] := by
  refine RunT.of_vc gOk Try.func24 rfl rfl (Nat.le_of_ble_eq_true rfl) (by repeat' (first | exact trivial | exact ⟨_, rfl, Nat.le_refl _⟩ | exact Nat.le_of_ble_eq_true rfl | refine And.intro ?_ ?_)) (Nat.le_of_ble_eq_true rfl) rfl (fun F hE => ?_)
  repeat' (first | exact trivial | refine BS.d (fun h => ?_) (fun h => ?_) | refine BS.e (fun h => ?_) (fun h => ?_) | refine BS.ne (fun h => ?_) (fun h => ?_) | refine BS.n ?_ | refine BS.s (fun h => ?_) (fun h => ?_) | refine And.intro ?_ ?_ | (refine Need.mk ?_; first | with_reducible rfl | (show @Eq TC _ _; rfl) | omega | (simp only [adN_zero]; omega)) | exact OutS.whole rfl rfl | refine ListO.go gOk hE ?_)
  refine CodeK.loop gOk hE (fun i : Nat => ⟨[(0, .ptr 0 0 0), (1, .ptr 1 0 0), (2, vi i)], (0, .box 42 [.cl (.nil 3 1), .cl (.nil 3 1)]) :: hnR i⟩) (fun i => i ≤ 6) (fun i => 6 - i) 0 (by refine leT.of ?_ ?_ rfl <;> repeat' (first | exact trivial | refine And.intro rfl ?_ | refine And.intro (by first | rfl | (simp <;> rfl)) ?_)) (Nat.zero_le _) ?_
  rintro i hi
  rcases i with _ | i
  · repeat' (first | exact trivial | refine BS.d (fun h => ?_) (fun h => ?_) | refine BS.e (fun h => ?_) (fun h => ?_) | refine BS.ne (fun h => ?_) (fun h => ?_) | refine BS.n ?_ | refine BS.s (fun h => ?_) (fun h => ?_) | refine And.intro ?_ ?_ | (refine Need.mk ?_; first | with_reducible rfl | (show @Eq TC _ _; rfl) | omega | (simp only [adN_zero]; omega)) | exact OutS.whole rfl rfl | refine ListO.go gOk hE ?_)
    all_goals first
      | (exfalso; omega)
      | (refine Need.mk ?_; first | rfl | omega | (unfold maxLen; simp; done))
      | (refine ⟨1, (by refine leT.of ?_ ?_ rfl <;> repeat' (first | exact trivial | refine And.intro rfl ?_ | refine And.intro (by first | rfl | (simp <;> rfl)) ?_)), by omega, by first | omega | (dsimp only; omega)⟩)
      | trace_state
  · repeat' (first | exact trivial | refine BS.d (fun h => ?_) (fun h => ?_) | refine BS.e (fun h => ?_) (fun h => ?_) | refine BS.ne (fun h => ?_) (fun h => ?_) | refine BS.n ?_ | refine BS.s (fun h => ?_) (fun h => ?_) | refine And.intro ?_ ?_ | (refine Need.mk ?_; first | with_reducible rfl | (show @Eq TC _ _; rfl) | omega | (simp only [adN_zero]; omega)) | exact OutS.whole rfl rfl | refine ListO.go gOk hE ?_)
    all_goals first
      | (exfalso; omega)
      | (refine Need.mk ?_; first | rfl | omega | (simp; done) | (unfold maxLen; simp only [List.length_replicate]; omega))
      | (refine ⟨i + 1 + 1, (by refine leT.of ?_ ?_ rfl <;> repeat' (first | exact trivial | refine And.intro rfl ?_ | refine And.intro (by first | rfl | (rw [rep_snoc]; simp <;> rfl) | (simp <;> rfl)) ?_)), by omega, by first | omega | (dsimp only; omega)⟩)
      | exact OutS.whole (by simp) (by obtain rfl : i = 5 := by omega
                                       rfl)
      | trace_state
end Go.Proofs.Ytnclkdpocjhphaa
end

section
namespace Go.Proofs.Ytnclkdpocjhphaa
open Go Go.Tr
set_option maxRecDepth 100000
set_option linter.unusedVariables false
set_option linter.unusedSimpArgs false
theorem eqSList_run (x : List Int) (hn : x.length ≤ 4000000) : RunT Try.prog 146 [.agg [.c (tI x)], .agg [.c (tI x)]] [] [ob true] [] := by
  refine RunT.of_vc gOk Try.func146 rfl rfl (Nat.le_of_ble_eq_true rfl) (by repeat' (first | exact trivial | exact ⟨_, rfl, Nat.le_refl _⟩ | exact Nat.le_of_ble_eq_true rfl | refine And.intro ?_ ?_)) (Nat.le_of_ble_eq_true rfl) rfl (fun F hE => ?_)
  repeat' (first | exact trivial | refine BS.d (fun h => ?_) (fun h => ?_) | refine BS.e (fun h => ?_) (fun h => ?_) | refine BS.ne (fun h => ?_) (fun h => ?_) | refine BS.n ?_ | refine BS.s (fun h => ?_) (fun h => ?_) | refine And.intro ?_ ?_ | (refine Need.mk ?_; first | with_reducible rfl | (show @Eq TC _ _; rfl) | omega | (simp only [adN_zero]; omega)) | exact OutS.whole rfl rfl | refine ListO.go gOk hE ?_)
  refine OpK.call (eqIntS_run x hn) rfl rfl rfl rfl hE (by repeat' (first | exact PsA.lit _ | exact PsA.ref rfl rfl | constructor)) rfl rfl ?_
  repeat' (first | exact trivial | refine BS.d (fun h => ?_) (fun h => ?_) | refine BS.e (fun h => ?_) (fun h => ?_) | refine BS.ne (fun h => ?_) (fun h => ?_) | refine BS.n ?_ | refine BS.s (fun h => ?_) (fun h => ?_) | refine And.intro ?_ ?_ | (refine Need.mk ?_; first | with_reducible rfl | (show @Eq TC _ _; rfl) | omega | (simp only [adN_zero]; omega)) | exact OutS.whole rfl rfl | refine ListO.go gOk hE ?_)
theorem eqSListS_run (e : Nat) (xs : List (List Int)) (hn : xs.length ≤ 4000000) (hx : ∀ i, (xs.getD i []).length ≤ 4000000) : RunT Try.prog 69 [.one (.c (tSL e xs)), .one (.c (tSL e xs))] [] [ob true] [] := by
  refine RunT.of_vc gOk Try.func69 rfl rfl (Nat.le_of_ble_eq_true rfl) (by repeat' (first | exact trivial | exact ⟨_, rfl, Nat.le_refl _⟩ | exact Nat.le_of_ble_eq_true rfl | refine And.intro ?_ ?_)) (Nat.le_of_ble_eq_true rfl) rfl (fun F hE => ?_)
  repeat' (first | exact trivial | refine BS.d (fun h => ?_) (fun h => ?_) | refine BS.e (fun h => ?_) (fun h => ?_) | refine BS.ne (fun h => ?_) (fun h => ?_) | refine BS.n ?_ | refine BS.s (fun h => ?_) (fun h => ?_) | refine And.intro ?_ ?_ | (refine Need.mk ?_; first | with_reducible rfl | (show @Eq TC _ _; rfl) | omega | (simp only [adN_zero]; omega)) | exact OutS.whole rfl rfl | refine ListO.go gOk hE ?_)
  · refine CodeK.loop gOk hE (fun i : Nat => ⟨[(0, vr 1000000 xs.length), (1, vr 1000001 xs.length), (5, vi i)], [(1000000, rSL .fro false e xs), (1000001, rSL .fro false e xs)]⟩) (fun i => i ≤ xs.length) (fun i => xs.length - i) 0 (by refine leT.of ?_ ?_ rfl <;> repeat' (first | exact trivial | refine And.intro rfl ?_ | refine And.intro (by simp) ?_)) (Nat.zero_le _) ?_
    rintro i hi
    repeat' (first | exact trivial | refine BS.d (fun h => ?_) (fun h => ?_) | refine BS.e (fun h => ?_) (fun h => ?_) | refine BS.ne (fun h => ?_) (fun h => ?_) | refine BS.n ?_ | refine BS.s (fun h => ?_) (fun h => ?_) | refine And.intro ?_ ?_ | (refine Need.mk ?_; first | with_reducible rfl | (show @Eq TC _ _; rfl) | omega | (simp only [adN_zero]; omega)) | exact OutS.whole rfl rfl | refine ListO.go gOk hE ?_)
    · refine CodeK.draw gOk hE rfl (fun _ _ h => h) (.take 0 (.take 1 (.take 2 (.take 4 (.take 5 (.take 6 (.alt 3 (.alt 7 (.alt 8 (.take 9 .done) .stop) .stop) (.alt 7 (.alt 3 (.alt 8 (.take 9 .done) .stop) .stop) .stop)))))))) (by decide +kernel) ?_
      repeat' (first | exact trivial | refine BS.d (fun h => ?_) (fun h => ?_) | refine BS.e (fun h => ?_) (fun h => ?_) | refine BS.ne (fun h => ?_) (fun h => ?_) | refine BS.n ?_ | refine BS.s (fun h => ?_) (fun h => ?_) | refine And.intro ?_ ?_ | (refine Need.mk ?_; first | with_reducible rfl | (show @Eq TC _ _; rfl) | omega | (simp only [adN_zero]; omega)) | exact OutS.whole rfl rfl | refine ListO.go gOk hE ?_)
      all_goals (refine OpK.call (eqSList_run _ (hx _)) rfl rfl rfl rfl hE (by repeat' (first | exact PsA.lit _ | exact PsA.ref rfl rfl | constructor)) rfl rfl ?_)
      all_goals (repeat' (first | exact trivial | refine BS.d (fun h => ?_) (fun h => ?_) | refine BS.e (fun h => ?_) (fun h => ?_) | refine BS.ne (fun h => ?_) (fun h => ?_) | refine BS.n ?_ | refine BS.s (fun h => ?_) (fun h => ?_) | refine And.intro ?_ ?_ | (refine Need.mk ?_; first | with_reducible rfl | (show @Eq TC _ _; rfl) | omega | (simp only [adN_zero]; omega)) | exact OutS.whole rfl rfl | refine ListO.go gOk hE ?_))
      all_goals (refine ⟨i + 1, (by refine leT.of ?_ ?_ rfl <;> repeat' (first | exact trivial | refine And.intro rfl ?_ | refine And.intro (by simp) ?_)), ?_⟩; (refine And.intro ?_ ?_) <;> (first | omega | (dsimp only; omega) | trivial))
theorem eqLists_run (e : Nat) (g o : List (List Int)) (hg : g.length ≤ 4000000) (hg' : ∀ i, (g.getD i []).length ≤ 4000000) (ho : o.length ≤ 4000000) (ho' : ∀ i, (o.getD i []).length ≤ 4000000) : RunT Try.prog 17 [.agg [.c (tSL e g), .c (tSL e o)], .agg [.c (tSL e g), .c (tSL e o)]] [] [ob true] [] := by
  refine RunT.of_vc gOk Try.func17 rfl rfl (Nat.le_of_ble_eq_true rfl) (by repeat' (first | exact trivial | exact ⟨_, rfl, Nat.le_refl _⟩ | exact Nat.le_of_ble_eq_true rfl | refine And.intro ?_ ?_)) (Nat.le_of_ble_eq_true rfl) rfl (fun F hE => ?_)
  repeat' (first | exact trivial | refine BS.d (fun h => ?_) (fun h => ?_) | refine BS.e (fun h => ?_) (fun h => ?_) | refine BS.ne (fun h => ?_) (fun h => ?_) | refine BS.n ?_ | refine BS.s (fun h => ?_) (fun h => ?_) | refine And.intro ?_ ?_ | (refine Need.mk ?_; first | with_reducible rfl | (show @Eq TC _ _; rfl) | omega | (simp only [adN_zero]; omega)) | exact OutS.whole rfl rfl | refine ListO.go gOk hE ?_)
  refine OpK.call (eqSListS_run e g hg hg') rfl rfl rfl rfl hE (by repeat' (first | exact PsA.lit _ | exact PsA.ref rfl rfl | constructor)) rfl rfl ?_
  repeat' (first | exact trivial | refine BS.d (fun h => ?_) (fun h => ?_) | refine BS.e (fun h => ?_) (fun h => ?_) | refine BS.ne (fun h => ?_) (fun h => ?_) | refine BS.n ?_ | refine BS.s (fun h => ?_) (fun h => ?_) | refine And.intro ?_ ?_ | (refine Need.mk ?_; first | with_reducible rfl | (show @Eq TC _ _; rfl) | omega | (simp only [adN_zero]; omega)) | exact OutS.whole rfl rfl | refine ListO.go gOk hE ?_)
  refine OpK.call (eqSListS_run e o ho ho') rfl rfl rfl rfl hE (by repeat' (first | exact PsA.lit _ | exact PsA.ref rfl rfl | constructor)) rfl rfl ?_
  repeat' (first | exact trivial | refine BS.d (fun h => ?_) (fun h => ?_) | refine BS.e (fun h => ?_) (fun h => ?_) | refine BS.ne (fun h => ?_) (fun h => ?_) | refine BS.n ?_ | refine BS.s (fun h => ?_) (fun h => ?_) | refine And.intro ?_ ?_ | (refine Need.mk ?_; first | with_reducible rfl | (show @Eq TC _ _; rfl) | omega | (simp only [adN_zero]; omega)) | exact OutS.whole rfl rfl | refine ListO.go gOk hE ?_)
end Go.Proofs.Ytnclkdpocjhphaa
end

section
namespace Go.Proofs.Ytnclkdpocjhphaa
open Go Go.Tr
set_option maxRecDepth 100000
set_option linter.unusedVariables false
set_option linter.unusedSimpArgs false
/-- The first elements are laid down, the rest is as made. -/
theorem toSList_run (x : List Int) (hn : x.length ≤ 1048576) (e : Nat) : RunT Try.prog 142 [.agg [.c (tI x)]] [] [.agg [tI x]] [] := by
  refine RunT.of_vc gOk Try.func142 rfl rfl (Nat.le_of_ble_eq_true rfl) (by repeat' (first | exact trivial | exact ⟨_, rfl, Nat.le_refl _⟩ | exact Nat.le_of_ble_eq_true rfl | refine And.intro ?_ ?_)) (Nat.le_of_ble_eq_true rfl) rfl (fun F hE => ?_)
  repeat' (first | exact trivial | refine BS.d (fun h => ?_) (fun h => ?_) | refine BS.e (fun h => ?_) (fun h => ?_) | refine BS.ne (fun h => ?_) (fun h => ?_) | refine BS.n ?_ | refine BS.s (fun h => ?_) (fun h => ?_) | refine And.intro ?_ ?_ | (refine Need.mk ?_; first | with_reducible rfl | (show @Eq TC _ _; rfl) | omega | (simp only [adN_zero]; omega)) | exact OutS.whole rfl rfl | refine ListO.go gOk hE ?_)
  refine OpK.call (toIntS_run x hn) rfl rfl rfl rfl hE (by repeat' (first | exact PsA.lit _ | exact PsA.ref rfl rfl | constructor)) rfl rfl ?_
  repeat' (first | exact trivial | refine BS.d (fun h => ?_) (fun h => ?_) | refine BS.e (fun h => ?_) (fun h => ?_) | refine BS.ne (fun h => ?_) (fun h => ?_) | refine BS.n ?_ | refine BS.s (fun h => ?_) (fun h => ?_) | refine And.intro ?_ ?_ | (refine Need.mk ?_; first | with_reducible rfl | (show @Eq TC _ _; rfl) | omega | (simp only [adN_zero]; omega)) | exact OutS.whole rfl rfl | refine ListO.go gOk hE ?_)
theorem toSListS_run (e : Nat) (xs : List (List Int)) (hn : xs.length ≤ 1048576) (hx : ∀ i, (xs.getD i []).length ≤ 1048576) : RunT Try.prog 64 [.one (.c (tSL e xs))] [] [.one (tSL 115 xs)] [] := by
  refine RunT.of_vc gOk Try.func64 rfl rfl (Nat.le_of_ble_eq_true rfl) (by repeat' (first | exact trivial | exact ⟨_, rfl, Nat.le_refl _⟩ | exact Nat.le_of_ble_eq_true rfl | refine And.intro ?_ ?_)) (Nat.le_of_ble_eq_true rfl) rfl (fun F hE => ?_)
  repeat' (first | exact trivial | refine BS.d (fun h => ?_) (fun h => ?_) | refine BS.e (fun h => ?_) (fun h => ?_) | refine BS.ne (fun h => ?_) (fun h => ?_) | refine BS.n ?_ | refine BS.s (fun h => ?_) (fun h => ?_) | refine And.intro ?_ ?_ | (refine Need.mk ?_; first | with_reducible rfl | (show @Eq TC _ _; rfl) | omega | (simp only [adN_zero]; omega)) | exact OutS.whole rfl rfl | refine ListO.go gOk hE ?_)
  refine CodeK.loop gOk hE (fun i : Nat => ⟨[(0, vr 1000000 xs.length), (3, vr 7 xs.length), (4, vi i)], [(7, rSL .own true 115 (fl [] xs i)), (1000000, rSL .fro false e xs)]⟩) (fun i => i ≤ xs.length) (fun i => xs.length - i) 0 (by refine leT.of ?_ ?_ rfl <;> repeat' (first | exact trivial | refine And.intro rfl ?_ | refine And.intro (by simp [fl_zero] <;> rfl) ?_)) (Nat.zero_le _) ?_
  rintro i hi
  have hl := fl_len [] xs i hi
  repeat' (first | exact trivial | refine BS.d (fun h => ?_) (fun h => ?_) | refine BS.e (fun h => ?_) (fun h => ?_) | refine BS.ne (fun h => ?_) (fun h => ?_) | refine BS.n ?_ | refine BS.s (fun h => ?_) (fun h => ?_) | refine And.intro ?_ ?_ | (refine Need.mk ?_; first | with_reducible rfl | (show @Eq TC _ _; rfl) | omega | (simp only [adN_zero]; omega)) | exact OutS.whole rfl rfl | refine ListO.go gOk hE ?_)
  · refine OpK.call (toSList_run _ (hx i) 0) rfl rfl rfl rfl hE (by repeat' (first | exact PsA.lit _ | exact PsA.ref rfl rfl | constructor)) rfl rfl ?_
    repeat' (first | exact trivial | refine BS.d (fun h => ?_) (fun h => ?_) | refine BS.e (fun h => ?_) (fun h => ?_) | refine BS.ne (fun h => ?_) (fun h => ?_) | refine BS.n ?_ | refine BS.s (fun h => ?_) (fun h => ?_) | refine And.intro ?_ ?_ | (refine Need.mk ?_; first | with_reducible rfl | (show @Eq TC _ _; rfl) | omega | (simp only [adN_zero]; omega)) | exact OutS.whole rfl rfl | refine ListO.go gOk hE ?_)
    refine OpK.stN gOk (xs.getD i []) rfl rfl rfl rfl rfl rfl rfl rfl rfl (by first | omega | (simp only [adN_zero]; omega)) (by first | exact (StN.ref (by rfl) (by first | rfl | simp) (by rfl) (by rfl) (by rfl) StN.nil) | exact (StN.emp (by rfl) StN.nil)) ?_
    repeat' (first | exact trivial | refine BS.d (fun h => ?_) (fun h => ?_) | refine BS.e (fun h => ?_) (fun h => ?_) | refine BS.ne (fun h => ?_) (fun h => ?_) | refine BS.n ?_ | refine BS.s (fun h => ?_) (fun h => ?_) | refine And.intro ?_ ?_ | (refine Need.mk ?_; first | with_reducible rfl | (show @Eq TC _ _; rfl) | omega | (simp only [adN_zero]; omega)) | exact OutS.whole rfl rfl | refine ListO.go gOk hE ?_)
    all_goals (refine ⟨i + 1, (by refine leT.of ?_ ?_ rfl <;> repeat' (first | exact trivial | refine And.intro rfl ?_ | refine And.intro (by first | (rw [← fl_set [] xs i (by omega)]; rfl) | (simp <;> rfl)) ?_)), ?_⟩; (refine And.intro ?_ ?_) <;> (first | omega | (dsimp only; omega) | trivial))
  · exact OutS.whole hl.symm (by rw [fl_full _ _ _ (by omega) hi]; rfl)
theorem toLists_run (e : Nat) (g o : List (List Int)) (hg : g.length ≤ 1048576) (hg' : ∀ i, (g.getD i []).length ≤ 1048576) (ho : o.length ≤ 1048576) (ho' : ∀ i, (o.getD i []).length ≤ 1048576) : RunT Try.prog 15 [.agg [.c (tSL e g), .c (tSL e o)]] [] [.agg [tSL 115 g, tSL 115 o]] [] := by
  refine RunT.of_vc gOk Try.func15 rfl rfl (Nat.le_of_ble_eq_true rfl) (by repeat' (first | exact trivial | exact ⟨_, rfl, Nat.le_refl _⟩ | exact Nat.le_of_ble_eq_true rfl | refine And.intro ?_ ?_)) (Nat.le_of_ble_eq_true rfl) rfl (fun F hE => ?_)
  repeat' (first | exact trivial | refine BS.d (fun h => ?_) (fun h => ?_) | refine BS.e (fun h => ?_) (fun h => ?_) | refine BS.ne (fun h => ?_) (fun h => ?_) | refine BS.n ?_ | refine BS.s (fun h => ?_) (fun h => ?_) | refine And.intro ?_ ?_ | (refine Need.mk ?_; first | with_reducible rfl | (show @Eq TC _ _; rfl) | omega | (simp only [adN_zero]; omega)) | exact OutS.whole rfl rfl | refine ListO.go gOk hE ?_)
  refine OpK.call (toSListS_run e g hg hg') rfl rfl rfl rfl hE (by repeat' (first | exact PsA.lit _ | exact PsA.ref rfl rfl | constructor)) rfl rfl ?_
  repeat' (first | exact trivial | refine BS.d (fun h => ?_) (fun h => ?_) | refine BS.e (fun h => ?_) (fun h => ?_) | refine BS.ne (fun h => ?_) (fun h => ?_) | refine BS.n ?_ | refine BS.s (fun h => ?_) (fun h => ?_) | refine And.intro ?_ ?_ | (refine Need.mk ?_; first | with_reducible rfl | (show @Eq TC _ _; rfl) | omega | (simp only [adN_zero]; omega)) | exact OutS.whole rfl rfl | refine ListO.go gOk hE ?_)
  refine OpK.call (toSListS_run e o ho ho') rfl rfl rfl rfl hE (by repeat' (first | exact PsA.lit _ | exact PsA.ref rfl rfl | constructor)) rfl rfl ?_
  repeat' (first | exact trivial | refine BS.d (fun h => ?_) (fun h => ?_) | refine BS.e (fun h => ?_) (fun h => ?_) | refine BS.ne (fun h => ?_) (fun h => ?_) | refine BS.n ?_ | refine BS.s (fun h => ?_) (fun h => ?_) | refine And.intro ?_ ?_ | (refine Need.mk ?_; first | with_reducible rfl | (show @Eq TC _ _; rfl) | omega | (simp only [adN_zero]; omega)) | exact OutS.whole rfl rfl | refine ListO.go gOk hE ?_)
/-- What is left of a budget. -/
def szSL : List (List Int) → Int → Int
  | [], m => m
  | x :: l, m => if szI x m < 0 then -1 else szSL l (szI x m)
def szSLs (xs : List (List Int)) (m : Int) : Int := if m - xs.length < 0 then -1 else szSL xs (m - xs.length)
theorem szSList_run (x : List Int) (m : Int) (h0 : 0 ≤ m) (h1 : m ≤ 1048576) (hn : x.length ≤ 9223372036854775807) : RunT Try.prog 140 [.agg [.c (tI x)], ti m] [] [oi (szI x m)] [] := by
  refine RunT.of_vc gOk Try.func140 rfl rfl (Nat.le_of_ble_eq_true rfl) (by repeat' (first | exact trivial | exact ⟨_, rfl, Nat.le_refl _⟩ | exact Nat.le_of_ble_eq_true rfl | refine And.intro ?_ ?_)) (Nat.le_of_ble_eq_true rfl) rfl (fun F hE => ?_)
  repeat' (first | exact trivial | refine BS.d (fun h => ?_) (fun h => ?_) | refine BS.e (fun h => ?_) (fun h => ?_) | refine BS.ne (fun h => ?_) (fun h => ?_) | refine BS.n ?_ | refine BS.s (fun h => ?_) (fun h => ?_) | refine And.intro ?_ ?_ | (refine Need.mk ?_; first | with_reducible rfl | (show @Eq TC _ _; rfl) | omega | (simp only [adN_zero]; omega)) | exact OutS.whole rfl rfl | refine ListO.go gOk hE ?_)
  refine OpK.call (szIntS_run x m h0 h1 hn) rfl rfl rfl rfl hE (by repeat' (first | exact PsA.lit _ | exact PsA.ref rfl rfl | constructor)) rfl rfl ?_
  repeat' (first | exact trivial | refine BS.d (fun h => ?_) (fun h => ?_) | refine BS.e (fun h => ?_) (fun h => ?_) | refine BS.ne (fun h => ?_) (fun h => ?_) | refine BS.n ?_ | refine BS.s (fun h => ?_) (fun h => ?_) | refine And.intro ?_ ?_ | (refine Need.mk ?_; first | with_reducible rfl | (show @Eq TC _ _; rfl) | omega | (simp only [adN_zero]; omega)) | exact OutS.whole rfl rfl | refine ListO.go gOk hE ?_)
  refine Need.mk ?_
  unfold szI at *
  split <;> simp_all <;> omega
theorem szSL_le : ∀ (l : List (List Int)) (m : Int), 0 ≤ m → szSL l m ≤ m ∧ -1 ≤ szSL l m ∧ (0 ≤ szSL l m → ∀ x ∈ l, x.length ≤ m)
  | [], m, h => ⟨Int.le_refl _, by simp [szSL]; omega, fun _ x hx => by simp at hx⟩
  | x :: l, m, h => by
    obtain ⟨h1, h2, h3⟩ := szI_le x m h
    unfold szSL
    split
    · exact ⟨by omega, by omega, fun h => by omega⟩
    · obtain ⟨k1, k2, k3⟩ := szSL_le l (szI x m) (by omega)
      refine ⟨by omega, by omega, fun h4 y hy => ?_⟩
      rcases List.mem_cons.1 hy with rfl | hy
      · exact h3 (by omega)
      · have := k3 h4 y hy; omega
theorem szSLs_le (l : List (List Int)) (m : Int) (h : 0 ≤ m) : szSLs l m ≤ m ∧ -1 ≤ szSLs l m ∧ (0 ≤ szSLs l m → l.length ≤ m ∧ ∀ x ∈ l, x.length ≤ m) := by
  unfold szSLs
  split
  · omega
  · obtain ⟨k1, k2, k3⟩ := szSL_le l (m - l.length) (by omega)
    exact ⟨by omega, k2, fun h4 => ⟨by omega, fun x hx => by have := k3 h4 x hx; omega⟩⟩
theorem szSListS_run (e : Nat) (xs : List (List Int)) (m : Int) (h0 : 0 ≤ m) (h1 : m ≤ 1048576) (hn : xs.length ≤ 9223372036854775807) (hx : ∀ i, (xs.getD i []).length ≤ 9223372036854775807) : RunT Try.prog 59 [.one (.c (tSL e xs)), ti m] [] [oi (szSLs xs m)] [] := by
  refine RunT.of_vc gOk Try.func59 rfl rfl (Nat.le_of_ble_eq_true rfl) (by repeat' (first | exact trivial | exact ⟨_, rfl, Nat.le_refl _⟩ | exact Nat.le_of_ble_eq_true rfl | refine And.intro ?_ ?_)) (Nat.le_of_ble_eq_true rfl) rfl (fun F hE => ?_)
  repeat' (first | exact trivial | refine BS.d (fun h => ?_) (fun h => ?_) | refine BS.e (fun h => ?_) (fun h => ?_) | refine BS.ne (fun h => ?_) (fun h => ?_) | refine BS.n ?_ | refine BS.s (fun h => ?_) (fun h => ?_) | refine And.intro ?_ ?_ | (refine Need.mk ?_; first | with_reducible rfl | (show @Eq TC _ _; rfl) | omega | (simp only [adN_zero]; omega)) | exact OutS.whole rfl rfl | refine ListO.go gOk hE ?_)
  · refine Need.mk ?_
    unfold szSLs; rw [if_pos (by omega)]
  · refine CodeK.loop gOk hE (fun i : Nat × Int => ⟨[(0, vr 1000000 xs.length), (1, vi i.2), (5, vi i.1)], [(1000000, rSL .fro false e xs)]⟩) (fun i => i.1 ≤ xs.length ∧ 0 ≤ i.2 ∧ i.2 ≤ 1048576 ∧ szSLs xs m = szSL (xs.drop i.1) i.2) (fun i => xs.length - i.1) (0, m - xs.length) (by refine leT.of ?_ ?_ rfl <;> repeat' (first | exact trivial | refine And.intro rfl ?_ | refine And.intro (by simp) ?_)) ⟨Nat.zero_le _, by omega, by omega, by unfold szSLs; rw [if_neg (by omega)]; rfl⟩ ?_
    rintro ⟨i, b⟩ ⟨hi, hb, hb1, hs⟩
    dsimp only at hi hb hb1 hs
    repeat' (first | exact trivial | refine BS.d (fun h => ?_) (fun h => ?_) | refine BS.e (fun h => ?_) (fun h => ?_) | refine BS.ne (fun h => ?_) (fun h => ?_) | refine BS.n ?_ | refine BS.s (fun h => ?_) (fun h => ?_) | refine And.intro ?_ ?_ | (refine Need.mk ?_; first | with_reducible rfl | (show @Eq TC _ _; rfl) | omega | (simp only [adN_zero]; omega)) | exact OutS.whole rfl rfl | refine ListO.go gOk hE ?_)
    · have hc := drop_cons [] (xs := xs) (i := i) (by omega)
      refine OpK.call (szSList_run _ _ hb hb1 (hx i)) rfl rfl rfl rfl hE (by repeat' (first | exact PsA.lit _ | exact PsA.ref rfl rfl | constructor)) rfl rfl ?_
      repeat' (first | exact trivial | refine BS.d (fun h => ?_) (fun h => ?_) | refine BS.e (fun h => ?_) (fun h => ?_) | refine BS.ne (fun h => ?_) (fun h => ?_) | refine BS.n ?_ | refine BS.s (fun h => ?_) (fun h => ?_) | refine And.intro ?_ ?_ | (refine Need.mk ?_; first | with_reducible rfl | (show @Eq TC _ _; rfl) | omega | (simp only [adN_zero]; omega)) | exact OutS.whole rfl rfl | refine ListO.go gOk hE ?_)
      · rename_i h
        refine Need.mk ?_
        rw [hs, hc, szSL, if_pos h]
      · rename_i h
        refine ⟨(i + 1, szI (xs.getD i []) b), (by refine leT.of ?_ ?_ rfl <;> repeat' (first | exact trivial | refine And.intro rfl ?_ | refine And.intro (by simp) ?_)), ⟨?_, ?_, ?_, ?_⟩, ?_⟩
        · dsimp only; omega
        · dsimp only; omega
        · dsimp only; unfold szI at h ⊢; split at h <;> split <;> omega
        · dsimp only; rw [hs, hc, szSL, if_neg h]
        · dsimp only; omega
    · refine Need.mk ?_
      rw [hs, List.drop_eq_nil_of_le (by omega)]; rfl
theorem szLists_run (e : Nat) (g o : List (List Int)) (m : Int) (h0 : 0 ≤ m) (h1 : m ≤ 1048576) (hg : g.length ≤ 9223372036854775807) (hg' : ∀ i, (g.getD i []).length ≤ 9223372036854775807) (ho : o.length ≤ 9223372036854775807) (ho' : ∀ i, (o.getD i []).length ≤ 9223372036854775807) : RunT Try.prog 13 [.agg [.c (tSL e g), .c (tSL e o)], ti m] [] [oi (if szSLs g m < 0 then -1 else szSLs o (szSLs g m))] [] := by
  refine RunT.of_vc gOk Try.func13 rfl rfl (Nat.le_of_ble_eq_true rfl) (by repeat' (first | exact trivial | exact ⟨_, rfl, Nat.le_refl _⟩ | exact Nat.le_of_ble_eq_true rfl | refine And.intro ?_ ?_)) (Nat.le_of_ble_eq_true rfl) rfl (fun F hE => ?_)
  repeat' (first | exact trivial | refine BS.d (fun h => ?_) (fun h => ?_) | refine BS.e (fun h => ?_) (fun h => ?_) | refine BS.ne (fun h => ?_) (fun h => ?_) | refine BS.n ?_ | refine BS.s (fun h => ?_) (fun h => ?_) | refine And.intro ?_ ?_ | (refine Need.mk ?_; first | with_reducible rfl | (show @Eq TC _ _; rfl) | omega | (simp only [adN_zero]; omega)) | exact OutS.whole rfl rfl | refine ListO.go gOk hE ?_)
  refine OpK.call (szSListS_run e g m h0 h1 hg hg') rfl rfl rfl rfl hE (by repeat' (first | exact PsA.lit _ | exact PsA.ref rfl rfl | constructor)) rfl rfl ?_
  repeat' (first | exact trivial | refine BS.d (fun h => ?_) (fun h => ?_) | refine BS.e (fun h => ?_) (fun h => ?_) | refine BS.ne (fun h => ?_) (fun h => ?_) | refine BS.n ?_ | refine BS.s (fun h => ?_) (fun h => ?_) | refine And.intro ?_ ?_ | (refine Need.mk ?_; first | with_reducible rfl | (show @Eq TC _ _; rfl) | omega | (simp only [adN_zero]; omega)) | exact OutS.whole rfl rfl | refine ListO.go gOk hE ?_)
  have := szSLs_le g m h0
  refine OpK.call (szSListS_run e o (szSLs g m) (by omega) (by omega) ho ho') rfl rfl rfl rfl hE (by repeat' (first | exact PsA.lit _ | exact PsA.ref rfl rfl | constructor)) rfl rfl ?_
  repeat' (first | exact trivial | refine BS.d (fun h => ?_) (fun h => ?_) | refine BS.e (fun h => ?_) (fun h => ?_) | refine BS.ne (fun h => ?_) (fun h => ?_) | refine BS.n ?_ | refine BS.s (fun h => ?_) (fun h => ?_) | refine And.intro ?_ ?_ | (refine Need.mk ?_; first | with_reducible rfl | (show @Eq TC _ _; rfl) | omega | (simp only [adN_zero]; omega)) | exact OutS.whole rfl rfl | refine ListO.go gOk hE ?_)
  all_goals (refine Need.mk ?_; have := szSLs_le o (szSLs g m) (by omega); rw [if_neg ‹¬ szSLs g m < 0›])
  omega
end Go.Proofs.Ytnclkdpocjhphaa
end

section
namespace Go.Proofs.Ytnclkdpocjhphaa
open Go Go.Tr
set_option maxRecDepth 100000
set_option linter.unusedVariables false
set_option linter.unusedSimpArgs false
theorem lists_of {e e' n : Nat} {row : Nat → Nat → C} (hn : n ≤ 9223372036854775807) (h : ∀ i r t, i < n → ([Dt.sl [.i]] : List Dt)[r]? = some t → DtOk t (row i r)) : ∃ xs : List (List Int), xs.length = n ∧ (∀ x ∈ xs, x.length ≤ 9223372036854775807 ∧ ∀ z ∈ x, -9223372036854775808 ≤ z ∧ z ≤ 9223372036854775807) ∧ CSame (.sl .fro e 1 n row) ((tSL e' xs).er .fro) :=
  list_of decL [] 1 (fun f hf => by
    obtain ⟨e2, n2, row2, hz, h1, h2⟩ := (hf 0 (.sl [.i]) rfl).slice
    obtain ⟨xs, k1, k2, k3⟩ := ints_of (e := e2) h1 h2
    refine ⟨xs, ⟨by omega, k2⟩, fun r hr => ?_⟩
    obtain rfl : r = 0 := by omega
    rw [hz]; exact k3) h
theorem getD_le {xs : List (List Int)} {m : Nat} (h : ∀ x ∈ xs, x.length ≤ m) (i : Nat) : (xs.getD i []).length ≤ m := by
  by_cases hi : i < xs.length
  · have : xs.getD i [] = xs[i] := by simp [List.getD, hi]
    rw [this]; exact h _ (List.getElem_mem hi)
  · simp [List.getD, hi]
end Go.Proofs.Ytnclkdpocjhphaa
end

section
namespace Go.Proofs.Ytnclkdpocjhphaa
open Go Go.Tr
set_option maxRecDepth 100000
set_option maxHeartbeats 4000000
set_option linter.unusedVariables false
set_option linter.unusedSimpArgs false
def szG (g o : List (List Int)) (m : Int) : Int := if szSLs g m < 0 then -1 else szSLs o (szSLs g m)
def szM (b c : List Int) (g o : List (List Int)) (m : Int) : Int := if szH b c m < 0 then -1 else szG g o (szH b c m)
theorem szG_le (g o : List (List Int)) (m : Int) (h : 0 ≤ m) : szG g o m ≤ m ∧ -1 ≤ szG g o m ∧ (0 ≤ szG g o m → (g.length ≤ m ∧ ∀ x ∈ g, x.length ≤ m) ∧ (o.length ≤ m ∧ ∀ x ∈ o, x.length ≤ m)) := by
  unfold szG
  obtain ⟨a1, a2, a3⟩ := szSLs_le g m h
  split
  · exact ⟨by omega, by omega, fun h => by omega⟩
  · obtain ⟨b1, b2, b3⟩ := szSLs_le o (szSLs g m) (by omega)
    refine ⟨by omega, b2, fun h9 => ⟨a3 (by omega), ?_⟩⟩
    obtain ⟨c1, c2⟩ := b3 h9
    exact ⟨by omega, fun x hx => by have := c2 x hx; omega⟩
theorem szM_le (b c : List Int) (g o : List (List Int)) (m : Int) (h : 0 ≤ m) : szM b c g o m ≤ m ∧ -1 ≤ szM b c g o m ∧ (0 ≤ szM b c g o m → (b.length ≤ m ∧ c.length ≤ m) ∧ (g.length ≤ m ∧ ∀ x ∈ g, x.length ≤ m) ∧ (o.length ≤ m ∧ ∀ x ∈ o, x.length ≤ m)) := by
  unfold szM
  obtain ⟨a1, a2, a3⟩ := szH_le b c m h
  split
  · exact ⟨by omega, by omega, fun h => by omega⟩
  · obtain ⟨b1, b2, b3⟩ := szG_le g o (szH b c m) (by omega)
    refine ⟨by omega, b2, fun h9 => ⟨a3 (by omega), ?_⟩⟩
    obtain ⟨⟨c1, c2⟩, c3, c4⟩ := b3 h9
    exact ⟨⟨by omega, fun x hx => by have := c2 x hx; omega⟩, by omega, fun x hx => by have := c4 x hx; omega⟩
theorem szMem_run (e e' : Nat) (b c : List Int) (g o : List (List Int)) (m : Int) (h0 : 0 ≤ m) (h1 : m ≤ 1048576) (hb : b.length ≤ 9223372036854775807) (hc : c.length ≤ 9223372036854775807) (hg : g.length ≤ 9223372036854775807) (hg' : ∀ i, (g.getD i []).length ≤ 9223372036854775807) (ho : o.length ≤ 9223372036854775807) (ho' : ∀ i, (o.getD i []).length ≤ 9223372036854775807) :
    RunT Try.prog 156 [.agg [.c (tI b), .c (tI c), .c (tSL e g), .c (tSL e o)], ti m] [] [oi (szM b c g o m)] [] := by
  have q1 := szH_le b c m h0
  have c1 := szHeap_run b c m h0 h1 hb hc
  refine RunT.of_vc gOk Try.func156 rfl rfl (Nat.le_of_ble_eq_true rfl) (by repeat' (first | exact trivial | exact ⟨_, rfl, Nat.le_refl _⟩ | exact Nat.le_of_ble_eq_true rfl | refine And.intro ?_ ?_)) (Nat.le_of_ble_eq_true rfl) rfl (fun F hE => ?_)
  repeat' (first | exact trivial | refine BS.d (fun h => ?_) (fun h => ?_) | refine BS.e (fun h => ?_) (fun h => ?_) | refine BS.ne (fun h => ?_) (fun h => ?_) | refine BS.n ?_ | refine BS.s (fun h => ?_) (fun h => ?_) | refine And.intro ?_ ?_ | (refine Need.mk ?_; first | with_reducible rfl | (show @Eq TC _ _; rfl) | omega | (simp only [adN_zero]; omega)) | exact OutS.whole rfl rfl | (refine OpK.call c1 rfl rfl rfl rfl hE ?_ rfl rfl ?_; focus ((repeat' (first | exact PsA.lit _ | exact PsA.ref rfl rfl | constructor)); all_goals (fail "ps"))) | refine ListO.go gOk hE ?_)
  all_goals first | (refine Need.mk ?_; unfold szM; rw [if_pos (by assumption)]) | skip
  all_goals have c2 : RunT Try.prog 13 [.agg [.c (tSL e g), .c (tSL e o)], ti (szH b c m)] [] [oi (szG g o (szH b c m))] [] := szLists_run e g o (szH b c m) (by omega) (by omega) hg hg' ho ho'
  all_goals (repeat' (first | exact trivial | refine BS.d (fun h => ?_) (fun h => ?_) | refine BS.e (fun h => ?_) (fun h => ?_) | refine BS.ne (fun h => ?_) (fun h => ?_) | refine BS.n ?_ | refine BS.s (fun h => ?_) (fun h => ?_) | refine And.intro ?_ ?_ | (refine Need.mk ?_; first | with_reducible rfl | (show @Eq TC _ _; rfl) | omega | (simp only [adN_zero]; omega)) | exact OutS.whole rfl rfl | (refine OpK.call c2 rfl rfl rfl rfl hE ?_ rfl rfl ?_; focus ((repeat' (first | exact PsA.lit _ | exact PsA.ref rfl rfl | constructor)); all_goals (fail "ps"))) | refine ListO.go gOk hE ?_))
  all_goals have q2 := szG_le g o (szH b c m) (by omega)
  all_goals have q3 : szM b c g o m = szG g o (szH b c m) := (if_neg (by assumption))
  all_goals (refine Need.mk ?_; rw [q3]; try omega)
theorem toMem_run (e : Nat) (b c : List Int) (g o : List (List Int)) (hb : b.length ≤ 1048576) (hc : c.length ≤ 1048576) (hg : g.length ≤ 1048576) (hg' : ∀ i, (g.getD i []).length ≤ 1048576) (ho : o.length ≤ 1048576) (ho' : ∀ i, (o.getD i []).length ≤ 1048576) :
    RunT Try.prog 159 [.agg [.c (tI b), .c (tI c), .c (tSL e g), .c (tSL e o)]] [] [.agg [tI b, tI c, tSL 115 g, tSL 115 o]] [] := by
  have c1 := toHeap_run b c hb hc
  have c2 := toLists_run e g o hg hg' ho ho'
  refine RunT.of_vc gOk Try.func159 rfl rfl (Nat.le_of_ble_eq_true rfl) (by repeat' (first | exact trivial | exact ⟨_, rfl, Nat.le_refl _⟩ | exact Nat.le_of_ble_eq_true rfl | refine And.intro ?_ ?_)) (Nat.le_of_ble_eq_true rfl) rfl (fun F hE => ?_)
  repeat' (first | exact trivial | refine BS.d (fun h => ?_) (fun h => ?_) | refine BS.e (fun h => ?_) (fun h => ?_) | refine BS.ne (fun h => ?_) (fun h => ?_) | refine BS.n ?_ | refine BS.s (fun h => ?_) (fun h => ?_) | refine And.intro ?_ ?_ | (refine Need.mk ?_; first | with_reducible rfl | (show @Eq TC _ _; rfl) | omega | (simp only [adN_zero]; omega)) | exact OutS.whole rfl rfl | (refine OpK.call c1 rfl rfl rfl rfl hE ?_ rfl rfl ?_; focus ((repeat' (first | exact PsA.lit _ | exact PsA.ref rfl rfl | constructor)); all_goals (fail "ps"))) | (refine OpK.call c2 rfl rfl rfl rfl hE ?_ rfl rfl ?_; focus ((repeat' (first | exact PsA.lit _ | exact PsA.ref rfl rfl | constructor)); all_goals (fail "ps"))) | refine ListO.go gOk hE ?_)
theorem eqMem_run (e : Nat) (b c : List Int) (g o : List (List Int)) (hb : b.length ≤ 4000000) (hc : c.length ≤ 4000000) (hg : g.length ≤ 4000000) (hg' : ∀ i, (g.getD i []).length ≤ 4000000) (ho : o.length ≤ 4000000) (ho' : ∀ i, (o.getD i []).length ≤ 4000000) :
    RunT Try.prog 31 [.agg [.c (tI b), .c (tI c), .c (tSL e g), .c (tSL e o)], .agg [.c (tI b), .c (tI c), .c (tSL e g), .c (tSL e o)]] [] [ob true] [] := by
  have c1 := eqHeap_run b c hb hc
  have c2 := eqLists_run e g o hg hg' ho ho'
  refine RunT.of_vc gOk Try.func31 rfl rfl (Nat.le_of_ble_eq_true rfl) (by repeat' (first | exact trivial | exact ⟨_, rfl, Nat.le_refl _⟩ | exact Nat.le_of_ble_eq_true rfl | refine And.intro ?_ ?_)) (Nat.le_of_ble_eq_true rfl) rfl (fun F hE => ?_)
  repeat' (first | exact trivial | refine BS.d (fun h => ?_) (fun h => ?_) | refine BS.e (fun h => ?_) (fun h => ?_) | refine BS.ne (fun h => ?_) (fun h => ?_) | refine BS.n ?_ | refine BS.s (fun h => ?_) (fun h => ?_) | refine And.intro ?_ ?_ | (refine Need.mk ?_; first | with_reducible rfl | (show @Eq TC _ _; rfl) | omega | (simp only [adN_zero]; omega)) | exact OutS.whole rfl rfl | (refine OpK.call c1 rfl rfl rfl rfl hE ?_ rfl rfl ?_; focus ((repeat' (first | exact PsA.lit _ | exact PsA.ref rfl rfl | constructor)); all_goals (fail "ps"))) | (refine OpK.call c2 rfl rfl rfl rfl hE ?_ rfl rfl ?_; focus ((repeat' (first | exact PsA.lit _ | exact PsA.ref rfl rfl | constructor)); all_goals (fail "ps"))) | refine ListO.go gOk hE ?_)
abbrev aMm (e : Nat) (b c : List Int) (g o : List (List Int)) : TAg := .agg [.c (tI b), .c (tI c), .c (tSL e g), .c (tSL e o)]
/-- Lists and their elements are no longer than m. -/
structure MmOk (m : Nat) (b c : List Int) (g o : List (List Int)) : Prop where
  hb : b.length ≤ m
  hc : c.length ≤ m
  hg : g.length ≤ m
  ho : o.length ≤ m
  hg' : ∀ i, (g.getD i []).length ≤ m
  ho' : ∀ i, (o.getD i []).length ≤ m
theorem MmOk.le {m m' : Nat} {b c : List Int} {g o : List (List Int)} (h : MmOk m b c g o) (hm : m ≤ m') : MmOk m' b c g o :=
  ⟨Nat.le_trans h.hb hm, Nat.le_trans h.hc hm, Nat.le_trans h.hg hm, Nat.le_trans h.ho hm, fun i => Nat.le_trans (h.hg' i) hm, fun i => Nat.le_trans (h.ho' i) hm⟩
theorem MmOk.of_sz {m : Int} {b c : List Int} {g o : List (List Int)} (h0 : 0 ≤ m) (h1 : m ≤ 1048576) (h : ¬ szM b c g o m < 0) : MmOk 1048576 b c g o := by
  obtain ⟨k1, k2, k3⟩ := szM_le b c g o m h0
  obtain ⟨⟨a1, a2⟩, ⟨a3, a4⟩, a5, a6⟩ := k3 (by omega)
  exact ⟨by omega, by omega, by omega, by omega, getD_le fun x hx => (by have := a4 x hx; omega), getD_le fun x hx => (by have := a6 x hx; omega)⟩
end Go.Proofs.Ytnclkdpocjhphaa
end

section
/- ListsNew and MemNew in both packages. -/
namespace Go.Proofs.Ytnclkdpocjhphaa
open Go Go.Tr
set_option maxRecDepth 100000
set_option linter.unusedVariables false
set_option linter.unusedSimpArgs false
theorem ListsNewI_run : RunT Try.prog 84 [] [] [.agg [tSL 115 (List.replicate 3 []), tSL 115 (List.replicate 9 [])]] [] := by
  refine RunT.of_vc gOk Try.func84 rfl rfl (Nat.le_of_ble_eq_true rfl) (by repeat' (first | exact trivial | exact ⟨_, rfl, Nat.le_refl _⟩ | exact Nat.le_of_ble_eq_true rfl | refine And.intro ?_ ?_)) (Nat.le_of_ble_eq_true rfl) rfl (fun F hE => ?_)
  repeat' (first | exact trivial | refine BS.d (fun h => ?_) (fun h => ?_) | refine BS.e (fun h => ?_) (fun h => ?_) | refine BS.ne (fun h => ?_) (fun h => ?_) | refine BS.n ?_ | refine BS.s (fun h => ?_) (fun h => ?_) | refine And.intro ?_ ?_ | (refine Need.mk ?_; first | with_reducible rfl | (show @Eq TC _ _; rfl) | omega | (simp only [adN_zero]; omega)) | exact OutS.whole rfl rfl | refine ListO.go gOk hE ?_)
  refine CodeK.draw gOk hE rfl (fun _ _ h => h) (.alt 0 (.alt 1 (.alt 2 (.alt 3 .done .stop) .stop) .stop) (.alt 1 (.alt 0 (.alt 2 (.alt 3 .done .stop) .stop) .stop) .stop)) (by decide +kernel) ?_
  repeat' (first | exact trivial | refine BS.d (fun h => ?_) (fun h => ?_) | refine BS.e (fun h => ?_) (fun h => ?_) | refine BS.ne (fun h => ?_) (fun h => ?_) | refine BS.n ?_ | refine BS.s (fun h => ?_) (fun h => ?_) | refine And.intro ?_ ?_ | (refine Need.mk ?_; first | with_reducible rfl | (show @Eq TC _ _; rfl) | omega | (simp only [adN_zero]; omega)) | exact OutS.whole rfl rfl | refine ListO.go gOk hE ?_)
  all_goals exact OutS.whole rfl rfl
theorem ListsNewS_run : RunT Try.prog 83 [] [] [.agg [tSL 115 (List.replicate 3 []), tSL 115 (List.replicate 9 [])]] [] := by
  refine RunT.of_vc gOk Try.func83 rfl rfl (Nat.le_of_ble_eq_true rfl) (by repeat' (first | exact trivial | exact ⟨_, rfl, Nat.le_refl _⟩ | exact Nat.le_of_ble_eq_true rfl | refine And.intro ?_ ?_)) (Nat.le_of_ble_eq_true rfl) rfl (fun F hE => ?_)
  repeat' (first | exact trivial | refine BS.d (fun h => ?_) (fun h => ?_) | refine BS.e (fun h => ?_) (fun h => ?_) | refine BS.ne (fun h => ?_) (fun h => ?_) | refine BS.n ?_ | refine BS.s (fun h => ?_) (fun h => ?_) | refine And.intro ?_ ?_ | (refine Need.mk ?_; first | with_reducible rfl | (show @Eq TC _ _; rfl) | omega | (simp only [adN_zero]; omega)) | exact OutS.whole rfl rfl | refine ListO.go gOk hE ?_)
  refine CodeK.draw gOk hE rfl (fun _ _ h => h) (.alt 0 (.alt 1 (.alt 2 (.alt 3 .done .stop) .stop) .stop) (.alt 1 (.alt 0 (.alt 2 (.alt 3 .done .stop) .stop) .stop) .stop)) (by decide +kernel) ?_
  repeat' (first | exact trivial | refine BS.d (fun h => ?_) (fun h => ?_) | refine BS.e (fun h => ?_) (fun h => ?_) | refine BS.ne (fun h => ?_) (fun h => ?_) | refine BS.n ?_ | refine BS.s (fun h => ?_) (fun h => ?_) | refine And.intro ?_ ?_ | (refine Need.mk ?_; first | with_reducible rfl | (show @Eq TC _ _; rfl) | omega | (simp only [adN_zero]; omega)) | exact OutS.whole rfl rfl | refine ListO.go gOk hE ?_)
  all_goals exact OutS.whole rfl rfl
theorem MemNewI_run : RunT Try.prog 30 [] [] [.agg [tI hnB, tI hnC, tSL 115 (List.replicate 3 []), tSL 115 (List.replicate 9 [])]] [] := by
  have c1 := HeapNewI_run
  have c2 := ListsNewI_run
  generalize hnB = b at *
  generalize hnC = c at *
  generalize (List.replicate 3 [] : List (List Int)) = g at *
  generalize (List.replicate 9 [] : List (List Int)) = o at *
  refine RunT.of_vc gOk Try.func30 rfl rfl (Nat.le_of_ble_eq_true rfl) (by repeat' (first | exact trivial | exact ⟨_, rfl, Nat.le_refl _⟩ | exact Nat.le_of_ble_eq_true rfl | refine And.intro ?_ ?_)) (Nat.le_of_ble_eq_true rfl) rfl (fun F hE => ?_)
  repeat' (first | exact trivial | refine BS.d (fun h => ?_) (fun h => ?_) | refine BS.e (fun h => ?_) (fun h => ?_) | refine BS.ne (fun h => ?_) (fun h => ?_) | refine BS.n ?_ | refine BS.s (fun h => ?_) (fun h => ?_) | refine And.intro ?_ ?_ | (refine Need.mk ?_; first | with_reducible rfl | (show @Eq TC _ _; rfl) | omega | (simp only [adN_zero]; omega)) | exact OutS.whole rfl rfl | (refine OpK.call c1 rfl rfl rfl rfl hE ?_ rfl rfl ?_; focus ((repeat' (first | exact PsA.lit _ | exact PsA.ref rfl rfl | constructor)); all_goals (fail "ps"))) | (refine OpK.call c2 rfl rfl rfl rfl hE ?_ rfl rfl ?_; focus ((repeat' (first | exact PsA.lit _ | exact PsA.ref rfl rfl | constructor)); all_goals (fail "ps"))) | refine ListO.go gOk hE ?_)
  all_goals first | exact OutS.whole rfl rfl | trace_state
theorem MemNewS_run : RunT Try.prog 29 [] [] [.agg [tI hnB, tI hnC, tSL 115 (List.replicate 3 []), tSL 115 (List.replicate 9 [])]] [] := by
  have c1 := HeapNewS_run
  have c2 := ListsNewS_run
  generalize hnB = b at *
  generalize hnC = c at *
  generalize (List.replicate 3 [] : List (List Int)) = g at *
  generalize (List.replicate 9 [] : List (List Int)) = o at *
  refine RunT.of_vc gOk Try.func29 rfl rfl (Nat.le_of_ble_eq_true rfl) (by repeat' (first | exact trivial | exact ⟨_, rfl, Nat.le_refl _⟩ | exact Nat.le_of_ble_eq_true rfl | refine And.intro ?_ ?_)) (Nat.le_of_ble_eq_true rfl) rfl (fun F hE => ?_)
  repeat' (first | exact trivial | refine BS.d (fun h => ?_) (fun h => ?_) | refine BS.e (fun h => ?_) (fun h => ?_) | refine BS.ne (fun h => ?_) (fun h => ?_) | refine BS.n ?_ | refine BS.s (fun h => ?_) (fun h => ?_) | refine And.intro ?_ ?_ | (refine Need.mk ?_; first | with_reducible rfl | (show @Eq TC _ _; rfl) | omega | (simp only [adN_zero]; omega)) | exact OutS.whole rfl rfl | (refine OpK.call c1 rfl rfl rfl rfl hE ?_ rfl rfl ?_; focus ((repeat' (first | exact PsA.lit _ | exact PsA.ref rfl rfl | constructor)); all_goals (fail "ps"))) | (refine OpK.call c2 rfl rfl rfl rfl hE ?_ rfl rfl ?_; focus ((repeat' (first | exact PsA.lit _ | exact PsA.ref rfl rfl | constructor)); all_goals (fail "ps"))) | refine ListO.go gOk hE ?_)
  all_goals first | exact OutS.whole rfl rfl | trace_state
end Go.Proofs.Ytnclkdpocjhphaa
end

section
/- BaseNew in both packages. -/
namespace Go.Proofs.Ytnclkdpocjhphaa
open Go Go.Tr
set_option maxRecDepth 100000
set_option maxHeartbeats 4000000
set_option linter.unusedVariables false
set_option linter.unusedSimpArgs false
theorem ClockNewI_run : RunT Try.prog 88 [] [] [.agg [.lit (.int .i64 0), tPin 274 (List.replicate 3 zPin)]] [] := by
  refine RunT.of_vc gOk Try.func88 rfl rfl (Nat.le_of_ble_eq_true rfl) (by repeat' (first | exact trivial | exact ⟨_, rfl, Nat.le_refl _⟩ | exact Nat.le_of_ble_eq_true rfl | refine And.intro ?_ ?_)) (Nat.le_of_ble_eq_true rfl) rfl (fun F hE => ?_)
  repeat' (first | exact trivial | refine BS.d (fun h => ?_) (fun h => ?_) | refine BS.e (fun h => ?_) (fun h => ?_) | refine BS.ne (fun h => ?_) (fun h => ?_) | refine BS.n ?_ | refine BS.s (fun h => ?_) (fun h => ?_) | refine And.intro ?_ ?_ | (refine Need.mk ?_; first | with_reducible rfl | (show @Eq TC _ _; rfl) | omega | (simp only [adN_zero]; omega)) | exact OutS.whole rfl rfl | refine ListO.go gOk hE ?_)
  all_goals first | exact OutS.whole rfl rfl | exact Need.mk rfl | trace_state
theorem LimboNewI_run : RunT Try.prog 89 [] [] [.one (tLL 277 210 (List.replicate 3 []))] [] := by
  refine RunT.of_vc gOk Try.func89 rfl rfl (Nat.le_of_ble_eq_true rfl) (by repeat' (first | exact trivial | exact ⟨_, rfl, Nat.le_refl _⟩ | exact Nat.le_of_ble_eq_true rfl | refine And.intro ?_ ?_)) (Nat.le_of_ble_eq_true rfl) rfl (fun F hE => ?_)
  repeat' (first | exact trivial | refine BS.d (fun h => ?_) (fun h => ?_) | refine BS.e (fun h => ?_) (fun h => ?_) | refine BS.ne (fun h => ?_) (fun h => ?_) | refine BS.n ?_ | refine BS.s (fun h => ?_) (fun h => ?_) | refine And.intro ?_ ?_ | (refine Need.mk ?_; first | with_reducible rfl | (show @Eq TC _ _; rfl) | omega | (simp only [adN_zero]; omega)) | exact OutS.whole rfl rfl | refine ListO.go gOk hE ?_)
  all_goals first | exact Need.mk rfl | trace_state
theorem HazNewI_run : RunT Try.prog 90 [] [] [.one (tI (List.replicate 3 0))] [] := by
  refine RunT.of_vc gOk Try.func90 rfl rfl (Nat.le_of_ble_eq_true rfl) (by repeat' (first | exact trivial | exact ⟨_, rfl, Nat.le_refl _⟩ | exact Nat.le_of_ble_eq_true rfl | refine And.intro ?_ ?_)) (Nat.le_of_ble_eq_true rfl) rfl (fun F hE => ?_)
  repeat' (first | exact trivial | refine BS.d (fun h => ?_) (fun h => ?_) | refine BS.e (fun h => ?_) (fun h => ?_) | refine BS.ne (fun h => ?_) (fun h => ?_) | refine BS.n ?_ | refine BS.s (fun h => ?_) (fun h => ?_) | refine And.intro ?_ ?_ | (refine Need.mk ?_; first | with_reducible rfl | (show @Eq TC _ _; rfl) | omega | (simp only [adN_zero]; omega)) | exact OutS.whole rfl rfl | refine ListO.go gOk hE ?_)
  all_goals first | exact Need.mk rfl | trace_state
theorem BaseNewI_run : RunT Try.prog 35 [] [] [.agg [tI hnB, tI hnC, tSL 115 (List.replicate 3 []), tSL 115 (List.replicate 9 []), .lit (.int .i64 0), tPin 274 (List.replicate 3 zPin), tLL 277 210 (List.replicate 3 []), tI (List.replicate 3 0)]] [] := by
  have c1 := MemNewI_run
  have c2 := ClockNewI_run
  have c3 := LimboNewI_run
  have c4 := HazNewI_run
  generalize hnB = b at *
  generalize hnC = c at *
  generalize (List.replicate 3 [] : List (List Int)) = g at *
  generalize (List.replicate 9 [] : List (List Int)) = o at *
  generalize (List.replicate 3 zPin : List PinT) = ps at *
  generalize (List.replicate 3 [] : List (List Row)) = l at *
  generalize (List.replicate 3 0 : List Int) = z at *
  refine RunT.of_vc gOk Try.func35 rfl rfl (Nat.le_of_ble_eq_true rfl) (by repeat' (first | exact trivial | exact ⟨_, rfl, Nat.le_refl _⟩ | exact Nat.le_of_ble_eq_true rfl | refine And.intro ?_ ?_)) (Nat.le_of_ble_eq_true rfl) rfl (fun F hE => ?_)
  repeat' (first | exact trivial | refine BS.d (fun h => ?_) (fun h => ?_) | refine BS.e (fun h => ?_) (fun h => ?_) | refine BS.ne (fun h => ?_) (fun h => ?_) | refine BS.n ?_ | refine BS.s (fun h => ?_) (fun h => ?_) | refine And.intro ?_ ?_ | (refine Need.mk ?_; first | with_reducible rfl | (show @Eq TC _ _; rfl) | omega | (simp only [adN_zero]; omega)) | exact OutS.whole rfl rfl | (refine OpK.call c1 rfl rfl rfl rfl hE ?_ rfl rfl ?_; focus ((repeat' (first | exact PsA.lit _ | exact PsA.ref rfl rfl | constructor)); all_goals (fail "ps"))) | (refine OpK.call c2 rfl rfl rfl rfl hE ?_ rfl rfl ?_; focus ((repeat' (first | exact PsA.lit _ | exact PsA.ref rfl rfl | constructor)); all_goals (fail "ps"))) | (refine OpK.call c3 rfl rfl rfl rfl hE ?_ rfl rfl ?_; focus ((repeat' (first | exact PsA.lit _ | exact PsA.ref rfl rfl | constructor)); all_goals (fail "ps"))) | (refine OpK.call c4 rfl rfl rfl rfl hE ?_ rfl rfl ?_; focus ((repeat' (first | exact PsA.lit _ | exact PsA.ref rfl rfl | constructor)); all_goals (fail "ps"))) | refine ListO.go gOk hE ?_)
  all_goals first | exact OutS.whole rfl rfl | trace_state
theorem ClockNewS_run : RunT Try.prog 85 [] [] [.agg [.lit (.int .i64 0), tPin 274 (List.replicate 3 zPin)]] [] := by
  refine RunT.of_vc gOk Try.func85 rfl rfl (Nat.le_of_ble_eq_true rfl) (by repeat' (first | exact trivial | exact ⟨_, rfl, Nat.le_refl _⟩ | exact Nat.le_of_ble_eq_true rfl | refine And.intro ?_ ?_)) (Nat.le_of_ble_eq_true rfl) rfl (fun F hE => ?_)
  repeat' (first | exact trivial | refine BS.d (fun h => ?_) (fun h => ?_) | refine BS.e (fun h => ?_) (fun h => ?_) | refine BS.ne (fun h => ?_) (fun h => ?_) | refine BS.n ?_ | refine BS.s (fun h => ?_) (fun h => ?_) | refine And.intro ?_ ?_ | (refine Need.mk ?_; first | with_reducible rfl | (show @Eq TC _ _; rfl) | omega | (simp only [adN_zero]; omega)) | exact OutS.whole rfl rfl | refine ListO.go gOk hE ?_)
  all_goals first | exact OutS.whole rfl rfl | exact Need.mk rfl | trace_state
theorem LimboNewS_run : RunT Try.prog 86 [] [] [.one (tLL 277 210 (List.replicate 3 []))] [] := by
  refine RunT.of_vc gOk Try.func86 rfl rfl (Nat.le_of_ble_eq_true rfl) (by repeat' (first | exact trivial | exact ⟨_, rfl, Nat.le_refl _⟩ | exact Nat.le_of_ble_eq_true rfl | refine And.intro ?_ ?_)) (Nat.le_of_ble_eq_true rfl) rfl (fun F hE => ?_)
  repeat' (first | exact trivial | refine BS.d (fun h => ?_) (fun h => ?_) | refine BS.e (fun h => ?_) (fun h => ?_) | refine BS.ne (fun h => ?_) (fun h => ?_) | refine BS.n ?_ | refine BS.s (fun h => ?_) (fun h => ?_) | refine And.intro ?_ ?_ | (refine Need.mk ?_; first | with_reducible rfl | (show @Eq TC _ _; rfl) | omega | (simp only [adN_zero]; omega)) | exact OutS.whole rfl rfl | refine ListO.go gOk hE ?_)
  all_goals first | exact Need.mk rfl | trace_state
theorem HazNewS_run : RunT Try.prog 87 [] [] [.one (tI (List.replicate 3 0))] [] := by
  refine RunT.of_vc gOk Try.func87 rfl rfl (Nat.le_of_ble_eq_true rfl) (by repeat' (first | exact trivial | exact ⟨_, rfl, Nat.le_refl _⟩ | exact Nat.le_of_ble_eq_true rfl | refine And.intro ?_ ?_)) (Nat.le_of_ble_eq_true rfl) rfl (fun F hE => ?_)
  repeat' (first | exact trivial | refine BS.d (fun h => ?_) (fun h => ?_) | refine BS.e (fun h => ?_) (fun h => ?_) | refine BS.ne (fun h => ?_) (fun h => ?_) | refine BS.n ?_ | refine BS.s (fun h => ?_) (fun h => ?_) | refine And.intro ?_ ?_ | (refine Need.mk ?_; first | with_reducible rfl | (show @Eq TC _ _; rfl) | omega | (simp only [adN_zero]; omega)) | exact OutS.whole rfl rfl | refine ListO.go gOk hE ?_)
  all_goals first | exact Need.mk rfl | trace_state
theorem BaseNewS_run : RunT Try.prog 34 [] [] [.agg [tI hnB, tI hnC, tSL 115 (List.replicate 3 []), tSL 115 (List.replicate 9 []), .lit (.int .i64 0), tPin 274 (List.replicate 3 zPin), tLL 277 210 (List.replicate 3 []), tI (List.replicate 3 0)]] [] := by
  have c1 := MemNewS_run
  have c2 := ClockNewS_run
  have c3 := LimboNewS_run
  have c4 := HazNewS_run
  generalize hnB = b at *
  generalize hnC = c at *
  generalize (List.replicate 3 [] : List (List Int)) = g at *
  generalize (List.replicate 9 [] : List (List Int)) = o at *
  generalize (List.replicate 3 zPin : List PinT) = ps at *
  generalize (List.replicate 3 [] : List (List Row)) = l at *
  generalize (List.replicate 3 0 : List Int) = z at *
  refine RunT.of_vc gOk Try.func34 rfl rfl (Nat.le_of_ble_eq_true rfl) (by repeat' (first | exact trivial | exact ⟨_, rfl, Nat.le_refl _⟩ | exact Nat.le_of_ble_eq_true rfl | refine And.intro ?_ ?_)) (Nat.le_of_ble_eq_true rfl) rfl (fun F hE => ?_)
  repeat' (first | exact trivial | refine BS.d (fun h => ?_) (fun h => ?_) | refine BS.e (fun h => ?_) (fun h => ?_) | refine BS.ne (fun h => ?_) (fun h => ?_) | refine BS.n ?_ | refine BS.s (fun h => ?_) (fun h => ?_) | refine And.intro ?_ ?_ | (refine Need.mk ?_; first | with_reducible rfl | (show @Eq TC _ _; rfl) | omega | (simp only [adN_zero]; omega)) | exact OutS.whole rfl rfl | (refine OpK.call c1 rfl rfl rfl rfl hE ?_ rfl rfl ?_; focus ((repeat' (first | exact PsA.lit _ | exact PsA.ref rfl rfl | constructor)); all_goals (fail "ps"))) | (refine OpK.call c2 rfl rfl rfl rfl hE ?_ rfl rfl ?_; focus ((repeat' (first | exact PsA.lit _ | exact PsA.ref rfl rfl | constructor)); all_goals (fail "ps"))) | (refine OpK.call c3 rfl rfl rfl rfl hE ?_ rfl rfl ?_; focus ((repeat' (first | exact PsA.lit _ | exact PsA.ref rfl rfl | constructor)); all_goals (fail "ps"))) | (refine OpK.call c4 rfl rfl rfl rfl hE ?_ rfl rfl ?_; focus ((repeat' (first | exact PsA.lit _ | exact PsA.ref rfl rfl | constructor)); all_goals (fail "ps"))) | refine ListO.go gOk hE ?_)
  all_goals first | exact OutS.whole rfl rfl | trace_state
end Go.Proofs.Ytnclkdpocjhphaa
end

section
/- Marks of numbers. -/
namespace Go.Proofs.Ytnclkdpocjhphaa
open Go Go.Tr
set_option maxRecDepth 100000
set_option maxHeartbeats 4000000
set_option linter.unusedVariables false
set_option linter.unusedSimpArgs false
abbrev fI (m : Int) (j : Nat) : Int := m + j
abbrev bInt (e κ : Nat) (xs xs' : List Int) : Bt := ⟨κ, 0, true, .sl e 1 Int encI decI 0 xs, .sl e 1 Int encI decI 0 xs', .ty .own true e 1 Int encI decI 0 xs'⟩
abbrev bIntX (κ : Nat) (xs xs' : List Int) : Bt := ⟨κ, 0, true, .sl 0 1 Int encI decI 0 xs, .sl 0 1 Int encI decI 0 xs', .ty .own false 0 1 Int encI decI 0 xs'⟩
theorem markI_run (e : Nat) (xs : List Int) (m : Int) (h0 : 0 ≤ m) (h1 : m ≤ 33554432) (hn : xs.length ≤ 4000000) : RunT Try.prog 81 [.one (.h 0 xs.length), ti m] [.sl e 1 Int encI decI 0 xs] [oi (m + xs.length)] [.sl e 1 Int encI decI 0 (mkL 0 (fI m) xs xs.length)] := by
  refine RunT.of_vc gOk Try.func81 rfl rfl (Nat.le_of_ble_eq_true rfl) (by repeat' (first | exact trivial | exact ⟨_, rfl, Nat.le_refl _⟩ | exact Nat.le_of_ble_eq_true rfl | refine And.intro ?_ ?_)) (Nat.le_of_ble_eq_true rfl) rfl (fun F hE => ?_)
  repeat' (first | exact trivial | refine BS.d (fun h => ?_) (fun h => ?_) | refine BS.e (fun h => ?_) (fun h => ?_) | refine BS.ne (fun h => ?_) (fun h => ?_) | refine BS.n ?_ | refine BS.s (fun h => ?_) (fun h => ?_) | refine And.intro ?_ ?_ | (refine Need.mk ?_; first | with_reducible rfl | (show @Eq TC _ _; rfl) | omega | (simp only [adN_zero]; omega)) | exact OutS.whole rfl rfl | refine ListO.go gOk hE ?_)
  refine CodeK.loop gOk hE (fun i : Nat => ⟨[(0, vr 1000000 xs.length), (1, vi (m + i)), (5, vi i)], [(1000000, .ty .own false 0 1 Int encI decI 0 (mkL 0 (fI m) xs i))]⟩) (fun i => i ≤ xs.length) (fun i => xs.length - i) 0 (by refine leT.of ?_ ?_ rfl <;> repeat' (first | exact trivial | refine And.intro rfl ?_ | refine And.intro (by simp [mkL_zero] <;> rfl) ?_)) (Nat.zero_le _) ?_
  rintro i hi
  have hl := mkL_len 0 (fI m) xs i
  repeat' (first | exact trivial | refine BS.d (fun h => ?_) (fun h => ?_) | refine BS.e (fun h => ?_) (fun h => ?_) | refine BS.ne (fun h => ?_) (fun h => ?_) | refine BS.n ?_ | refine BS.s (fun h => ?_) (fun h => ?_) | refine And.intro ?_ ?_ | (refine Need.mk ?_; first | with_reducible rfl | (show @Eq TC _ _; rfl) | omega | (simp only [adN_zero]; omega)) | exact OutS.whole rfl rfl | refine ListO.go gOk hE ?_)
  all_goals (try simp only [adN_zero] at *)
  all_goals first
    | (refine Need.mk ?_; first | omega | (rw [List.length_set]; omega) | rw [show i = xs.length by omega])
    | (refine ⟨i + 1, (by refine leT.of ?_ ?_ rfl <;> repeat' (first | exact trivial | refine And.intro rfl ?_ | refine And.intro (by first | rfl | (refine litInt ?_; omega) | (refine congrArg (fun l => some (TRoot.ty .own false 0 1 Int encI decI 0 l)) ?_; exact mkL_set 0 (fI m) _ _ (by omega))) ?_)), by omega, by first | omega | (dsimp only; omega)⟩)
theorem heldI_run (xs : List Int) (m : Int) (h0 : 0 ≤ m) (h1 : m ≤ 33554432) (hn : xs.length ≤ 4000000) : RunT Try.prog 82 [.one (.c (tI (mkL 0 (fI m) xs xs.length))), ti m] [] [oi (m + xs.length)] [] := by
  have hl := mkL_len 0 (fI m) xs xs.length
  refine RunT.of_vc gOk Try.func82 rfl rfl (Nat.le_of_ble_eq_true rfl) (by repeat' (first | exact trivial | exact ⟨_, rfl, Nat.le_refl _⟩ | exact Nat.le_of_ble_eq_true rfl | refine And.intro ?_ ?_)) (Nat.le_of_ble_eq_true rfl) rfl (fun F hE => ?_)
  repeat' (first | exact trivial | refine BS.d (fun h => ?_) (fun h => ?_) | refine BS.e (fun h => ?_) (fun h => ?_) | refine BS.ne (fun h => ?_) (fun h => ?_) | refine BS.n ?_ | refine BS.s (fun h => ?_) (fun h => ?_) | refine And.intro ?_ ?_ | (refine Need.mk ?_; first | with_reducible rfl | (show @Eq TC _ _; rfl) | omega | (simp only [adN_zero]; omega)) | exact OutS.whole rfl rfl | refine ListO.go gOk hE ?_)
  refine CodeK.loop gOk hE (fun i : Nat => ⟨[(0, vr 1000000 (mkL 0 (fI m) xs xs.length).length), (1, vi (m + i)), (5, vi i)], [(1000000, rI .fro false (mkL 0 (fI m) xs xs.length))]⟩) (fun i => i ≤ xs.length) (fun i => xs.length - i) 0 (by refine leT.of ?_ ?_ rfl <;> repeat' (first | exact trivial | refine And.intro rfl ?_ | refine And.intro (by simp <;> rfl) ?_)) (Nat.zero_le _) ?_
  rintro i hi
  have hg : i < xs.length → (mkL 0 (fI m) xs xs.length).getD i 0 = fI m i := fun h => mkL_get _ _ _ _ _ h h
  repeat' (first | exact trivial | refine BS.d (fun h => ?_) (fun h => ?_) | refine BS.e (fun h => ?_) (fun h => ?_) | refine BS.ne (fun h => ?_) (fun h => ?_) | refine BS.n ?_ | refine BS.s (fun h => ?_) (fun h => ?_) | refine And.intro ?_ ?_ | (refine Need.mk ?_; first | with_reducible rfl | (show @Eq TC _ _; rfl) | omega | (simp only [adN_zero]; omega)) | exact OutS.whole rfl rfl | refine ListO.go gOk hE ?_)
  all_goals (try simp only [adN_zero] at *)
  all_goals first
    | (exfalso; have h9 := hg (by omega); rw [h9] at *; first | omega | (simp_all; done))
    | (refine Need.mk ?_; first | omega | rw [show i = xs.length by omega])
    | (refine ⟨i + 1, (by refine leT.of ?_ ?_ rfl <;> repeat' (first | exact trivial | refine And.intro rfl ?_ | refine And.intro (by first | rfl | (refine litInt ?_; omega)) ?_)), by omega, by first | omega | (dsimp only; omega)⟩)
end Go.Proofs.Ytnclkdpocjhphaa
end

section
/- Marks of a heap. -/
namespace Go.Proofs.Ytnclkdpocjhphaa
open Go Go.Tr
set_option maxRecDepth 100000
set_option maxHeartbeats 4000000
set_option linter.unusedVariables false
set_option linter.unusedSimpArgs false
theorem markH_run (e : Nat) (b c : List Int) (m : Int) (h0 : 0 ≤ m) (h1 : m ≤ 1048577) (hb : b.length ≤ 1048576) (hc : c.length ≤ 1048576) : RunT Try.prog 27 [.agg [.h 0 b.length, .h 1 c.length], ti m] [.sl e 1 Int encI decI 0 b, .sl e 1 Int encI decI 0 c] [oi (m + b.length + c.length)]
    [.sl e 1 Int encI decI 0 (mkL 0 (fI m) b b.length), .sl e 1 Int encI decI 0 (mkL 0 (fI (m + b.length)) c c.length)] := by
  have c1 := markI_run 0 b m h0 (by omega) (by omega)
  have c2 := markI_run 0 c (m + b.length) (by omega) (by omega) (by omega)
  refine RunT.of_vc gOk Try.func27 rfl rfl (Nat.le_of_ble_eq_true rfl) (by repeat' (first | exact trivial | exact ⟨_, rfl, Nat.le_refl _⟩ | exact Nat.le_of_ble_eq_true rfl | refine And.intro ?_ ?_)) (Nat.le_of_ble_eq_true rfl) rfl (fun F hE => ?_)
  repeat' (first | exact trivial | refine BS.d (fun h => ?_) (fun h => ?_) | refine BS.e (fun h => ?_) (fun h => ?_) | refine BS.ne (fun h => ?_) (fun h => ?_) | refine BS.n ?_ | refine BS.s (fun h => ?_) (fun h => ?_) | refine And.intro ?_ ?_ | (refine Need.mk ?_; first | with_reducible rfl | (show @Eq TC _ _; rfl) | omega | (simp only [adN_zero]; omega)) | exact OutS.whole rfl rfl | (refine OpK.callB (bIntX 1000000 b (mkL 0 (fI m) b b.length)) c1 rfl rfl rfl rfl hE (BtOk.sl rfl (mkL_len _ _ _ _)) rfl (QsVs.cons (.one (.h rfl rfl rfl)) (.cons (.one (.c (.lit _) rfl)) .nil)) rfl rfl ?_) | (refine OpK.callB (bIntX 1000001 c (mkL 0 (fI (m + b.length)) c c.length)) c2 rfl rfl rfl rfl hE (BtOk.sl rfl (mkL_len _ _ _ _)) rfl (QsVs.cons (.one (.h rfl rfl rfl)) (.cons (.one (.c (.lit _) rfl)) .nil)) rfl rfl ?_) | refine ListO.go gOk hE ?_)
  all_goals first | exact Need.mk rfl | trace_state
theorem heldH_run (b c : List Int) (m : Int) (h0 : 0 ≤ m) (h1 : m ≤ 1048577) (hb : b.length ≤ 1048576) (hc : c.length ≤ 1048576) : RunT Try.prog 28 [.agg [.c (tI (mkL 0 (fI m) b b.length)), .c (tI (mkL 0 (fI (m + b.length)) c c.length))], ti m] [] [oi (m + b.length + c.length)] [] := by
  have c1 := heldI_run b m h0 (by omega) (by omega)
  have c2 := heldI_run c (m + b.length) (by omega) (by omega) (by omega)
  refine RunT.of_vc gOk Try.func28 rfl rfl (Nat.le_of_ble_eq_true rfl) (by repeat' (first | exact trivial | exact ⟨_, rfl, Nat.le_refl _⟩ | exact Nat.le_of_ble_eq_true rfl | refine And.intro ?_ ?_)) (Nat.le_of_ble_eq_true rfl) rfl (fun F hE => ?_)
  repeat' (first | exact trivial | refine BS.d (fun h => ?_) (fun h => ?_) | refine BS.e (fun h => ?_) (fun h => ?_) | refine BS.ne (fun h => ?_) (fun h => ?_) | refine BS.n ?_ | refine BS.s (fun h => ?_) (fun h => ?_) | refine And.intro ?_ ?_ | (refine Need.mk ?_; first | with_reducible rfl | (show @Eq TC _ _; rfl) | omega | (simp only [adN_zero]; omega)) | exact OutS.whole rfl rfl | (refine OpK.call c1 rfl rfl rfl rfl hE ?_ rfl rfl ?_; focus ((repeat' (first | exact PsA.lit _ | exact PsA.ref rfl rfl | exact PsA.ref rfl (mkL_len _ _ _ _).symm | constructor)); all_goals (fail "ps"))) | (refine OpK.call c2 rfl rfl rfl rfl hE ?_ rfl rfl ?_; focus ((repeat' (first | exact PsA.lit _ | exact PsA.ref rfl rfl | exact PsA.ref rfl (mkL_len _ _ _ _).symm | constructor)); all_goals (fail "ps"))) | refine ListO.go gOk hE ?_)
  all_goals first | exact Need.mk rfl | (exfalso; omega) | trace_state
end Go.Proofs.Ytnclkdpocjhphaa
end

section
/- Marks of lists. -/
namespace Go.Proofs.Ytnclkdpocjhphaa
open Go Go.Tr
set_option maxRecDepth 100000
set_option maxHeartbeats 4000000
set_option linter.unusedVariables false
set_option linter.unusedSimpArgs false
abbrev bSL (e κ : Nat) (xs xs' : List (List Int)) : Bt := ⟨κ, 0, true, .sl e 1 (List Int) encL decL [] xs, .sl e 1 (List Int) encL decL [] xs', .ty .own true e 1 (List Int) encL decL [] xs'⟩
abbrev bSLX (κ : Nat) (xs xs' : List (List Int)) : Bt := ⟨κ, 0, true, .sl 0 1 (List Int) encL decL [] xs, .sl 0 1 (List Int) encL decL [] xs', .ty .own false 0 1 (List Int) encL decL [] xs'⟩
/-- The number that a list begins with. -/
def offI (m : Int) (xs : List (List Int)) : Nat → Int
  | 0 => m
  | i + 1 => offI m xs i + (xs.getD i []).length
theorem offI_eq (m : Int) (xs : List (List Int)) : ∀ i, i ≤ xs.length → offI m xs i = m + (xs.take i).flatten.length
  | 0, _ => by simp [offI]
  | i + 1, h => by
    have e : (xs.take (i + 1)).flatten = (xs.take i).flatten ++ xs.getD i [] := by
      rw [List.take_succ_eq_append_getElem (show i < xs.length by omega), List.flatten_append]
      simp [List.getD, show i < xs.length by omega]
    rw [offI, offI_eq m xs i (by omega), e, List.length_append]; omega
theorem offI_bd {m : Int} {xs : List (List Int)} {i : Nat} (hi : i ≤ xs.length) : m ≤ offI m xs i ∧ offI m xs i ≤ m + xs.flatten.length := by
  rw [offI_eq m xs i hi]
  have : (xs.take i).flatten.length ≤ xs.flatten.length := by
    conv => rhs; rw [← List.take_append_drop i xs, List.flatten_append, List.length_append]
    omega
  omega
abbrev gSL (m : Int) (xs : List (List Int)) (j : Nat) : List Int := mkL 0 (fI (offI m xs j)) (xs.getD j []) (xs.getD j []).length
theorem markSL_run (e : Nat) (xs : List (List Int)) (m : Int) (h0 : 0 ≤ m) (h1 : m ≤ 3145728) (hn : xs.length ≤ 1048576) (hc : xs.flatten.length ≤ 1048576) (hx : ∀ i, (xs.getD i []).length ≤ 1048576) : RunT Try.prog 70 [.one (.h 0 xs.length), ti m] [.sl e 1 (List Int) encL decL [] xs] [oi (offI m xs xs.length)] [.sl e 1 (List Int) encL decL [] (mkL [] (gSL m xs) xs xs.length)] := by
  refine RunT.of_vc gOk Try.func70 rfl rfl (Nat.le_of_ble_eq_true rfl) (by repeat' (first | exact trivial | exact ⟨_, rfl, Nat.le_refl _⟩ | exact Nat.le_of_ble_eq_true rfl | refine And.intro ?_ ?_)) (Nat.le_of_ble_eq_true rfl) rfl (fun F hE => ?_)
  repeat' (first | exact trivial | refine BS.d (fun h => ?_) (fun h => ?_) | refine BS.e (fun h => ?_) (fun h => ?_) | refine BS.ne (fun h => ?_) (fun h => ?_) | refine BS.n ?_ | refine BS.s (fun h => ?_) (fun h => ?_) | refine And.intro ?_ ?_ | (refine Need.mk ?_; first | with_reducible rfl | (show @Eq TC _ _; rfl) | omega | (simp only [adN_zero]; omega)) | exact OutS.whole rfl rfl | refine ListO.go gOk hE ?_)
  refine CodeK.loop gOk hE (fun i : Nat => ⟨[(0, vr 1000000 xs.length), (1, vi (offI m xs i)), (5, vi i)], [(1000000, rSL .own false 0 (mkL [] (gSL m xs) xs i))]⟩) (fun i => i ≤ xs.length) (fun i => xs.length - i) 0 (by refine leT.of ?_ ?_ rfl <;> repeat' (first | exact trivial | refine And.intro rfl ?_ | refine And.intro (by first | rfl | (simp [mkL_zero] <;> rfl)) ?_)) (Nat.zero_le _) ?_
  rintro i hi
  have hl := mkL_len [] (gSL m xs) xs i
  have hb := offI_bd (m := m) hi
  by_cases hi2 : i < xs.length
  · have hgi := mkL_ge [] (gSL m xs) xs i i (Nat.le_refl _)
    have hxi := hx i
    have c1 := markI_run 3 ((mkL [] (gSL m xs) xs i).getD i []) (offI m xs i) (by omega) (by omega) (by rw [hgi]; omega)
    repeat' (first | exact trivial | refine BS.d (fun h => ?_) (fun h => ?_) | refine BS.e (fun h => ?_) (fun h => ?_) | refine BS.ne (fun h => ?_) (fun h => ?_) | refine BS.n ?_ | refine BS.s (fun h => ?_) (fun h => ?_) | refine And.intro ?_ ?_ | (refine Need.mk ?_; first | with_reducible rfl | (show @Eq TC _ _; rfl) | omega | (simp only [adN_zero]; omega)) | exact OutS.whole rfl rfl | (refine ListO.open_ gOk hE 5000 rfl rfl rfl rfl rfl rfl rfl rfl (by (try simp only [adN_zero]); omega) (by decide) rfl rfl rfl rfl ?_) | (refine OpK.callB (bInt 3 5000 ((mkL [] (gSL m xs) xs i).getD i []) (mkL 0 (fI (offI m xs i)) ((mkL [] (gSL m xs) xs i).getD i []) ((mkL [] (gSL m xs) xs i).getD i []).length)) c1 rfl rfl rfl rfl hE (BtOk.sl rfl (mkL_len _ _ _ _)) rfl (QsVs.cons (.one (.h rfl rfl rfl)) (.cons (.one (.c (.lit _) rfl)) .nil)) rfl rfl ?_) | refine ListO.go gOk hE ?_)
    all_goals (try simp only [adN_zero] at *)
    all_goals first
      | (exfalso; omega)
      | (refine Need.mk ?_; omega)
      | (refine ⟨i + 1, ?_, by omega, by first | omega | (dsimp only; omega)⟩
         refine St.le.trans (close_le (κ := 1000000) (key := 5000) (mkL 0 (fI (offI m xs i)) ((mkL [] (gSL m xs) xs i).getD i []) ((mkL [] (gSL m xs) xs i).getD i []).length) (by rfl) (by rfl) (by exact (mkL_len _ _ _ _).symm) (by rfl) (by rfl) (by omega) (by decide) (by rfl) (fun r' h8 h9 => absurd (Nat.lt_one_iff.1 h8) h9)) ?_
         exact (by refine leT.of ?_ ?_ rfl <;> repeat' (first | exact trivial | refine And.intro rfl ?_ | refine And.intro (by first | rfl | (rw [hgi]; rfl) | (refine congrArg (fun l => some (rSL .own false 0 l)) ?_; rw [hgi]; exact mkL_set [] (gSL m xs) _ _ (by omega))) ?_)))
  · repeat' (first | exact trivial | refine BS.d (fun h => ?_) (fun h => ?_) | refine BS.e (fun h => ?_) (fun h => ?_) | refine BS.ne (fun h => ?_) (fun h => ?_) | refine BS.n ?_ | refine BS.s (fun h => ?_) (fun h => ?_) | refine And.intro ?_ ?_ | (refine Need.mk ?_; first | with_reducible rfl | (show @Eq TC _ _; rfl) | omega | (simp only [adN_zero]; omega)) | exact OutS.whole rfl rfl | refine ListO.go gOk hE ?_)
    all_goals (try simp only [adN_zero] at *)
    all_goals first
      | (exfalso; omega)
      | (refine Need.mk ?_; first | omega | rw [show i = xs.length by omega])
      | (refine Need.mk ?_; (try rw [show i = xs.length by omega]); rfl)
theorem markLs_run (e e' : Nat) (g o : List (List Int)) (m : Int) (h0 : 0 ≤ m) (h1 : m ≤ 1048577) (hg : g.length ≤ 1048576) (hcg : g.flatten.length ≤ 1048576) (hxg : ∀ i, (g.getD i []).length ≤ 1048576) (ho : o.length ≤ 1048576) (hco : o.flatten.length ≤ 1048576) (hxo : ∀ i, (o.getD i []).length ≤ 1048576) (hs : m + g.flatten.length ≤ 3145728) :
    RunT Try.prog 18 [.agg [.h 0 g.length, .h 1 o.length], ti m] [.sl e 1 (List Int) encL decL [] g, .sl e' 1 (List Int) encL decL [] o] [oi (offI (offI m g g.length) o o.length)]
      [.sl e 1 (List Int) encL decL [] (mkL [] (gSL m g) g g.length), .sl e' 1 (List Int) encL decL [] (mkL [] (gSL (offI m g g.length) o) o o.length)] := by
  have hb := offI_bd (m := m) (Nat.le_refl g.length)
  have c1 := markSL_run 0 g m h0 (by omega) hg hcg hxg
  have c2 := markSL_run 0 o (offI m g g.length) (by omega) (by omega) ho hco hxo
  generalize hq : offI m g g.length = m2 at *
  refine RunT.of_vc gOk Try.func18 rfl rfl (Nat.le_of_ble_eq_true rfl) (by repeat' (first | exact trivial | exact ⟨_, rfl, Nat.le_refl _⟩ | exact Nat.le_of_ble_eq_true rfl | refine And.intro ?_ ?_)) (Nat.le_of_ble_eq_true rfl) rfl (fun F hE => ?_)
  repeat' (first | exact trivial | refine BS.d (fun h => ?_) (fun h => ?_) | refine BS.e (fun h => ?_) (fun h => ?_) | refine BS.ne (fun h => ?_) (fun h => ?_) | refine BS.n ?_ | refine BS.s (fun h => ?_) (fun h => ?_) | refine And.intro ?_ ?_ | (refine Need.mk ?_; first | with_reducible rfl | (show @Eq TC _ _; rfl) | omega | (simp only [adN_zero]; omega)) | exact OutS.whole rfl rfl | (refine OpK.callB (bSLX 1000000 g (mkL [] (gSL m g) g g.length)) c1 rfl rfl rfl rfl hE (BtOk.sl rfl (mkL_len _ _ _ _)) rfl (QsVs.cons (.one (.h rfl rfl rfl)) (.cons (.one (.c (.lit _) rfl)) .nil)) rfl rfl ?_) | (refine OpK.callB (bSLX 1000001 o (mkL [] (gSL m2 o) o o.length)) c2 rfl rfl rfl rfl hE (BtOk.sl rfl (mkL_len _ _ _ _)) rfl (QsVs.cons (.one (.h rfl rfl rfl)) (.cons (.one (.c (.lit _) rfl)) .nil)) rfl rfl ?_) | refine ListO.go gOk hE ?_)
  all_goals first | exact Need.mk rfl | trace_state
end Go.Proofs.Ytnclkdpocjhphaa
end

section
namespace Go.Proofs.Ytnclkdpocjhphaa
open Go Go.Tr
set_option maxRecDepth 100000
set_option maxHeartbeats 4000000
set_option linter.unusedVariables false
set_option linter.unusedSimpArgs false
def szJ {α : Type} (xs : List α) (m : Int) : Int := if m - xs.length < 0 then -1 else m - xs.length
def szJL {α : Type} : List (List α) → Int → Int
  | [], m => m
  | x :: l, m => if szJ x m < 0 then -1 else szJL l (szJ x m)
def szJLs {α : Type} (xs : List (List α)) (m : Int) : Int := if m - xs.length < 0 then -1 else szJL xs (m - xs.length)
theorem szLRowS_run (e : Nat) (xs : List Row) (m : Int) (h0 : 0 ≤ m) (h1 : m ≤ 1048576) (hn : xs.length ≤ 9223372036854775807) : RunT Try.prog 240 [.one (.c (tR e xs)), ti m] [] [oi (szJ xs m)] [] := by
  refine RunT.of_vc gOk Try.func240 rfl rfl (Nat.le_of_ble_eq_true rfl) (by repeat' (first | exact trivial | exact ⟨_, rfl, Nat.le_refl _⟩ | exact Nat.le_of_ble_eq_true rfl | refine And.intro ?_ ?_)) (Nat.le_of_ble_eq_true rfl) rfl (fun F hE => ?_)
  repeat' (first | exact trivial | refine BS.d (fun h => ?_) (fun h => ?_) | refine BS.e (fun h => ?_) (fun h => ?_) | refine BS.ne (fun h => ?_) (fun h => ?_) | refine BS.n ?_ | refine BS.s (fun h => ?_) (fun h => ?_) | refine And.intro ?_ ?_ | (refine Need.mk ?_; first | with_reducible rfl | (show @Eq TC _ _; rfl) | omega | (simp only [adN_zero]; omega)) | exact OutS.whole rfl rfl | refine ListO.go gOk hE ?_)
  all_goals (refine Need.mk ?_; unfold szJ; first | rw [if_pos (by omega)] | rw [if_neg (by omega)])
theorem szLList_run (e : Nat) (x : List Row) (m : Int) (h0 : 0 ≤ m) (h1 : m ≤ 1048576) (hn : x.length ≤ 9223372036854775807) : RunT Try.prog 201 [.agg [.c (tR e x)], ti m] [] [oi (szJ x m)] [] := by
  refine RunT.of_vc gOk Try.func201 rfl rfl (Nat.le_of_ble_eq_true rfl) (by repeat' (first | exact trivial | exact ⟨_, rfl, Nat.le_refl _⟩ | exact Nat.le_of_ble_eq_true rfl | refine And.intro ?_ ?_)) (Nat.le_of_ble_eq_true rfl) rfl (fun F hE => ?_)
  repeat' (first | exact trivial | refine BS.d (fun h => ?_) (fun h => ?_) | refine BS.e (fun h => ?_) (fun h => ?_) | refine BS.ne (fun h => ?_) (fun h => ?_) | refine BS.n ?_ | refine BS.s (fun h => ?_) (fun h => ?_) | refine And.intro ?_ ?_ | (refine Need.mk ?_; first | with_reducible rfl | (show @Eq TC _ _; rfl) | omega | (simp only [adN_zero]; omega)) | exact OutS.whole rfl rfl | refine ListO.go gOk hE ?_)
  refine OpK.call (szLRowS_run e x m h0 h1 hn) rfl rfl rfl rfl hE (by repeat' (first | exact PsA.lit _ | exact PsA.ref rfl rfl | constructor)) rfl rfl ?_
  repeat' (first | exact trivial | refine BS.d (fun h => ?_) (fun h => ?_) | refine BS.e (fun h => ?_) (fun h => ?_) | refine BS.ne (fun h => ?_) (fun h => ?_) | refine BS.n ?_ | refine BS.s (fun h => ?_) (fun h => ?_) | refine And.intro ?_ ?_ | (refine Need.mk ?_; first | with_reducible rfl | (show @Eq TC _ _; rfl) | omega | (simp only [adN_zero]; omega)) | exact OutS.whole rfl rfl | refine ListO.go gOk hE ?_)
  refine Need.mk ?_
  unfold szJ at *
  split <;> simp_all <;> omega
theorem szLListS_run (e' e : Nat) (xs : List (List Row)) (m : Int) (h0 : 0 ≤ m) (h1 : m ≤ 1048576) (hn : xs.length ≤ 9223372036854775807) (hx : ∀ i, (xs.getD i []).length ≤ 9223372036854775807) : RunT Try.prog 158 [.one (.c (tLL e' e xs)), ti m] [] [oi (szJLs xs m)] [] := by
  refine RunT.of_vc gOk Try.func158 rfl rfl (Nat.le_of_ble_eq_true rfl) (by repeat' (first | exact trivial | exact ⟨_, rfl, Nat.le_refl _⟩ | exact Nat.le_of_ble_eq_true rfl | refine And.intro ?_ ?_)) (Nat.le_of_ble_eq_true rfl) rfl (fun F hE => ?_)
  repeat' (first | exact trivial | refine BS.d (fun h => ?_) (fun h => ?_) | refine BS.e (fun h => ?_) (fun h => ?_) | refine BS.ne (fun h => ?_) (fun h => ?_) | refine BS.n ?_ | refine BS.s (fun h => ?_) (fun h => ?_) | refine And.intro ?_ ?_ | (refine Need.mk ?_; first | with_reducible rfl | (show @Eq TC _ _; rfl) | omega | (simp only [adN_zero]; omega)) | exact OutS.whole rfl rfl | refine ListO.go gOk hE ?_)
  · refine Need.mk ?_
    unfold szJLs; rw [if_pos (by omega)]
  · refine CodeK.loop gOk hE (fun i : Nat × Int => ⟨[(0, vr 1000000 xs.length), (1, vi i.2), (5, vi i.1)], [(1000000, rLL .fro false e' e xs)]⟩) (fun i => i.1 ≤ xs.length ∧ 0 ≤ i.2 ∧ i.2 ≤ 1048576 ∧ szJLs xs m = szJL (xs.drop i.1) i.2) (fun i => xs.length - i.1) (0, m - xs.length) (by refine leT.of ?_ ?_ rfl <;> repeat' (first | exact trivial | refine And.intro rfl ?_ | refine And.intro (by simp) ?_)) ⟨Nat.zero_le _, by omega, by omega, by unfold szJLs; rw [if_neg (by omega)]; rfl⟩ ?_
    rintro ⟨i, b⟩ ⟨hi, hb, hb1, hs⟩
    dsimp only at hi hb hb1 hs
    repeat' (first | exact trivial | refine BS.d (fun h => ?_) (fun h => ?_) | refine BS.e (fun h => ?_) (fun h => ?_) | refine BS.ne (fun h => ?_) (fun h => ?_) | refine BS.n ?_ | refine BS.s (fun h => ?_) (fun h => ?_) | refine And.intro ?_ ?_ | (refine Need.mk ?_; first | with_reducible rfl | (show @Eq TC _ _; rfl) | omega | (simp only [adN_zero]; omega)) | exact OutS.whole rfl rfl | refine ListO.go gOk hE ?_)
    · have hc := drop_cons [] (xs := xs) (i := i) (by omega)
      refine OpK.call (szLList_run e' _ _ hb hb1 (hx i)) rfl rfl rfl rfl hE (by repeat' (first | exact PsA.lit _ | exact PsA.ref rfl rfl | constructor)) rfl rfl ?_
      repeat' (first | exact trivial | refine BS.d (fun h => ?_) (fun h => ?_) | refine BS.e (fun h => ?_) (fun h => ?_) | refine BS.ne (fun h => ?_) (fun h => ?_) | refine BS.n ?_ | refine BS.s (fun h => ?_) (fun h => ?_) | refine And.intro ?_ ?_ | (refine Need.mk ?_; first | with_reducible rfl | (show @Eq TC _ _; rfl) | omega | (simp only [adN_zero]; omega)) | exact OutS.whole rfl rfl | refine ListO.go gOk hE ?_)
      · rename_i h
        refine Need.mk ?_
        rw [hs, hc, szJL, if_pos h]
      · rename_i h
        refine ⟨(i + 1, szJ (xs.getD i []) b), (by refine leT.of ?_ ?_ rfl <;> repeat' (first | exact trivial | refine And.intro rfl ?_ | refine And.intro (by simp) ?_)), ⟨?_, ?_, ?_, ?_⟩, ?_⟩
        · dsimp only; omega
        · dsimp only; omega
        · dsimp only; unfold szJ at h ⊢; split at h <;> split <;> omega
        · dsimp only; rw [hs, hc, szJL, if_neg h]
        · dsimp only; omega
    · refine Need.mk ?_
      rw [hs, List.drop_eq_nil_of_le (by omega)]; rfl
theorem toLRow_run (x : Row) : RunT Try.prog 254 [.agg [.c (.lit (.int .i64 x.1)), .c (.lit (.int .i64 x.2))]] [] [.agg [.lit (.int .i64 x.1), .lit (.int .i64 x.2)]] [] := by
  refine RunT.of_vc gOk Try.func254 rfl rfl (Nat.le_of_ble_eq_true rfl) (by repeat' (first | exact trivial | exact ⟨_, rfl, Nat.le_refl _⟩ | exact Nat.le_of_ble_eq_true rfl | refine And.intro ?_ ?_)) (Nat.le_of_ble_eq_true rfl) rfl (fun F hE => ?_)
  repeat' (first | exact trivial | refine BS.d (fun h => ?_) (fun h => ?_) | refine BS.e (fun h => ?_) (fun h => ?_) | refine BS.ne (fun h => ?_) (fun h => ?_) | refine BS.n ?_ | refine BS.s (fun h => ?_) (fun h => ?_) | refine And.intro ?_ ?_ | (refine Need.mk ?_; first | with_reducible rfl | (show @Eq TC _ _; rfl) | omega | (simp only [adN_zero]; omega)) | exact OutS.whole rfl rfl | refine ListO.go gOk hE ?_)
theorem eqLRow_run (x : Row) : RunT Try.prog 239 [.agg [.c (.lit (.int .i64 x.1)), .c (.lit (.int .i64 x.2))], .agg [.c (.lit (.int .i64 x.1)), .c (.lit (.int .i64 x.2))]] [] [ob true] [] := by
  refine RunT.of_vc gOk Try.func239 rfl rfl (Nat.le_of_ble_eq_true rfl) (by repeat' (first | exact trivial | exact ⟨_, rfl, Nat.le_refl _⟩ | exact Nat.le_of_ble_eq_true rfl | refine And.intro ?_ ?_)) (Nat.le_of_ble_eq_true rfl) rfl (fun F hE => ?_)
  repeat' (first | exact trivial | refine BS.d (fun h => ?_) (fun h => ?_) | refine BS.e (fun h => ?_) (fun h => ?_) | refine BS.ne (fun h => ?_) (fun h => ?_) | refine BS.n ?_ | refine BS.s (fun h => ?_) (fun h => ?_) | refine And.intro ?_ ?_ | (refine Need.mk ?_; first | with_reducible rfl | (show @Eq TC _ _; rfl) | omega | (simp only [adN_zero]; omega)) | exact OutS.whole rfl rfl | refine ListO.go gOk hE ?_)
  all_goals exact absurd rfl h
theorem toLRowS_run (e : Nat) (xs : List Row) (hn : xs.length ≤ 1048576) : RunT Try.prog 242 [.one (.c (tR e xs))] [] [.one (tR 277 xs)] [] := by
  refine RunT.of_vc gOk Try.func242 rfl rfl (Nat.le_of_ble_eq_true rfl) (by repeat' (first | exact trivial | exact ⟨_, rfl, Nat.le_refl _⟩ | exact Nat.le_of_ble_eq_true rfl | refine And.intro ?_ ?_)) (Nat.le_of_ble_eq_true rfl) rfl (fun F hE => ?_)
  repeat' (first | exact trivial | refine BS.d (fun h => ?_) (fun h => ?_) | refine BS.e (fun h => ?_) (fun h => ?_) | refine BS.ne (fun h => ?_) (fun h => ?_) | refine BS.n ?_ | refine BS.s (fun h => ?_) (fun h => ?_) | refine And.intro ?_ ?_ | (refine Need.mk ?_; first | with_reducible rfl | (show @Eq TC _ _; rfl) | omega | (simp only [adN_zero]; omega)) | exact OutS.whole rfl rfl | refine ListO.go gOk hE ?_)
  refine CodeK.loop gOk hE (fun i : Nat => ⟨[(0, vr 1000000 xs.length), (3, vr 7 xs.length), (4, vi i)], [(7, rR .own true 277 (fl (0, 0) xs i)), (1000000, rR .fro false e xs)]⟩) (fun i => i ≤ xs.length) (fun i => xs.length - i) 0 (by refine leT.of ?_ ?_ rfl <;> repeat' (first | exact trivial | refine And.intro rfl ?_ | refine And.intro (by simp [fl_zero] <;> rfl) ?_)) (Nat.zero_le _) ?_
  rintro i hi
  have hl := fl_len (0, 0) xs i hi
  repeat' (first | exact trivial | refine BS.d (fun h => ?_) (fun h => ?_) | refine BS.e (fun h => ?_) (fun h => ?_) | refine BS.ne (fun h => ?_) (fun h => ?_) | refine BS.n ?_ | refine BS.s (fun h => ?_) (fun h => ?_) | refine And.intro ?_ ?_ | (refine Need.mk ?_; first | with_reducible rfl | (show @Eq TC _ _; rfl) | omega | (simp only [adN_zero]; omega)) | exact OutS.whole rfl rfl | refine ListO.go gOk hE ?_)
  · refine OpK.call (toLRow_run (xs.getD i (0, 0))) rfl rfl rfl rfl hE (by repeat' (first | exact PsA.lit _ | exact PsA.ref rfl rfl | constructor)) rfl rfl ?_
    repeat' (first | exact trivial | refine BS.d (fun h => ?_) (fun h => ?_) | refine BS.e (fun h => ?_) (fun h => ?_) | refine BS.ne (fun h => ?_) (fun h => ?_) | refine BS.n ?_ | refine BS.s (fun h => ?_) (fun h => ?_) | refine And.intro ?_ ?_ | (refine Need.mk ?_; first | with_reducible rfl | (show @Eq TC _ _; rfl) | omega | (simp only [adN_zero]; omega)) | exact OutS.whole rfl rfl | refine ListO.go gOk hE ?_)
    all_goals (refine ⟨i + 1, (by refine leT.of ?_ ?_ rfl <;> repeat' (first | exact trivial | refine And.intro rfl ?_ | refine And.intro (by first | (rw [← fl_set (0, 0) xs i (by omega)]; rfl) | (simp <;> rfl)) ?_)), ?_⟩; (refine And.intro ?_ ?_) <;> (first | omega | (dsimp only; omega) | trivial))
  · exact OutS.whole hl.symm (by rw [fl_full _ _ _ (by omega) hi]; rfl)
theorem toLList_run (e : Nat) (x : List Row) (hn : x.length ≤ 1048576) : RunT Try.prog 204 [.agg [.c (tR e x)]] [] [.agg [tR 277 x]] [] := by
  refine RunT.of_vc gOk Try.func204 rfl rfl (Nat.le_of_ble_eq_true rfl) (by repeat' (first | exact trivial | exact ⟨_, rfl, Nat.le_refl _⟩ | exact Nat.le_of_ble_eq_true rfl | refine And.intro ?_ ?_)) (Nat.le_of_ble_eq_true rfl) rfl (fun F hE => ?_)
  repeat' (first | exact trivial | refine BS.d (fun h => ?_) (fun h => ?_) | refine BS.e (fun h => ?_) (fun h => ?_) | refine BS.ne (fun h => ?_) (fun h => ?_) | refine BS.n ?_ | refine BS.s (fun h => ?_) (fun h => ?_) | refine And.intro ?_ ?_ | (refine Need.mk ?_; first | with_reducible rfl | (show @Eq TC _ _; rfl) | omega | (simp only [adN_zero]; omega)) | exact OutS.whole rfl rfl | refine ListO.go gOk hE ?_)
  refine OpK.call (toLRowS_run e x hn) rfl rfl rfl rfl hE (by repeat' (first | exact PsA.lit _ | exact PsA.ref rfl rfl | constructor)) rfl rfl ?_
  repeat' (first | exact trivial | refine BS.d (fun h => ?_) (fun h => ?_) | refine BS.e (fun h => ?_) (fun h => ?_) | refine BS.ne (fun h => ?_) (fun h => ?_) | refine BS.n ?_ | refine BS.s (fun h => ?_) (fun h => ?_) | refine And.intro ?_ ?_ | (refine Need.mk ?_; first | with_reducible rfl | (show @Eq TC _ _; rfl) | omega | (simp only [adN_zero]; omega)) | exact OutS.whole rfl rfl | refine ListO.go gOk hE ?_)
theorem toLListS_run (e' e : Nat) (xs : List (List Row)) (hn : xs.length ≤ 1048576) (hx : ∀ i, (xs.getD i []).length ≤ 1048576) : RunT Try.prog 161 [.one (.c (tLL e' e xs))] [] [.one (tLL 277 210 xs)] [] := by
  refine RunT.of_vc gOk Try.func161 rfl rfl (Nat.le_of_ble_eq_true rfl) (by repeat' (first | exact trivial | exact ⟨_, rfl, Nat.le_refl _⟩ | exact Nat.le_of_ble_eq_true rfl | refine And.intro ?_ ?_)) (Nat.le_of_ble_eq_true rfl) rfl (fun F hE => ?_)
  repeat' (first | exact trivial | refine BS.d (fun h => ?_) (fun h => ?_) | refine BS.e (fun h => ?_) (fun h => ?_) | refine BS.ne (fun h => ?_) (fun h => ?_) | refine BS.n ?_ | refine BS.s (fun h => ?_) (fun h => ?_) | refine And.intro ?_ ?_ | (refine Need.mk ?_; first | with_reducible rfl | (show @Eq TC _ _; rfl) | omega | (simp only [adN_zero]; omega)) | exact OutS.whole rfl rfl | refine ListO.go gOk hE ?_)
  refine CodeK.loop gOk hE (fun i : Nat => ⟨[(0, vr 1000000 xs.length), (3, vr 7 xs.length), (4, vi i)], [(7, rLL .own true 277 210 (fl [] xs i)), (1000000, rLL .fro false e' e xs)]⟩) (fun i => i ≤ xs.length) (fun i => xs.length - i) 0 (by refine leT.of ?_ ?_ rfl <;> repeat' (first | exact trivial | refine And.intro rfl ?_ | refine And.intro (by simp [fl_zero] <;> rfl) ?_)) (Nat.zero_le _) ?_
  rintro i hi
  have hl := fl_len [] xs i hi
  repeat' (first | exact trivial | refine BS.d (fun h => ?_) (fun h => ?_) | refine BS.e (fun h => ?_) (fun h => ?_) | refine BS.ne (fun h => ?_) (fun h => ?_) | refine BS.n ?_ | refine BS.s (fun h => ?_) (fun h => ?_) | refine And.intro ?_ ?_ | (refine Need.mk ?_; first | with_reducible rfl | (show @Eq TC _ _; rfl) | omega | (simp only [adN_zero]; omega)) | exact OutS.whole rfl rfl | refine ListO.go gOk hE ?_)
  · refine OpK.call (toLList_run e' _ (hx i)) rfl rfl rfl rfl hE (by repeat' (first | exact PsA.lit _ | exact PsA.ref rfl rfl | constructor)) rfl rfl ?_
    repeat' (first | exact trivial | refine BS.d (fun h => ?_) (fun h => ?_) | refine BS.e (fun h => ?_) (fun h => ?_) | refine BS.ne (fun h => ?_) (fun h => ?_) | refine BS.n ?_ | refine BS.s (fun h => ?_) (fun h => ?_) | refine And.intro ?_ ?_ | (refine Need.mk ?_; first | with_reducible rfl | (show @Eq TC _ _; rfl) | omega | (simp only [adN_zero]; omega)) | exact OutS.whole rfl rfl | refine ListO.go gOk hE ?_)
    refine OpK.stN gOk (xs.getD i []) rfl rfl rfl rfl rfl rfl rfl rfl rfl (by first | omega | (simp only [adN_zero]; omega)) (by first | exact (StN.ref (by rfl) (by first | rfl | simp) (by rfl) (by rfl) (by rfl) StN.nil) | exact (StN.emp (by rfl) StN.nil)) ?_
    repeat' (first | exact trivial | refine BS.d (fun h => ?_) (fun h => ?_) | refine BS.e (fun h => ?_) (fun h => ?_) | refine BS.ne (fun h => ?_) (fun h => ?_) | refine BS.n ?_ | refine BS.s (fun h => ?_) (fun h => ?_) | refine And.intro ?_ ?_ | (refine Need.mk ?_; first | with_reducible rfl | (show @Eq TC _ _; rfl) | omega | (simp only [adN_zero]; omega)) | exact OutS.whole rfl rfl | refine ListO.go gOk hE ?_)
    all_goals (refine ⟨i + 1, (by refine leT.of ?_ ?_ rfl <;> repeat' (first | exact trivial | refine And.intro rfl ?_ | refine And.intro (by first | (rw [← fl_set [] xs i (by omega)]; rfl) | (simp <;> rfl)) ?_)), ?_⟩; (refine And.intro ?_ ?_) <;> (first | omega | (dsimp only; omega) | trivial))
  · exact OutS.whole hl.symm (by rw [fl_full _ _ _ (by omega) hi]; rfl)
theorem eqLRowS_run (e : Nat) (xs : List Row) (hn : xs.length ≤ 4000000) : RunT Try.prog 198 [.one (.c (tR e xs)), .one (.c (tR e xs))] [] [ob true] [] := by
  refine RunT.of_vc gOk Try.func198 rfl rfl (Nat.le_of_ble_eq_true rfl) (by repeat' (first | exact trivial | exact ⟨_, rfl, Nat.le_refl _⟩ | exact Nat.le_of_ble_eq_true rfl | refine And.intro ?_ ?_)) (Nat.le_of_ble_eq_true rfl) rfl (fun F hE => ?_)
  repeat' (first | exact trivial | refine BS.d (fun h => ?_) (fun h => ?_) | refine BS.e (fun h => ?_) (fun h => ?_) | refine BS.ne (fun h => ?_) (fun h => ?_) | refine BS.n ?_ | refine BS.s (fun h => ?_) (fun h => ?_) | refine And.intro ?_ ?_ | (refine Need.mk ?_; first | with_reducible rfl | (show @Eq TC _ _; rfl) | omega | (simp only [adN_zero]; omega)) | exact OutS.whole rfl rfl | refine ListO.go gOk hE ?_)
  · refine CodeK.loop gOk hE (fun i : Nat => ⟨[(0, vr 1000000 xs.length), (1, vr 1000001 xs.length), (5, vi i)], [(1000000, rR .fro false e xs), (1000001, rR .fro false e xs)]⟩) (fun i => i ≤ xs.length) (fun i => xs.length - i) 0 (by refine leT.of ?_ ?_ rfl <;> repeat' (first | exact trivial | refine And.intro rfl ?_ | refine And.intro (by simp) ?_)) (Nat.zero_le _) ?_
    rintro i hi
    repeat' (first | exact trivial | refine BS.d (fun h => ?_) (fun h => ?_) | refine BS.e (fun h => ?_) (fun h => ?_) | refine BS.ne (fun h => ?_) (fun h => ?_) | refine BS.n ?_ | refine BS.s (fun h => ?_) (fun h => ?_) | refine And.intro ?_ ?_ | (refine Need.mk ?_; first | with_reducible rfl | (show @Eq TC _ _; rfl) | omega | (simp only [adN_zero]; omega)) | exact OutS.whole rfl rfl | refine ListO.go gOk hE ?_)
    · refine CodeK.draw gOk hE rfl (fun _ _ h => h) (.take 0 (.take 1 (.take 2 (.take 4 (.take 5 (.take 6 (.alt 3 (.alt 7 (.alt 8 (.take 9 .done) .stop) .stop) (.alt 7 (.alt 3 (.alt 8 (.take 9 .done) .stop) .stop) .stop)))))))) (by decide +kernel) ?_
      repeat' (first | exact trivial | refine BS.d (fun h => ?_) (fun h => ?_) | refine BS.e (fun h => ?_) (fun h => ?_) | refine BS.ne (fun h => ?_) (fun h => ?_) | refine BS.n ?_ | refine BS.s (fun h => ?_) (fun h => ?_) | refine And.intro ?_ ?_ | (refine Need.mk ?_; first | with_reducible rfl | (show @Eq TC _ _; rfl) | omega | (simp only [adN_zero]; omega)) | exact OutS.whole rfl rfl | refine ListO.go gOk hE ?_)
      all_goals (refine OpK.call (eqLRow_run _) rfl rfl rfl rfl hE (by repeat' (first | exact PsA.lit _ | exact PsA.ref rfl rfl | constructor)) rfl rfl ?_)
      all_goals (repeat' (first | exact trivial | refine BS.d (fun h => ?_) (fun h => ?_) | refine BS.e (fun h => ?_) (fun h => ?_) | refine BS.ne (fun h => ?_) (fun h => ?_) | refine BS.n ?_ | refine BS.s (fun h => ?_) (fun h => ?_) | refine And.intro ?_ ?_ | (refine Need.mk ?_; first | with_reducible rfl | (show @Eq TC _ _; rfl) | omega | (simp only [adN_zero]; omega)) | exact OutS.whole rfl rfl | refine ListO.go gOk hE ?_))
      all_goals (refine ⟨i + 1, (by refine leT.of ?_ ?_ rfl <;> repeat' (first | exact trivial | refine And.intro rfl ?_ | refine And.intro (by simp) ?_)), ?_⟩; (refine And.intro ?_ ?_) <;> (first | omega | (dsimp only; omega) | trivial))
theorem eqLList_run (e : Nat) (x : List Row) (hn : x.length ≤ 4000000) : RunT Try.prog 151 [.agg [.c (tR e x)], .agg [.c (tR e x)]] [] [ob true] [] := by
  refine RunT.of_vc gOk Try.func151 rfl rfl (Nat.le_of_ble_eq_true rfl) (by repeat' (first | exact trivial | exact ⟨_, rfl, Nat.le_refl _⟩ | exact Nat.le_of_ble_eq_true rfl | refine And.intro ?_ ?_)) (Nat.le_of_ble_eq_true rfl) rfl (fun F hE => ?_)
  repeat' (first | exact trivial | refine BS.d (fun h => ?_) (fun h => ?_) | refine BS.e (fun h => ?_) (fun h => ?_) | refine BS.ne (fun h => ?_) (fun h => ?_) | refine BS.n ?_ | refine BS.s (fun h => ?_) (fun h => ?_) | refine And.intro ?_ ?_ | (refine Need.mk ?_; first | with_reducible rfl | (show @Eq TC _ _; rfl) | omega | (simp only [adN_zero]; omega)) | exact OutS.whole rfl rfl | refine ListO.go gOk hE ?_)
  refine OpK.call (eqLRowS_run e x hn) rfl rfl rfl rfl hE (by repeat' (first | exact PsA.lit _ | exact PsA.ref rfl rfl | constructor)) rfl rfl ?_
  repeat' (first | exact trivial | refine BS.d (fun h => ?_) (fun h => ?_) | refine BS.e (fun h => ?_) (fun h => ?_) | refine BS.ne (fun h => ?_) (fun h => ?_) | refine BS.n ?_ | refine BS.s (fun h => ?_) (fun h => ?_) | refine And.intro ?_ ?_ | (refine Need.mk ?_; first | with_reducible rfl | (show @Eq TC _ _; rfl) | omega | (simp only [adN_zero]; omega)) | exact OutS.whole rfl rfl | refine ListO.go gOk hE ?_)
theorem eqLListS_run (e' e : Nat) (xs : List (List Row)) (hn : xs.length ≤ 4000000) (hx : ∀ i, (xs.getD i []).length ≤ 4000000) : RunT Try.prog 92 [.one (.c (tLL e' e xs)), .one (.c (tLL e' e xs))] [] [ob true] [] := by
  refine RunT.of_vc gOk Try.func92 rfl rfl (Nat.le_of_ble_eq_true rfl) (by repeat' (first | exact trivial | exact ⟨_, rfl, Nat.le_refl _⟩ | exact Nat.le_of_ble_eq_true rfl | refine And.intro ?_ ?_)) (Nat.le_of_ble_eq_true rfl) rfl (fun F hE => ?_)
  repeat' (first | exact trivial | refine BS.d (fun h => ?_) (fun h => ?_) | refine BS.e (fun h => ?_) (fun h => ?_) | refine BS.ne (fun h => ?_) (fun h => ?_) | refine BS.n ?_ | refine BS.s (fun h => ?_) (fun h => ?_) | refine And.intro ?_ ?_ | (refine Need.mk ?_; first | with_reducible rfl | (show @Eq TC _ _; rfl) | omega | (simp only [adN_zero]; omega)) | exact OutS.whole rfl rfl | refine ListO.go gOk hE ?_)
  · refine CodeK.loop gOk hE (fun i : Nat => ⟨[(0, vr 1000000 xs.length), (1, vr 1000001 xs.length), (5, vi i)], [(1000000, rLL .fro false e' e xs), (1000001, rLL .fro false e' e xs)]⟩) (fun i => i ≤ xs.length) (fun i => xs.length - i) 0 (by refine leT.of ?_ ?_ rfl <;> repeat' (first | exact trivial | refine And.intro rfl ?_ | refine And.intro (by simp) ?_)) (Nat.zero_le _) ?_
    rintro i hi
    repeat' (first | exact trivial | refine BS.d (fun h => ?_) (fun h => ?_) | refine BS.e (fun h => ?_) (fun h => ?_) | refine BS.ne (fun h => ?_) (fun h => ?_) | refine BS.n ?_ | refine BS.s (fun h => ?_) (fun h => ?_) | refine And.intro ?_ ?_ | (refine Need.mk ?_; first | with_reducible rfl | (show @Eq TC _ _; rfl) | omega | (simp only [adN_zero]; omega)) | exact OutS.whole rfl rfl | refine ListO.go gOk hE ?_)
    · refine CodeK.draw gOk hE rfl (fun _ _ h => h) (.take 0 (.take 1 (.take 2 (.take 4 (.take 5 (.take 6 (.alt 3 (.alt 7 (.alt 8 (.take 9 .done) .stop) .stop) (.alt 7 (.alt 3 (.alt 8 (.take 9 .done) .stop) .stop) .stop)))))))) (by decide +kernel) ?_
      repeat' (first | exact trivial | refine BS.d (fun h => ?_) (fun h => ?_) | refine BS.e (fun h => ?_) (fun h => ?_) | refine BS.ne (fun h => ?_) (fun h => ?_) | refine BS.n ?_ | refine BS.s (fun h => ?_) (fun h => ?_) | refine And.intro ?_ ?_ | (refine Need.mk ?_; first | with_reducible rfl | (show @Eq TC _ _; rfl) | omega | (simp only [adN_zero]; omega)) | exact OutS.whole rfl rfl | refine ListO.go gOk hE ?_)
      all_goals (refine OpK.call (eqLList_run e' _ (hx i)) rfl rfl rfl rfl hE (by repeat' (first | exact PsA.lit _ | exact PsA.ref rfl rfl | constructor)) rfl rfl ?_)
      all_goals (repeat' (first | exact trivial | refine BS.d (fun h => ?_) (fun h => ?_) | refine BS.e (fun h => ?_) (fun h => ?_) | refine BS.ne (fun h => ?_) (fun h => ?_) | refine BS.n ?_ | refine BS.s (fun h => ?_) (fun h => ?_) | refine And.intro ?_ ?_ | (refine Need.mk ?_; first | with_reducible rfl | (show @Eq TC _ _; rfl) | omega | (simp only [adN_zero]; omega)) | exact OutS.whole rfl rfl | refine ListO.go gOk hE ?_))
      all_goals (refine ⟨i + 1, (by refine leT.of ?_ ?_ rfl <;> repeat' (first | exact trivial | refine And.intro rfl ?_ | refine And.intro (by simp) ?_)), ?_⟩; (refine And.intro ?_ ?_) <;> (first | omega | (dsimp only; omega) | trivial))
theorem szJL_le {α : Type} : ∀ (l : List (List α)) (m : Int), 0 ≤ m → szJL l m ≤ m ∧ -1 ≤ szJL l m ∧ (0 ≤ szJL l m → (l.flatten.length : Int) ≤ m ∧ ∀ x ∈ l, x.length ≤ m)
  | [], m, h => ⟨Int.le_refl _, by simp [szJL]; omega, fun _ => ⟨by simpa using h, fun x hx => by simp at hx⟩⟩
  | x :: l, m, h => by
    have h1 : szJ x m ≤ m ∧ -1 ≤ szJ x m ∧ (0 ≤ szJ x m → szJ x m = m - x.length) := by unfold szJ; split <;> omega
    unfold szJL
    split
    · exact ⟨by omega, by omega, fun h => by omega⟩
    · obtain ⟨k1, k2, k3⟩ := szJL_le l (szJ x m) (by omega)
      refine ⟨by omega, by omega, fun h4 => ⟨?_, fun y hy => ?_⟩⟩
      · have := (k3 h4).1
        simp only [List.flatten_cons, List.length_append]; omega
      · rcases List.mem_cons.1 hy with rfl | hy
        · omega
        · have := (k3 h4).2 y hy; omega
theorem szJLs_le {α : Type} (l : List (List α)) (m : Int) (h : 0 ≤ m) : szJLs l m ≤ m ∧ -1 ≤ szJLs l m ∧ (0 ≤ szJLs l m → l.length ≤ m ∧ (l.flatten.length : Int) ≤ m ∧ ∀ x ∈ l, x.length ≤ m) := by
  unfold szJLs
  split
  · omega
  · obtain ⟨k1, k2, k3⟩ := szJL_le l (m - l.length) (by omega)
    exact ⟨by omega, k2, fun h4 => ⟨by omega, by have := (k3 h4).1; omega, fun x hx => by have := (k3 h4).2 x hx; omega⟩⟩
end Go.Proofs.Ytnclkdpocjhphaa
end

section
namespace Go.Proofs.Ytnclkdpocjhphaa
open Go Go.Tr
set_option maxRecDepth 100000
set_option maxHeartbeats 4000000
set_option linter.unusedVariables false
set_option linter.unusedSimpArgs false
theorem rows_of {e e' n : Nat} {row : Nat → Nat → C} (hn : n ≤ 9223372036854775807) (h : ∀ i r t, i < n → ([Dt.i, Dt.i] : List Dt)[r]? = some t → DtOk t (row i r)) : ∃ xs : List Row, xs.length = n ∧ (∀ x ∈ xs, (-9223372036854775808 ≤ x.1 ∧ x.1 ≤ 9223372036854775807) ∧ -9223372036854775808 ≤ x.2 ∧ x.2 ≤ 9223372036854775807) ∧ CSame (.sl .fro e 2 n row) ((tR e' xs).er .fro) :=
  list_of decR (0, 0) 2 (fun f hf => by
    obtain ⟨z, hz, h1, h2⟩ := (hf 0 .i rfl).int
    obtain ⟨y, hy, h3, h4⟩ := (hf 1 .i rfl).int
    refine ⟨(z, y), ⟨⟨h1, h2⟩, h3, h4⟩, fun r hr => ?_⟩
    match r, hr with
    | 0, _ => rw [hz]; exact rfl
    | 1, _ => rw [hy]; exact rfl) h
theorem llists_of {e e' e2 n : Nat} {row : Nat → Nat → C} (hn : n ≤ 9223372036854775807) (h : ∀ i r t, i < n → ([Dt.sl [.i, .i]] : List Dt)[r]? = some t → DtOk t (row i r)) : ∃ xs : List (List Row), xs.length = n ∧ (∀ x ∈ xs, x.length ≤ 9223372036854775807 ∧ ∀ z ∈ x, (-9223372036854775808 ≤ z.1 ∧ z.1 ≤ 9223372036854775807) ∧ -9223372036854775808 ≤ z.2 ∧ z.2 ≤ 9223372036854775807) ∧ CSame (.sl .fro e 1 n row) ((tLL e2 e' xs).er .fro) :=
  list_of decLL [] 1 (fun f hf => by
    obtain ⟨e3, n2, row2, hz, h1, h2⟩ := (hf 0 (.sl [.i, .i]) rfl).slice
    obtain ⟨xs, k1, k2, k3⟩ := rows_of (e := e3) (e' := e2) h1 h2
    refine ⟨xs, ⟨by omega, k2⟩, fun r hr => ?_⟩
    obtain rfl : r = 0 := by omega
    rw [hz]; exact k3) h
end Go.Proofs.Ytnclkdpocjhphaa
end

section
namespace Go.Proofs.Ytnclkdpocjhphaa
open Go Go.Tr
set_option maxRecDepth 100000
set_option maxHeartbeats 4000000
set_option linter.unusedVariables false
set_option linter.unusedSimpArgs false
theorem szJ_le {α : Type} {xs : List α} {m : Int} (h : ¬ szJ xs m < 0) : (xs.length : Int) ≤ m ∧ szJ xs m = m - xs.length := by
  unfold szJ at h ⊢; split at h <;> split <;> omega
theorem getD_leR {α : Type} {xs : List (List α)} {m : Nat} (h : ∀ x ∈ xs, x.length ≤ m) (i : Nat) : (xs.getD i []).length ≤ m := by
  by_cases hi : i < xs.length
  · have : xs.getD i [] = xs[i] := by simp [List.getD, hi]
    rw [this]; exact h _ (List.getElem_mem hi)
  · simp [List.getD, hi]
theorem szPinS_run (e : Nat) (xs : List PinT) (m : Int) (h0 : 0 ≤ m) (h1 : m ≤ 1048576) (hn : xs.length ≤ 9223372036854775807) : RunT Try.prog 200 [.one (.c (tPin e xs)), ti m] [] [oi (szJ xs m)] [] := by
  refine RunT.of_vc gOk Try.func200 rfl rfl (Nat.le_of_ble_eq_true rfl) (by repeat' (first | exact trivial | exact ⟨_, rfl, Nat.le_refl _⟩ | exact Nat.le_of_ble_eq_true rfl | refine And.intro ?_ ?_)) (Nat.le_of_ble_eq_true rfl) rfl (fun F hE => ?_)
  repeat' (first | exact trivial | refine BS.d (fun h => ?_) (fun h => ?_) | refine BS.e (fun h => ?_) (fun h => ?_) | refine BS.ne (fun h => ?_) (fun h => ?_) | refine BS.n ?_ | refine BS.s (fun h => ?_) (fun h => ?_) | refine And.intro ?_ ?_ | (refine Need.mk ?_; first | with_reducible rfl | (show @Eq TC _ _; rfl) | omega | (simp only [adN_zero]; omega)) | exact OutS.whole rfl rfl | refine ListO.go gOk hE ?_)
  all_goals (refine Need.mk ?_; unfold szJ; first | rw [if_pos (by omega)] | rw [if_neg (by omega)])
theorem toPin_run (x : PinT) : RunT Try.prog 241 [aPin x] [] [oPin x] [] := by
  refine RunT.of_vc gOk Try.func241 rfl rfl (Nat.le_of_ble_eq_true rfl) (by repeat' (first | exact trivial | exact ⟨_, rfl, Nat.le_refl _⟩ | exact Nat.le_of_ble_eq_true rfl | refine And.intro ?_ ?_)) (Nat.le_of_ble_eq_true rfl) rfl (fun F hE => ?_)
  repeat' (first | exact trivial | refine BS.d (fun h => ?_) (fun h => ?_) | refine BS.e (fun h => ?_) (fun h => ?_) | refine BS.ne (fun h => ?_) (fun h => ?_) | refine BS.n ?_ | refine BS.s (fun h => ?_) (fun h => ?_) | refine And.intro ?_ ?_ | (refine Need.mk ?_; first | with_reducible rfl | (show @Eq TC _ _; rfl) | omega | (simp only [adN_zero]; omega)) | exact OutS.whole rfl rfl | refine ListO.go gOk hE ?_)
theorem eqPin_run (x : PinT) : RunT Try.prog 197 [aPin x, aPin x] [] [ob true] [] := by
  refine RunT.of_vc gOk Try.func197 rfl rfl (Nat.le_of_ble_eq_true rfl) (by repeat' (first | exact trivial | exact ⟨_, rfl, Nat.le_refl _⟩ | exact Nat.le_of_ble_eq_true rfl | refine And.intro ?_ ?_)) (Nat.le_of_ble_eq_true rfl) rfl (fun F hE => ?_)
  repeat' (first | exact trivial | refine BS.d (fun h => ?_) (fun h => ?_) | refine BS.e (fun h => ?_) (fun h => ?_) | refine BS.ne (fun h => ?_) (fun h => ?_) | refine BS.n ?_ | refine BS.s (fun h => ?_) (fun h => ?_) | refine And.intro ?_ ?_ | (refine Need.mk ?_; first | with_reducible rfl | (show @Eq TC _ _; rfl) | omega | (simp only [adN_zero]; omega)) | exact OutS.whole rfl rfl | refine ListO.go gOk hE ?_)
  all_goals exact absurd rfl h
theorem toPinS_run (e : Nat) (xs : List PinT) (hn : xs.length ≤ 1048576) : RunT Try.prog 203 [.one (.c (tPin e xs))] [] [.one (tPin 274 xs)] [] := by
  refine RunT.of_vc gOk Try.func203 rfl rfl (Nat.le_of_ble_eq_true rfl) (by repeat' (first | exact trivial | exact ⟨_, rfl, Nat.le_refl _⟩ | exact Nat.le_of_ble_eq_true rfl | refine And.intro ?_ ?_)) (Nat.le_of_ble_eq_true rfl) rfl (fun F hE => ?_)
  repeat' (first | exact trivial | refine BS.d (fun h => ?_) (fun h => ?_) | refine BS.e (fun h => ?_) (fun h => ?_) | refine BS.ne (fun h => ?_) (fun h => ?_) | refine BS.n ?_ | refine BS.s (fun h => ?_) (fun h => ?_) | refine And.intro ?_ ?_ | (refine Need.mk ?_; first | with_reducible rfl | (show @Eq TC _ _; rfl) | omega | (simp only [adN_zero]; omega)) | exact OutS.whole rfl rfl | refine ListO.go gOk hE ?_)
  refine CodeK.loop gOk hE (fun i : Nat => ⟨[(0, vr 1000000 xs.length), (3, vr 7 xs.length), (4, vi i)], [(7, rPin .own true 274 (fl zPin xs i)), (1000000, rPin .fro false e xs)]⟩) (fun i => i ≤ xs.length) (fun i => xs.length - i) 0 (by refine leT.of ?_ ?_ rfl <;> repeat' (first | exact trivial | refine And.intro rfl ?_ | refine And.intro (by simp [fl_zero] <;> rfl) ?_)) (Nat.zero_le _) ?_
  rintro i hi
  have hl := fl_len zPin xs i hi
  repeat' (first | exact trivial | refine BS.d (fun h => ?_) (fun h => ?_) | refine BS.e (fun h => ?_) (fun h => ?_) | refine BS.ne (fun h => ?_) (fun h => ?_) | refine BS.n ?_ | refine BS.s (fun h => ?_) (fun h => ?_) | refine And.intro ?_ ?_ | (refine Need.mk ?_; first | with_reducible rfl | (show @Eq TC _ _; rfl) | omega | (simp only [adN_zero]; omega)) | exact OutS.whole rfl rfl | refine ListO.go gOk hE ?_)
  · refine OpK.call (toPin_run (xs.getD i zPin)) rfl rfl rfl rfl hE (by repeat' (first | exact PsA.lit _ | exact PsA.ref rfl rfl | constructor)) rfl rfl ?_
    repeat' (first | exact trivial | refine BS.d (fun h => ?_) (fun h => ?_) | refine BS.e (fun h => ?_) (fun h => ?_) | refine BS.ne (fun h => ?_) (fun h => ?_) | refine BS.n ?_ | refine BS.s (fun h => ?_) (fun h => ?_) | refine And.intro ?_ ?_ | (refine Need.mk ?_; first | with_reducible rfl | (show @Eq TC _ _; rfl) | omega | (simp only [adN_zero]; omega)) | exact OutS.whole rfl rfl | refine ListO.go gOk hE ?_)
    all_goals (refine ⟨i + 1, (by refine leT.of ?_ ?_ rfl <;> repeat' (first | exact trivial | refine And.intro rfl ?_ | refine And.intro (by first | (rw [← fl_set zPin xs i (by omega)]; rfl) | (simp <;> rfl)) ?_)), ?_⟩; (refine And.intro ?_ ?_) <;> (first | omega | (dsimp only; omega) | trivial))
  · exact OutS.whole hl.symm (by rw [fl_full _ _ _ (by omega) hi]; rfl)
theorem eqPinS_run (e : Nat) (xs : List PinT) (hn : xs.length ≤ 4000000) : RunT Try.prog 150 [.one (.c (tPin e xs)), .one (.c (tPin e xs))] [] [ob true] [] := by
  refine RunT.of_vc gOk Try.func150 rfl rfl (Nat.le_of_ble_eq_true rfl) (by repeat' (first | exact trivial | exact ⟨_, rfl, Nat.le_refl _⟩ | exact Nat.le_of_ble_eq_true rfl | refine And.intro ?_ ?_)) (Nat.le_of_ble_eq_true rfl) rfl (fun F hE => ?_)
  repeat' (first | exact trivial | refine BS.d (fun h => ?_) (fun h => ?_) | refine BS.e (fun h => ?_) (fun h => ?_) | refine BS.ne (fun h => ?_) (fun h => ?_) | refine BS.n ?_ | refine BS.s (fun h => ?_) (fun h => ?_) | refine And.intro ?_ ?_ | (refine Need.mk ?_; first | with_reducible rfl | (show @Eq TC _ _; rfl) | omega | (simp only [adN_zero]; omega)) | exact OutS.whole rfl rfl | refine ListO.go gOk hE ?_)
  · refine CodeK.loop gOk hE (fun i : Nat => ⟨[(0, vr 1000000 xs.length), (1, vr 1000001 xs.length), (5, vi i)], [(1000000, rPin .fro false e xs), (1000001, rPin .fro false e xs)]⟩) (fun i => i ≤ xs.length) (fun i => xs.length - i) 0 (by refine leT.of ?_ ?_ rfl <;> repeat' (first | exact trivial | refine And.intro rfl ?_ | refine And.intro (by simp) ?_)) (Nat.zero_le _) ?_
    rintro i hi
    repeat' (first | exact trivial | refine BS.d (fun h => ?_) (fun h => ?_) | refine BS.e (fun h => ?_) (fun h => ?_) | refine BS.ne (fun h => ?_) (fun h => ?_) | refine BS.n ?_ | refine BS.s (fun h => ?_) (fun h => ?_) | refine And.intro ?_ ?_ | (refine Need.mk ?_; first | with_reducible rfl | (show @Eq TC _ _; rfl) | omega | (simp only [adN_zero]; omega)) | exact OutS.whole rfl rfl | refine ListO.go gOk hE ?_)
    · refine CodeK.draw gOk hE rfl (fun _ _ h => h) (.take 0 (.take 1 (.take 2 (.take 4 (.take 5 (.take 6 (.alt 3 (.alt 7 (.alt 8 (.take 9 .done) .stop) .stop) (.alt 7 (.alt 3 (.alt 8 (.take 9 .done) .stop) .stop) .stop)))))))) (by decide +kernel) ?_
      repeat' (first | exact trivial | refine BS.d (fun h => ?_) (fun h => ?_) | refine BS.e (fun h => ?_) (fun h => ?_) | refine BS.ne (fun h => ?_) (fun h => ?_) | refine BS.n ?_ | refine BS.s (fun h => ?_) (fun h => ?_) | refine And.intro ?_ ?_ | (refine Need.mk ?_; first | with_reducible rfl | (show @Eq TC _ _; rfl) | omega | (simp only [adN_zero]; omega)) | exact OutS.whole rfl rfl | refine ListO.go gOk hE ?_)
      all_goals (refine OpK.call (eqPin_run _) rfl rfl rfl rfl hE (by repeat' (first | exact PsA.lit _ | exact PsA.ref rfl rfl | constructor)) rfl rfl ?_)
      all_goals (repeat' (first | exact trivial | refine BS.d (fun h => ?_) (fun h => ?_) | refine BS.e (fun h => ?_) (fun h => ?_) | refine BS.ne (fun h => ?_) (fun h => ?_) | refine BS.n ?_ | refine BS.s (fun h => ?_) (fun h => ?_) | refine And.intro ?_ ?_ | (refine Need.mk ?_; first | with_reducible rfl | (show @Eq TC _ _; rfl) | omega | (simp only [adN_zero]; omega)) | exact OutS.whole rfl rfl | refine ListO.go gOk hE ?_))
      all_goals (refine ⟨i + 1, (by refine leT.of ?_ ?_ rfl <;> repeat' (first | exact trivial | refine And.intro rfl ?_ | refine And.intro (by simp) ?_)), ?_⟩; (refine And.intro ?_ ?_) <;> (first | omega | (dsimp only; omega) | trivial))
theorem Pins_of {e e' n : Nat} {row : Nat → Nat → C} (hn : n ≤ 9223372036854775807) (h : ∀ i r t, i < n → ([Dt.b, Dt.i, Dt.b, Dt.i] : List Dt)[r]? = some t → DtOk t (row i r)) : ∃ xs : List PinT, xs.length = n ∧ (∀ x ∈ xs, True ∧ (-9223372036854775808 ≤ x.2.1 ∧ x.2.1 ≤ 9223372036854775807) ∧ True ∧ (-9223372036854775808 ≤ x.2.2.2 ∧ x.2.2.2 ≤ 9223372036854775807)) ∧ CSame (.sl .fro e 4 n row) ((tPin e' xs).er .fro) :=
  list_of decPin zPin 4 (fun f hf => by
    obtain ⟨z0, hz0⟩ := (hf 0 .b rfl).bool
    obtain ⟨z1, hz1, w1⟩ := (hf 1 .i rfl).int
    obtain ⟨z2, hz2⟩ := (hf 2 .b rfl).bool
    obtain ⟨z3, hz3, w3⟩ := (hf 3 .i rfl).int
    refine ⟨(z0, z1, z2, z3), ⟨trivial, w1, trivial, w3⟩, fun r hr => ?_⟩
    match r, hr with
    | 0, _ => rw [hz0]; exact rfl
    | 1, _ => rw [hz1]; exact rfl
    | 2, _ => rw [hz2]; exact rfl
    | 3, _ => rw [hz3]; exact rfl
    ) h
theorem Pin_eq (p q : PinT) (w : World) : (Op.equalIn 10000 274 (.agg (vPin p).toArray) (.agg (vPin q).toArray)).run Try.prog w = .ok (decide (p = q)) w := by
  have u3 := Try.underlying3
  have u4 := Try.underlying4
  obtain ⟨p0, p1, p2, p3⟩ := p
  obtain ⟨q0, q1, q2, q3⟩ := q
  have hS : Try.prog.underlying 274 = some (.struct (Try.prog.fieldsOf 274)) := by kernel_rfl
  rw [show (10000 : Nat) = 9999 + 1 from rfl, run_equalIn_agg w 9999 274 _ _ hS (by kernel_rfl)]
  simp only [Program.fieldsOf, Try.underlying274]
  go_simp
  by_cases h0 : p0 = q0 <;> by_cases h1 : p1 = q1 <;> by_cases h2 : p2 = q2 <;> by_cases h3 : p3 = q3 <;> simp [h0, h1, h2, h3]
abbrev aClk (E : Int) (e : Nat) (ps : List PinT) : TAg := .agg [.c (.lit (.int .i64 E)), .c (tPin e ps)]
theorem szClock_run (E : Int) (e : Nat) (ps : List PinT) (m : Int) (h0 : 0 ≤ m) (h1 : m ≤ 1048576) (hn : ps.length ≤ 9223372036854775807) : RunT Try.prog 157 [aClk E e ps, ti m] [] [oi (szJ ps m)] [] := by
  have c0 := szPinS_run e ps m h0 h1 hn
  refine RunT.of_vc gOk Try.func157 rfl rfl (Nat.le_of_ble_eq_true rfl) (by repeat' (first | exact trivial | exact ⟨_, rfl, Nat.le_refl _⟩ | exact Nat.le_of_ble_eq_true rfl | refine And.intro ?_ ?_)) (Nat.le_of_ble_eq_true rfl) rfl (fun F hE => ?_)
  repeat' (first | exact trivial | refine BS.d (fun h => ?_) (fun h => ?_) | refine BS.e (fun h => ?_) (fun h => ?_) | refine BS.ne (fun h => ?_) (fun h => ?_) | refine BS.n ?_ | refine BS.s (fun h => ?_) (fun h => ?_) | refine And.intro ?_ ?_ | (refine Need.mk ?_; first | with_reducible rfl | (show @Eq TC _ _; rfl) | omega | (simp only [adN_zero]; omega)) | exact OutS.whole rfl rfl | (refine OpK.call c0 rfl rfl rfl rfl hE ?_ rfl rfl ?_; focus ((repeat' (first | exact PsA.lit _ | exact PsA.ref rfl rfl | constructor)); all_goals (fail "ps"))) | refine ListO.go gOk hE ?_)
  all_goals (refine Need.mk ?_; unfold szJ at *; split at * <;> simp_all <;> omega)
theorem toClock_run (E : Int) (e : Nat) (ps : List PinT) (hn : ps.length ≤ 1048576) : RunT Try.prog 160 [aClk E e ps] [] [.agg [.lit (.int .i64 E), tPin 274 ps]] [] := by
  have c0 := toPinS_run e ps hn
  refine RunT.of_vc gOk Try.func160 rfl rfl (Nat.le_of_ble_eq_true rfl) (by repeat' (first | exact trivial | exact ⟨_, rfl, Nat.le_refl _⟩ | exact Nat.le_of_ble_eq_true rfl | refine And.intro ?_ ?_)) (Nat.le_of_ble_eq_true rfl) rfl (fun F hE => ?_)
  repeat' (first | exact trivial | refine BS.d (fun h => ?_) (fun h => ?_) | refine BS.e (fun h => ?_) (fun h => ?_) | refine BS.ne (fun h => ?_) (fun h => ?_) | refine BS.n ?_ | refine BS.s (fun h => ?_) (fun h => ?_) | refine And.intro ?_ ?_ | (refine Need.mk ?_; first | with_reducible rfl | (show @Eq TC _ _; rfl) | omega | (simp only [adN_zero]; omega)) | exact OutS.whole rfl rfl | (refine OpK.call c0 rfl rfl rfl rfl hE ?_ rfl rfl ?_; focus ((repeat' (first | exact PsA.lit _ | exact PsA.ref rfl rfl | constructor)); all_goals (fail "ps"))) | refine ListO.go gOk hE ?_)
theorem eqClock_run (E : Int) (e : Nat) (ps : List PinT) (hn : ps.length ≤ 4000000) : RunT Try.prog 91 [aClk E e ps, aClk E e ps] [] [ob true] [] := by
  have c0 := eqPinS_run e ps hn
  refine RunT.of_vc gOk Try.func91 rfl rfl (Nat.le_of_ble_eq_true rfl) (by repeat' (first | exact trivial | exact ⟨_, rfl, Nat.le_refl _⟩ | exact Nat.le_of_ble_eq_true rfl | refine And.intro ?_ ?_)) (Nat.le_of_ble_eq_true rfl) rfl (fun F hE => ?_)
  repeat' (first | exact trivial | refine BS.d (fun h => ?_) (fun h => ?_) | refine BS.e (fun h => ?_) (fun h => ?_) | refine BS.ne (fun h => ?_) (fun h => ?_) | refine BS.n ?_ | refine BS.s (fun h => ?_) (fun h => ?_) | refine And.intro ?_ ?_ | (refine Need.mk ?_; first | with_reducible rfl | (show @Eq TC _ _; rfl) | omega | (simp only [adN_zero]; omega)) | exact OutS.whole rfl rfl | (refine OpK.call c0 rfl rfl rfl rfl hE ?_ rfl rfl ?_; focus ((repeat' (first | exact PsA.lit _ | exact PsA.ref rfl rfl | constructor)); all_goals (fail "ps"))) | refine ListO.go gOk hE ?_)
  all_goals (first | exact absurd rfl ‹_› | simp_all)
end Go.Proofs.Ytnclkdpocjhphaa
end

section
/- Marks of a clock. -/
namespace Go.Proofs.Ytnclkdpocjhphaa
open Go Go.Tr
set_option maxRecDepth 100000
set_option maxHeartbeats 4000000
set_option linter.unusedVariables false
set_option linter.unusedSimpArgs false
abbrev fPn (m : Int) (j : Nat) : PinT := ((m + 4 * j).tmod 3 == 0, m + 4 * j + 1, (m + 4 * j + 1 + 1).tmod 3 == 0, m + 4 * j + 1 + 1 + 1)
abbrev bPinX (κ : Nat) (xs xs' : List PinT) : Bt := ⟨κ, 0, true, .sl 0 4 PinT encPin decPin zPin xs, .sl 0 4 PinT encPin decPin zPin xs', .ty .own false 0 4 PinT encPin decPin zPin xs'⟩
theorem markPinS_run (e : Nat) (xs : List PinT) (m : Int) (h0 : 0 ≤ m) (h1 : m ≤ 4194304) (hn : xs.length ≤ 4000000) : RunT Try.prog 152 [.one (.h 0 xs.length), ti m] [.sl e 4 PinT encPin decPin zPin xs] [oi (m + 4 * xs.length)] [.sl e 4 PinT encPin decPin zPin (mkL zPin (fPn m) xs xs.length)] := by
  refine RunT.of_vc gOk Try.func152 rfl rfl (Nat.le_of_ble_eq_true rfl) (by repeat' (first | exact trivial | exact ⟨_, rfl, Nat.le_refl _⟩ | exact Nat.le_of_ble_eq_true rfl | refine And.intro ?_ ?_)) (Nat.le_of_ble_eq_true rfl) rfl (fun F hE => ?_)
  repeat' (first | exact trivial | refine BS.d (fun h => ?_) (fun h => ?_) | refine BS.e (fun h => ?_) (fun h => ?_) | refine BS.ne (fun h => ?_) (fun h => ?_) | refine BS.n ?_ | refine BS.s (fun h => ?_) (fun h => ?_) | refine And.intro ?_ ?_ | (refine Need.mk ?_; first | with_reducible rfl | (show @Eq TC _ _; rfl) | omega | (simp only [adN_zero]; omega)) | exact OutS.whole rfl rfl | refine ListO.go gOk hE ?_)
  refine CodeK.loop gOk hE (fun i : Nat => ⟨[(0, vr 1000000 xs.length), (1, vi (m + 4 * i)), (5, vi i)], [(1000000, rPin .own false 0 (mkL zPin (fPn m) xs i))]⟩) (fun i => i ≤ xs.length) (fun i => xs.length - i) 0 (by refine leT.of ?_ ?_ rfl <;> repeat' (first | exact trivial | refine And.intro rfl ?_ | refine And.intro (by simp [mkL_zero] <;> rfl) ?_)) (Nat.zero_le _) ?_
  rintro i hi
  have hl := mkL_len zPin (fPn m) xs i
  have hS : i < xs.length → ∀ x : PinT, ((mkL zPin (fPn m) xs i).set i x).getD i zPin = x := fun h x => set_getD _ _ _ _ (by omega)
  repeat' (first | exact trivial | refine BS.d (fun h => ?_) (fun h => ?_) | refine BS.e (fun h => ?_) (fun h => ?_) | refine BS.ne (fun h => ?_) (fun h => ?_) | refine BS.n ?_ | refine BS.s (fun h => ?_) (fun h => ?_) | refine And.intro ?_ ?_ | (refine Need.mk ?_; first | with_reducible rfl | (show @Eq TC _ _; rfl) | omega | (simp only [adN_zero]; omega)) | exact OutS.whole rfl rfl | refine ListO.go gOk hE ?_)
  all_goals (try simp only [adN_zero] at *)
  all_goals first
    | (refine Need.mk ?_; first | omega | (rw [List.length_set]; omega) | (rw [List.length_set, List.length_set]; omega) | (rw [List.length_set, List.length_set, List.length_set]; omega) | rw [show i = xs.length by omega])
    | (refine ⟨i + 1, (by refine leT.of ?_ ?_ rfl <;> repeat' (first | exact trivial | refine And.intro rfl ?_ | refine And.intro (by first | rfl | (refine litInt ?_; omega) | (refine congrArg (fun l => some (rPin .own false 0 l)) ?_; simp only [List.set_set, hS (by omega)]; exact mkL_set _ _ _ _ (by omega))) ?_)), by omega, by first | omega | (dsimp only; omega)⟩)
    | trace_state
end Go.Proofs.Ytnclkdpocjhphaa
end

section
namespace Go.Proofs.Ytnclkdpocjhphaa
open Go Go.Tr
set_option maxRecDepth 100000
set_option maxHeartbeats 4000000
set_option linter.unusedVariables false
set_option linter.unusedSimpArgs false
/-- The number of all rows. -/
def cnt : List (List Row) → Int
  | [] => 0
  | x :: l => x.length + cnt l
theorem cnt_nn : ∀ xs : List (List Row), 0 ≤ cnt xs
  | [] => Int.le_refl _
  | x :: l => by have := cnt_nn l; unfold cnt; omega
theorem cnt_drop {xs : List (List Row)} {i : Nat} (h : i < xs.length) : cnt (xs.drop i) = (xs.getD i []).length + cnt (xs.drop (i + 1)) := by
  rw [drop_cons [] h]; rfl
theorem rowFlat : ∀ (x : Row) (r : Nat), r < 2 → ∃ v, encR x r = .lit v ∧ encR x r = .lit v := fun x r _ => by cases r <;> exact ⟨_, rfl, rfl⟩
theorem rtake_flat {xs : List (List Row)} {i : Nat} (h : i < xs.length) : (xs.take (i + 1)).flatten = (xs.take i).flatten ++ xs.getD i [] := by
  rw [List.take_succ_eq_append_getElem h, List.flatten_append]
  congr 1
  simp [List.getD, h]
theorem flat_len (xs : List (List Row)) : (xs.flatten.length : Int) = cnt xs := by
  induction xs with
  | nil => rfl
  | cons x l ih => simp [cnt, ← ih]
theorem flat_le (xs : List (List Row)) (i : Nat) : ((xs.take i).flatten.length : Int) + cnt (xs.drop i) = cnt xs := by
  have h : cnt xs = cnt (xs.take i ++ xs.drop i) := by rw [List.take_append_drop]
  rw [h, ← flat_len, ← flat_len, List.flatten_append, List.length_append]; rfl
end Go.Proofs.Ytnclkdpocjhphaa
end

section
namespace Go.Proofs.Ytnclkdpocjhphaa
open Go Go.Tr
set_option maxRecDepth 100000
set_option maxHeartbeats 4000000
set_option linter.unusedVariables false
set_option linter.unusedSimpArgs false
theorem l1InB_run (x a b : Int) : RunT Try.prog 72 [ti x, ti a, ti b] [] [ob (decide (a ≤ x ∧ x ≤ b))] [] := by
  refine RunT.of_vc gOk Try.func72 rfl rfl (Nat.le_of_ble_eq_true rfl) (by repeat' (first | exact trivial | exact ⟨_, rfl, Nat.le_refl _⟩ | exact Nat.le_of_ble_eq_true rfl | refine And.intro ?_ ?_)) (Nat.le_of_ble_eq_true rfl) rfl (fun F hE => ?_)
  repeat' (first | exact trivial | refine BS.d (fun h => ?_) (fun h => ?_) | refine BS.e (fun h => ?_) (fun h => ?_) | refine BS.ne (fun h => ?_) (fun h => ?_) | refine BS.n ?_ | refine BS.s (fun h => ?_) (fun h => ?_) | refine And.intro ?_ ?_ | (refine Need.mk ?_; first | with_reducible rfl | (show @Eq TC _ _; rfl) | omega | (simp only [adN_zero]; omega)) | exact OutS.whole rfl rfl | refine ListO.go gOk hE ?_)
  all_goals (refine Need.mk ?_; simp [*])
theorem slotOkB_run (x : Int) : RunT Try.prog 77 [ti x] [] [ob (decide (0 ≤ x ∧ x < 24))] [] := by
  refine RunT.of_vc gOk Try.func77 rfl rfl (Nat.le_of_ble_eq_true rfl) (by repeat' (first | exact trivial | exact ⟨_, rfl, Nat.le_refl _⟩ | exact Nat.le_of_ble_eq_true rfl | refine And.intro ?_ ?_)) (Nat.le_of_ble_eq_true rfl) rfl (fun F hE => ?_)
  repeat' (first | exact trivial | refine BS.d (fun h => ?_) (fun h => ?_) | refine BS.e (fun h => ?_) (fun h => ?_) | refine BS.ne (fun h => ?_) (fun h => ?_) | refine BS.n ?_ | refine BS.s (fun h => ?_) (fun h => ?_) | refine And.intro ?_ ?_ | (refine Need.mk ?_; first | with_reducible rfl | (show @Eq TC _ _; rfl) | omega | (simp only [adN_zero]; omega)) | exact OutS.whole rfl rfl | refine ListO.go gOk hE ?_)
  all_goals (refine Need.mk ?_; first | rfl | (symm; apply decide_eq_true; omega) | (symm; apply decide_eq_false; omega) | (apply decide_eq_decide.2; omega))
end Go.Proofs.Ytnclkdpocjhphaa
end

section
/- Handles. -/
namespace Go.Proofs.Ytnclkdpocjhphaa
open Go Go.Tr
set_option maxRecDepth 100000
set_option maxHeartbeats 4000000
set_option linter.unusedVariables false
set_option linter.unusedSimpArgs false
def hOk (h : Int) : Bool := decide (32 ≤ h ∧ h ≤ 223 ∧ h % 32 < 24)
def hSlot (h : Int) : Int := if hOk h then h % 32 else -1
def hGen (h : Int) : Int := if hOk h then h / 32 else 0
theorem hOk_iff {h : Int} : hOk h = true ↔ 32 ≤ h ∧ h ≤ 223 ∧ h % 32 < 24 := by unfold hOk; exact decide_eq_true_iff
end Go.Proofs.Ytnclkdpocjhphaa
end

section
namespace Go.Proofs.Ytnclkdpocjhphaa
open Go Go.Tr
set_option maxRecDepth 100000
set_option maxHeartbeats 4000000
set_option linter.unusedVariables false
set_option linter.unusedSimpArgs false
theorem l8HasB_run (xs : List Int) (x : Int) (hn : xs.length ≤ 4000000) : RunT Try.prog 74 [.one (.c (tI xs)), ti x] [] [ob (decide (x ∈ xs))] [] := by
  refine RunT.of_vc gOk Try.func74 rfl rfl (Nat.le_of_ble_eq_true rfl) (by repeat' (first | exact trivial | exact ⟨_, rfl, Nat.le_refl _⟩ | exact Nat.le_of_ble_eq_true rfl | refine And.intro ?_ ?_)) (Nat.le_of_ble_eq_true rfl) rfl (fun F hE => ?_)
  repeat' (first | exact trivial | refine BS.d (fun h => ?_) (fun h => ?_) | refine BS.e (fun h => ?_) (fun h => ?_) | refine BS.ne (fun h => ?_) (fun h => ?_) | refine BS.n ?_ | refine BS.s (fun h => ?_) (fun h => ?_) | refine And.intro ?_ ?_ | (refine Need.mk ?_; first | with_reducible rfl | (show @Eq TC _ _; rfl) | omega | (simp only [adN_zero]; omega)) | exact OutS.whole rfl rfl | refine ListO.go gOk hE ?_)
  refine CodeK.loop gOk hE (fun i : Nat => ⟨[(0, vr 1000000 xs.length), (1, vi x), (5, vi i)], [(1000000, rI .fro false xs)]⟩) (fun i => i ≤ xs.length ∧ ∀ j, j < i → xs.getD j 0 ≠ x) (fun i => xs.length - i) 0 (by refine leT.of ?_ ?_ rfl <;> repeat' (first | exact trivial | refine And.intro rfl ?_ | refine And.intro (by simp) ?_)) ⟨Nat.zero_le _, fun j hj => absurd hj (Nat.not_lt_zero _)⟩ ?_
  rintro i ⟨hi, hq⟩
  by_cases hp : xs.getD i 0 = x
  all_goals (repeat' (first | exact trivial | refine BS.d (fun h => ?_) (fun h => ?_) | refine BS.e (fun h => ?_) (fun h => ?_) | refine BS.ne (fun h => ?_) (fun h => ?_) | refine BS.n ?_ | refine BS.s (fun h => ?_) (fun h => ?_) | refine And.intro ?_ ?_ | (refine Need.mk ?_; first | with_reducible rfl | (show @Eq TC _ _; rfl) | omega | (simp only [adN_zero]; omega)) | exact OutS.whole rfl rfl | refine ListO.go gOk hE ?_))
  all_goals (try simp only [adN_zero] at *)
  all_goals first
    | (exfalso; first | omega | (simp_all; done))
    | (refine Need.mk ?_; symm; apply decide_eq_true; rw [← hp, List.getD_eq_getElem?_getD, List.getElem?_eq_getElem (by omega)]; exact List.getElem_mem _)
    | (refine Need.mk ?_; symm; apply decide_eq_false; intro hm; obtain ⟨j, hj, hj2⟩ := List.getElem_of_mem hm; exact hq j (by omega) (by rw [List.getD_eq_getElem?_getD, List.getElem?_eq_getElem hj]; exact hj2))
    | (refine ⟨i + 1, (by refine leT.of ?_ ?_ rfl <;> repeat' (first | exact trivial | refine And.intro rfl ?_ | refine And.intro (by simp) ?_)), ⟨by omega, fun j hj => (Nat.lt_or_ge j i).elim (hq j) (fun h9 => (show j = i by omega) ▸ hp)⟩, by first | omega | (dsimp only; omega)⟩)
end Go.Proofs.Ytnclkdpocjhphaa
end

section
namespace Go.Proofs.Ytnclkdpocjhphaa
open Go Go.Tr
set_option maxRecDepth 100000
set_option maxHeartbeats 4000000
set_option linter.unusedVariables false
set_option linter.unusedSimpArgs false
end Go.Proofs.Ytnclkdpocjhphaa
end

section
/- Marks of a limbo. -/
namespace Go.Proofs.Ytnclkdpocjhphaa
open Go Go.Tr
set_option maxRecDepth 100000
set_option maxHeartbeats 4000000
set_option linter.unusedVariables false
set_option linter.unusedSimpArgs false
abbrev fR (m : Int) (j : Nat) : Row := (m + 2 * j, m + 2 * j + 1)
abbrev bRow (e κ : Nat) (xs xs' : List Row) : Bt := ⟨κ, 0, true, .sl e 2 Row encR decR (0, 0) xs, .sl e 2 Row encR decR (0, 0) xs', .ty .own true e 2 Row encR decR (0, 0) xs'⟩
abbrev bLL (e' e κ : Nat) (xs xs' : List (List Row)) : Bt := ⟨κ, 0, true, .sl e 1 (List Row) (encLL e') decLL [] xs, .sl e 1 (List Row) (encLL e') decLL [] xs', .ty .own true e 1 (List Row) (encLL e') decLL [] xs'⟩
theorem markRows_run (e : Nat) (xs : List Row) (m : Int) (h0 : 0 ≤ m) (h1 : m ≤ 33554432) (hn : xs.length ≤ 4000000) : RunT Try.prog 153 [.one (.h 0 xs.length), ti m] [.sl e 2 Row encR decR (0, 0) xs] [oi (m + 2 * xs.length)] [.sl e 2 Row encR decR (0, 0) (mkL (0, 0) (fR m) xs xs.length)] := by
  refine RunT.of_vc gOk Try.func153 rfl rfl (Nat.le_of_ble_eq_true rfl) (by repeat' (first | exact trivial | exact ⟨_, rfl, Nat.le_refl _⟩ | exact Nat.le_of_ble_eq_true rfl | refine And.intro ?_ ?_)) (Nat.le_of_ble_eq_true rfl) rfl (fun F hE => ?_)
  repeat' (first | exact trivial | refine BS.d (fun h => ?_) (fun h => ?_) | refine BS.e (fun h => ?_) (fun h => ?_) | refine BS.ne (fun h => ?_) (fun h => ?_) | refine BS.n ?_ | refine BS.s (fun h => ?_) (fun h => ?_) | refine And.intro ?_ ?_ | (refine Need.mk ?_; first | with_reducible rfl | (show @Eq TC _ _; rfl) | omega | (simp only [adN_zero]; omega)) | exact OutS.whole rfl rfl | refine ListO.go gOk hE ?_)
  refine CodeK.loop gOk hE (fun i : Nat => ⟨[(0, vr 1000000 xs.length), (1, vi (m + 2 * i)), (5, vi i)], [(1000000, rR .own false 0 (mkL (0, 0) (fR m) xs i))]⟩) (fun i => i ≤ xs.length) (fun i => xs.length - i) 0 (by refine leT.of ?_ ?_ rfl <;> repeat' (first | exact trivial | refine And.intro rfl ?_ | refine And.intro (by simp [mkL_zero] <;> rfl) ?_)) (Nat.zero_le _) ?_
  rintro i hi
  have hl := mkL_len (0, 0) (fR m) xs i
  repeat' (first | exact trivial | refine BS.d (fun h => ?_) (fun h => ?_) | refine BS.e (fun h => ?_) (fun h => ?_) | refine BS.ne (fun h => ?_) (fun h => ?_) | refine BS.n ?_ | refine BS.s (fun h => ?_) (fun h => ?_) | refine And.intro ?_ ?_ | (refine Need.mk ?_; first | with_reducible rfl | (show @Eq TC _ _; rfl) | omega | (simp only [adN_zero]; omega)) | exact OutS.whole rfl rfl | refine ListO.go gOk hE ?_)
  all_goals (try simp only [adN_zero] at *)
  all_goals first
    | (refine Need.mk ?_; first | omega | (rw [List.length_set]; omega) | rw [show i = xs.length by omega])
    | (refine ⟨i + 1, (by refine leT.of ?_ ?_ rfl <;> repeat' (first | exact trivial | refine And.intro rfl ?_ | refine And.intro (by first | rfl | (refine litInt ?_; omega) | (refine congrArg (fun l => some (rR .own false 0 l)) ?_; rw [set_getD _ _ _ _ (by omega), List.set_set]; exact mkL_set _ _ _ _ (by omega))) ?_)), by omega, by first | omega | (dsimp only; omega)⟩)
/-- The number that a row of lists begins with. -/
def offR (m : Int) (xs : List (List Row)) : Nat → Int
  | 0 => m
  | i + 1 => offR m xs i + 2 * (xs.getD i []).length
theorem offR_eq (m : Int) (xs : List (List Row)) : ∀ i, i ≤ xs.length → offR m xs i = m + 2 * (xs.take i).flatten.length
  | 0, _ => by simp [offR]
  | i + 1, h => by rw [offR, offR_eq m xs i (by omega), rtake_flat (by omega), List.length_append]; omega
theorem offR_bd {m : Int} {xs : List (List Row)} (h0 : 0 ≤ m) (hc : cnt xs ≤ 1048576) {i : Nat} (hi : i ≤ xs.length) : 0 ≤ offR m xs i ∧ offR m xs i ≤ m + 2097152 := by
  rw [offR_eq m xs i hi]
  have := flat_le xs i
  have := cnt_nn (xs.drop i)
  omega
abbrev gLL (m : Int) (xs : List (List Row)) (j : Nat) : List Row := mkL (0, 0) (fR (offR m xs j)) (xs.getD j []) (xs.getD j []).length
theorem markLL_run (e' e : Nat) (xs : List (List Row)) (m : Int) (h0 : 0 ≤ m) (h1 : m ≤ 16777216) (hn : xs.length ≤ 1048576) (hc : cnt xs ≤ 1048576) (hx : ∀ i, (xs.getD i []).length ≤ 1048576) : RunT Try.prog 94 [.one (.h 0 xs.length), ti m] [.sl e 1 (List Row) (encLL e') decLL [] xs] [oi (offR m xs xs.length)] [.sl e 1 (List Row) (encLL e') decLL [] (mkL [] (gLL m xs) xs xs.length)] := by
  refine RunT.of_vc gOk Try.func94 rfl rfl (Nat.le_of_ble_eq_true rfl) (by repeat' (first | exact trivial | exact ⟨_, rfl, Nat.le_refl _⟩ | exact Nat.le_of_ble_eq_true rfl | refine And.intro ?_ ?_)) (Nat.le_of_ble_eq_true rfl) rfl (fun F hE => ?_)
  repeat' (first | exact trivial | refine BS.d (fun h => ?_) (fun h => ?_) | refine BS.e (fun h => ?_) (fun h => ?_) | refine BS.ne (fun h => ?_) (fun h => ?_) | refine BS.n ?_ | refine BS.s (fun h => ?_) (fun h => ?_) | refine And.intro ?_ ?_ | (refine Need.mk ?_; first | with_reducible rfl | (show @Eq TC _ _; rfl) | omega | (simp only [adN_zero]; omega)) | exact OutS.whole rfl rfl | refine ListO.go gOk hE ?_)
  refine CodeK.loop gOk hE (fun i : Nat => ⟨[(0, vr 1000000 xs.length), (1, vi (offR m xs i)), (5, vi i)], [(1000000, rLL .own false e' 0 (mkL [] (gLL m xs) xs i))]⟩) (fun i => i ≤ xs.length) (fun i => xs.length - i) 0 (by refine leT.of ?_ ?_ rfl <;> repeat' (first | exact trivial | refine And.intro rfl ?_ | refine And.intro (by first | rfl | (simp [mkL_zero] <;> rfl)) ?_)) (Nat.zero_le _) ?_
  rintro i hi
  have hl := mkL_len [] (gLL m xs) xs i
  have hb := offR_bd h0 hc hi
  by_cases hi2 : i < xs.length
  · have hgi := mkL_ge [] (gLL m xs) xs i i (Nat.le_refl _)
    have hxi := hx i
    have c1 := markRows_run e' ((mkL [] (gLL m xs) xs i).getD i []) (offR m xs i) hb.1 (by omega) (by rw [hgi]; omega)
    repeat' (first | exact trivial | refine BS.d (fun h => ?_) (fun h => ?_) | refine BS.e (fun h => ?_) (fun h => ?_) | refine BS.ne (fun h => ?_) (fun h => ?_) | refine BS.n ?_ | refine BS.s (fun h => ?_) (fun h => ?_) | refine And.intro ?_ ?_ | (refine Need.mk ?_; first | with_reducible rfl | (show @Eq TC _ _; rfl) | omega | (simp only [adN_zero]; omega)) | exact OutS.whole rfl rfl | (refine ListO.open_ gOk hE 5000 rfl rfl rfl rfl rfl rfl rfl rfl (by (try simp only [adN_zero]); omega) (by decide) rfl rfl rfl rfl ?_) | (refine OpK.callB (bRow e' 5000 ((mkL [] (gLL m xs) xs i).getD i []) (mkL (0, 0) (fR (offR m xs i)) ((mkL [] (gLL m xs) xs i).getD i []) ((mkL [] (gLL m xs) xs i).getD i []).length)) c1 rfl rfl rfl rfl hE (BtOk.sl rfl (mkL_len _ _ _ _)) rfl (QsVs.cons (.one (.h rfl rfl rfl)) (.cons (.one (.c (.lit _) rfl)) .nil)) rfl rfl ?_) | refine ListO.go gOk hE ?_)
    all_goals (try simp only [adN_zero] at *)
    all_goals first
      | (exfalso; omega)
      | (refine Need.mk ?_; omega)
      | (refine ⟨i + 1, ?_, by omega, by first | omega | (dsimp only; omega)⟩
         refine St.le.trans (close_le (κ := 1000000) (key := 5000) (mkL (0, 0) (fR (offR m xs i)) ((mkL [] (gLL m xs) xs i).getD i []) ((mkL [] (gLL m xs) xs i).getD i []).length) (by rfl) (by rfl) (by exact (mkL_len _ _ _ _).symm) (by rfl) (by rfl) (by omega) (by decide) (by rfl) (fun r' h8 h9 => absurd (Nat.lt_one_iff.1 h8) h9)) ?_
         exact (by refine leT.of ?_ ?_ rfl <;> repeat' (first | exact trivial | refine And.intro rfl ?_ | refine And.intro (by first | rfl | (rw [hgi]; rfl) | (refine congrArg (fun l => some (rLL .own false e' 0 l)) ?_; rw [hgi]; exact mkL_set [] (gLL m xs) _ _ (by omega))) ?_)))
  · repeat' (first | exact trivial | refine BS.d (fun h => ?_) (fun h => ?_) | refine BS.e (fun h => ?_) (fun h => ?_) | refine BS.ne (fun h => ?_) (fun h => ?_) | refine BS.n ?_ | refine BS.s (fun h => ?_) (fun h => ?_) | refine And.intro ?_ ?_ | (refine Need.mk ?_; first | with_reducible rfl | (show @Eq TC _ _; rfl) | omega | (simp only [adN_zero]; omega)) | exact OutS.whole rfl rfl | refine ListO.go gOk hE ?_)
    all_goals (try simp only [adN_zero] at *)
    all_goals first
      | (exfalso; omega)
      | (refine Need.mk ?_; first | omega | rw [show i = xs.length by omega])
      | (refine Need.mk ?_; (try rw [show i = xs.length by omega]); rfl)
end Go.Proofs.Ytnclkdpocjhphaa
end

section
namespace Go.Proofs.Ytnclkdpocjhphaa
open Go Go.Tr
set_option maxRecDepth 100000
set_option maxHeartbeats 4000000
set_option linter.unusedVariables false
set_option linter.unusedSimpArgs false
abbrev aBs (e eP eR eL : Nat) (b c : List Int) (g o : List (List Int)) (E : Int) (ps : List PinT) (l : List (List Row)) (z : List Int) : TAg := .agg [.c (tI b), .c (tI c), .c (tSL e g), .c (tSL e o), .c (.lit (.int .i64 E)), .c (tPin eP ps), .c (tLL eR eL l), .c (tI z)]
def ch (a : Int) (f : Int → Int) : Int := if a < 0 then -1 else f a
def szB (b c : List Int) (g o : List (List Int)) (ps : List PinT) (l : List (List Row)) (z : List Int) (m : Int) : Int := ch (szM b c g o m) fun x => ch (szJ ps x) fun y => ch (szJLs l y) fun u => szI z u
structure BsOk (m : Nat) (b c : List Int) (g o : List (List Int)) (ps : List PinT) (l : List (List Row)) (z : List Int) : Prop where
  mm : MmOk m b c g o
  hps : ps.length ≤ m
  hl : l.length ≤ m
  hl' : ∀ i, (l.getD i []).length ≤ m
  hz : z.length ≤ m
theorem BsOk.le {m m' : Nat} {b c : List Int} {g o : List (List Int)} {ps : List PinT} {l : List (List Row)} {z : List Int} (h : BsOk m b c g o ps l z) (hm : m ≤ m') : BsOk m' b c g o ps l z :=
  ⟨h.mm.le hm, Nat.le_trans h.hps hm, Nat.le_trans h.hl hm, fun i => Nat.le_trans (h.hl' i) hm, Nat.le_trans h.hz hm⟩
theorem szJ_bd {α : Type} (xs : List α) (m : Int) (h : 0 ≤ m) : szJ xs m ≤ m ∧ -1 ≤ szJ xs m ∧ (0 ≤ szJ xs m → (xs.length : Int) ≤ m) := by unfold szJ; split <;> omega
theorem szB_ok {m : Int} {b c : List Int} {g o : List (List Int)} {ps : List PinT} {l : List (List Row)} {z : List Int} (h0 : 0 ≤ m) (h1 : m ≤ 1048576) : szB b c g o ps l z m ≤ m ∧ -1 ≤ szB b c g o ps l z m ∧ (0 ≤ szB b c g o ps l z m → BsOk 1048576 b c g o ps l z) := by
  unfold szB ch
  dsimp only
  have a := szM_le b c g o m h0
  split
  · exact ⟨by omega, by omega, fun h => by omega⟩
  have k1 := MmOk.of_sz h0 h1 (by assumption)
  have a2 := szJ_bd ps (szM b c g o m) (by omega)
  split
  · exact ⟨by omega, by omega, fun h => by omega⟩
  obtain ⟨b1, b2, b3⟩ := szJLs_le l (szJ ps (szM b c g o m)) (by omega)
  split
  · exact ⟨by omega, by omega, fun h => by omega⟩
  obtain ⟨b4, b5, b6⟩ := b3 (by omega)
  have a4 := szI_le z (szJLs l (szJ ps (szM b c g o m))) (by omega)
  refine ⟨by omega, by omega, fun h => ⟨k1, by omega, by omega, getD_leR fun x hx => (by have := b6 x hx; omega), by omega⟩⟩
theorem szBase_run (b c : List Int) (g o : List (List Int)) (E : Int) (ps : List PinT) (l : List (List Row)) (z : List Int) (m : Int) (h0 : 0 ≤ m) (h1 : m ≤ 1048576) (hb : BsOk 9223372036854775807 b c g o ps l z) : RunT Try.prog 97 [aBs 0 0 0 0 b c g o E ps l z, ti m] [] [oi (szB b c g o ps l z m)] [] := by
  have q1 := szM_le b c g o m h0
  have c1 := szMem_run 0 0 b c g o m h0 h1 hb.mm.hb hb.mm.hc hb.mm.hg hb.mm.hg' hb.mm.ho hb.mm.ho'
  unfold szB ch
  dsimp only
  refine RunT.of_vc gOk Try.func97 rfl rfl (Nat.le_of_ble_eq_true rfl) (by repeat' (first | exact trivial | exact ⟨_, rfl, Nat.le_refl _⟩ | exact Nat.le_of_ble_eq_true rfl | refine And.intro ?_ ?_)) (Nat.le_of_ble_eq_true rfl) rfl (fun F hE => ?_)
  repeat' (first | exact trivial | refine BS.d (fun h => ?_) (fun h => ?_) | refine BS.e (fun h => ?_) (fun h => ?_) | refine BS.ne (fun h => ?_) (fun h => ?_) | refine BS.n ?_ | refine BS.s (fun h => ?_) (fun h => ?_) | refine And.intro ?_ ?_ | (refine Need.mk ?_; first | with_reducible rfl | (show @Eq TC _ _; rfl) | omega | (simp only [adN_zero]; omega)) | exact OutS.whole rfl rfl | (refine OpK.call c1 rfl rfl rfl rfl hE ?_ rfl rfl ?_; focus ((repeat' (first | exact PsA.lit _ | exact PsA.ref rfl rfl | constructor)); all_goals (fail "ps"))) | refine ListO.go gOk hE ?_)
  all_goals first | (refine Need.mk ?_; rw [if_pos (by assumption)]; done) | skip
  all_goals have q2 := szJ_bd ps (szM b c g o m) (by omega)
  all_goals have c2 := szClock_run E 0 ps (szM b c g o m) (by omega) (by omega) hb.hps
  all_goals (repeat' (first | exact trivial | refine BS.d (fun h => ?_) (fun h => ?_) | refine BS.e (fun h => ?_) (fun h => ?_) | refine BS.ne (fun h => ?_) (fun h => ?_) | refine BS.n ?_ | refine BS.s (fun h => ?_) (fun h => ?_) | refine And.intro ?_ ?_ | (refine Need.mk ?_; first | with_reducible rfl | (show @Eq TC _ _; rfl) | omega | (simp only [adN_zero]; omega)) | exact OutS.whole rfl rfl | (refine OpK.call c2 rfl rfl rfl rfl hE ?_ rfl rfl ?_; focus ((repeat' (first | exact PsA.lit _ | exact PsA.ref rfl rfl | constructor)); all_goals (fail "ps"))) | refine ListO.go gOk hE ?_))
  all_goals first | (refine Need.mk ?_; rw [if_neg (by assumption), if_pos (by assumption)]; done) | skip
  all_goals have q3 := szJLs_le l (szJ ps (szM b c g o m)) (by omega)
  all_goals have c3 := szLListS_run 0 0 l (szJ ps (szM b c g o m)) (by omega) (by omega) hb.hl hb.hl'
  all_goals (repeat' (first | exact trivial | refine BS.d (fun h => ?_) (fun h => ?_) | refine BS.e (fun h => ?_) (fun h => ?_) | refine BS.ne (fun h => ?_) (fun h => ?_) | refine BS.n ?_ | refine BS.s (fun h => ?_) (fun h => ?_) | refine And.intro ?_ ?_ | (refine Need.mk ?_; first | with_reducible rfl | (show @Eq TC _ _; rfl) | omega | (simp only [adN_zero]; omega)) | exact OutS.whole rfl rfl | (refine OpK.call c3 rfl rfl rfl rfl hE ?_ rfl rfl ?_; focus ((repeat' (first | exact PsA.lit _ | exact PsA.ref rfl rfl | constructor)); all_goals (fail "ps"))) | refine ListO.go gOk hE ?_))
  all_goals first | (refine Need.mk ?_; rw [if_neg (by assumption), if_neg (by assumption), if_pos (by assumption)]; done) | skip
  all_goals have c4 := szIntS_run z (szJLs l (szJ ps (szM b c g o m))) (by omega) (by omega) hb.hz
  all_goals (repeat' (first | exact trivial | refine BS.d (fun h => ?_) (fun h => ?_) | refine BS.e (fun h => ?_) (fun h => ?_) | refine BS.ne (fun h => ?_) (fun h => ?_) | refine BS.n ?_ | refine BS.s (fun h => ?_) (fun h => ?_) | refine And.intro ?_ ?_ | (refine Need.mk ?_; first | with_reducible rfl | (show @Eq TC _ _; rfl) | omega | (simp only [adN_zero]; omega)) | exact OutS.whole rfl rfl | (refine OpK.call c4 rfl rfl rfl rfl hE ?_ rfl rfl ?_; focus ((repeat' (first | exact PsA.lit _ | exact PsA.ref rfl rfl | constructor)); all_goals (fail "ps"))) | refine ListO.go gOk hE ?_))
  all_goals (refine Need.mk ?_; rw [if_neg (by assumption), if_neg (by assumption), if_neg (by assumption)])
  all_goals (have q4 := szI_le z (szJLs l (szJ ps (szM b c g o m))) (by omega); omega)
theorem toBase_run (b c : List Int) (g o : List (List Int)) (E : Int) (ps : List PinT) (l : List (List Row)) (z : List Int) (hb : BsOk 1048576 b c g o ps l z) : RunT Try.prog 101 [aBs 0 0 0 0 b c g o E ps l z] [] [.agg [tI b, tI c, tSL 115 g, tSL 115 o, .lit (.int .i64 E), tPin 274 ps, tLL 277 210 l, tI z]] [] := by
  have c1 := toMem_run 0 b c g o hb.mm.hb hb.mm.hc hb.mm.hg hb.mm.hg' hb.mm.ho hb.mm.ho'
  have c2 := toClock_run E 0 ps hb.hps
  have c3 := toLListS_run 0 0 l hb.hl hb.hl'
  have c4 := toIntS_run z hb.hz
  refine RunT.of_vc gOk Try.func101 rfl rfl (Nat.le_of_ble_eq_true rfl) (by repeat' (first | exact trivial | exact ⟨_, rfl, Nat.le_refl _⟩ | exact Nat.le_of_ble_eq_true rfl | refine And.intro ?_ ?_)) (Nat.le_of_ble_eq_true rfl) rfl (fun F hE => ?_)
  repeat' (first | exact trivial | refine BS.d (fun h => ?_) (fun h => ?_) | refine BS.e (fun h => ?_) (fun h => ?_) | refine BS.ne (fun h => ?_) (fun h => ?_) | refine BS.n ?_ | refine BS.s (fun h => ?_) (fun h => ?_) | refine And.intro ?_ ?_ | (refine Need.mk ?_; first | with_reducible rfl | (show @Eq TC _ _; rfl) | omega | (simp only [adN_zero]; omega)) | exact OutS.whole rfl rfl | (refine OpK.call c1 rfl rfl rfl rfl hE ?_ rfl rfl ?_; focus ((repeat' (first | exact PsA.lit _ | exact PsA.ref rfl rfl | constructor)); all_goals (fail "ps"))) | (refine OpK.call c2 rfl rfl rfl rfl hE ?_ rfl rfl ?_; focus ((repeat' (first | exact PsA.lit _ | exact PsA.ref rfl rfl | constructor)); all_goals (fail "ps"))) | (refine OpK.call c3 rfl rfl rfl rfl hE ?_ rfl rfl ?_; focus ((repeat' (first | exact PsA.lit _ | exact PsA.ref rfl rfl | constructor)); all_goals (fail "ps"))) | (refine OpK.call c4 rfl rfl rfl rfl hE ?_ rfl rfl ?_; focus ((repeat' (first | exact PsA.lit _ | exact PsA.ref rfl rfl | constructor)); all_goals (fail "ps"))) | refine ListO.go gOk hE ?_)
theorem eqBase_run (b c : List Int) (g o : List (List Int)) (E : Int) (ps : List PinT) (l : List (List Row)) (z : List Int) (hb : BsOk 4000000 b c g o ps l z) : RunT Try.prog 36 [aBs 115 274 277 210 b c g o E ps l z, aBs 115 274 277 210 b c g o E ps l z] [] [ob true] [] := by
  have c1 := eqMem_run 115 b c g o hb.mm.hb hb.mm.hc hb.mm.hg hb.mm.hg' hb.mm.ho hb.mm.ho'
  have c2 := eqClock_run E 274 ps hb.hps
  have c3 := eqLListS_run 277 210 l hb.hl hb.hl'
  have c4 := eqIntS_run z hb.hz
  refine RunT.of_vc gOk Try.func36 rfl rfl (Nat.le_of_ble_eq_true rfl) (by repeat' (first | exact trivial | exact ⟨_, rfl, Nat.le_refl _⟩ | exact Nat.le_of_ble_eq_true rfl | refine And.intro ?_ ?_)) (Nat.le_of_ble_eq_true rfl) rfl (fun F hE => ?_)
  repeat' (first | exact trivial | refine BS.d (fun h => ?_) (fun h => ?_) | refine BS.e (fun h => ?_) (fun h => ?_) | refine BS.ne (fun h => ?_) (fun h => ?_) | refine BS.n ?_ | refine BS.s (fun h => ?_) (fun h => ?_) | refine And.intro ?_ ?_ | (refine Need.mk ?_; first | with_reducible rfl | (show @Eq TC _ _; rfl) | omega | (simp only [adN_zero]; omega)) | exact OutS.whole rfl rfl | (refine OpK.call c1 rfl rfl rfl rfl hE ?_ rfl rfl ?_; focus ((repeat' (first | exact PsA.lit _ | exact PsA.ref rfl rfl | constructor)); all_goals (fail "ps"))) | (refine OpK.call c2 rfl rfl rfl rfl hE ?_ rfl rfl ?_; focus ((repeat' (first | exact PsA.lit _ | exact PsA.ref rfl rfl | constructor)); all_goals (fail "ps"))) | (refine OpK.call c3 rfl rfl rfl rfl hE ?_ rfl rfl ?_; focus ((repeat' (first | exact PsA.lit _ | exact PsA.ref rfl rfl | constructor)); all_goals (fail "ps"))) | (refine OpK.call c4 rfl rfl rfl rfl hE ?_ rfl rfl ?_; focus ((repeat' (first | exact PsA.lit _ | exact PsA.ref rfl rfl | constructor)); all_goals (fail "ps"))) | refine ListO.go gOk hE ?_)
end Go.Proofs.Ytnclkdpocjhphaa
end

section
/- Marks of a memory, of a clock, of a base. -/
namespace Go.Proofs.Ytnclkdpocjhphaa
open Go Go.Tr
set_option maxRecDepth 100000
set_option maxHeartbeats 4000000
set_option linter.unusedVariables false
set_option linter.unusedSimpArgs false
theorem markMemG_run (ei e e' : Nat) (b c : List Int) (g o : List (List Int)) (hb : b.length ≤ 1048576) (hc : c.length ≤ 1048576) (hg : g.length ≤ 1048576) (ho : o.length ≤ 1048576) (hfg : g.flatten.length + o.flatten.length ≤ 1048576) (hbc : b.length + c.length ≤ 1048576) (hxg : ∀ i, (g.getD i []).length ≤ 1048576) (hxo : ∀ i, (o.getD i []).length ≤ 1048576) :
    ∃ z : Int, 0 ≤ z ∧ z ≤ 2097153 ∧ ∃ b' c' : List Int, ∃ g' o' : List (List Int), b'.length = b.length ∧ c'.length = c.length ∧ g'.length = g.length ∧ o'.length = o.length ∧
    RunT Try.prog 32 [.agg [.h 0 b.length, .h 1 c.length, .h 2 g.length, .h 3 o.length], ti 1] [.sl ei 1 Int encI decI 0 b, .sl ei 1 Int encI decI 0 c, .sl e 1 (List Int) encL decL [] g, .sl e' 1 (List Int) encL decL [] o] [oi z]
      [.sl ei 1 Int encI decI 0 b', .sl ei 1 Int encI decI 0 c', .sl e 1 (List Int) encL decL [] g', .sl e' 1 (List Int) encL decL [] o'] := by
  have c1 := markH_run 0 b c 1 (by omega) (by omega) hb hc
  have c2 := markLs_run 0 0 g o (1 + b.length + c.length) (by omega) (by omega) (by omega) (by omega) hxg (by omega) (by omega) hxo (by omega)
  have q1 := offI_bd (m := 1 + b.length + c.length) (Nat.le_refl g.length)
  have q2 := offI_bd (m := offI (1 + b.length + c.length) g g.length) (Nat.le_refl o.length)
  refine ⟨offI (offI (1 + b.length + c.length) g g.length) o o.length, by omega, by omega, mkL 0 (fI 1) b b.length, mkL 0 (fI (1 + b.length)) c c.length, mkL [] (gSL (1 + b.length + c.length) g) g g.length, mkL [] (gSL (offI (1 + b.length + c.length) g g.length) o) o o.length, mkL_len _ _ _ _, mkL_len _ _ _ _, mkL_len _ _ _ _, mkL_len _ _ _ _, ?_⟩
  generalize offI (offI (1 + b.length + c.length) g g.length) o o.length = z at *
  refine RunT.of_vc gOk Try.func32 rfl rfl (Nat.le_of_ble_eq_true rfl) (by repeat' (first | exact trivial | exact ⟨_, rfl, Nat.le_refl _⟩ | exact Nat.le_of_ble_eq_true rfl | refine And.intro ?_ ?_)) (Nat.le_of_ble_eq_true rfl) rfl (fun F hE => ?_)
  repeat' (first | exact trivial | refine BS.d (fun h => ?_) (fun h => ?_) | refine BS.e (fun h => ?_) (fun h => ?_) | refine BS.ne (fun h => ?_) (fun h => ?_) | refine BS.n ?_ | refine BS.s (fun h => ?_) (fun h => ?_) | refine And.intro ?_ ?_ | (refine Need.mk ?_; first | with_reducible rfl | (show @Eq TC _ _; rfl) | omega | (simp only [adN_zero]; omega)) | exact OutS.whole rfl rfl | (refine OpK.callBs [bIntX 1000000 b (mkL 0 (fI 1) b b.length), bIntX 1000001 c (mkL 0 (fI (1 + b.length)) c c.length)] c1 rfl rfl rfl rfl hE (List.forall_mem_cons.2 ⟨BtOk.sl rfl (mkL_len _ _ _ _), List.forall_mem_cons.2 ⟨BtOk.sl rfl (mkL_len _ _ _ _), fun _ h => nomatch h⟩⟩) (List.forall_mem_cons.2 ⟨rfl, List.forall_mem_cons.2 ⟨rfl, fun _ h => nomatch h⟩⟩) (show List.Nodup [1000000, 1000001] by decide) (QsVs.cons (.agg (.cons (.h rfl rfl rfl) (.cons (.h rfl rfl rfl) .nil))) (.cons (.one (.c (.lit _) rfl)) .nil)) rfl rfl ?_) | (refine OpK.callBs [bSLX 1000002 g (mkL [] (gSL (1 + b.length + c.length) g) g g.length), bSLX 1000003 o (mkL [] (gSL (offI (1 + b.length + c.length) g g.length) o) o o.length)] c2 rfl rfl rfl rfl hE (List.forall_mem_cons.2 ⟨BtOk.sl rfl (mkL_len _ _ _ _), List.forall_mem_cons.2 ⟨BtOk.sl rfl (mkL_len _ _ _ _), fun _ h => nomatch h⟩⟩) (List.forall_mem_cons.2 ⟨rfl, List.forall_mem_cons.2 ⟨rfl, fun _ h => nomatch h⟩⟩) (show List.Nodup [1000002, 1000003] by decide) (QsVs.cons (.agg (.cons (.h rfl rfl rfl) (.cons (.h rfl rfl rfl) .nil))) (.cons (.one (.c (.lit _) rfl)) .nil)) rfl rfl ?_) | refine ListO.go gOk hE ?_)
  all_goals first | exact Need.mk rfl | trace_state
theorem markClock_run (E : Int) (e : Nat) (ps : List PinT) (m : Int) (h0 : 0 ≤ m) (h1 : m ≤ 4194304) (hn : ps.length ≤ 1048576) : RunT Try.prog 93 [.agg [.c (.lit (.int .i64 E)), .h 0 ps.length], ti m] [.sl e 4 PinT encPin decPin zPin ps] [oi (m + 4 * ps.length)] [.sl e 4 PinT encPin decPin zPin (mkL zPin (fPn m) ps ps.length)] := by
  have c1 := markPinS_run 0 ps m h0 h1 (by omega)
  refine RunT.of_vc gOk Try.func93 rfl rfl (Nat.le_of_ble_eq_true rfl) (by repeat' (first | exact trivial | exact ⟨_, rfl, Nat.le_refl _⟩ | exact Nat.le_of_ble_eq_true rfl | refine And.intro ?_ ?_)) (Nat.le_of_ble_eq_true rfl) rfl (fun F hE => ?_)
  repeat' (first | exact trivial | refine BS.d (fun h => ?_) (fun h => ?_) | refine BS.e (fun h => ?_) (fun h => ?_) | refine BS.ne (fun h => ?_) (fun h => ?_) | refine BS.n ?_ | refine BS.s (fun h => ?_) (fun h => ?_) | refine And.intro ?_ ?_ | (refine Need.mk ?_; first | with_reducible rfl | (show @Eq TC _ _; rfl) | omega | (simp only [adN_zero]; omega)) | exact OutS.whole rfl rfl | (refine OpK.callB (bPinX 1000000 ps (mkL zPin (fPn m) ps ps.length)) c1 rfl rfl rfl rfl hE (BtOk.sl rfl (mkL_len _ _ _ _)) rfl (QsVs.cons (.one (.h rfl rfl rfl)) (.cons (.one (.c (.lit _) rfl)) .nil)) rfl rfl ?_) | refine ListO.go gOk hE ?_)
  all_goals first | exact Need.mk rfl | trace_state
end Go.Proofs.Ytnclkdpocjhphaa
end

section
/- Marks of a base. -/
namespace Go.Proofs.Ytnclkdpocjhphaa
open Go Go.Tr
set_option maxRecDepth 100000
set_option maxHeartbeats 4000000
set_option linter.unusedVariables false
set_option linter.unusedSimpArgs false
abbrev bLLX (e' κ : Nat) (xs xs' : List (List Row)) : Bt := ⟨κ, 0, true, .sl 0 1 (List Row) (encLL e') decLL [] xs, .sl 0 1 (List Row) (encLL e') decLL [] xs', .ty .own false 0 1 (List Row) (encLL e') decLL [] xs'⟩
theorem markBase_run (ei e e' eP eR eL : Nat) (b c : List Int) (g o : List (List Int)) (E : Int) (ps : List PinT) (l : List (List Row)) (z : List Int) (h : BsOk 1048576 b c g o ps l z) (hfg : g.flatten.length + o.flatten.length ≤ 1048576) (hbc : b.length + c.length ≤ 1048576) (hcn : cnt l ≤ 1048576) :
    ∃ k : Int, 0 ≤ k ∧ ∃ b' c' : List Int, ∃ g' o' : List (List Int), ∃ ps' : List PinT, ∃ l' : List (List Row), ∃ z' : List Int, b'.length = b.length ∧ c'.length = c.length ∧ g'.length = g.length ∧ o'.length = o.length ∧ ps'.length = ps.length ∧ l'.length = l.length ∧ z'.length = z.length ∧
    RunT Try.prog 37 [.agg [.h 0 b.length, .h 1 c.length, .h 2 g.length, .h 3 o.length, .c (.lit (.int .i64 E)), .h 4 ps.length, .h 5 l.length, .h 6 z.length], ti 1]
      [.sl ei 1 Int encI decI 0 b, .sl ei 1 Int encI decI 0 c, .sl e 1 (List Int) encL decL [] g, .sl e' 1 (List Int) encL decL [] o, .sl eP 4 PinT encPin decPin zPin ps, .sl eL 1 (List Row) (encLL eR) decLL [] l, .sl ei 1 Int encI decI 0 z] [oi k]
      [.sl ei 1 Int encI decI 0 b', .sl ei 1 Int encI decI 0 c', .sl e 1 (List Int) encL decL [] g', .sl e' 1 (List Int) encL decL [] o', .sl eP 4 PinT encPin decPin zPin ps', .sl eL 1 (List Row) (encLL eR) decLL [] l', .sl ei 1 Int encI decI 0 z'] := by
  have hk := h.mm
  obtain ⟨k1, p1, p2, b', c', g', o', q1, q2, q3, q4, c1⟩ := markMemG_run 0 0 0 b c g o hk.hb hk.hc hk.hg hk.ho hfg hbc hk.hg' hk.ho'
  have hp := h.hps
  have hz := h.hz
  have c2 := markClock_run E 0 ps k1 p1 (by omega) h.hps
  have c3 := markLL_run eR 0 l (k1 + 4 * ps.length) (by omega) (by omega) h.hl hcn h.hl'
  have q5 := offR_bd (m := k1 + 4 * ps.length) (by omega) hcn (Nat.le_refl l.length)
  generalize offR (k1 + 4 * ps.length) l l.length = k2 at *
  have hl9 := mkL_len [] (gLL (k1 + 4 * ps.length) l) l l.length
  generalize mkL [] (gLL (k1 + 4 * ps.length) l) l l.length = l' at *
  have hp9 := mkL_len zPin (fPn k1) ps ps.length
  generalize mkL zPin (fPn k1) ps ps.length = ps' at *
  have c4 := markI_run 0 z k2 (by omega) (by omega) (by omega)
  refine ⟨k2 + z.length, by omega, b', c', g', o', ps', l', mkL 0 (fI k2) z z.length, q1, q2, q3, q4, hp9, hl9, mkL_len _ _ _ _, ?_⟩
  refine RunT.of_vc gOk Try.func37 rfl rfl (Nat.le_of_ble_eq_true rfl) (by repeat' (first | exact trivial | exact ⟨_, rfl, Nat.le_refl _⟩ | exact Nat.le_of_ble_eq_true rfl | refine And.intro ?_ ?_)) (Nat.le_of_ble_eq_true rfl) rfl (fun F hE => ?_)
  repeat' (first | exact trivial | refine BS.d (fun h => ?_) (fun h => ?_) | refine BS.e (fun h => ?_) (fun h => ?_) | refine BS.ne (fun h => ?_) (fun h => ?_) | refine BS.n ?_ | refine BS.s (fun h => ?_) (fun h => ?_) | refine And.intro ?_ ?_ | (refine Need.mk ?_; first | with_reducible rfl | (show @Eq TC _ _; rfl) | omega | (simp only [adN_zero]; omega)) | exact OutS.whole rfl rfl | (refine OpK.callBs [bIntX 1000000 b b', bIntX 1000001 c c', bSLX 1000002 g g', bSLX 1000003 o o'] c1 rfl rfl rfl rfl hE (List.forall_mem_cons.2 ⟨BtOk.sl rfl q1, List.forall_mem_cons.2 ⟨BtOk.sl rfl q2, List.forall_mem_cons.2 ⟨BtOk.sl rfl q3, List.forall_mem_cons.2 ⟨BtOk.sl rfl q4, fun _ h => nomatch h⟩⟩⟩⟩) (List.forall_mem_cons.2 ⟨rfl, List.forall_mem_cons.2 ⟨rfl, List.forall_mem_cons.2 ⟨rfl, List.forall_mem_cons.2 ⟨rfl, fun _ h => nomatch h⟩⟩⟩⟩) (show List.Nodup [1000000, 1000001, 1000002, 1000003] by decide) (QsVs.cons (.agg (.cons (.h rfl rfl rfl) (.cons (.h rfl rfl rfl) (.cons (.h rfl rfl rfl) (.cons (.h rfl rfl rfl) .nil))))) (.cons (.one (.c (.lit _) rfl)) .nil)) rfl rfl ?_) | (refine OpK.callB (bPinX 1000004 ps ps') c2 rfl rfl rfl rfl hE (BtOk.sl rfl hp9) rfl (QsVs.cons (.agg (.cons (.c (.lit _) rfl) (.cons (.h rfl rfl rfl) .nil))) (.cons (.one (.c (.lit _) rfl)) .nil)) rfl rfl ?_) | (refine OpK.callB (bLLX eR 1000005 l l') c3 rfl rfl rfl rfl hE (BtOk.sl rfl hl9) rfl (QsVs.cons (.one (.h rfl rfl rfl)) (.cons (.one (.c (.lit _) rfl)) .nil)) rfl rfl ?_) | (refine OpK.callB (bIntX 1000006 z (mkL 0 (fI k2) z z.length)) c4 rfl rfl rfl rfl hE (BtOk.sl rfl (mkL_len _ _ _ _)) rfl (QsVs.cons (.one (.h rfl rfl rfl)) (.cons (.one (.c (.lit _) rfl)) .nil)) rfl rfl ?_) | refine ListO.go gOk hE ?_)
  all_goals first | exact Need.mk rfl | trace_state
end Go.Proofs.Ytnclkdpocjhphaa
end

section
/- The marks of a row of lists, read. -/
namespace Go.Proofs.Ytnclkdpocjhphaa
open Go Go.Tr
set_option maxRecDepth 100000
set_option maxHeartbeats 4000000
set_option linter.unusedVariables false
set_option linter.unusedSimpArgs false
theorem heldSL_run (e : Nat) (xs : List (List Int)) (m : Int) (h0 : 0 ≤ m) (h1 : m ≤ 3145728) (hn : xs.length ≤ 1048576) (hc : xs.flatten.length ≤ 1048576) (hx : ∀ i, (xs.getD i []).length ≤ 1048576) : RunT Try.prog 71 [.one (.c (tSL e (mkL [] (gSL m xs) xs xs.length))), ti m] [] [oi (offI m xs xs.length)] [] := by
  have hl := mkL_len [] (gSL m xs) xs xs.length
  refine RunT.of_vc gOk Try.func71 rfl rfl (Nat.le_of_ble_eq_true rfl) (by repeat' (first | exact trivial | exact ⟨_, rfl, Nat.le_refl _⟩ | exact Nat.le_of_ble_eq_true rfl | refine And.intro ?_ ?_)) (Nat.le_of_ble_eq_true rfl) rfl (fun F hE => ?_)
  repeat' (first | exact trivial | refine BS.d (fun h => ?_) (fun h => ?_) | refine BS.e (fun h => ?_) (fun h => ?_) | refine BS.ne (fun h => ?_) (fun h => ?_) | refine BS.n ?_ | refine BS.s (fun h => ?_) (fun h => ?_) | refine And.intro ?_ ?_ | (refine Need.mk ?_; first | with_reducible rfl | (show @Eq TC _ _; rfl) | omega | (simp only [adN_zero]; omega)) | exact OutS.whole rfl rfl | refine ListO.go gOk hE ?_)
  refine CodeK.loop gOk hE (fun i : Nat => ⟨[(0, vr 1000000 (mkL [] (gSL m xs) xs xs.length).length), (1, vi (offI m xs i)), (5, vi i)], [(1000000, rSL .fro false e (mkL [] (gSL m xs) xs xs.length))]⟩) (fun i => i ≤ xs.length) (fun i => xs.length - i) 0 (by refine leT.of ?_ ?_ rfl <;> repeat' (first | exact trivial | refine And.intro rfl ?_ | refine And.intro (by first | rfl | (simp [offI] <;> rfl)) ?_)) (Nat.zero_le _) ?_
  rintro i hi
  have hb := offI_bd (m := m) hi
  by_cases hi2 : i < xs.length
  · have hg : (mkL [] (gSL m xs) xs xs.length).getD i [] = gSL m xs i := mkL_get _ _ _ _ _ hi2 hi2
    have hxi := hx i
    have c1 := heldI_run (xs.getD i []) (offI m xs i) (by omega) (by omega) (by omega)
    have hb2 := offI_bd (m := m) (xs := xs) (i := i + 1) (by omega)
    have hofs : offI m xs (i + 1) = offI m xs i + (xs.getD i []).length := rfl
    rw [show mkL 0 (fI (offI m xs i)) (xs.getD i []) (xs.getD i []).length = (mkL [] (gSL m xs) xs xs.length).getD i [] from hg.symm, ← hofs] at c1
    repeat' (first | exact trivial | refine BS.d (fun h => ?_) (fun h => ?_) | refine BS.e (fun h => ?_) (fun h => ?_) | refine BS.ne (fun h => ?_) (fun h => ?_) | refine BS.n ?_ | refine BS.s (fun h => ?_) (fun h => ?_) | refine And.intro ?_ ?_ | (refine Need.mk ?_; first | with_reducible rfl | (show @Eq TC _ _; rfl) | omega | (simp only [adN_zero]; omega)) | exact OutS.whole rfl rfl | (refine OpK.call c1 rfl rfl rfl rfl hE ?_ rfl rfl ?_; focus ((repeat' (first | exact PsA.lit _ | exact PsA.ref rfl rfl | constructor)); all_goals (fail "ps"))) | refine ListO.go gOk hE ?_)
    all_goals (try simp only [adN_zero] at *)
    all_goals first
      | (exfalso; omega)
      | (refine Need.mk ?_; omega)
      | (refine ⟨i + 1, (by refine leT.of ?_ ?_ rfl <;> repeat' (first | exact trivial | refine And.intro rfl ?_ | refine And.intro (by first | rfl | (simp; done)) ?_)), by omega, by first | omega | (dsimp only; omega)⟩)
      | trace_state
  · repeat' (first | exact trivial | refine BS.d (fun h => ?_) (fun h => ?_) | refine BS.e (fun h => ?_) (fun h => ?_) | refine BS.ne (fun h => ?_) (fun h => ?_) | refine BS.n ?_ | refine BS.s (fun h => ?_) (fun h => ?_) | refine And.intro ?_ ?_ | (refine Need.mk ?_; first | with_reducible rfl | (show @Eq TC _ _; rfl) | omega | (simp only [adN_zero]; omega)) | exact OutS.whole rfl rfl | refine ListO.go gOk hE ?_)
    all_goals (try simp only [adN_zero] at *)
    all_goals first
      | (exfalso; omega)
      | (refine Need.mk ?_; first | omega | rw [show i = xs.length by omega])
      | (refine Need.mk ?_; (try rw [show i = xs.length by omega]); rfl)
      | trace_state
end Go.Proofs.Ytnclkdpocjhphaa
end

section
/- Marks of a memory, told, and read. -/
namespace Go.Proofs.Ytnclkdpocjhphaa
open Go Go.Tr
set_option maxRecDepth 100000
set_option maxHeartbeats 4000000
set_option linter.unusedVariables false
set_option linter.unusedSimpArgs false
abbrev mB (b : List Int) : List Int := mkL 0 (fI 1) b b.length
abbrev mC (b c : List Int) : List Int := mkL 0 (fI (1 + b.length)) c c.length
abbrev mG (b c : List Int) (g : List (List Int)) : List (List Int) := mkL [] (gSL (1 + b.length + c.length) g) g g.length
abbrev mO (b c : List Int) (g o : List (List Int)) : List (List Int) := mkL [] (gSL (offI (1 + b.length + c.length) g g.length) o) o o.length
def mZ (b c : List Int) (g o : List (List Int)) : Int := offI (offI (1 + b.length + c.length) g g.length) o o.length
theorem mZ_bd {b c : List Int} {g o : List (List Int)} : 1 ≤ mZ b c g o ∧ mZ b c g o ≤ 1 + b.length + c.length + g.flatten.length + o.flatten.length := by
  have q1 := offI_bd (m := 1 + b.length + c.length) (Nat.le_refl g.length)
  have q2 := offI_bd (m := offI (1 + b.length + c.length) g g.length) (Nat.le_refl o.length)
  unfold mZ; omega
structure MkOk (b c : List Int) (g o : List (List Int)) : Prop where
  ok : MmOk 1048576 b c g o
  bc : b.length + c.length ≤ 1048576
  fg : g.flatten.length + o.flatten.length ≤ 1048576
theorem markMemX_run (ei e e' : Nat) (b c : List Int) (g o : List (List Int)) (h : MkOk b c g o) : RunT Try.prog 32 [.agg [.h 0 b.length, .h 1 c.length, .h 2 g.length, .h 3 o.length], ti 1] [.sl ei 1 Int encI decI 0 b, .sl ei 1 Int encI decI 0 c, .sl e 1 (List Int) encL decL [] g, .sl e' 1 (List Int) encL decL [] o] [oi (mZ b c g o)]
      [.sl ei 1 Int encI decI 0 (mB b), .sl ei 1 Int encI decI 0 (mC b c), .sl e 1 (List Int) encL decL [] (mG b c g), .sl e' 1 (List Int) encL decL [] (mO b c g o)] := by
  have hb := h.ok.hb
  have hc := h.ok.hc
  have hg := h.ok.hg
  have ho := h.ok.ho
  have hfg := h.fg
  have hbc := h.bc
  have hxg := h.ok.hg'
  have hxo := h.ok.ho'
  have c1 := markH_run 0 b c 1 (by omega) (by omega) hb hc
  have c2 := markLs_run 0 0 g o (1 + b.length + c.length) (by omega) (by omega) (by omega) (by omega) hxg (by omega) (by omega) hxo (by omega)
  have q1 := offI_bd (m := 1 + b.length + c.length) (Nat.le_refl g.length)
  have q2 := offI_bd (m := offI (1 + b.length + c.length) g g.length) (Nat.le_refl o.length)
  unfold mZ
  generalize offI (offI (1 + b.length + c.length) g g.length) o o.length = z at *
  refine RunT.of_vc gOk Try.func32 rfl rfl (Nat.le_of_ble_eq_true rfl) (by repeat' (first | exact trivial | exact ⟨_, rfl, Nat.le_refl _⟩ | exact Nat.le_of_ble_eq_true rfl | refine And.intro ?_ ?_)) (Nat.le_of_ble_eq_true rfl) rfl (fun F hE => ?_)
  repeat' (first | exact trivial | refine BS.d (fun h => ?_) (fun h => ?_) | refine BS.e (fun h => ?_) (fun h => ?_) | refine BS.ne (fun h => ?_) (fun h => ?_) | refine BS.n ?_ | refine BS.s (fun h => ?_) (fun h => ?_) | refine And.intro ?_ ?_ | (refine Need.mk ?_; first | with_reducible rfl | (show @Eq TC _ _; rfl) | omega | (simp only [adN_zero]; omega)) | exact OutS.whole rfl rfl | (refine OpK.callBs [bIntX 1000000 b (mkL 0 (fI 1) b b.length), bIntX 1000001 c (mkL 0 (fI (1 + b.length)) c c.length)] c1 rfl rfl rfl rfl hE (List.forall_mem_cons.2 ⟨BtOk.sl rfl (mkL_len _ _ _ _), List.forall_mem_cons.2 ⟨BtOk.sl rfl (mkL_len _ _ _ _), fun _ h => nomatch h⟩⟩) (List.forall_mem_cons.2 ⟨rfl, List.forall_mem_cons.2 ⟨rfl, fun _ h => nomatch h⟩⟩) (show List.Nodup [1000000, 1000001] by decide) (QsVs.cons (.agg (.cons (.h rfl rfl rfl) (.cons (.h rfl rfl rfl) .nil))) (.cons (.one (.c (.lit _) rfl)) .nil)) rfl rfl ?_) | (refine OpK.callBs [bSLX 1000002 g (mkL [] (gSL (1 + b.length + c.length) g) g g.length), bSLX 1000003 o (mkL [] (gSL (offI (1 + b.length + c.length) g g.length) o) o o.length)] c2 rfl rfl rfl rfl hE (List.forall_mem_cons.2 ⟨BtOk.sl rfl (mkL_len _ _ _ _), List.forall_mem_cons.2 ⟨BtOk.sl rfl (mkL_len _ _ _ _), fun _ h => nomatch h⟩⟩) (List.forall_mem_cons.2 ⟨rfl, List.forall_mem_cons.2 ⟨rfl, fun _ h => nomatch h⟩⟩) (show List.Nodup [1000002, 1000003] by decide) (QsVs.cons (.agg (.cons (.h rfl rfl rfl) (.cons (.h rfl rfl rfl) .nil))) (.cons (.one (.c (.lit _) rfl)) .nil)) rfl rfl ?_) | refine ListO.go gOk hE ?_)
  all_goals first | exact Need.mk rfl | trace_state
theorem heldMem_run (e e' : Nat) (b c : List Int) (g o : List (List Int)) (h : MkOk b c g o) : RunT Try.prog 33 [.agg [.c (tI (mB b)), .c (tI (mC b c)), .c (tSL e (mG b c g)), .c (tSL e' (mO b c g o))], ti 1] [] [oi (mZ b c g o)] [] := by
  have hb := h.ok.hb
  have hc := h.ok.hc
  have hg := h.ok.hg
  have ho := h.ok.ho
  have hfg := h.fg
  have hbc := h.bc
  have q1 := offI_bd (m := 1 + b.length + c.length) (Nat.le_refl g.length)
  have q2 := offI_bd (m := offI (1 + b.length + c.length) g g.length) (Nat.le_refl o.length)
  have c1 := heldH_run b c 1 (by omega) (by omega) hb hc
  have c2 := heldSL_run e g (1 + b.length + c.length) (by omega) (by omega) hg (by omega) h.ok.hg'
  have c3 := heldSL_run e' o (offI (1 + b.length + c.length) g g.length) (by omega) (by omega) ho (by omega) h.ok.ho'
  have c4 : RunT Try.prog 19 [.agg [.c (tSL e (mG b c g)), .c (tSL e' (mO b c g o))], ti (1 + b.length + c.length)] [] [oi (mZ b c g o)] [] := by
    unfold mZ
    refine RunT.of_vc gOk Try.func19 rfl rfl (Nat.le_of_ble_eq_true rfl) (by repeat' (first | exact trivial | exact ⟨_, rfl, Nat.le_refl _⟩ | exact Nat.le_of_ble_eq_true rfl | refine And.intro ?_ ?_)) (Nat.le_of_ble_eq_true rfl) rfl (fun F hE => ?_)
    repeat' (first | exact trivial | refine BS.d (fun h => ?_) (fun h => ?_) | refine BS.e (fun h => ?_) (fun h => ?_) | refine BS.ne (fun h => ?_) (fun h => ?_) | refine BS.n ?_ | refine BS.s (fun h => ?_) (fun h => ?_) | refine And.intro ?_ ?_ | (refine Need.mk ?_; first | with_reducible rfl | (show @Eq TC _ _; rfl) | omega | (simp only [adN_zero]; omega)) | exact OutS.whole rfl rfl | (refine OpK.call c2 rfl rfl rfl rfl hE ?_ rfl rfl ?_; focus ((repeat' (first | exact PsA.lit _ | exact PsA.ref rfl rfl | exact PsA.ref rfl (mkL_len _ _ _ _).symm | constructor)); all_goals (fail "ps"))) | (refine OpK.call c3 rfl rfl rfl rfl hE ?_ rfl rfl ?_; focus ((repeat' (first | exact PsA.lit _ | exact PsA.ref rfl rfl | exact PsA.ref rfl (mkL_len _ _ _ _).symm | constructor)); all_goals (fail "ps"))) | refine ListO.go gOk hE ?_)
    all_goals first | exact Need.mk rfl | (exfalso; omega) | trace_state
  have q3 : 0 ≤ mZ b c g o := by unfold mZ; omega
  refine RunT.of_vc gOk Try.func33 rfl rfl (Nat.le_of_ble_eq_true rfl) (by repeat' (first | exact trivial | exact ⟨_, rfl, Nat.le_refl _⟩ | exact Nat.le_of_ble_eq_true rfl | refine And.intro ?_ ?_)) (Nat.le_of_ble_eq_true rfl) rfl (fun F hE => ?_)
  repeat' (first | exact trivial | refine BS.d (fun h => ?_) (fun h => ?_) | refine BS.e (fun h => ?_) (fun h => ?_) | refine BS.ne (fun h => ?_) (fun h => ?_) | refine BS.n ?_ | refine BS.s (fun h => ?_) (fun h => ?_) | refine And.intro ?_ ?_ | (refine Need.mk ?_; first | with_reducible rfl | (show @Eq TC _ _; rfl) | omega | (simp only [adN_zero]; omega)) | exact OutS.whole rfl rfl | (refine OpK.call c1 rfl rfl rfl rfl hE ?_ rfl rfl ?_; focus ((repeat' (first | exact PsA.lit _ | exact PsA.ref rfl rfl | exact PsA.ref rfl (mkL_len _ _ _ _).symm | constructor)); all_goals (fail "ps"))) | (refine OpK.call c4 rfl rfl rfl rfl hE ?_ rfl rfl ?_; focus ((repeat' (first | exact PsA.lit _ | exact PsA.ref rfl rfl | exact PsA.ref rfl (mkL_len _ _ _ _).symm | constructor)); all_goals (fail "ps"))) | refine ListO.go gOk hE ?_)
  all_goals first | exact Need.mk rfl | (exfalso; omega) | trace_state
end Go.Proofs.Ytnclkdpocjhphaa
end

section
/- The marks of a limbo, read. -/
namespace Go.Proofs.Ytnclkdpocjhphaa
open Go Go.Tr
set_option maxRecDepth 100000
set_option maxHeartbeats 4000000
set_option linter.unusedVariables false
set_option linter.unusedSimpArgs false
theorem heldRows_run (e : Nat) (xs : List Row) (m : Int) (h0 : 0 ≤ m) (h1 : m ≤ 33554432) (hn : xs.length ≤ 4000000) : RunT Try.prog 155 [.one (.c (tR e (mkL (0, 0) (fR m) xs xs.length))), ti m] [] [oi (m + 2 * xs.length)] [] := by
  have hl := mkL_len (0, 0) (fR m) xs xs.length
  refine RunT.of_vc gOk Try.func155 rfl rfl (Nat.le_of_ble_eq_true rfl) (by repeat' (first | exact trivial | exact ⟨_, rfl, Nat.le_refl _⟩ | exact Nat.le_of_ble_eq_true rfl | refine And.intro ?_ ?_)) (Nat.le_of_ble_eq_true rfl) rfl (fun F hE => ?_)
  repeat' (first | exact trivial | refine BS.d (fun h => ?_) (fun h => ?_) | refine BS.e (fun h => ?_) (fun h => ?_) | refine BS.ne (fun h => ?_) (fun h => ?_) | refine BS.n ?_ | refine BS.s (fun h => ?_) (fun h => ?_) | refine And.intro ?_ ?_ | (refine Need.mk ?_; first | with_reducible rfl | (show @Eq TC _ _; rfl) | omega | (simp only [adN_zero]; omega)) | exact OutS.whole rfl rfl | refine ListO.go gOk hE ?_)
  refine CodeK.loop gOk hE (fun i : Nat => ⟨[(0, vr 1000000 (mkL (0, 0) (fR m) xs xs.length).length), (1, vi (m + 2 * i)), (5, vi i)], [(1000000, rR .fro false e (mkL (0, 0) (fR m) xs xs.length))]⟩) (fun i => i ≤ xs.length) (fun i => xs.length - i) 0 (by refine leT.of ?_ ?_ rfl <;> repeat' (first | exact trivial | refine And.intro rfl ?_ | refine And.intro (by simp <;> rfl) ?_)) (Nat.zero_le _) ?_
  rintro i hi
  have hg : i < xs.length → (mkL (0, 0) (fR m) xs xs.length).getD i (0, 0) = fR m i := fun h => mkL_get _ _ _ _ _ h h
  repeat' (first | exact trivial | refine BS.d (fun h => ?_) (fun h => ?_) | refine BS.e (fun h => ?_) (fun h => ?_) | refine BS.ne (fun h => ?_) (fun h => ?_) | refine BS.n ?_ | refine BS.s (fun h => ?_) (fun h => ?_) | refine And.intro ?_ ?_ | (refine Need.mk ?_; first | with_reducible rfl | (show @Eq TC _ _; rfl) | omega | (simp only [adN_zero]; omega)) | exact OutS.whole rfl rfl | refine ListO.go gOk hE ?_)
  all_goals (try simp only [adN_zero] at *)
  all_goals first
    | (exfalso; have h9 := hg (by omega); rw [h9] at *; first | omega | (simp_all; done))
    | (refine Need.mk ?_; first | omega | rw [show i = xs.length by omega])
    | (refine ⟨i + 1, (by refine leT.of ?_ ?_ rfl <;> repeat' (first | exact trivial | refine And.intro rfl ?_ | refine And.intro (by first | rfl | (refine litInt ?_; omega)) ?_)), by omega, by first | omega | (dsimp only; omega)⟩)
theorem heldLL_run (e' e : Nat) (xs : List (List Row)) (m : Int) (h0 : 0 ≤ m) (h1 : m ≤ 16777216) (hn : xs.length ≤ 1048576) (hc : cnt xs ≤ 1048576) (hx : ∀ i, (xs.getD i []).length ≤ 1048576) : RunT Try.prog 96 [.one (.c (tLL e' e (mkL [] (gLL m xs) xs xs.length))), ti m] [] [oi (offR m xs xs.length)] [] := by
  have hl := mkL_len [] (gLL m xs) xs xs.length
  refine RunT.of_vc gOk Try.func96 rfl rfl (Nat.le_of_ble_eq_true rfl) (by repeat' (first | exact trivial | exact ⟨_, rfl, Nat.le_refl _⟩ | exact Nat.le_of_ble_eq_true rfl | refine And.intro ?_ ?_)) (Nat.le_of_ble_eq_true rfl) rfl (fun F hE => ?_)
  repeat' (first | exact trivial | refine BS.d (fun h => ?_) (fun h => ?_) | refine BS.e (fun h => ?_) (fun h => ?_) | refine BS.ne (fun h => ?_) (fun h => ?_) | refine BS.n ?_ | refine BS.s (fun h => ?_) (fun h => ?_) | refine And.intro ?_ ?_ | (refine Need.mk ?_; first | with_reducible rfl | (show @Eq TC _ _; rfl) | omega | (simp only [adN_zero]; omega)) | exact OutS.whole rfl rfl | refine ListO.go gOk hE ?_)
  refine CodeK.loop gOk hE (fun i : Nat => ⟨[(0, vr 1000000 (mkL [] (gLL m xs) xs xs.length).length), (1, vi (offR m xs i)), (5, vi i)], [(1000000, rLL .fro false e' e (mkL [] (gLL m xs) xs xs.length))]⟩) (fun i => i ≤ xs.length) (fun i => xs.length - i) 0 (by refine leT.of ?_ ?_ rfl <;> repeat' (first | exact trivial | refine And.intro rfl ?_ | refine And.intro (by first | rfl | (simp [offR] <;> rfl)) ?_)) (Nat.zero_le _) ?_
  rintro i hi
  have hb := offR_bd h0 hc hi
  by_cases hi2 : i < xs.length
  · have hg : (mkL [] (gLL m xs) xs xs.length).getD i [] = gLL m xs i := mkL_get _ _ _ _ _ hi2 hi2
    have hxi := hx i
    have c1 := heldRows_run e' (xs.getD i []) (offR m xs i) hb.1 (by omega) (by omega)
    have hb2 := offR_bd h0 hc (i := i + 1) (by omega)
    have hofs : offR m xs (i + 1) = offR m xs i + 2 * (xs.getD i []).length := rfl
    rw [show mkL (0, 0) (fR (offR m xs i)) (xs.getD i []) (xs.getD i []).length = (mkL [] (gLL m xs) xs xs.length).getD i [] from hg.symm, ← hofs] at c1
    repeat' (first | exact trivial | refine BS.d (fun h => ?_) (fun h => ?_) | refine BS.e (fun h => ?_) (fun h => ?_) | refine BS.ne (fun h => ?_) (fun h => ?_) | refine BS.n ?_ | refine BS.s (fun h => ?_) (fun h => ?_) | refine And.intro ?_ ?_ | (refine Need.mk ?_; first | with_reducible rfl | (show @Eq TC _ _; rfl) | omega | (simp only [adN_zero]; omega)) | exact OutS.whole rfl rfl | (refine OpK.call c1 rfl rfl rfl rfl hE ?_ rfl rfl ?_; focus ((repeat' (first | exact PsA.lit _ | exact PsA.ref rfl rfl | constructor)); all_goals (fail "ps"))) | refine ListO.go gOk hE ?_)
    all_goals (try simp only [adN_zero] at *)
    all_goals first
      | (exfalso; omega)
      | (refine Need.mk ?_; omega)
      | (refine ⟨i + 1, (by refine leT.of ?_ ?_ rfl <;> repeat' (first | exact trivial | refine And.intro rfl ?_ | refine And.intro (by first | rfl | (simp; done)) ?_)), by omega, by first | omega | (dsimp only; omega)⟩)
      | trace_state
  · repeat' (first | exact trivial | refine BS.d (fun h => ?_) (fun h => ?_) | refine BS.e (fun h => ?_) (fun h => ?_) | refine BS.ne (fun h => ?_) (fun h => ?_) | refine BS.n ?_ | refine BS.s (fun h => ?_) (fun h => ?_) | refine And.intro ?_ ?_ | (refine Need.mk ?_; first | with_reducible rfl | (show @Eq TC _ _; rfl) | omega | (simp only [adN_zero]; omega)) | exact OutS.whole rfl rfl | refine ListO.go gOk hE ?_)
    all_goals (try simp only [adN_zero] at *)
    all_goals first
      | (exfalso; omega)
      | (refine Need.mk ?_; first | omega | rw [show i = xs.length by omega])
      | (refine Need.mk ?_; (try rw [show i = xs.length by omega]); rfl)
      | trace_state
end Go.Proofs.Ytnclkdpocjhphaa
end

section
/- Marks of a base, told, and read. -/
namespace Go.Proofs.Ytnclkdpocjhphaa
open Go Go.Tr
set_option maxRecDepth 100000
set_option maxHeartbeats 4000000
set_option linter.unusedVariables false
set_option linter.unusedSimpArgs false
theorem fPn_get (m : Int) (xs : List PinT) (i : Nat) (h : i < xs.length) : (mkL zPin (fPn m) xs xs.length).getD i zPin = fPn m i := mkL_get _ _ _ _ _ h h
theorem heldPinG_run (e : Nat) (xs : List PinT) (m : Int) (h0 : 0 ≤ m) (h1 : m ≤ 33554432) (hn : xs.length ≤ 4000000) : RunT Try.prog 154 [.one (.c (tPin e (mkL zPin (fPn m) xs xs.length))), ti m] [] [oi (m + 4 * xs.length)] [] := by
  have hl := mkL_len zPin (fPn m) xs xs.length
  refine RunT.of_vc gOk Try.func154 rfl rfl (Nat.le_of_ble_eq_true rfl) (by repeat' (first | exact trivial | exact ⟨_, rfl, Nat.le_refl _⟩ | exact Nat.le_of_ble_eq_true rfl | refine And.intro ?_ ?_)) (Nat.le_of_ble_eq_true rfl) rfl (fun F hE => ?_)
  repeat' (first | exact trivial | refine BS.d (fun h => ?_) (fun h => ?_) | refine BS.e (fun h => ?_) (fun h => ?_) | refine BS.ne (fun h => ?_) (fun h => ?_) | refine BS.n ?_ | refine BS.s (fun h => ?_) (fun h => ?_) | refine And.intro ?_ ?_ | (refine Need.mk ?_; first | with_reducible rfl | (show @Eq TC _ _; rfl) | omega | (simp only [adN_zero]; omega)) | exact OutS.whole rfl rfl | refine ListO.go gOk hE ?_)
  refine CodeK.loop gOk hE (fun i : Nat => ⟨[(0, vr 1000000 (mkL zPin (fPn m) xs xs.length).length), (1, vi (m + 4 * i)), (5, vi i)], [(1000000, rPin .fro false e (mkL zPin (fPn m) xs xs.length))]⟩) (fun i => i ≤ xs.length) (fun i => xs.length - i) 0 (by refine leT.of ?_ ?_ rfl <;> repeat' (first | exact trivial | refine And.intro rfl ?_ | refine And.intro (by simp <;> rfl) ?_)) (Nat.zero_le _) ?_
  rintro i hi
  have hg : i < xs.length → (mkL zPin (fPn m) xs xs.length).getD i zPin = fPn m i := fun h => mkL_get _ _ _ _ _ h h
  repeat' (first | exact trivial | refine BS.d (fun h => ?_) (fun h => ?_) | refine BS.e (fun h => ?_) (fun h => ?_) | refine BS.ne (fun h => ?_) (fun h => ?_) | refine BS.n ?_ | refine BS.s (fun h => ?_) (fun h => ?_) | refine And.intro ?_ ?_ | (refine Need.mk ?_; first | with_reducible rfl | (show @Eq TC _ _; rfl) | omega | (simp only [adN_zero]; omega)) | exact OutS.whole rfl rfl | refine ListO.go gOk hE ?_)
  all_goals (try simp only [adN_zero] at *)
  all_goals first
    | (exfalso; have h9 := hg (by omega); simp only [h9] at *; first | omega | (simp_all; done) | (simp_all; omega))
    | (refine Need.mk ?_; first | omega | rw [show i = xs.length by omega])
    | (refine ⟨i + 1, (by refine leT.of ?_ ?_ rfl <;> repeat' (first | exact trivial | refine And.intro rfl ?_ | refine And.intro (by first | rfl | (refine litInt ?_; omega)) ?_)), by omega, by first | omega | (dsimp only; omega)⟩)
    | trace_state
theorem heldClock_run (E : Int) (e : Nat) (ps : List PinT) (m : Int) (h0 : 0 ≤ m) (h1 : m ≤ 4194304) (hn : ps.length ≤ 1048576) : RunT Try.prog 95 [.agg [.c (.lit (.int .i64 E)), .c (tPin e (mkL zPin (fPn m) ps ps.length))], ti m] [] [oi (m + 4 * ps.length)] [] := by
  have c1 := heldPinG_run e ps m h0 (by omega) (by omega)
  refine RunT.of_vc gOk Try.func95 rfl rfl (Nat.le_of_ble_eq_true rfl) (by repeat' (first | exact trivial | exact ⟨_, rfl, Nat.le_refl _⟩ | exact Nat.le_of_ble_eq_true rfl | refine And.intro ?_ ?_)) (Nat.le_of_ble_eq_true rfl) rfl (fun F hE => ?_)
  repeat' (first | exact trivial | refine BS.d (fun h => ?_) (fun h => ?_) | refine BS.e (fun h => ?_) (fun h => ?_) | refine BS.ne (fun h => ?_) (fun h => ?_) | refine BS.n ?_ | refine BS.s (fun h => ?_) (fun h => ?_) | refine And.intro ?_ ?_ | (refine Need.mk ?_; first | with_reducible rfl | (show @Eq TC _ _; rfl) | omega | (simp only [adN_zero]; omega)) | exact OutS.whole rfl rfl | (refine OpK.call c1 rfl rfl rfl rfl hE ?_ rfl rfl ?_; focus ((repeat' (first | exact PsA.lit _ | exact PsA.ref rfl rfl | exact PsA.ref rfl (mkL_len _ _ _ _).symm | constructor)); all_goals (fail "ps"))) | refine ListO.go gOk hE ?_)
  all_goals first | exact Need.mk rfl | (exfalso; omega) | trace_state
end Go.Proofs.Ytnclkdpocjhphaa
end

section
/- Marks of a base, told, and read, II. -/
namespace Go.Proofs.Ytnclkdpocjhphaa
open Go Go.Tr
set_option maxRecDepth 100000
set_option maxHeartbeats 4000000
set_option linter.unusedVariables false
set_option linter.unusedSimpArgs false
abbrev bP (b c : List Int) (g o : List (List Int)) (ps : List PinT) : List PinT := mkL zPin (fPn (mZ b c g o)) ps ps.length
abbrev bL (b c : List Int) (g o : List (List Int)) (ps : List PinT) (l : List (List Row)) : List (List Row) := mkL [] (gLL (mZ b c g o + 4 * ps.length) l) l l.length
abbrev bH (b c : List Int) (g o : List (List Int)) (ps : List PinT) (l : List (List Row)) (z : List Int) : List Int := mkL 0 (fI (offR (mZ b c g o + 4 * ps.length) l l.length)) z z.length
def bZ (b c : List Int) (g o : List (List Int)) (ps : List PinT) (l : List (List Row)) (z : List Int) : Int := offR (mZ b c g o + 4 * ps.length) l l.length + z.length
theorem bZ_bd {b c : List Int} {g o : List (List Int)} {ps : List PinT} {l : List (List Row)} {z : List Int} (hm : MkOk b c g o) (hcn : cnt l ≤ 1048576) : 0 ≤ bZ b c g o ps l z := by
  have q1 := mZ_bd (b := b) (c := c) (g := g) (o := o)
  have q5 := offR_bd (m := mZ b c g o + 4 * ps.length) (xs := l) (by omega) hcn (Nat.le_refl l.length)
  unfold bZ; omega
theorem markBaseX_run (ei e e' eP eR eL : Nat) (b c : List Int) (g o : List (List Int)) (E : Int) (ps : List PinT) (l : List (List Row)) (z : List Int) (h : BsOk 1048576 b c g o ps l z) (hm : MkOk b c g o) (hcn : cnt l ≤ 1048576) : RunT Try.prog 37 [.agg [.h 0 b.length, .h 1 c.length, .h 2 g.length, .h 3 o.length, .c (.lit (.int .i64 E)), .h 4 ps.length, .h 5 l.length, .h 6 z.length], ti 1]
      [.sl ei 1 Int encI decI 0 b, .sl ei 1 Int encI decI 0 c, .sl e 1 (List Int) encL decL [] g, .sl e' 1 (List Int) encL decL [] o, .sl eP 4 PinT encPin decPin zPin ps, .sl eL 1 (List Row) (encLL eR) decLL [] l, .sl ei 1 Int encI decI 0 z] [oi (bZ b c g o ps l z)]
      [.sl ei 1 Int encI decI 0 (mB b), .sl ei 1 Int encI decI 0 (mC b c), .sl e 1 (List Int) encL decL [] (mG b c g), .sl e' 1 (List Int) encL decL [] (mO b c g o), .sl eP 4 PinT encPin decPin zPin (bP b c g o ps), .sl eL 1 (List Row) (encLL eR) decLL [] (bL b c g o ps l), .sl ei 1 Int encI decI 0 (bH b c g o ps l z)] := by
  have c1 := markMemX_run 0 0 0 b c g o hm
  have q1 := mZ_bd (b := b) (c := c) (g := g) (o := o)
  have hfg := hm.fg
  have hbc := hm.bc
  have hg := h.mm.hg
  have ho := h.mm.ho
  have hp := h.hps
  have hz := h.hz
  have c2 := markClock_run E 0 ps (mZ b c g o) (by omega) (by omega) h.hps
  have c3 := markLL_run eR 0 l (mZ b c g o + 4 * ps.length) (by omega) (by omega) h.hl hcn h.hl'
  have q5 := offR_bd (m := mZ b c g o + 4 * ps.length) (xs := l) (by omega) hcn (Nat.le_refl l.length)
  have c4 := markI_run 0 z (offR (mZ b c g o + 4 * ps.length) l l.length) (by omega) (by omega) (by omega)
  unfold bZ
  refine RunT.of_vc gOk Try.func37 rfl rfl (Nat.le_of_ble_eq_true rfl) (by repeat' (first | exact trivial | exact ⟨_, rfl, Nat.le_refl _⟩ | exact Nat.le_of_ble_eq_true rfl | refine And.intro ?_ ?_)) (Nat.le_of_ble_eq_true rfl) rfl (fun F hE => ?_)
  repeat' (first | exact trivial | refine BS.d (fun h => ?_) (fun h => ?_) | refine BS.e (fun h => ?_) (fun h => ?_) | refine BS.ne (fun h => ?_) (fun h => ?_) | refine BS.n ?_ | refine BS.s (fun h => ?_) (fun h => ?_) | refine And.intro ?_ ?_ | (refine Need.mk ?_; first | with_reducible rfl | (show @Eq TC _ _; rfl) | omega | (simp only [adN_zero]; omega)) | exact OutS.whole rfl rfl | (refine OpK.callBs [bIntX 1000000 b (mB b), bIntX 1000001 c (mC b c), bSLX 1000002 g (mG b c g), bSLX 1000003 o (mO b c g o)] c1 rfl rfl rfl rfl hE (List.forall_mem_cons.2 ⟨BtOk.sl rfl (mkL_len _ _ _ _), List.forall_mem_cons.2 ⟨BtOk.sl rfl (mkL_len _ _ _ _), List.forall_mem_cons.2 ⟨BtOk.sl rfl (mkL_len _ _ _ _), List.forall_mem_cons.2 ⟨BtOk.sl rfl (mkL_len _ _ _ _), fun _ h => nomatch h⟩⟩⟩⟩) (List.forall_mem_cons.2 ⟨rfl, List.forall_mem_cons.2 ⟨rfl, List.forall_mem_cons.2 ⟨rfl, List.forall_mem_cons.2 ⟨rfl, fun _ h => nomatch h⟩⟩⟩⟩) (show List.Nodup [1000000, 1000001, 1000002, 1000003] by decide) (QsVs.cons (.agg (.cons (.h rfl rfl rfl) (.cons (.h rfl rfl rfl) (.cons (.h rfl rfl rfl) (.cons (.h rfl rfl rfl) .nil))))) (.cons (.one (.c (.lit _) rfl)) .nil)) rfl rfl ?_) | (refine OpK.callB (bPinX 1000004 ps (bP b c g o ps)) c2 rfl rfl rfl rfl hE (BtOk.sl rfl (mkL_len _ _ _ _)) rfl (QsVs.cons (.agg (.cons (.c (.lit _) rfl) (.cons (.h rfl rfl rfl) .nil))) (.cons (.one (.c (.lit _) rfl)) .nil)) rfl rfl ?_) | (refine OpK.callB (bLLX eR 1000005 l (bL b c g o ps l)) c3 rfl rfl rfl rfl hE (BtOk.sl rfl (mkL_len _ _ _ _)) rfl (QsVs.cons (.one (.h rfl rfl rfl)) (.cons (.one (.c (.lit _) rfl)) .nil)) rfl rfl ?_) | (refine OpK.callB (bIntX 1000006 z (bH b c g o ps l z)) c4 rfl rfl rfl rfl hE (BtOk.sl rfl (mkL_len _ _ _ _)) rfl (QsVs.cons (.one (.h rfl rfl rfl)) (.cons (.one (.c (.lit _) rfl)) .nil)) rfl rfl ?_) | refine ListO.go gOk hE ?_)
  all_goals first | exact Need.mk rfl | trace_state
theorem heldBase_run (e e' eP eR eL : Nat) (b c : List Int) (g o : List (List Int)) (E : Int) (ps : List PinT) (l : List (List Row)) (z : List Int) (h : BsOk 1048576 b c g o ps l z) (hm : MkOk b c g o) (hcn : cnt l ≤ 1048576) : RunT Try.prog 38 [.agg [.c (tI (mB b)), .c (tI (mC b c)), .c (tSL e (mG b c g)), .c (tSL e' (mO b c g o)), .c (.lit (.int .i64 E)), .c (tPin eP (bP b c g o ps)), .c (tLL eR eL (bL b c g o ps l)), .c (tI (bH b c g o ps l z))], ti 1] [] [oi (bZ b c g o ps l z)] [] := by
  have c1 := heldMem_run e e' b c g o hm
  have q1 := mZ_bd (b := b) (c := c) (g := g) (o := o)
  have hfg := hm.fg
  have hbc := hm.bc
  have hp := h.hps
  have hz := h.hz
  have c2 := heldClock_run E eP ps (mZ b c g o) (by omega) (by omega) h.hps
  have c3 := heldLL_run eR eL l (mZ b c g o + 4 * ps.length) (by omega) (by omega) h.hl hcn h.hl'
  have q5 := offR_bd (m := mZ b c g o + 4 * ps.length) (xs := l) (by omega) hcn (Nat.le_refl l.length)
  have c4 := heldI_run z (offR (mZ b c g o + 4 * ps.length) l l.length) (by omega) (by omega) (by omega)
  unfold bZ
  refine RunT.of_vc gOk Try.func38 rfl rfl (Nat.le_of_ble_eq_true rfl) (by repeat' (first | exact trivial | exact ⟨_, rfl, Nat.le_refl _⟩ | exact Nat.le_of_ble_eq_true rfl | refine And.intro ?_ ?_)) (Nat.le_of_ble_eq_true rfl) rfl (fun F hE => ?_)
  repeat' (first | exact trivial | refine BS.d (fun h => ?_) (fun h => ?_) | refine BS.e (fun h => ?_) (fun h => ?_) | refine BS.ne (fun h => ?_) (fun h => ?_) | refine BS.n ?_ | refine BS.s (fun h => ?_) (fun h => ?_) | refine And.intro ?_ ?_ | (refine Need.mk ?_; first | with_reducible rfl | (show @Eq TC _ _; rfl) | omega | (simp only [adN_zero]; omega)) | exact OutS.whole rfl rfl | (refine OpK.call c1 rfl rfl rfl rfl hE ?_ rfl rfl ?_; focus ((repeat' (first | exact PsA.lit _ | exact PsA.ref rfl rfl | exact PsA.ref rfl (mkL_len _ _ _ _).symm | constructor)); all_goals (fail "ps"))) | (refine OpK.call c2 rfl rfl rfl rfl hE ?_ rfl rfl ?_; focus ((repeat' (first | exact PsA.lit _ | exact PsA.ref rfl rfl | exact PsA.ref rfl (mkL_len _ _ _ _).symm | constructor)); all_goals (fail "ps"))) | (refine OpK.call c3 rfl rfl rfl rfl hE ?_ rfl rfl ?_; focus ((repeat' (first | exact PsA.lit _ | exact PsA.ref rfl rfl | exact PsA.ref rfl (mkL_len _ _ _ _).symm | constructor)); all_goals (fail "ps"))) | (refine OpK.call c4 rfl rfl rfl rfl hE ?_ rfl rfl ?_; focus ((repeat' (first | exact PsA.lit _ | exact PsA.ref rfl rfl | exact PsA.ref rfl (mkL_len _ _ _ _).symm | constructor)); all_goals (fail "ps"))) | refine ListO.go gOk hE ?_)
  all_goals first | exact Need.mk rfl | (exfalso; omega) | trace_state
end Go.Proofs.Ytnclkdpocjhphaa
end
