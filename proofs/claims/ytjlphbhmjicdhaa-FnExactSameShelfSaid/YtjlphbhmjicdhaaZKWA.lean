import Derived.Test.YtjlphbhmjicdhaaPB
import Derived.Test.YtjlphbhmjicdhaaPD
import Derived.Test.YtjlphbhmjicdhaaVL
import Derived.Test.YtjlphbhmjicdhaaVZ
import Derived.Test.YtjlphbhmjicdhaaVS
import Derived.Test.YtjlphbhmjicdhaaTy
import Derived.Test.YtjlphbhmjicdhaaVP
section
/- A body told piece by piece, within conditions, blocks and loops. -/
set_option linter.unusedVariables false
set_option linter.unusedSimpArgs false
universe u
namespace Go.Tr
open Go Go.RowKit
section
variable {P : Program} {F : Fm} {N : Nat} {G : Gt} {ops : Array Oper} {σ : TS} {Q : Exit → TS → Prop} {b c : Code}
theorem CodeK.seqN {id : Nat} (n : Nat) (τ' : TS) (hid : id = n) (h1 : CodeK P F N (.region id ops false) σ (TThen (fun τ => τ.er.le τ'.er) (fun _ _ => False))) (h2 : fS τ' fun σ => CodeK P F N b σ Q) : CodeK P F N (.seq (.region id ops false) b) σ Q := by
  rw [fS_eq] at h2
  refine ⟨AC.seq (AC.mono h1.h (fun e s hq => ?_))⟩
  obtain ⟨τ, h3, h4⟩ := hq
  cases e with
  | normal => exact AC.le h3 (AC.le h4 h2.h)
  | exit id => exact h4.elim
  | goto l => exact h4.elim
  | ret => exact h4.elim
  | panic c => exact h4.elim
  | outgrown => exact h4.elim
theorem CodeK.cnd {b : Bool} {x y : Code} {c : Operand} (hb : evS σ c = .a (.lit (.bool b))) (hx : b = true → CodeK P F N x σ Q) (hy : b = false → CodeK P F N y σ Q) : CodeK P F N (.cond c x y) σ Q :=
  ⟨AC.cond (by rw [evS_eq, hb]; rfl) (fun e => (hx e).h) (fun e => (hy e).h)⟩
theorem CodeK.blk {id : Nat} (h : CodeK P F N c σ (TIn id Q)) : CodeK P F N (.block id c) σ Q := by
  refine ⟨AC.block (AC.mono h.h (fun e s hq => ?_))⟩
  obtain ⟨τ, h1, h2⟩ := hq
  cases e with
  | exit id' =>
    simp only [TIn, beq_dec] at h2
    show if id' = id then eQ Q .normal s else eQ Q (.exit id') s
    by_cases e : id' = id
    · rw [if_pos e]; rw [decide_eq_true e] at h2; exact ⟨τ, h1, h2⟩
    · rw [if_neg e]; rw [decide_eq_false e] at h2; exact ⟨τ, h1, h2⟩
  | normal => exact ⟨τ, h1, h2⟩
  | goto l => exact ⟨τ, h1, h2⟩
  | ret => exact ⟨τ, h1, h2⟩
  | panic c => exact ⟨τ, h1, h2⟩
  | outgrown => exact ⟨τ, h1, h2⟩
theorem CodeK.loopN {ι : Type} (S : ι → TS) (p : ι → Prop) (M : ι → Nat) (i0 : ι) (h0 : leT σ (S i0)) (hp : p i0) (round : ∀ i, p i → fS (S i) fun σ => CodeK P F N c σ (TLoop S p M i Q)) : CodeK P F N (.loop c) σ Q := by
  refine ⟨AC.loopS (ι := {i : ι // p i}) (fun i => (S i.1).er) (fun i => M i.1) ⟨i0, hp⟩ h0 fun i => ?_⟩
  have hr := round i.1 i.2
  rw [fS_eq] at hr
  refine AC.mono hr.h (fun e s hq => ?_)
  obtain ⟨τ, h1, h2⟩ := hq
  cases e with
  | normal =>
    obtain ⟨j, h3, h4, h5⟩ := h2
    exact ⟨⟨j, h4⟩, h5, h1.trans h3⟩
  | exit id => exact ⟨τ, h1, h2⟩
  | goto l => exact ⟨τ, h1, h2⟩
  | ret => exact ⟨τ, h1, h2⟩
  | panic c => exact ⟨τ, h1, h2⟩
  | outgrown => exact ⟨τ, h1, h2⟩
theorem CodeK.vcR {id : Nat} (hG : GOk P G) (hE : F.nE ≤ 1000000) (h : vcL P F N G ops ops.toList σ (Q .normal)) : CodeK P F N (.region id ops false) σ Q := CodeK.vc hG hE h
theorem CodeK.vcE {id : Nat} (hG : GOk P G) (hE : F.nE ≤ 1000000) (h : Q (.exit id) σ) : CodeK P F N (.exit id) σ Q := CodeK.vc hG hE h
theorem CodeK.vcS (hG : GOk P G) (hE : F.nE ≤ 1000000) (h : Q .normal σ) : CodeK P F N .skip σ Q := CodeK.vc hG hE h
theorem CodeK.vcT (hG : GOk P G) (hE : F.nE ≤ 1000000) (h : Q .ret σ) : CodeK P F N .ret σ Q := CodeK.vc hG hE h
end
end Go.Tr
end

section
/- Shorter words for what is written most often. -/
set_option linter.unusedVariables false
set_option linter.unusedSimpArgs false
universe u
namespace Go.Tr
open Go Go.RowKit
theorem Need.au {p : Prop} (h : p := by first | with_reducible rfl | (show @Eq TC _ _; rfl) | omega | (simp only [adN_zero]; omega)) : Need p := ⟨h⟩
/-- What a test says where it holds and where not. -/
class BC (c : Bool) (A B : outParam Prop) : Prop where
  t : c = true → A
  f : c = false → B
instance {p : Prop} [Decidable p] : BC (decide p) p (¬ p) := ⟨fun h => of_decide_eq_true h, fun h => of_decide_eq_false h⟩
instance {α : Type} [BEq α] [LawfulBEq α] {x y : α} : BC (x == y) (x = y) (x ≠ y) := ⟨fun h => eq_of_beq h, fun h e => by subst e; simp at h⟩
instance {α : Type} [BEq α] [LawfulBEq α] {x y : α} : BC (x != y) (x ≠ y) (x = y) := ⟨fun h e => by subst e; simp at h, fun h => by simpa using h⟩
theorem BS.a {c : Bool} {p q A B : Prop} [BC c p q] (h1 : p → A) (h2 : q → B) : BS c A B := BS.s (fun h => h1 (BC.t h)) (fun h => h2 (BC.f h))
section
variable {P : Program} {F : Fm} {N : Nat} {G : Gt} {o : Oper} {τ : TS} {k : TS → Prop}
theorem OpK.ca {f : FuncId} {ags : Array Operand} {ats : Array TypeId} {args : List TAg} {outs : List TAr} {fx : Operand} (hrun : RunT P f args [] outs []) (hE : F.nE ≤ 1000000) (hk : nextK o outs τ k)
    (hop : o.op = .call ⟨.value fx, ags, ats⟩ := by rfl) (hfx : evS τ fx = .a (.lit (.func (.func f) #[] #[])) := by rfl) (hg : o.guard = none := by rfl) (hd : okD N o.dst = true := by rfl)
    (hps : PsVs τ (ags.toList.map (evS τ)) args := by ((repeat' (first | exact PsA.lit _ | exact PsA.ref rfl rfl | constructor)); fail_if_success (focus skip))) (hfree : freeT (keyOf o) τ.r = true := by rfl) (hcnt : Nat.ble (cntT outs) 100 = true := by rfl) : OpK P F N o τ k :=
  OpK.call hrun hop hfx hg hd hE hps hfree hcnt hk
end
end Go.Tr
end

section
/- Shorter words, II: calls over told cells. -/
set_option linter.unusedVariables false
set_option linter.unusedSimpArgs false
universe u
namespace Go.Tr
open Go Go.RowKit
section
variable {P : Program} {F : Fm} {N : Nat} {G : Gt} {o : Oper} {τ : TS} {k : TS → Prop}
theorem OpK.ha {hc : Hc} {f : FuncId} {ags : Array Operand} {ats : Array TypeId} {args : List TAg} {outs : List TAr} {fx : Operand} (hrun : RunH P hc f args [] outs []) (hA : AmbF hc F) (hE : F.nE ≤ 1000000) (hk : nextK o outs τ k)
    (hop : o.op = .call ⟨.value fx, ags, ats⟩ := by rfl) (hfx : evS τ fx = .a (.lit (.func (.func f) #[] #[])) := by rfl) (hg : o.guard = none := by rfl) (hd : okD N o.dst = true := by rfl)
    (hps : PsVs τ (ags.toList.map (evS τ)) args := by ((repeat' (first | exact PsA.lit _ | exact PsA.ref rfl rfl | constructor)); fail_if_success (focus skip))) (hfree : freeT (keyOf o) τ.r = true := by rfl) (hcnt : Nat.ble (cntT outs) 100 = true := by rfl) : OpK P F N o τ k :=
  OpK.callH hrun hA hop hfx hg hd hE hps hfree hcnt hk
end
end Go.Tr
end

section
namespace Go.Proofs.Ytjlphbhmjicdhaa
open Go Go.Tr
set_option maxRecDepth 100000
set_option linter.unusedVariables false
set_option linter.unusedSimpArgs false
def encI (x : Int) (_ : Nat) : TC := .lit (.int .i64 x)
def decI : List Value → Option Int
  | [.int .i64 x] => some x
  | _ => none
def tI (xs : List Int) : TC := .sl 3 1 Int encI decI 0 xs
def encL (x : List Int) (_ : Nat) : TC := tI x
def decL : List Value → Option (List Int) := fun _ => none
def tSL (e : Nat) (xs : List (List Int)) : TC := .sl e 1 (List Int) encL decL [] xs
abbrev Row := Int × Int
def encR (x : Row) : Nat → TC
  | 0 => .lit (.int .i64 x.1)
  | _ => .lit (.int .i64 x.2)
def decR : List Value → Option Row
  | [.int .i64 x, .int .i64 y] => some (x, y)
  | _ => none
def tR (e : Nat) (xs : List Row) : TC := .sl e 2 Row encR decR (0, 0) xs
def encLL (e : Nat) (x : List Row) (_ : Nat) : TC := tR e x
def decLL : List Value → Option (List Row) := fun _ => none
def tLL (e' e : Nat) (xs : List (List Row)) : TC := .sl e 1 (List Row) (encLL e') decLL [] xs
abbrev rR (o : RO) (f : Bool) (e : Nat) (xs : List Row) : TRoot := .ty o f e 2 Row encR decR (0, 0) xs
abbrev rLL (o : RO) (f : Bool) (e' e : Nat) (xs : List (List Row)) : TRoot := .ty o f e 1 (List Row) (encLL e') decLL [] xs
abbrev PinT := Bool × Int × Bool × Int
def encPin (x : PinT) : Nat → TC
  | 0 => .lit (.bool x.1)
  | 1 => .lit (.int .i64 x.2.1)
  | 2 => .lit (.bool x.2.2.1)
  | _ => .lit (.int .i64 x.2.2.2)
def decPin : List Value → Option PinT
  | [.bool x0, .int .i64 x1, .bool x2, .int .i64 x3] => some (x0, x1, x2, x3)
  | _ => none
abbrev zPin : PinT := (false, 0, false, 0)
def tPin (e : Nat) (xs : List PinT) : TC := .sl e 4 PinT encPin decPin zPin xs
abbrev rPin (o : RO) (f : Bool) (e : Nat) (xs : List PinT) : TRoot := .ty o f e 4 PinT encPin decPin zPin xs
abbrev aPin (x : PinT) : TAg := .agg [.c (.lit (.bool (x.1))), .c (.lit (.int .i64 x.2.1)), .c (.lit (.bool x.2.2.1)), .c (.lit (.int .i64 x.2.2.2))]
abbrev oPin (x : PinT) : TAr := .agg [.lit (.bool (x.1)), .lit (.int .i64 x.2.1), .lit (.bool x.2.2.1), .lit (.int .i64 x.2.2.2)]
abbrev vPin (x : PinT) : List Value := [Value.bool (x.1), Value.int .i64 (x.2.1), Value.bool (x.2.2.1), Value.int .i64 (x.2.2.2)]
abbrev OpT := Int × Int × Int × Int
def encOp (x : OpT) : Nat → TC
  | 0 => .lit (.int .i64 x.1)
  | 1 => .lit (.int .i64 x.2.1)
  | 2 => .lit (.int .i64 x.2.2.1)
  | _ => .lit (.int .i64 x.2.2.2)
def decOp : List Value → Option OpT
  | [.int .i64 x0, .int .i64 x1, .int .i64 x2, .int .i64 x3] => some (x0, x1, x2, x3)
  | _ => none
abbrev zOp : OpT := (0, 0, 0, 0)
def tOp (e : Nat) (xs : List OpT) : TC := .sl e 4 OpT encOp decOp zOp xs
abbrev rOp (o : RO) (f : Bool) (e : Nat) (xs : List OpT) : TRoot := .ty o f e 4 OpT encOp decOp zOp xs
abbrev aOp (x : OpT) : TAg := .agg [.c (.lit (.int .i64 x.1)), .c (.lit (.int .i64 x.2.1)), .c (.lit (.int .i64 x.2.2.1)), .c (.lit (.int .i64 x.2.2.2))]
abbrev oOp (x : OpT) : TAr := .agg [.lit (.int .i64 x.1), .lit (.int .i64 x.2.1), .lit (.int .i64 x.2.2.1), .lit (.int .i64 x.2.2.2)]
abbrev SubT := Int × Int × Int × Int × Int × Int × Int × Int × Int × Bool
def encSub (x : SubT) : Nat → TC
  | 0 => .lit (.int .i64 x.1)
  | 1 => .lit (.int .i64 x.2.1)
  | 2 => .lit (.int .i64 x.2.2.1)
  | 3 => .lit (.int .i64 x.2.2.2.1)
  | 4 => .lit (.int .i64 x.2.2.2.2.1)
  | 5 => .lit (.int .i64 x.2.2.2.2.2.1)
  | 6 => .lit (.int .i64 x.2.2.2.2.2.2.1)
  | 7 => .lit (.int .i64 x.2.2.2.2.2.2.2.1)
  | 8 => .lit (.int .i64 x.2.2.2.2.2.2.2.2.1)
  | _ => .lit (.bool x.2.2.2.2.2.2.2.2.2)
def decSub : List Value → Option SubT
  | [.int .i64 x0, .int .i64 x1, .int .i64 x2, .int .i64 x3, .int .i64 x4, .int .i64 x5, .int .i64 x6, .int .i64 x7, .int .i64 x8, .bool x9] => some (x0, x1, x2, x3, x4, x5, x6, x7, x8, x9)
  | _ => none
abbrev zSub : SubT := (0, 0, 0, 0, 0, 0, 0, 0, 0, false)
def tSub (e : Nat) (xs : List SubT) : TC := .sl e 10 SubT encSub decSub zSub xs
abbrev rSub (o : RO) (f : Bool) (e : Nat) (xs : List SubT) : TRoot := .ty o f e 10 SubT encSub decSub zSub xs
abbrev aSub (x : SubT) : TAg := .agg [.c (.lit (.int .i64 x.1)), .c (.lit (.int .i64 x.2.1)), .c (.lit (.int .i64 x.2.2.1)), .c (.lit (.int .i64 x.2.2.2.1)), .c (.lit (.int .i64 x.2.2.2.2.1)), .c (.lit (.int .i64 x.2.2.2.2.2.1)), .c (.lit (.int .i64 x.2.2.2.2.2.2.1)), .c (.lit (.int .i64 x.2.2.2.2.2.2.2.1)), .c (.lit (.int .i64 x.2.2.2.2.2.2.2.2.1)), .c (.lit (.bool x.2.2.2.2.2.2.2.2.2))]
abbrev oSub (x : SubT) : TAr := .agg [.lit (.int .i64 x.1), .lit (.int .i64 x.2.1), .lit (.int .i64 x.2.2.1), .lit (.int .i64 x.2.2.2.1), .lit (.int .i64 x.2.2.2.2.1), .lit (.int .i64 x.2.2.2.2.2.1), .lit (.int .i64 x.2.2.2.2.2.2.1), .lit (.int .i64 x.2.2.2.2.2.2.2.1), .lit (.int .i64 x.2.2.2.2.2.2.2.2.1), .lit (.bool x.2.2.2.2.2.2.2.2.2)]
abbrev JobT := Bool × Int × Int × Int × Int × Int × Int × Int × Int × Int × Int × Int × Int × Int × Int × Int × Bool × Int × Int × Int × Int
def encJob (x : JobT) : Nat → TC
  | 0 => .lit (.bool x.1)
  | 1 => .lit (.int .i64 x.2.1)
  | 2 => .lit (.int .i64 x.2.2.1)
  | 3 => .lit (.int .i64 x.2.2.2.1)
  | 4 => .lit (.int .i64 x.2.2.2.2.1)
  | 5 => .lit (.int .i64 x.2.2.2.2.2.1)
  | 6 => .lit (.int .i64 x.2.2.2.2.2.2.1)
  | 7 => .lit (.int .i64 x.2.2.2.2.2.2.2.1)
  | 8 => .lit (.int .i64 x.2.2.2.2.2.2.2.2.1)
  | 9 => .lit (.int .i64 x.2.2.2.2.2.2.2.2.2.1)
  | 10 => .lit (.int .i64 x.2.2.2.2.2.2.2.2.2.2.1)
  | 11 => .lit (.int .i64 x.2.2.2.2.2.2.2.2.2.2.2.1)
  | 12 => .lit (.int .i64 x.2.2.2.2.2.2.2.2.2.2.2.2.1)
  | 13 => .lit (.int .i64 x.2.2.2.2.2.2.2.2.2.2.2.2.2.1)
  | 14 => .lit (.int .i64 x.2.2.2.2.2.2.2.2.2.2.2.2.2.2.1)
  | 15 => .lit (.int .i64 x.2.2.2.2.2.2.2.2.2.2.2.2.2.2.2.1)
  | 16 => .lit (.bool x.2.2.2.2.2.2.2.2.2.2.2.2.2.2.2.2.1)
  | 17 => .lit (.int .i64 x.2.2.2.2.2.2.2.2.2.2.2.2.2.2.2.2.2.1)
  | 18 => .lit (.int .i64 x.2.2.2.2.2.2.2.2.2.2.2.2.2.2.2.2.2.2.1)
  | 19 => .lit (.int .i64 x.2.2.2.2.2.2.2.2.2.2.2.2.2.2.2.2.2.2.2.1)
  | _ => .lit (.int .i64 x.2.2.2.2.2.2.2.2.2.2.2.2.2.2.2.2.2.2.2.2)
def decJob : List Value → Option JobT
  | [.bool x0, .int .i64 x1, .int .i64 x2, .int .i64 x3, .int .i64 x4, .int .i64 x5, .int .i64 x6, .int .i64 x7, .int .i64 x8, .int .i64 x9, .int .i64 x10, .int .i64 x11, .int .i64 x12, .int .i64 x13, .int .i64 x14, .int .i64 x15, .bool x16, .int .i64 x17, .int .i64 x18, .int .i64 x19, .int .i64 x20] => some (x0, x1, x2, x3, x4, x5, x6, x7, x8, x9, x10, x11, x12, x13, x14, x15, x16, x17, x18, x19, x20)
  | _ => none
abbrev zJob : JobT := (false, 0, 0, 0, 0, 0, 0, 0, 0, 0, 0, 0, 0, 0, 0, 0, false, 0, 0, 0, 0)
def tJob (e : Nat) (xs : List JobT) : TC := .sl e 21 JobT encJob decJob zJob xs
abbrev rJob (o : RO) (f : Bool) (e : Nat) (xs : List JobT) : TRoot := .ty o f e 21 JobT encJob decJob zJob xs
abbrev aJob (x : JobT) : TAg := .agg [.c (.lit (.bool x.1)), .c (.lit (.int .i64 x.2.1)), .c (.lit (.int .i64 x.2.2.1)), .c (.lit (.int .i64 x.2.2.2.1)), .c (.lit (.int .i64 x.2.2.2.2.1)), .c (.lit (.int .i64 x.2.2.2.2.2.1)), .c (.lit (.int .i64 x.2.2.2.2.2.2.1)), .c (.lit (.int .i64 x.2.2.2.2.2.2.2.1)), .c (.lit (.int .i64 x.2.2.2.2.2.2.2.2.1)), .c (.lit (.int .i64 x.2.2.2.2.2.2.2.2.2.1)), .c (.lit (.int .i64 x.2.2.2.2.2.2.2.2.2.2.1)), .c (.lit (.int .i64 x.2.2.2.2.2.2.2.2.2.2.2.1)), .c (.lit (.int .i64 x.2.2.2.2.2.2.2.2.2.2.2.2.1)), .c (.lit (.int .i64 x.2.2.2.2.2.2.2.2.2.2.2.2.2.1)), .c (.lit (.int .i64 x.2.2.2.2.2.2.2.2.2.2.2.2.2.2.1)), .c (.lit (.int .i64 x.2.2.2.2.2.2.2.2.2.2.2.2.2.2.2.1)), .c (.lit (.bool x.2.2.2.2.2.2.2.2.2.2.2.2.2.2.2.2.1)), .c (.lit (.int .i64 x.2.2.2.2.2.2.2.2.2.2.2.2.2.2.2.2.2.1)), .c (.lit (.int .i64 x.2.2.2.2.2.2.2.2.2.2.2.2.2.2.2.2.2.2.1)), .c (.lit (.int .i64 x.2.2.2.2.2.2.2.2.2.2.2.2.2.2.2.2.2.2.2.1)), .c (.lit (.int .i64 x.2.2.2.2.2.2.2.2.2.2.2.2.2.2.2.2.2.2.2.2))]
abbrev oJob (x : JobT) : TAr := .agg [.lit (.bool x.1), .lit (.int .i64 x.2.1), .lit (.int .i64 x.2.2.1), .lit (.int .i64 x.2.2.2.1), .lit (.int .i64 x.2.2.2.2.1), .lit (.int .i64 x.2.2.2.2.2.1), .lit (.int .i64 x.2.2.2.2.2.2.1), .lit (.int .i64 x.2.2.2.2.2.2.2.1), .lit (.int .i64 x.2.2.2.2.2.2.2.2.1), .lit (.int .i64 x.2.2.2.2.2.2.2.2.2.1), .lit (.int .i64 x.2.2.2.2.2.2.2.2.2.2.1), .lit (.int .i64 x.2.2.2.2.2.2.2.2.2.2.2.1), .lit (.int .i64 x.2.2.2.2.2.2.2.2.2.2.2.2.1), .lit (.int .i64 x.2.2.2.2.2.2.2.2.2.2.2.2.2.1), .lit (.int .i64 x.2.2.2.2.2.2.2.2.2.2.2.2.2.2.1), .lit (.int .i64 x.2.2.2.2.2.2.2.2.2.2.2.2.2.2.2.1), .lit (.bool x.2.2.2.2.2.2.2.2.2.2.2.2.2.2.2.2.1), .lit (.int .i64 x.2.2.2.2.2.2.2.2.2.2.2.2.2.2.2.2.2.1), .lit (.int .i64 x.2.2.2.2.2.2.2.2.2.2.2.2.2.2.2.2.2.2.1), .lit (.int .i64 x.2.2.2.2.2.2.2.2.2.2.2.2.2.2.2.2.2.2.2.1), .lit (.int .i64 x.2.2.2.2.2.2.2.2.2.2.2.2.2.2.2.2.2.2.2.2)]
abbrev EvT := Int × Int × Int × Int × Int × Int × Int
def encEv (x : EvT) : Nat → TC
  | 0 => .lit (.int .i64 x.1)
  | 1 => .lit (.int .i64 x.2.1)
  | 2 => .lit (.int .i64 x.2.2.1)
  | 3 => .lit (.int .i64 x.2.2.2.1)
  | 4 => .lit (.int .i64 x.2.2.2.2.1)
  | 5 => .lit (.int .i64 x.2.2.2.2.2.1)
  | _ => .lit (.int .i64 x.2.2.2.2.2.2)
def decEv : List Value → Option EvT
  | [.int .i64 x0, .int .i64 x1, .int .i64 x2, .int .i64 x3, .int .i64 x4, .int .i64 x5, .int .i64 x6] => some (x0, x1, x2, x3, x4, x5, x6)
  | _ => none
abbrev zEv : EvT := (0, 0, 0, 0, 0, 0, 0)
def tEv (e : Nat) (xs : List EvT) : TC := .sl e 7 EvT encEv decEv zEv xs
abbrev rEv (o : RO) (f : Bool) (e : Nat) (xs : List EvT) : TRoot := .ty o f e 7 EvT encEv decEv zEv xs
abbrev aEv (x : EvT) : TAg := .agg [.c (.lit (.int .i64 x.1)), .c (.lit (.int .i64 x.2.1)), .c (.lit (.int .i64 x.2.2.1)), .c (.lit (.int .i64 x.2.2.2.1)), .c (.lit (.int .i64 x.2.2.2.2.1)), .c (.lit (.int .i64 x.2.2.2.2.2.1)), .c (.lit (.int .i64 x.2.2.2.2.2.2))]
abbrev oEv (x : EvT) : TAr := .agg [.lit (.int .i64 x.1), .lit (.int .i64 x.2.1), .lit (.int .i64 x.2.2.1), .lit (.int .i64 x.2.2.2.1), .lit (.int .i64 x.2.2.2.2.1), .lit (.int .i64 x.2.2.2.2.2.1), .lit (.int .i64 x.2.2.2.2.2.2)]
def encQ (e : Nat) (x : List OpT) (_ : Nat) : TC := tOp e x
def decQ : List Value → Option (List OpT) := fun _ => none
def tQ (e' e : Nat) (xs : List (List OpT)) : TC := .sl e 1 (List OpT) (encQ e') decQ [] xs
abbrev rQ (o : RO) (f : Bool) (e' e : Nat) (xs : List (List OpT)) : TRoot := .ty o f e 1 (List OpT) (encQ e') decQ [] xs
def gT : Gt := ⟨tyT, 4, fun e =>
  if e = 3 then some ⟨Int, encI, decI, 0⟩
  else if e = 280 then some ⟨List Int, encL, decL, []⟩
  else if e = 130 then some ⟨Row, encR, decR, (0, 0)⟩
  else if e = 186 then some ⟨List Row, encLL 130, decLL, []⟩
  else if e = 240 then some ⟨PinT, encPin, decPin, zPin⟩
  else if e = 114 then some ⟨OpT, encOp, decOp, zOp⟩
  else if e = 118 then some ⟨JobT, encJob, decJob, zJob⟩
  else if e = 120 then some ⟨EvT, encEv, decEv, zEv⟩
  else if e = 102 then some ⟨List OpT, encQ 114, decQ, []⟩
  else none⟩
theorem gOk : GOk Try.prog gT := ⟨tyOk, Try.underlying4⟩
def ti (x : Int) : TAg := .one (.c (.lit (.int .i64 x)))
def tb (x : Bool) : TAg := .one (.c (.lit (.bool x)))
def oi (x : Int) : TAr := .one (.lit (.int .i64 x))
def ob (x : Bool) : TAr := .one (.lit (.bool x))
abbrev vi (x : Int) : V := .a (.lit (.int .i64 x))
abbrev vb (x : Bool) : V := .a (.lit (.bool x))
abbrev vr (κ n : Nat) : V := .a (.ref κ 0 n)
abbrev rI (o : RO) (f : Bool) (xs : List Int) : TRoot := .ty o f 3 1 Int encI decI 0 xs
abbrev rSL (o : RO) (f : Bool) (e : Nat) (xs : List (List Int)) : TRoot := .ty o f e 1 (List Int) encL decL [] xs
theorem drop_cons {α : Type} {xs : List α} {i : Nat} (d : α) (h : i < xs.length) : xs.drop i = xs.getD i d :: xs.drop (i + 1) := by
  rw [List.drop_eq_getElem_cons h]; simp [List.getD, h]
end Go.Proofs.Ytjlphbhmjicdhaa
end

section
namespace Go.Proofs.Ytjlphbhmjicdhaa
open Go Go.Tr
set_option maxRecDepth 100000
set_option linter.unusedVariables false
set_option linter.unusedSimpArgs false
/-- The first elements are laid down, the rest is as made. -/
theorem eqIntS_run (xs : List Int) (hn : xs.length ≤ 4000000) : RunT Try.prog 28 [.one (.c (tI xs)), .one (.c (tI xs))] [] [ob true] [] := by
  refine RunT.of_vc gOk Try.func28 rfl rfl (Nat.le_of_ble_eq_true rfl) (by repeat' (first | exact trivial | exact ⟨_, rfl, Nat.le_refl _⟩ | exact Nat.le_of_ble_eq_true rfl | refine And.intro ?_ ?_)) (Nat.le_of_ble_eq_true rfl) rfl (fun F hE => ?_)
  repeat' (first | exact trivial | refine BS.a (fun h => ?_) (fun h => ?_) | refine BS.n ?_ | refine BS.s (fun h => ?_) (fun h => ?_) | refine And.intro ?_ ?_ | exact Need.au | exact OutS.whole rfl rfl | refine ListO.go gOk hE ?_)
  · refine CodeK.loop gOk hE (fun i : Nat => ⟨[(0, vr 1000000 xs.length), (1, vr 1000001 xs.length), (5, vi i)], [(1000000, rI .fro false xs), (1000001, rI .fro false xs)]⟩) (fun i => i ≤ xs.length) (fun i => xs.length - i) 0 (by refine leT.of ?_ ?_ rfl <;> repeat' (first | exact trivial | refine And.intro rfl ?_ | refine And.intro (by simp) ?_)) (Nat.zero_le _) ?_
    rintro i hi
    repeat' (first | exact trivial | refine BS.a (fun h => ?_) (fun h => ?_) | refine BS.n ?_ | refine BS.s (fun h => ?_) (fun h => ?_) | refine And.intro ?_ ?_ | exact Need.au | exact OutS.whole rfl rfl | refine ListO.go gOk hE ?_)
    · refine CodeK.draw gOk hE rfl (fun _ _ h => h) (.take 0 (.take 1 (.take 2 (.take 4 (.take 5 (.take 6 (.alt 3 (.alt 7 (.take 8 .done) .stop) (.alt 7 (.alt 3 (.take 8 .done) .stop) .stop)))))))) (by decide +kernel) ?_
      repeat' (first | exact trivial | refine BS.a (fun h => ?_) (fun h => ?_) | refine BS.n ?_ | refine BS.s (fun h => ?_) (fun h => ?_) | refine And.intro ?_ ?_ | exact Need.au | exact OutS.whole rfl rfl | refine ListO.go gOk hE ?_)
      all_goals (refine ⟨i + 1, (by refine leT.of ?_ ?_ rfl <;> repeat' (first | exact trivial | refine And.intro rfl ?_ | refine And.intro (by simp) ?_)), ?_⟩; (refine And.intro ?_ ?_) <;> (first | omega | (dsimp only; omega) | trivial))
def fl {α : Type} (d : α) (xs : List α) (i : Nat) : List α := xs.take i ++ List.replicate (xs.length - i) d
theorem fl_zero {α : Type} (d : α) (xs : List α) : fl d xs 0 = List.replicate xs.length d := by simp [fl]
theorem fl_len {α : Type} (d : α) (xs : List α) (i : Nat) (h : i ≤ xs.length) : (fl d xs i).length = xs.length := by simp [fl]; omega
theorem fl_full {α : Type} (d : α) (xs : List α) (i : Nat) (h : ¬ i < xs.length) (h' : i ≤ xs.length) : fl d xs i = xs := by
  have : i = xs.length := by omega
  subst this; simp [fl]
theorem fl_set {α : Type} (d : α) (xs : List α) (i : Nat) (h : i < xs.length) : (fl d xs i).set i (xs.getD i d) = fl d xs (i + 1) := by
  apply List.ext_getElem
  · simp [fl]; omega
  · intro j h1 h2
    simp only [List.getElem_set, fl, List.getElem_append, List.length_take, List.getElem_take, List.getElem_replicate]
    by_cases e : i = j
    · subst e; simp [List.getD, h]
      omega
    · simp only [e, if_false]
      by_cases hj : j < i
      · rw [dif_pos (by omega), dif_pos (by omega)]
      · rw [dif_neg (by omega), dif_neg (by omega)]
def szI (xs : List Int) (m : Int) : Int := if m - xs.length < 0 then -1 else m - xs.length
theorem szIntS_run (xs : List Int) (m : Int) (h0 : 0 ≤ m) (h1 : m ≤ 1048576) (hn : xs.length ≤ 9223372036854775807) : RunT Try.prog 54 [.one (.c (tI xs)), ti m] [] [oi (szI xs m)] [] := by
  refine RunT.of_vc gOk Try.func54 rfl rfl (Nat.le_of_ble_eq_true rfl) (by repeat' (first | exact trivial | exact ⟨_, rfl, Nat.le_refl _⟩ | exact Nat.le_of_ble_eq_true rfl | refine And.intro ?_ ?_)) (Nat.le_of_ble_eq_true rfl) rfl (fun F hE => ?_)
  repeat' (first | exact trivial | refine BS.a (fun h => ?_) (fun h => ?_) | refine BS.n ?_ | refine BS.s (fun h => ?_) (fun h => ?_) | refine And.intro ?_ ?_ | exact Need.au | exact OutS.whole rfl rfl | refine ListO.go gOk hE ?_)
  all_goals (refine Need.mk ?_; unfold szI; first | rw [if_pos (by omega)] | rw [if_neg (by omega)])
theorem toIntS_run (xs : List Int) (hn : xs.length ≤ 1048576) : RunT Try.prog 60 [.one (.c (tI xs))] [] [.one (tI xs)] [] := by
  refine RunT.of_vc gOk Try.func60 rfl rfl (Nat.le_of_ble_eq_true rfl) (by repeat' (first | exact trivial | exact ⟨_, rfl, Nat.le_refl _⟩ | exact Nat.le_of_ble_eq_true rfl | refine And.intro ?_ ?_)) (Nat.le_of_ble_eq_true rfl) rfl (fun F hE => ?_)
  repeat' (first | exact trivial | refine BS.a (fun h => ?_) (fun h => ?_) | refine BS.n ?_ | refine BS.s (fun h => ?_) (fun h => ?_) | refine And.intro ?_ ?_ | exact Need.au | exact OutS.whole rfl rfl | refine ListO.go gOk hE ?_)
  refine CodeK.loop gOk hE (fun i : Nat => ⟨[(0, vr 1000000 xs.length), (3, vr 7 xs.length), (4, vi i)], [(7, rI .own true (fl 0 xs i)), (1000000, rI .fro false xs)]⟩) (fun i => i ≤ xs.length) (fun i => xs.length - i) 0 (by refine leT.of ?_ ?_ rfl <;> repeat' (first | exact trivial | refine And.intro rfl ?_ | refine And.intro (by simp [fl_zero] <;> rfl) ?_)) (Nat.zero_le _) ?_
  rintro i hi
  have hl := fl_len 0 xs i hi
  repeat' (first | exact trivial | refine BS.a (fun h => ?_) (fun h => ?_) | refine BS.n ?_ | refine BS.s (fun h => ?_) (fun h => ?_) | refine And.intro ?_ ?_ | exact Need.au | exact OutS.whole rfl rfl | refine ListO.go gOk hE ?_)
  · all_goals (refine ⟨i + 1, (by refine leT.of ?_ ?_ rfl <;> repeat' (first | exact trivial | refine And.intro rfl ?_ | refine And.intro (by first | (rw [← fl_set 0 xs i (by omega)]; rfl) | (simp <;> rfl)) ?_)), ?_⟩; (refine And.intro ?_ ?_) <;> (first | omega | (dsimp only; omega) | trivial))
  · exact OutS.whole hl.symm (by rw [fl_full _ _ _ (by omega) hi]; rfl)
theorem szI_le (x : List Int) (m : Int) (h0 : 0 ≤ m) : szI x m ≤ m ∧ -1 ≤ szI x m ∧ (0 ≤ szI x m → x.length ≤ m) := by
  unfold szI; split <;> omega
end Go.Proofs.Ytjlphbhmjicdhaa
end

section
namespace Go.Proofs.Ytjlphbhmjicdhaa
open Go Go.Tr
set_option maxRecDepth 100000
set_option linter.unusedVariables false
set_option linter.unusedSimpArgs false
theorem eqSList_run (x : List Int) (hn : x.length ≤ 4000000) : RunT Try.prog 217 [.agg [.c (tI x)], .agg [.c (tI x)]] [] [ob true] [] := by
  refine RunT.of_vc gOk Try.func217 rfl rfl (Nat.le_of_ble_eq_true rfl) (by repeat' (first | exact trivial | exact ⟨_, rfl, Nat.le_refl _⟩ | exact Nat.le_of_ble_eq_true rfl | refine And.intro ?_ ?_)) (Nat.le_of_ble_eq_true rfl) rfl (fun F hE => ?_)
  repeat' (first | exact trivial | refine BS.a (fun h => ?_) (fun h => ?_) | refine BS.n ?_ | refine BS.s (fun h => ?_) (fun h => ?_) | refine And.intro ?_ ?_ | exact Need.au | exact OutS.whole rfl rfl | refine ListO.go gOk hE ?_)
  refine OpK.call (eqIntS_run x hn) rfl rfl rfl rfl hE (by repeat' (first | exact PsA.lit _ | exact PsA.ref rfl rfl | constructor)) rfl rfl ?_
  repeat' (first | exact trivial | refine BS.a (fun h => ?_) (fun h => ?_) | refine BS.n ?_ | refine BS.s (fun h => ?_) (fun h => ?_) | refine And.intro ?_ ?_ | exact Need.au | exact OutS.whole rfl rfl | refine ListO.go gOk hE ?_)
theorem eqSListS_run (e : Nat) (xs : List (List Int)) (hn : xs.length ≤ 4000000) (hx : ∀ i, (xs.getD i []).length ≤ 4000000) : RunT Try.prog 195 [.one (.c (tSL e xs)), .one (.c (tSL e xs))] [] [ob true] [] := by
  refine RunT.of_vc gOk Try.func195 rfl rfl (Nat.le_of_ble_eq_true rfl) (by repeat' (first | exact trivial | exact ⟨_, rfl, Nat.le_refl _⟩ | exact Nat.le_of_ble_eq_true rfl | refine And.intro ?_ ?_)) (Nat.le_of_ble_eq_true rfl) rfl (fun F hE => ?_)
  repeat' (first | exact trivial | refine BS.a (fun h => ?_) (fun h => ?_) | refine BS.n ?_ | refine BS.s (fun h => ?_) (fun h => ?_) | refine And.intro ?_ ?_ | exact Need.au | exact OutS.whole rfl rfl | refine ListO.go gOk hE ?_)
  · refine CodeK.loop gOk hE (fun i : Nat => ⟨[(0, vr 1000000 xs.length), (1, vr 1000001 xs.length), (5, vi i)], [(1000000, rSL .fro false e xs), (1000001, rSL .fro false e xs)]⟩) (fun i => i ≤ xs.length) (fun i => xs.length - i) 0 (by refine leT.of ?_ ?_ rfl <;> repeat' (first | exact trivial | refine And.intro rfl ?_ | refine And.intro (by simp) ?_)) (Nat.zero_le _) ?_
    rintro i hi
    repeat' (first | exact trivial | refine BS.a (fun h => ?_) (fun h => ?_) | refine BS.n ?_ | refine BS.s (fun h => ?_) (fun h => ?_) | refine And.intro ?_ ?_ | exact Need.au | exact OutS.whole rfl rfl | refine ListO.go gOk hE ?_)
    · refine CodeK.draw gOk hE rfl (fun _ _ h => h) (.take 0 (.take 1 (.take 2 (.take 4 (.take 5 (.take 6 (.alt 3 (.alt 7 (.alt 8 (.take 9 .done) .stop) .stop) (.alt 7 (.alt 3 (.alt 8 (.take 9 .done) .stop) .stop) .stop)))))))) (by decide +kernel) ?_
      repeat' (first | exact trivial | refine BS.a (fun h => ?_) (fun h => ?_) | refine BS.n ?_ | refine BS.s (fun h => ?_) (fun h => ?_) | refine And.intro ?_ ?_ | exact Need.au | exact OutS.whole rfl rfl | refine ListO.go gOk hE ?_)
      all_goals (refine OpK.call (eqSList_run _ (hx _)) rfl rfl rfl rfl hE (by repeat' (first | exact PsA.lit _ | exact PsA.ref rfl rfl | constructor)) rfl rfl ?_)
      all_goals (repeat' (first | exact trivial | refine BS.a (fun h => ?_) (fun h => ?_) | refine BS.n ?_ | refine BS.s (fun h => ?_) (fun h => ?_) | refine And.intro ?_ ?_ | exact Need.au | exact OutS.whole rfl rfl | refine ListO.go gOk hE ?_))
      all_goals (refine ⟨i + 1, (by refine leT.of ?_ ?_ rfl <;> repeat' (first | exact trivial | refine And.intro rfl ?_ | refine And.intro (by simp) ?_)), ?_⟩; (refine And.intro ?_ ?_) <;> (first | omega | (dsimp only; omega) | trivial))
theorem eqLists_run (e : Nat) (g o : List (List Int)) (hg : g.length ≤ 4000000) (hg' : ∀ i, (g.getD i []).length ≤ 4000000) (ho : o.length ≤ 4000000) (ho' : ∀ i, (o.getD i []).length ≤ 4000000) : RunT Try.prog 144 [.agg [.c (tSL e g), .c (tSL e o)], .agg [.c (tSL e g), .c (tSL e o)]] [] [ob true] [] := by
  refine RunT.of_vc gOk Try.func144 rfl rfl (Nat.le_of_ble_eq_true rfl) (by repeat' (first | exact trivial | exact ⟨_, rfl, Nat.le_refl _⟩ | exact Nat.le_of_ble_eq_true rfl | refine And.intro ?_ ?_)) (Nat.le_of_ble_eq_true rfl) rfl (fun F hE => ?_)
  repeat' (first | exact trivial | refine BS.a (fun h => ?_) (fun h => ?_) | refine BS.n ?_ | refine BS.s (fun h => ?_) (fun h => ?_) | refine And.intro ?_ ?_ | exact Need.au | exact OutS.whole rfl rfl | refine ListO.go gOk hE ?_)
  refine OpK.call (eqSListS_run e g hg hg') rfl rfl rfl rfl hE (by repeat' (first | exact PsA.lit _ | exact PsA.ref rfl rfl | constructor)) rfl rfl ?_
  repeat' (first | exact trivial | refine BS.a (fun h => ?_) (fun h => ?_) | refine BS.n ?_ | refine BS.s (fun h => ?_) (fun h => ?_) | refine And.intro ?_ ?_ | exact Need.au | exact OutS.whole rfl rfl | refine ListO.go gOk hE ?_)
  refine OpK.call (eqSListS_run e o ho ho') rfl rfl rfl rfl hE (by repeat' (first | exact PsA.lit _ | exact PsA.ref rfl rfl | constructor)) rfl rfl ?_
  repeat' (first | exact trivial | refine BS.a (fun h => ?_) (fun h => ?_) | refine BS.n ?_ | refine BS.s (fun h => ?_) (fun h => ?_) | refine And.intro ?_ ?_ | exact Need.au | exact OutS.whole rfl rfl | refine ListO.go gOk hE ?_)
end Go.Proofs.Ytjlphbhmjicdhaa
end

section
namespace Go.Proofs.Ytjlphbhmjicdhaa
open Go Go.Tr
set_option maxRecDepth 100000
set_option linter.unusedVariables false
set_option linter.unusedSimpArgs false
/-- The first elements are laid down, the rest is as made. -/
theorem toSList_run (x : List Int) (hn : x.length ≤ 1048576) (e : Nat) : RunT Try.prog 220 [.agg [.c (tI x)]] [] [.agg [tI x]] [] := by
  refine RunT.of_vc gOk Try.func220 rfl rfl (Nat.le_of_ble_eq_true rfl) (by repeat' (first | exact trivial | exact ⟨_, rfl, Nat.le_refl _⟩ | exact Nat.le_of_ble_eq_true rfl | refine And.intro ?_ ?_)) (Nat.le_of_ble_eq_true rfl) rfl (fun F hE => ?_)
  repeat' (first | exact trivial | refine BS.a (fun h => ?_) (fun h => ?_) | refine BS.n ?_ | refine BS.s (fun h => ?_) (fun h => ?_) | refine And.intro ?_ ?_ | exact Need.au | exact OutS.whole rfl rfl | refine ListO.go gOk hE ?_)
  refine OpK.call (toIntS_run x hn) rfl rfl rfl rfl hE (by repeat' (first | exact PsA.lit _ | exact PsA.ref rfl rfl | constructor)) rfl rfl ?_
  repeat' (first | exact trivial | refine BS.a (fun h => ?_) (fun h => ?_) | refine BS.n ?_ | refine BS.s (fun h => ?_) (fun h => ?_) | refine And.intro ?_ ?_ | exact Need.au | exact OutS.whole rfl rfl | refine ListO.go gOk hE ?_)
theorem toSListS_run (e : Nat) (xs : List (List Int)) (hn : xs.length ≤ 1048576) (hx : ∀ i, (xs.getD i []).length ≤ 1048576) : RunT Try.prog 203 [.one (.c (tSL e xs))] [] [.one (tSL 280 xs)] [] := by
  refine RunT.of_vc gOk Try.func203 rfl rfl (Nat.le_of_ble_eq_true rfl) (by repeat' (first | exact trivial | exact ⟨_, rfl, Nat.le_refl _⟩ | exact Nat.le_of_ble_eq_true rfl | refine And.intro ?_ ?_)) (Nat.le_of_ble_eq_true rfl) rfl (fun F hE => ?_)
  repeat' (first | exact trivial | refine BS.a (fun h => ?_) (fun h => ?_) | refine BS.n ?_ | refine BS.s (fun h => ?_) (fun h => ?_) | refine And.intro ?_ ?_ | exact Need.au | exact OutS.whole rfl rfl | refine ListO.go gOk hE ?_)
  refine CodeK.loop gOk hE (fun i : Nat => ⟨[(0, vr 1000000 xs.length), (3, vr 7 xs.length), (4, vi i)], [(7, rSL .own true 280 (fl [] xs i)), (1000000, rSL .fro false e xs)]⟩) (fun i => i ≤ xs.length) (fun i => xs.length - i) 0 (by refine leT.of ?_ ?_ rfl <;> repeat' (first | exact trivial | refine And.intro rfl ?_ | refine And.intro (by simp [fl_zero] <;> rfl) ?_)) (Nat.zero_le _) ?_
  rintro i hi
  have hl := fl_len [] xs i hi
  repeat' (first | exact trivial | refine BS.a (fun h => ?_) (fun h => ?_) | refine BS.n ?_ | refine BS.s (fun h => ?_) (fun h => ?_) | refine And.intro ?_ ?_ | exact Need.au | exact OutS.whole rfl rfl | refine ListO.go gOk hE ?_)
  · refine OpK.call (toSList_run _ (hx i) 0) rfl rfl rfl rfl hE (by repeat' (first | exact PsA.lit _ | exact PsA.ref rfl rfl | constructor)) rfl rfl ?_
    repeat' (first | exact trivial | refine BS.a (fun h => ?_) (fun h => ?_) | refine BS.n ?_ | refine BS.s (fun h => ?_) (fun h => ?_) | refine And.intro ?_ ?_ | exact Need.au | exact OutS.whole rfl rfl | refine ListO.go gOk hE ?_)
    refine OpK.stN gOk (xs.getD i []) rfl rfl rfl rfl rfl rfl rfl rfl rfl (by first | omega | (simp only [adN_zero]; omega)) (by first | exact (StN.ref (by rfl) (by first | rfl | simp) (by rfl) (by rfl) (by rfl) StN.nil) | exact (StN.emp (by rfl) StN.nil)) ?_
    repeat' (first | exact trivial | refine BS.a (fun h => ?_) (fun h => ?_) | refine BS.n ?_ | refine BS.s (fun h => ?_) (fun h => ?_) | refine And.intro ?_ ?_ | exact Need.au | exact OutS.whole rfl rfl | refine ListO.go gOk hE ?_)
    all_goals (refine ⟨i + 1, (by refine leT.of ?_ ?_ rfl <;> repeat' (first | exact trivial | refine And.intro rfl ?_ | refine And.intro (by first | (rw [← fl_set [] xs i (by omega)]; rfl) | (simp <;> rfl)) ?_)), ?_⟩; (refine And.intro ?_ ?_) <;> (first | omega | (dsimp only; omega) | trivial))
  · exact OutS.whole hl.symm (by rw [fl_full _ _ _ (by omega) hi]; rfl)
theorem toLists_run (e : Nat) (g o : List (List Int)) (hg : g.length ≤ 1048576) (hg' : ∀ i, (g.getD i []).length ≤ 1048576) (ho : o.length ≤ 1048576) (ho' : ∀ i, (o.getD i []).length ≤ 1048576) : RunT Try.prog 164 [.agg [.c (tSL e g), .c (tSL e o)]] [] [.agg [tSL 280 g, tSL 280 o]] [] := by
  refine RunT.of_vc gOk Try.func164 rfl rfl (Nat.le_of_ble_eq_true rfl) (by repeat' (first | exact trivial | exact ⟨_, rfl, Nat.le_refl _⟩ | exact Nat.le_of_ble_eq_true rfl | refine And.intro ?_ ?_)) (Nat.le_of_ble_eq_true rfl) rfl (fun F hE => ?_)
  repeat' (first | exact trivial | refine BS.a (fun h => ?_) (fun h => ?_) | refine BS.n ?_ | refine BS.s (fun h => ?_) (fun h => ?_) | refine And.intro ?_ ?_ | exact Need.au | exact OutS.whole rfl rfl | refine ListO.go gOk hE ?_)
  refine OpK.call (toSListS_run e g hg hg') rfl rfl rfl rfl hE (by repeat' (first | exact PsA.lit _ | exact PsA.ref rfl rfl | constructor)) rfl rfl ?_
  repeat' (first | exact trivial | refine BS.a (fun h => ?_) (fun h => ?_) | refine BS.n ?_ | refine BS.s (fun h => ?_) (fun h => ?_) | refine And.intro ?_ ?_ | exact Need.au | exact OutS.whole rfl rfl | refine ListO.go gOk hE ?_)
  refine OpK.call (toSListS_run e o ho ho') rfl rfl rfl rfl hE (by repeat' (first | exact PsA.lit _ | exact PsA.ref rfl rfl | constructor)) rfl rfl ?_
  repeat' (first | exact trivial | refine BS.a (fun h => ?_) (fun h => ?_) | refine BS.n ?_ | refine BS.s (fun h => ?_) (fun h => ?_) | refine And.intro ?_ ?_ | exact Need.au | exact OutS.whole rfl rfl | refine ListO.go gOk hE ?_)
/-- What is left of a budget. -/
def szSL : List (List Int) → Int → Int
  | [], m => m
  | x :: l, m => if szI x m < 0 then -1 else szSL l (szI x m)
def szSLs (xs : List (List Int)) (m : Int) : Int := if m - xs.length < 0 then -1 else szSL xs (m - xs.length)
theorem szSList_run (x : List Int) (m : Int) (h0 : 0 ≤ m) (h1 : m ≤ 1048576) (hn : x.length ≤ 9223372036854775807) : RunT Try.prog 219 [.agg [.c (tI x)], ti m] [] [oi (szI x m)] [] := by
  refine RunT.of_vc gOk Try.func219 rfl rfl (Nat.le_of_ble_eq_true rfl) (by repeat' (first | exact trivial | exact ⟨_, rfl, Nat.le_refl _⟩ | exact Nat.le_of_ble_eq_true rfl | refine And.intro ?_ ?_)) (Nat.le_of_ble_eq_true rfl) rfl (fun F hE => ?_)
  repeat' (first | exact trivial | refine BS.a (fun h => ?_) (fun h => ?_) | refine BS.n ?_ | refine BS.s (fun h => ?_) (fun h => ?_) | refine And.intro ?_ ?_ | exact Need.au | exact OutS.whole rfl rfl | refine ListO.go gOk hE ?_)
  refine OpK.call (szIntS_run x m h0 h1 hn) rfl rfl rfl rfl hE (by repeat' (first | exact PsA.lit _ | exact PsA.ref rfl rfl | constructor)) rfl rfl ?_
  repeat' (first | exact trivial | refine BS.a (fun h => ?_) (fun h => ?_) | refine BS.n ?_ | refine BS.s (fun h => ?_) (fun h => ?_) | refine And.intro ?_ ?_ | exact Need.au | exact OutS.whole rfl rfl | refine ListO.go gOk hE ?_)
  refine Need.mk ?_
  unfold szI at *
  split <;> simp_all <;> omega
theorem szSL_le : ∀ (l : List (List Int)) (m : Int), 0 ≤ m → szSL l m ≤ m ∧ -1 ≤ szSL l m ∧ (0 ≤ szSL l m → ∀ x ∈ l, x.length ≤ m)
  | [], m, h => ⟨Int.le_refl _, by simp [szSL]; omega, fun _ x hx => by simp at hx⟩
  | x :: l, m, h => by
    obtain ⟨h1, h2, h3⟩ := szI_le x m h
    unfold szSL
    split
    · exact ⟨by omega, by omega, fun h => by omega⟩
    · obtain ⟨k1, k2, k3⟩ := szSL_le l (szI x m) (by omega)
      refine ⟨by omega, by omega, fun h4 y hy => ?_⟩
      rcases List.mem_cons.1 hy with rfl | hy
      · exact h3 (by omega)
      · have := k3 h4 y hy; omega
theorem szSLs_le (l : List (List Int)) (m : Int) (h : 0 ≤ m) : szSLs l m ≤ m ∧ -1 ≤ szSLs l m ∧ (0 ≤ szSLs l m → l.length ≤ m ∧ ∀ x ∈ l, x.length ≤ m) := by
  unfold szSLs
  split
  · omega
  · obtain ⟨k1, k2, k3⟩ := szSL_le l (m - l.length) (by omega)
    exact ⟨by omega, k2, fun h4 => ⟨by omega, fun x hx => by have := k3 h4 x hx; omega⟩⟩
theorem szSListS_run (e : Nat) (xs : List (List Int)) (m : Int) (h0 : 0 ≤ m) (h1 : m ≤ 1048576) (hn : xs.length ≤ 9223372036854775807) (hx : ∀ i, (xs.getD i []).length ≤ 9223372036854775807) : RunT Try.prog 200 [.one (.c (tSL e xs)), ti m] [] [oi (szSLs xs m)] [] := by
  refine RunT.of_vc gOk Try.func200 rfl rfl (Nat.le_of_ble_eq_true rfl) (by repeat' (first | exact trivial | exact ⟨_, rfl, Nat.le_refl _⟩ | exact Nat.le_of_ble_eq_true rfl | refine And.intro ?_ ?_)) (Nat.le_of_ble_eq_true rfl) rfl (fun F hE => ?_)
  repeat' (first | exact trivial | refine BS.a (fun h => ?_) (fun h => ?_) | refine BS.n ?_ | refine BS.s (fun h => ?_) (fun h => ?_) | refine And.intro ?_ ?_ | exact Need.au | exact OutS.whole rfl rfl | refine ListO.go gOk hE ?_)
  · refine Need.mk ?_
    unfold szSLs; rw [if_pos (by omega)]
  · refine CodeK.loop gOk hE (fun i : Nat × Int => ⟨[(0, vr 1000000 xs.length), (1, vi i.2), (5, vi i.1)], [(1000000, rSL .fro false e xs)]⟩) (fun i => i.1 ≤ xs.length ∧ 0 ≤ i.2 ∧ i.2 ≤ 1048576 ∧ szSLs xs m = szSL (xs.drop i.1) i.2) (fun i => xs.length - i.1) (0, m - xs.length) (by refine leT.of ?_ ?_ rfl <;> repeat' (first | exact trivial | refine And.intro rfl ?_ | refine And.intro (by simp) ?_)) ⟨Nat.zero_le _, by omega, by omega, by unfold szSLs; rw [if_neg (by omega)]; rfl⟩ ?_
    rintro ⟨i, b⟩ ⟨hi, hb, hb1, hs⟩
    dsimp only at hi hb hb1 hs
    repeat' (first | exact trivial | refine BS.a (fun h => ?_) (fun h => ?_) | refine BS.n ?_ | refine BS.s (fun h => ?_) (fun h => ?_) | refine And.intro ?_ ?_ | exact Need.au | exact OutS.whole rfl rfl | refine ListO.go gOk hE ?_)
    · have hc := drop_cons [] (xs := xs) (i := i) (by omega)
      refine OpK.call (szSList_run _ _ hb hb1 (hx i)) rfl rfl rfl rfl hE (by repeat' (first | exact PsA.lit _ | exact PsA.ref rfl rfl | constructor)) rfl rfl ?_
      repeat' (first | exact trivial | refine BS.a (fun h => ?_) (fun h => ?_) | refine BS.n ?_ | refine BS.s (fun h => ?_) (fun h => ?_) | refine And.intro ?_ ?_ | exact Need.au | exact OutS.whole rfl rfl | refine ListO.go gOk hE ?_)
      · rename_i h
        refine Need.mk ?_
        rw [hs, hc, szSL, if_pos h]
      · rename_i h
        refine ⟨(i + 1, szI (xs.getD i []) b), (by refine leT.of ?_ ?_ rfl <;> repeat' (first | exact trivial | refine And.intro rfl ?_ | refine And.intro (by simp) ?_)), ⟨?_, ?_, ?_, ?_⟩, ?_⟩
        · dsimp only; omega
        · dsimp only; omega
        · dsimp only; unfold szI at h ⊢; split at h <;> split <;> omega
        · dsimp only; rw [hs, hc, szSL, if_neg h]
        · dsimp only; omega
    · refine Need.mk ?_
      rw [hs, List.drop_eq_nil_of_le (by omega)]; rfl
theorem szLists_run (e : Nat) (g o : List (List Int)) (m : Int) (h0 : 0 ≤ m) (h1 : m ≤ 1048576) (hg : g.length ≤ 9223372036854775807) (hg' : ∀ i, (g.getD i []).length ≤ 9223372036854775807) (ho : o.length ≤ 9223372036854775807) (ho' : ∀ i, (o.getD i []).length ≤ 9223372036854775807) : RunT Try.prog 158 [.agg [.c (tSL e g), .c (tSL e o)], ti m] [] [oi (if szSLs g m < 0 then -1 else szSLs o (szSLs g m))] [] := by
  refine RunT.of_vc gOk Try.func158 rfl rfl (Nat.le_of_ble_eq_true rfl) (by repeat' (first | exact trivial | exact ⟨_, rfl, Nat.le_refl _⟩ | exact Nat.le_of_ble_eq_true rfl | refine And.intro ?_ ?_)) (Nat.le_of_ble_eq_true rfl) rfl (fun F hE => ?_)
  repeat' (first | exact trivial | refine BS.a (fun h => ?_) (fun h => ?_) | refine BS.n ?_ | refine BS.s (fun h => ?_) (fun h => ?_) | refine And.intro ?_ ?_ | exact Need.au | exact OutS.whole rfl rfl | refine ListO.go gOk hE ?_)
  refine OpK.call (szSListS_run e g m h0 h1 hg hg') rfl rfl rfl rfl hE (by repeat' (first | exact PsA.lit _ | exact PsA.ref rfl rfl | constructor)) rfl rfl ?_
  repeat' (first | exact trivial | refine BS.a (fun h => ?_) (fun h => ?_) | refine BS.n ?_ | refine BS.s (fun h => ?_) (fun h => ?_) | refine And.intro ?_ ?_ | exact Need.au | exact OutS.whole rfl rfl | refine ListO.go gOk hE ?_)
  have := szSLs_le g m h0
  refine OpK.call (szSListS_run e o (szSLs g m) (by omega) (by omega) ho ho') rfl rfl rfl rfl hE (by repeat' (first | exact PsA.lit _ | exact PsA.ref rfl rfl | constructor)) rfl rfl ?_
  repeat' (first | exact trivial | refine BS.a (fun h => ?_) (fun h => ?_) | refine BS.n ?_ | refine BS.s (fun h => ?_) (fun h => ?_) | refine And.intro ?_ ?_ | exact Need.au | exact OutS.whole rfl rfl | refine ListO.go gOk hE ?_)
  all_goals (refine Need.mk ?_; have := szSLs_le o (szSLs g m) (by omega); rw [if_neg ‹¬ szSLs g m < 0›])
  omega
end Go.Proofs.Ytjlphbhmjicdhaa
end

section
namespace Go.Proofs.Ytjlphbhmjicdhaa
open Go Go.Tr
set_option maxRecDepth 100000
set_option linter.unusedVariables false
set_option linter.unusedSimpArgs false
theorem ints_of {e n : Nat} {row : Nat → Nat → C} (hn : n ≤ 9223372036854775807) (h : ∀ i r t, i < n → ([Dt.i] : List Dt)[r]? = some t → DtOk t (row i r)) : ∃ xs : List Int, xs.length = n ∧ (∀ x ∈ xs, -9223372036854775808 ≤ x ∧ x ≤ 9223372036854775807) ∧ CSame (.sl .fro e 1 n row) ((tI xs).er .fro) :=
  list_of decI 0 1 (fun f hf => by
    obtain ⟨z, hz, h1, h2⟩ := (hf 0 .i rfl).int
    refine ⟨z, ⟨h1, h2⟩, fun r hr => ?_⟩
    obtain rfl : r = 0 := by omega
    rw [hz]; exact rfl) h
end Go.Proofs.Ytjlphbhmjicdhaa
end

section
namespace Go.Proofs.Ytjlphbhmjicdhaa
open Go Go.Tr
set_option maxRecDepth 100000
set_option linter.unusedVariables false
set_option linter.unusedSimpArgs false
theorem lists_of {e e' n : Nat} {row : Nat → Nat → C} (hn : n ≤ 9223372036854775807) (h : ∀ i r t, i < n → ([Dt.sl [.i]] : List Dt)[r]? = some t → DtOk t (row i r)) : ∃ xs : List (List Int), xs.length = n ∧ (∀ x ∈ xs, x.length ≤ 9223372036854775807 ∧ ∀ z ∈ x, -9223372036854775808 ≤ z ∧ z ≤ 9223372036854775807) ∧ CSame (.sl .fro e 1 n row) ((tSL e' xs).er .fro) :=
  list_of decL [] 1 (fun f hf => by
    obtain ⟨e2, n2, row2, hz, h1, h2⟩ := (hf 0 (.sl [.i]) rfl).slice
    obtain ⟨xs, k1, k2, k3⟩ := ints_of (e := e2) h1 h2
    refine ⟨xs, ⟨by omega, k2⟩, fun r hr => ?_⟩
    obtain rfl : r = 0 := by omega
    rw [hz]; exact k3) h
theorem getD_le {xs : List (List Int)} {m : Nat} (h : ∀ x ∈ xs, x.length ≤ m) (i : Nat) : (xs.getD i []).length ≤ m := by
  by_cases hi : i < xs.length
  · have : xs.getD i [] = xs[i] := by simp [List.getD, hi]
    rw [this]; exact h _ (List.getElem_mem hi)
  · simp [List.getD, hi]
end Go.Proofs.Ytjlphbhmjicdhaa
end

section
namespace Go.Proofs.Ytjlphbhmjicdhaa
open Go Go.Tr
set_option maxRecDepth 100000
set_option maxHeartbeats 4000000
set_option linter.unusedVariables false
set_option linter.unusedSimpArgs false
abbrev aHp (b c : List Int) : TAg := .agg [.c (tI b), .c (tI c)]
def szH (b c : List Int) (m : Int) : Int := if szI b m < 0 then -1 else szI c (szI b m)
theorem szH_le (b c : List Int) (m : Int) (h : 0 ≤ m) : szH b c m ≤ m ∧ -1 ≤ szH b c m ∧ (0 ≤ szH b c m → b.length ≤ m ∧ c.length ≤ m) := by
  unfold szH
  have h1 := szI_le b m h
  split
  · omega
  · have h2 := szI_le c (szI b m) (by omega)
    omega
theorem szHeap_run (b c : List Int) (m : Int) (h0 : 0 ≤ m) (h1 : m ≤ 1048576) (hb : b.length ≤ 9223372036854775807) (hc : c.length ≤ 9223372036854775807) : RunT Try.prog 157 [aHp b c, ti m] [] [oi (szH b c m)] [] := by
  have q1 := szI_le b m h0
  have c1 := szIntS_run b m h0 h1 hb
  refine RunT.of_vc gOk Try.func157 rfl rfl (Nat.le_of_ble_eq_true rfl) (by repeat' (first | exact trivial | exact ⟨_, rfl, Nat.le_refl _⟩ | exact Nat.le_of_ble_eq_true rfl | refine And.intro ?_ ?_)) (Nat.le_of_ble_eq_true rfl) rfl (fun F hE => ?_)
  repeat' (first | exact trivial | refine BS.a (fun h => ?_) (fun h => ?_) | refine BS.n ?_ | refine BS.s (fun h => ?_) (fun h => ?_) | refine And.intro ?_ ?_ | exact Need.au | exact OutS.whole rfl rfl | refine OpK.ca c1 hE ?_ | refine ListO.go gOk hE ?_)
  all_goals first | (refine Need.mk ?_; unfold szH; rw [if_pos (by assumption)]) | skip
  all_goals have c2 := szIntS_run c (szI b m) (by omega) (by omega) hc
  all_goals (repeat' (first | exact trivial | refine BS.a (fun h => ?_) (fun h => ?_) | refine BS.n ?_ | refine BS.s (fun h => ?_) (fun h => ?_) | refine And.intro ?_ ?_ | exact Need.au | exact OutS.whole rfl rfl | refine OpK.ca c2 hE ?_ | refine ListO.go gOk hE ?_))
  all_goals (refine Need.mk ?_; unfold szH; rw [if_neg (by assumption)])
  all_goals (have q2 := szI_le c (szI b m) (by omega); omega)
theorem toHeap_run (b c : List Int) (hb : b.length ≤ 1048576) (hc : c.length ≤ 1048576) : RunT Try.prog 163 [aHp b c] [] [.agg [tI b, tI c]] [] := by
  have c1 := toIntS_run b hb
  have c2 := toIntS_run c hc
  refine RunT.of_vc gOk Try.func163 rfl rfl (Nat.le_of_ble_eq_true rfl) (by repeat' (first | exact trivial | exact ⟨_, rfl, Nat.le_refl _⟩ | exact Nat.le_of_ble_eq_true rfl | refine And.intro ?_ ?_)) (Nat.le_of_ble_eq_true rfl) rfl (fun F hE => ?_)
  repeat' (first | exact trivial | refine BS.a (fun h => ?_) (fun h => ?_) | refine BS.n ?_ | refine BS.s (fun h => ?_) (fun h => ?_) | refine And.intro ?_ ?_ | exact Need.au | exact OutS.whole rfl rfl | refine OpK.ca c1 hE ?_ | refine OpK.ca c2 hE ?_ | refine ListO.go gOk hE ?_)
theorem eqHeap_run (b c : List Int) (hb : b.length ≤ 4000000) (hc : c.length ≤ 4000000) : RunT Try.prog 143 [aHp b c, aHp b c] [] [ob true] [] := by
  have c1 := eqIntS_run b hb
  have c2 := eqIntS_run c hc
  refine RunT.of_vc gOk Try.func143 rfl rfl (Nat.le_of_ble_eq_true rfl) (by repeat' (first | exact trivial | exact ⟨_, rfl, Nat.le_refl _⟩ | exact Nat.le_of_ble_eq_true rfl | refine And.intro ?_ ?_)) (Nat.le_of_ble_eq_true rfl) rfl (fun F hE => ?_)
  repeat' (first | exact trivial | refine BS.a (fun h => ?_) (fun h => ?_) | refine BS.n ?_ | refine BS.s (fun h => ?_) (fun h => ?_) | refine And.intro ?_ ?_ | exact Need.au | exact OutS.whole rfl rfl | refine OpK.ca c1 hE ?_ | refine OpK.ca c2 hE ?_ | refine ListO.go gOk hE ?_)
end Go.Proofs.Ytjlphbhmjicdhaa
end

section
namespace Go.Proofs.Ytjlphbhmjicdhaa
open Go Go.Tr
set_option maxRecDepth 100000
set_option maxHeartbeats 4000000
set_option linter.unusedVariables false
set_option linter.unusedSimpArgs false
def szG (g o : List (List Int)) (m : Int) : Int := if szSLs g m < 0 then -1 else szSLs o (szSLs g m)
def szM (b c : List Int) (g o : List (List Int)) (m : Int) : Int := if szH b c m < 0 then -1 else szG g o (szH b c m)
theorem szG_le (g o : List (List Int)) (m : Int) (h : 0 ≤ m) : szG g o m ≤ m ∧ -1 ≤ szG g o m ∧ (0 ≤ szG g o m → (g.length ≤ m ∧ ∀ x ∈ g, x.length ≤ m) ∧ (o.length ≤ m ∧ ∀ x ∈ o, x.length ≤ m)) := by
  unfold szG
  obtain ⟨a1, a2, a3⟩ := szSLs_le g m h
  split
  · exact ⟨by omega, by omega, fun h => by omega⟩
  · obtain ⟨b1, b2, b3⟩ := szSLs_le o (szSLs g m) (by omega)
    refine ⟨by omega, b2, fun h9 => ⟨a3 (by omega), ?_⟩⟩
    obtain ⟨c1, c2⟩ := b3 h9
    exact ⟨by omega, fun x hx => by have := c2 x hx; omega⟩
theorem szM_le (b c : List Int) (g o : List (List Int)) (m : Int) (h : 0 ≤ m) : szM b c g o m ≤ m ∧ -1 ≤ szM b c g o m ∧ (0 ≤ szM b c g o m → (b.length ≤ m ∧ c.length ≤ m) ∧ (g.length ≤ m ∧ ∀ x ∈ g, x.length ≤ m) ∧ (o.length ≤ m ∧ ∀ x ∈ o, x.length ≤ m)) := by
  unfold szM
  obtain ⟨a1, a2, a3⟩ := szH_le b c m h
  split
  · exact ⟨by omega, by omega, fun h => by omega⟩
  · obtain ⟨b1, b2, b3⟩ := szG_le g o (szH b c m) (by omega)
    refine ⟨by omega, b2, fun h9 => ⟨a3 (by omega), ?_⟩⟩
    obtain ⟨⟨c1, c2⟩, c3, c4⟩ := b3 h9
    exact ⟨⟨by omega, fun x hx => by have := c2 x hx; omega⟩, by omega, fun x hx => by have := c4 x hx; omega⟩
theorem szMem_run (e e' : Nat) (b c : List Int) (g o : List (List Int)) (m : Int) (h0 : 0 ≤ m) (h1 : m ≤ 1048576) (hb : b.length ≤ 9223372036854775807) (hc : c.length ≤ 9223372036854775807) (hg : g.length ≤ 9223372036854775807) (hg' : ∀ i, (g.getD i []).length ≤ 9223372036854775807) (ho : o.length ≤ 9223372036854775807) (ho' : ∀ i, (o.getD i []).length ≤ 9223372036854775807) :
    RunT Try.prog 109 [.agg [.c (tI b), .c (tI c), .c (tSL e g), .c (tSL e o)], ti m] [] [oi (szM b c g o m)] [] := by
  have q1 := szH_le b c m h0
  have c1 := szHeap_run b c m h0 h1 hb hc
  refine RunT.of_vc gOk Try.func109 rfl rfl (Nat.le_of_ble_eq_true rfl) (by repeat' (first | exact trivial | exact ⟨_, rfl, Nat.le_refl _⟩ | exact Nat.le_of_ble_eq_true rfl | refine And.intro ?_ ?_)) (Nat.le_of_ble_eq_true rfl) rfl (fun F hE => ?_)
  repeat' (first | exact trivial | refine BS.a (fun h => ?_) (fun h => ?_) | refine BS.n ?_ | refine BS.s (fun h => ?_) (fun h => ?_) | refine And.intro ?_ ?_ | exact Need.au | exact OutS.whole rfl rfl | refine OpK.ca c1 hE ?_ | refine ListO.go gOk hE ?_)
  all_goals first | (refine Need.mk ?_; unfold szM; rw [if_pos (by assumption)]) | skip
  all_goals have c2 : RunT Try.prog 158 [.agg [.c (tSL e g), .c (tSL e o)], ti (szH b c m)] [] [oi (szG g o (szH b c m))] [] := szLists_run e g o (szH b c m) (by omega) (by omega) hg hg' ho ho'
  all_goals (repeat' (first | exact trivial | refine BS.a (fun h => ?_) (fun h => ?_) | refine BS.n ?_ | refine BS.s (fun h => ?_) (fun h => ?_) | refine And.intro ?_ ?_ | exact Need.au | exact OutS.whole rfl rfl | refine OpK.ca c2 hE ?_ | refine ListO.go gOk hE ?_))
  all_goals have q2 := szG_le g o (szH b c m) (by omega)
  all_goals have q3 : szM b c g o m = szG g o (szH b c m) := (if_neg (by assumption))
  all_goals (refine Need.mk ?_; rw [q3]; try omega)
theorem toMem_run (e : Nat) (b c : List Int) (g o : List (List Int)) (hb : b.length ≤ 1048576) (hc : c.length ≤ 1048576) (hg : g.length ≤ 1048576) (hg' : ∀ i, (g.getD i []).length ≤ 1048576) (ho : o.length ≤ 1048576) (ho' : ∀ i, (o.getD i []).length ≤ 1048576) :
    RunT Try.prog 115 [.agg [.c (tI b), .c (tI c), .c (tSL e g), .c (tSL e o)]] [] [.agg [tI b, tI c, tSL 280 g, tSL 280 o]] [] := by
  have c1 := toHeap_run b c hb hc
  have c2 := toLists_run e g o hg hg' ho ho'
  refine RunT.of_vc gOk Try.func115 rfl rfl (Nat.le_of_ble_eq_true rfl) (by repeat' (first | exact trivial | exact ⟨_, rfl, Nat.le_refl _⟩ | exact Nat.le_of_ble_eq_true rfl | refine And.intro ?_ ?_)) (Nat.le_of_ble_eq_true rfl) rfl (fun F hE => ?_)
  repeat' (first | exact trivial | refine BS.a (fun h => ?_) (fun h => ?_) | refine BS.n ?_ | refine BS.s (fun h => ?_) (fun h => ?_) | refine And.intro ?_ ?_ | exact Need.au | exact OutS.whole rfl rfl | refine OpK.ca c1 hE ?_ | refine OpK.ca c2 hE ?_ | refine ListO.go gOk hE ?_)
theorem eqMem_run (e : Nat) (b c : List Int) (g o : List (List Int)) (hb : b.length ≤ 4000000) (hc : c.length ≤ 4000000) (hg : g.length ≤ 4000000) (hg' : ∀ i, (g.getD i []).length ≤ 4000000) (ho : o.length ≤ 4000000) (ho' : ∀ i, (o.getD i []).length ≤ 4000000) :
    RunT Try.prog 97 [.agg [.c (tI b), .c (tI c), .c (tSL e g), .c (tSL e o)], .agg [.c (tI b), .c (tI c), .c (tSL e g), .c (tSL e o)]] [] [ob true] [] := by
  have c1 := eqHeap_run b c hb hc
  have c2 := eqLists_run e g o hg hg' ho ho'
  refine RunT.of_vc gOk Try.func97 rfl rfl (Nat.le_of_ble_eq_true rfl) (by repeat' (first | exact trivial | exact ⟨_, rfl, Nat.le_refl _⟩ | exact Nat.le_of_ble_eq_true rfl | refine And.intro ?_ ?_)) (Nat.le_of_ble_eq_true rfl) rfl (fun F hE => ?_)
  repeat' (first | exact trivial | refine BS.a (fun h => ?_) (fun h => ?_) | refine BS.n ?_ | refine BS.s (fun h => ?_) (fun h => ?_) | refine And.intro ?_ ?_ | exact Need.au | exact OutS.whole rfl rfl | refine OpK.ca c1 hE ?_ | refine OpK.ca c2 hE ?_ | refine ListO.go gOk hE ?_)
abbrev aMm (e : Nat) (b c : List Int) (g o : List (List Int)) : TAg := .agg [.c (tI b), .c (tI c), .c (tSL e g), .c (tSL e o)]
/-- Lists and their elements are no longer than m. -/
structure MmOk (m : Nat) (b c : List Int) (g o : List (List Int)) : Prop where
  hb : b.length ≤ m
  hc : c.length ≤ m
  hg : g.length ≤ m
  ho : o.length ≤ m
  hg' : ∀ i, (g.getD i []).length ≤ m
  ho' : ∀ i, (o.getD i []).length ≤ m
theorem MmOk.le {m m' : Nat} {b c : List Int} {g o : List (List Int)} (h : MmOk m b c g o) (hm : m ≤ m') : MmOk m' b c g o :=
  ⟨Nat.le_trans h.hb hm, Nat.le_trans h.hc hm, Nat.le_trans h.hg hm, Nat.le_trans h.ho hm, fun i => Nat.le_trans (h.hg' i) hm, fun i => Nat.le_trans (h.ho' i) hm⟩
theorem MmOk.of_sz {m : Int} {b c : List Int} {g o : List (List Int)} (h0 : 0 ≤ m) (h1 : m ≤ 1048576) (h : ¬ szM b c g o m < 0) : MmOk 1048576 b c g o := by
  obtain ⟨k1, k2, k3⟩ := szM_le b c g o m h0
  obtain ⟨⟨a1, a2⟩, ⟨a3, a4⟩, a5, a6⟩ := k3 (by omega)
  exact ⟨by omega, by omega, by omega, by omega, getD_le fun x hx => (by have := a4 x hx; omega), getD_le fun x hx => (by have := a6 x hx; omega)⟩
end Go.Proofs.Ytjlphbhmjicdhaa
end

section
namespace Go.Proofs.Ytjlphbhmjicdhaa
open Go Go.Tr
set_option maxRecDepth 100000
set_option maxHeartbeats 4000000
set_option linter.unusedVariables false
set_option linter.unusedSimpArgs false
def szJ {α : Type} (xs : List α) (m : Int) : Int := if m - xs.length < 0 then -1 else m - xs.length
def szJL {α : Type} : List (List α) → Int → Int
  | [], m => m
  | x :: l, m => if szJ x m < 0 then -1 else szJL l (szJ x m)
def szJLs {α : Type} (xs : List (List α)) (m : Int) : Int := if m - xs.length < 0 then -1 else szJL xs (m - xs.length)
theorem szLRowS_run (e : Nat) (xs : List Row) (m : Int) (h0 : 0 ≤ m) (h1 : m ≤ 1048576) (hn : xs.length ≤ 9223372036854775807) : RunT Try.prog 201 [.one (.c (tR e xs)), ti m] [] [oi (szJ xs m)] [] := by
  refine RunT.of_vc gOk Try.func201 rfl rfl (Nat.le_of_ble_eq_true rfl) (by repeat' (first | exact trivial | exact ⟨_, rfl, Nat.le_refl _⟩ | exact Nat.le_of_ble_eq_true rfl | refine And.intro ?_ ?_)) (Nat.le_of_ble_eq_true rfl) rfl (fun F hE => ?_)
  repeat' (first | exact trivial | refine BS.a (fun h => ?_) (fun h => ?_) | refine BS.n ?_ | refine BS.s (fun h => ?_) (fun h => ?_) | refine And.intro ?_ ?_ | exact Need.au | exact OutS.whole rfl rfl | refine ListO.go gOk hE ?_)
  all_goals (refine Need.mk ?_; unfold szJ; first | rw [if_pos (by omega)] | rw [if_neg (by omega)])
theorem szLList_run (e : Nat) (x : List Row) (m : Int) (h0 : 0 ≤ m) (h1 : m ≤ 1048576) (hn : x.length ≤ 9223372036854775807) : RunT Try.prog 160 [.agg [.c (tR e x)], ti m] [] [oi (szJ x m)] [] := by
  refine RunT.of_vc gOk Try.func160 rfl rfl (Nat.le_of_ble_eq_true rfl) (by repeat' (first | exact trivial | exact ⟨_, rfl, Nat.le_refl _⟩ | exact Nat.le_of_ble_eq_true rfl | refine And.intro ?_ ?_)) (Nat.le_of_ble_eq_true rfl) rfl (fun F hE => ?_)
  repeat' (first | exact trivial | refine BS.a (fun h => ?_) (fun h => ?_) | refine BS.n ?_ | refine BS.s (fun h => ?_) (fun h => ?_) | refine And.intro ?_ ?_ | exact Need.au | exact OutS.whole rfl rfl | refine ListO.go gOk hE ?_)
  refine OpK.call (szLRowS_run e x m h0 h1 hn) rfl rfl rfl rfl hE (by repeat' (first | exact PsA.lit _ | exact PsA.ref rfl rfl | constructor)) rfl rfl ?_
  repeat' (first | exact trivial | refine BS.a (fun h => ?_) (fun h => ?_) | refine BS.n ?_ | refine BS.s (fun h => ?_) (fun h => ?_) | refine And.intro ?_ ?_ | exact Need.au | exact OutS.whole rfl rfl | refine ListO.go gOk hE ?_)
  refine Need.mk ?_
  unfold szJ at *
  split <;> simp_all <;> omega
theorem szLListS_run (e' e : Nat) (xs : List (List Row)) (m : Int) (h0 : 0 ≤ m) (h1 : m ≤ 1048576) (hn : xs.length ≤ 9223372036854775807) (hx : ∀ i, (xs.getD i []).length ≤ 9223372036854775807) : RunT Try.prog 111 [.one (.c (tLL e' e xs)), ti m] [] [oi (szJLs xs m)] [] := by
  refine RunT.of_vc gOk Try.func111 rfl rfl (Nat.le_of_ble_eq_true rfl) (by repeat' (first | exact trivial | exact ⟨_, rfl, Nat.le_refl _⟩ | exact Nat.le_of_ble_eq_true rfl | refine And.intro ?_ ?_)) (Nat.le_of_ble_eq_true rfl) rfl (fun F hE => ?_)
  repeat' (first | exact trivial | refine BS.a (fun h => ?_) (fun h => ?_) | refine BS.n ?_ | refine BS.s (fun h => ?_) (fun h => ?_) | refine And.intro ?_ ?_ | exact Need.au | exact OutS.whole rfl rfl | refine ListO.go gOk hE ?_)
  · refine Need.mk ?_
    unfold szJLs; rw [if_pos (by omega)]
  · refine CodeK.loop gOk hE (fun i : Nat × Int => ⟨[(0, vr 1000000 xs.length), (1, vi i.2), (5, vi i.1)], [(1000000, rLL .fro false e' e xs)]⟩) (fun i => i.1 ≤ xs.length ∧ 0 ≤ i.2 ∧ i.2 ≤ 1048576 ∧ szJLs xs m = szJL (xs.drop i.1) i.2) (fun i => xs.length - i.1) (0, m - xs.length) (by refine leT.of ?_ ?_ rfl <;> repeat' (first | exact trivial | refine And.intro rfl ?_ | refine And.intro (by simp) ?_)) ⟨Nat.zero_le _, by omega, by omega, by unfold szJLs; rw [if_neg (by omega)]; rfl⟩ ?_
    rintro ⟨i, b⟩ ⟨hi, hb, hb1, hs⟩
    dsimp only at hi hb hb1 hs
    repeat' (first | exact trivial | refine BS.a (fun h => ?_) (fun h => ?_) | refine BS.n ?_ | refine BS.s (fun h => ?_) (fun h => ?_) | refine And.intro ?_ ?_ | exact Need.au | exact OutS.whole rfl rfl | refine ListO.go gOk hE ?_)
    · have hc := drop_cons [] (xs := xs) (i := i) (by omega)
      refine OpK.call (szLList_run e' _ _ hb hb1 (hx i)) rfl rfl rfl rfl hE (by repeat' (first | exact PsA.lit _ | exact PsA.ref rfl rfl | constructor)) rfl rfl ?_
      repeat' (first | exact trivial | refine BS.a (fun h => ?_) (fun h => ?_) | refine BS.n ?_ | refine BS.s (fun h => ?_) (fun h => ?_) | refine And.intro ?_ ?_ | exact Need.au | exact OutS.whole rfl rfl | refine ListO.go gOk hE ?_)
      · rename_i h
        refine Need.mk ?_
        rw [hs, hc, szJL, if_pos h]
      · rename_i h
        refine ⟨(i + 1, szJ (xs.getD i []) b), (by refine leT.of ?_ ?_ rfl <;> repeat' (first | exact trivial | refine And.intro rfl ?_ | refine And.intro (by simp) ?_)), ⟨?_, ?_, ?_, ?_⟩, ?_⟩
        · dsimp only; omega
        · dsimp only; omega
        · dsimp only; unfold szJ at h ⊢; split at h <;> split <;> omega
        · dsimp only; rw [hs, hc, szJL, if_neg h]
        · dsimp only; omega
    · refine Need.mk ?_
      rw [hs, List.drop_eq_nil_of_le (by omega)]; rfl
theorem toLRow_run (x : Row) : RunT Try.prog 221 [.agg [.c (.lit (.int .i64 x.1)), .c (.lit (.int .i64 x.2))]] [] [.agg [.lit (.int .i64 x.1), .lit (.int .i64 x.2)]] [] := by
  refine RunT.of_vc gOk Try.func221 rfl rfl (Nat.le_of_ble_eq_true rfl) (by repeat' (first | exact trivial | exact ⟨_, rfl, Nat.le_refl _⟩ | exact Nat.le_of_ble_eq_true rfl | refine And.intro ?_ ?_)) (Nat.le_of_ble_eq_true rfl) rfl (fun F hE => ?_)
  repeat' (first | exact trivial | refine BS.a (fun h => ?_) (fun h => ?_) | refine BS.n ?_ | refine BS.s (fun h => ?_) (fun h => ?_) | refine And.intro ?_ ?_ | exact Need.au | exact OutS.whole rfl rfl | refine ListO.go gOk hE ?_)
theorem eqLRow_run (x : Row) : RunT Try.prog 218 [.agg [.c (.lit (.int .i64 x.1)), .c (.lit (.int .i64 x.2))], .agg [.c (.lit (.int .i64 x.1)), .c (.lit (.int .i64 x.2))]] [] [ob true] [] := by
  refine RunT.of_vc gOk Try.func218 rfl rfl (Nat.le_of_ble_eq_true rfl) (by repeat' (first | exact trivial | exact ⟨_, rfl, Nat.le_refl _⟩ | exact Nat.le_of_ble_eq_true rfl | refine And.intro ?_ ?_)) (Nat.le_of_ble_eq_true rfl) rfl (fun F hE => ?_)
  repeat' (first | exact trivial | refine BS.a (fun h => ?_) (fun h => ?_) | refine BS.n ?_ | refine BS.s (fun h => ?_) (fun h => ?_) | refine And.intro ?_ ?_ | exact Need.au | exact OutS.whole rfl rfl | refine ListO.go gOk hE ?_)
  all_goals exact absurd rfl h
theorem toLRowS_run (e : Nat) (xs : List Row) (hn : xs.length ≤ 1048576) : RunT Try.prog 205 [.one (.c (tR e xs))] [] [.one (tR 130 xs)] [] := by
  refine RunT.of_vc gOk Try.func205 rfl rfl (Nat.le_of_ble_eq_true rfl) (by repeat' (first | exact trivial | exact ⟨_, rfl, Nat.le_refl _⟩ | exact Nat.le_of_ble_eq_true rfl | refine And.intro ?_ ?_)) (Nat.le_of_ble_eq_true rfl) rfl (fun F hE => ?_)
  repeat' (first | exact trivial | refine BS.a (fun h => ?_) (fun h => ?_) | refine BS.n ?_ | refine BS.s (fun h => ?_) (fun h => ?_) | refine And.intro ?_ ?_ | exact Need.au | exact OutS.whole rfl rfl | refine ListO.go gOk hE ?_)
  refine CodeK.loop gOk hE (fun i : Nat => ⟨[(0, vr 1000000 xs.length), (3, vr 7 xs.length), (4, vi i)], [(7, rR .own true 130 (fl (0, 0) xs i)), (1000000, rR .fro false e xs)]⟩) (fun i => i ≤ xs.length) (fun i => xs.length - i) 0 (by refine leT.of ?_ ?_ rfl <;> repeat' (first | exact trivial | refine And.intro rfl ?_ | refine And.intro (by simp [fl_zero] <;> rfl) ?_)) (Nat.zero_le _) ?_
  rintro i hi
  have hl := fl_len (0, 0) xs i hi
  repeat' (first | exact trivial | refine BS.a (fun h => ?_) (fun h => ?_) | refine BS.n ?_ | refine BS.s (fun h => ?_) (fun h => ?_) | refine And.intro ?_ ?_ | exact Need.au | exact OutS.whole rfl rfl | refine ListO.go gOk hE ?_)
  · refine OpK.call (toLRow_run (xs.getD i (0, 0))) rfl rfl rfl rfl hE (by repeat' (first | exact PsA.lit _ | exact PsA.ref rfl rfl | constructor)) rfl rfl ?_
    repeat' (first | exact trivial | refine BS.a (fun h => ?_) (fun h => ?_) | refine BS.n ?_ | refine BS.s (fun h => ?_) (fun h => ?_) | refine And.intro ?_ ?_ | exact Need.au | exact OutS.whole rfl rfl | refine ListO.go gOk hE ?_)
    all_goals (refine ⟨i + 1, (by refine leT.of ?_ ?_ rfl <;> repeat' (first | exact trivial | refine And.intro rfl ?_ | refine And.intro (by first | (rw [← fl_set (0, 0) xs i (by omega)]; rfl) | (simp <;> rfl)) ?_)), ?_⟩; (refine And.intro ?_ ?_) <;> (first | omega | (dsimp only; omega) | trivial))
  · exact OutS.whole hl.symm (by rw [fl_full _ _ _ (by omega) hi]; rfl)
theorem toLList_run (e : Nat) (x : List Row) (hn : x.length ≤ 1048576) : RunT Try.prog 166 [.agg [.c (tR e x)]] [] [.agg [tR 130 x]] [] := by
  refine RunT.of_vc gOk Try.func166 rfl rfl (Nat.le_of_ble_eq_true rfl) (by repeat' (first | exact trivial | exact ⟨_, rfl, Nat.le_refl _⟩ | exact Nat.le_of_ble_eq_true rfl | refine And.intro ?_ ?_)) (Nat.le_of_ble_eq_true rfl) rfl (fun F hE => ?_)
  repeat' (first | exact trivial | refine BS.a (fun h => ?_) (fun h => ?_) | refine BS.n ?_ | refine BS.s (fun h => ?_) (fun h => ?_) | refine And.intro ?_ ?_ | exact Need.au | exact OutS.whole rfl rfl | refine ListO.go gOk hE ?_)
  refine OpK.call (toLRowS_run e x hn) rfl rfl rfl rfl hE (by repeat' (first | exact PsA.lit _ | exact PsA.ref rfl rfl | constructor)) rfl rfl ?_
  repeat' (first | exact trivial | refine BS.a (fun h => ?_) (fun h => ?_) | refine BS.n ?_ | refine BS.s (fun h => ?_) (fun h => ?_) | refine And.intro ?_ ?_ | exact Need.au | exact OutS.whole rfl rfl | refine ListO.go gOk hE ?_)
theorem toLListS_run (e' e : Nat) (xs : List (List Row)) (hn : xs.length ≤ 1048576) (hx : ∀ i, (xs.getD i []).length ≤ 1048576) : RunT Try.prog 117 [.one (.c (tLL e' e xs))] [] [.one (tLL 130 186 xs)] [] := by
  refine RunT.of_vc gOk Try.func117 rfl rfl (Nat.le_of_ble_eq_true rfl) (by repeat' (first | exact trivial | exact ⟨_, rfl, Nat.le_refl _⟩ | exact Nat.le_of_ble_eq_true rfl | refine And.intro ?_ ?_)) (Nat.le_of_ble_eq_true rfl) rfl (fun F hE => ?_)
  repeat' (first | exact trivial | refine BS.a (fun h => ?_) (fun h => ?_) | refine BS.n ?_ | refine BS.s (fun h => ?_) (fun h => ?_) | refine And.intro ?_ ?_ | exact Need.au | exact OutS.whole rfl rfl | refine ListO.go gOk hE ?_)
  refine CodeK.loop gOk hE (fun i : Nat => ⟨[(0, vr 1000000 xs.length), (3, vr 7 xs.length), (4, vi i)], [(7, rLL .own true 130 186 (fl [] xs i)), (1000000, rLL .fro false e' e xs)]⟩) (fun i => i ≤ xs.length) (fun i => xs.length - i) 0 (by refine leT.of ?_ ?_ rfl <;> repeat' (first | exact trivial | refine And.intro rfl ?_ | refine And.intro (by simp [fl_zero] <;> rfl) ?_)) (Nat.zero_le _) ?_
  rintro i hi
  have hl := fl_len [] xs i hi
  repeat' (first | exact trivial | refine BS.a (fun h => ?_) (fun h => ?_) | refine BS.n ?_ | refine BS.s (fun h => ?_) (fun h => ?_) | refine And.intro ?_ ?_ | exact Need.au | exact OutS.whole rfl rfl | refine ListO.go gOk hE ?_)
  · refine OpK.call (toLList_run e' _ (hx i)) rfl rfl rfl rfl hE (by repeat' (first | exact PsA.lit _ | exact PsA.ref rfl rfl | constructor)) rfl rfl ?_
    repeat' (first | exact trivial | refine BS.a (fun h => ?_) (fun h => ?_) | refine BS.n ?_ | refine BS.s (fun h => ?_) (fun h => ?_) | refine And.intro ?_ ?_ | exact Need.au | exact OutS.whole rfl rfl | refine ListO.go gOk hE ?_)
    refine OpK.stN gOk (xs.getD i []) rfl rfl rfl rfl rfl rfl rfl rfl rfl (by first | omega | (simp only [adN_zero]; omega)) (by first | exact (StN.ref (by rfl) (by first | rfl | simp) (by rfl) (by rfl) (by rfl) StN.nil) | exact (StN.emp (by rfl) StN.nil)) ?_
    repeat' (first | exact trivial | refine BS.a (fun h => ?_) (fun h => ?_) | refine BS.n ?_ | refine BS.s (fun h => ?_) (fun h => ?_) | refine And.intro ?_ ?_ | exact Need.au | exact OutS.whole rfl rfl | refine ListO.go gOk hE ?_)
    all_goals (refine ⟨i + 1, (by refine leT.of ?_ ?_ rfl <;> repeat' (first | exact trivial | refine And.intro rfl ?_ | refine And.intro (by first | (rw [← fl_set [] xs i (by omega)]; rfl) | (simp <;> rfl)) ?_)), ?_⟩; (refine And.intro ?_ ?_) <;> (first | omega | (dsimp only; omega) | trivial))
  · exact OutS.whole hl.symm (by rw [fl_full _ _ _ (by omega) hi]; rfl)
theorem eqLRowS_run (e : Nat) (xs : List Row) (hn : xs.length ≤ 4000000) : RunT Try.prog 197 [.one (.c (tR e xs)), .one (.c (tR e xs))] [] [ob true] [] := by
  refine RunT.of_vc gOk Try.func197 rfl rfl (Nat.le_of_ble_eq_true rfl) (by repeat' (first | exact trivial | exact ⟨_, rfl, Nat.le_refl _⟩ | exact Nat.le_of_ble_eq_true rfl | refine And.intro ?_ ?_)) (Nat.le_of_ble_eq_true rfl) rfl (fun F hE => ?_)
  repeat' (first | exact trivial | refine BS.a (fun h => ?_) (fun h => ?_) | refine BS.n ?_ | refine BS.s (fun h => ?_) (fun h => ?_) | refine And.intro ?_ ?_ | exact Need.au | exact OutS.whole rfl rfl | refine ListO.go gOk hE ?_)
  · refine CodeK.loop gOk hE (fun i : Nat => ⟨[(0, vr 1000000 xs.length), (1, vr 1000001 xs.length), (5, vi i)], [(1000000, rR .fro false e xs), (1000001, rR .fro false e xs)]⟩) (fun i => i ≤ xs.length) (fun i => xs.length - i) 0 (by refine leT.of ?_ ?_ rfl <;> repeat' (first | exact trivial | refine And.intro rfl ?_ | refine And.intro (by simp) ?_)) (Nat.zero_le _) ?_
    rintro i hi
    repeat' (first | exact trivial | refine BS.a (fun h => ?_) (fun h => ?_) | refine BS.n ?_ | refine BS.s (fun h => ?_) (fun h => ?_) | refine And.intro ?_ ?_ | exact Need.au | exact OutS.whole rfl rfl | refine ListO.go gOk hE ?_)
    · refine CodeK.draw gOk hE rfl (fun _ _ h => h) (.take 0 (.take 1 (.take 2 (.take 4 (.take 5 (.take 6 (.alt 3 (.alt 7 (.alt 8 (.take 9 .done) .stop) .stop) (.alt 7 (.alt 3 (.alt 8 (.take 9 .done) .stop) .stop) .stop)))))))) (by decide +kernel) ?_
      repeat' (first | exact trivial | refine BS.a (fun h => ?_) (fun h => ?_) | refine BS.n ?_ | refine BS.s (fun h => ?_) (fun h => ?_) | refine And.intro ?_ ?_ | exact Need.au | exact OutS.whole rfl rfl | refine ListO.go gOk hE ?_)
      all_goals (refine OpK.call (eqLRow_run _) rfl rfl rfl rfl hE (by repeat' (first | exact PsA.lit _ | exact PsA.ref rfl rfl | constructor)) rfl rfl ?_)
      all_goals (repeat' (first | exact trivial | refine BS.a (fun h => ?_) (fun h => ?_) | refine BS.n ?_ | refine BS.s (fun h => ?_) (fun h => ?_) | refine And.intro ?_ ?_ | exact Need.au | exact OutS.whole rfl rfl | refine ListO.go gOk hE ?_))
      all_goals (refine ⟨i + 1, (by refine leT.of ?_ ?_ rfl <;> repeat' (first | exact trivial | refine And.intro rfl ?_ | refine And.intro (by simp) ?_)), ?_⟩; (refine And.intro ?_ ?_) <;> (first | omega | (dsimp only; omega) | trivial))
theorem eqLList_run (e : Nat) (x : List Row) (hn : x.length ≤ 4000000) : RunT Try.prog 146 [.agg [.c (tR e x)], .agg [.c (tR e x)]] [] [ob true] [] := by
  refine RunT.of_vc gOk Try.func146 rfl rfl (Nat.le_of_ble_eq_true rfl) (by repeat' (first | exact trivial | exact ⟨_, rfl, Nat.le_refl _⟩ | exact Nat.le_of_ble_eq_true rfl | refine And.intro ?_ ?_)) (Nat.le_of_ble_eq_true rfl) rfl (fun F hE => ?_)
  repeat' (first | exact trivial | refine BS.a (fun h => ?_) (fun h => ?_) | refine BS.n ?_ | refine BS.s (fun h => ?_) (fun h => ?_) | refine And.intro ?_ ?_ | exact Need.au | exact OutS.whole rfl rfl | refine ListO.go gOk hE ?_)
  refine OpK.call (eqLRowS_run e x hn) rfl rfl rfl rfl hE (by repeat' (first | exact PsA.lit _ | exact PsA.ref rfl rfl | constructor)) rfl rfl ?_
  repeat' (first | exact trivial | refine BS.a (fun h => ?_) (fun h => ?_) | refine BS.n ?_ | refine BS.s (fun h => ?_) (fun h => ?_) | refine And.intro ?_ ?_ | exact Need.au | exact OutS.whole rfl rfl | refine ListO.go gOk hE ?_)
theorem eqLListS_run (e' e : Nat) (xs : List (List Row)) (hn : xs.length ≤ 4000000) (hx : ∀ i, (xs.getD i []).length ≤ 4000000) : RunT Try.prog 99 [.one (.c (tLL e' e xs)), .one (.c (tLL e' e xs))] [] [ob true] [] := by
  refine RunT.of_vc gOk Try.func99 rfl rfl (Nat.le_of_ble_eq_true rfl) (by repeat' (first | exact trivial | exact ⟨_, rfl, Nat.le_refl _⟩ | exact Nat.le_of_ble_eq_true rfl | refine And.intro ?_ ?_)) (Nat.le_of_ble_eq_true rfl) rfl (fun F hE => ?_)
  repeat' (first | exact trivial | refine BS.a (fun h => ?_) (fun h => ?_) | refine BS.n ?_ | refine BS.s (fun h => ?_) (fun h => ?_) | refine And.intro ?_ ?_ | exact Need.au | exact OutS.whole rfl rfl | refine ListO.go gOk hE ?_)
  · refine CodeK.loop gOk hE (fun i : Nat => ⟨[(0, vr 1000000 xs.length), (1, vr 1000001 xs.length), (5, vi i)], [(1000000, rLL .fro false e' e xs), (1000001, rLL .fro false e' e xs)]⟩) (fun i => i ≤ xs.length) (fun i => xs.length - i) 0 (by refine leT.of ?_ ?_ rfl <;> repeat' (first | exact trivial | refine And.intro rfl ?_ | refine And.intro (by simp) ?_)) (Nat.zero_le _) ?_
    rintro i hi
    repeat' (first | exact trivial | refine BS.a (fun h => ?_) (fun h => ?_) | refine BS.n ?_ | refine BS.s (fun h => ?_) (fun h => ?_) | refine And.intro ?_ ?_ | exact Need.au | exact OutS.whole rfl rfl | refine ListO.go gOk hE ?_)
    · refine CodeK.draw gOk hE rfl (fun _ _ h => h) (.take 0 (.take 1 (.take 2 (.take 4 (.take 5 (.take 6 (.alt 3 (.alt 7 (.alt 8 (.take 9 .done) .stop) .stop) (.alt 7 (.alt 3 (.alt 8 (.take 9 .done) .stop) .stop) .stop)))))))) (by decide +kernel) ?_
      repeat' (first | exact trivial | refine BS.a (fun h => ?_) (fun h => ?_) | refine BS.n ?_ | refine BS.s (fun h => ?_) (fun h => ?_) | refine And.intro ?_ ?_ | exact Need.au | exact OutS.whole rfl rfl | refine ListO.go gOk hE ?_)
      all_goals (refine OpK.call (eqLList_run e' _ (hx i)) rfl rfl rfl rfl hE (by repeat' (first | exact PsA.lit _ | exact PsA.ref rfl rfl | constructor)) rfl rfl ?_)
      all_goals (repeat' (first | exact trivial | refine BS.a (fun h => ?_) (fun h => ?_) | refine BS.n ?_ | refine BS.s (fun h => ?_) (fun h => ?_) | refine And.intro ?_ ?_ | exact Need.au | exact OutS.whole rfl rfl | refine ListO.go gOk hE ?_))
      all_goals (refine ⟨i + 1, (by refine leT.of ?_ ?_ rfl <;> repeat' (first | exact trivial | refine And.intro rfl ?_ | refine And.intro (by simp) ?_)), ?_⟩; (refine And.intro ?_ ?_) <;> (first | omega | (dsimp only; omega) | trivial))
theorem szJL_le {α : Type} : ∀ (l : List (List α)) (m : Int), 0 ≤ m → szJL l m ≤ m ∧ -1 ≤ szJL l m ∧ (0 ≤ szJL l m → (l.flatten.length : Int) ≤ m ∧ ∀ x ∈ l, x.length ≤ m)
  | [], m, h => ⟨Int.le_refl _, by simp [szJL]; omega, fun _ => ⟨by simpa using h, fun x hx => by simp at hx⟩⟩
  | x :: l, m, h => by
    have h1 : szJ x m ≤ m ∧ -1 ≤ szJ x m ∧ (0 ≤ szJ x m → szJ x m = m - x.length) := by unfold szJ; split <;> omega
    unfold szJL
    split
    · exact ⟨by omega, by omega, fun h => by omega⟩
    · obtain ⟨k1, k2, k3⟩ := szJL_le l (szJ x m) (by omega)
      refine ⟨by omega, by omega, fun h4 => ⟨?_, fun y hy => ?_⟩⟩
      · have := (k3 h4).1
        simp only [List.flatten_cons, List.length_append]; omega
      · rcases List.mem_cons.1 hy with rfl | hy
        · omega
        · have := (k3 h4).2 y hy; omega
theorem szJLs_le {α : Type} (l : List (List α)) (m : Int) (h : 0 ≤ m) : szJLs l m ≤ m ∧ -1 ≤ szJLs l m ∧ (0 ≤ szJLs l m → l.length ≤ m ∧ (l.flatten.length : Int) ≤ m ∧ ∀ x ∈ l, x.length ≤ m) := by
  unfold szJLs
  split
  · omega
  · obtain ⟨k1, k2, k3⟩ := szJL_le l (m - l.length) (by omega)
    exact ⟨by omega, k2, fun h4 => ⟨by omega, by have := (k3 h4).1; omega, fun x hx => by have := (k3 h4).2 x hx; omega⟩⟩
end Go.Proofs.Ytjlphbhmjicdhaa
end

section
/- The types of a shelf. -/
namespace Go.Proofs.Ytjlphbhmjicdhaa
open Go Go.Tr
set_option maxRecDepth 100000
set_option maxHeartbeats 4000000
set_option linter.unusedVariables false
set_option linter.unusedSimpArgs false
theorem szOpS_run (e : Nat) (xs : List OpT) (m : Int) (h0 : 0 ≤ m) (h1 : m ≤ 1048576) (hn : xs.length ≤ 9223372036854775807) : RunT Try.prog 84 [.one (.c (tOp e xs)), ti m] [] [oi (szJ xs m)] [] := by
  refine RunT.of_vc gOk Try.func84 rfl rfl (Nat.le_of_ble_eq_true rfl) (by repeat' (first | exact trivial | exact ⟨_, rfl, Nat.le_refl _⟩ | exact Nat.le_of_ble_eq_true rfl | refine And.intro ?_ ?_)) (Nat.le_of_ble_eq_true rfl) rfl (fun F hE => ?_)
  repeat' (first | exact trivial | refine BS.a (fun h => ?_) (fun h => ?_) | refine BS.n ?_ | refine BS.s (fun h => ?_) (fun h => ?_) | refine And.intro ?_ ?_ | exact Need.au | exact OutS.whole rfl rfl | refine ListO.go gOk hE ?_)
  all_goals (refine Need.mk ?_; unfold szJ; first | rw [if_pos (by omega)] | rw [if_neg (by omega)])
theorem toOp_run (x : OpT) : RunT Try.prog 139 [aOp x] [] [oOp x] [] := by
  refine RunT.of_vc gOk Try.func139 rfl rfl (Nat.le_of_ble_eq_true rfl) (by repeat' (first | exact trivial | exact ⟨_, rfl, Nat.le_refl _⟩ | exact Nat.le_of_ble_eq_true rfl | refine And.intro ?_ ?_)) (Nat.le_of_ble_eq_true rfl) rfl (fun F hE => ?_)
  repeat' (first | exact trivial | refine BS.a (fun h => ?_) (fun h => ?_) | refine BS.n ?_ | refine BS.s (fun h => ?_) (fun h => ?_) | refine And.intro ?_ ?_ | exact Need.au | exact OutS.whole rfl rfl | refine ListO.go gOk hE ?_)
theorem eqOp_run (x : OpT) : RunT Try.prog 147 [aOp x, aOp x] [] [ob true] [] := by
  refine RunT.of_vc gOk Try.func147 rfl rfl (Nat.le_of_ble_eq_true rfl) (by repeat' (first | exact trivial | exact ⟨_, rfl, Nat.le_refl _⟩ | exact Nat.le_of_ble_eq_true rfl | refine And.intro ?_ ?_)) (Nat.le_of_ble_eq_true rfl) rfl (fun F hE => ?_)
  repeat' (first | exact trivial | refine BS.a (fun h => ?_) (fun h => ?_) | refine BS.n ?_ | refine BS.s (fun h => ?_) (fun h => ?_) | refine And.intro ?_ ?_ | exact Need.au | exact OutS.whole rfl rfl | refine ListO.go gOk hE ?_)
  all_goals exact absurd rfl h
theorem toOpS_run (e : Nat) (xs : List OpT) (hn : xs.length ≤ 1048576) : RunT Try.prog 90 [.one (.c (tOp e xs))] [] [.one (tOp 114 xs)] [] := by
  refine RunT.of_vc gOk Try.func90 rfl rfl (Nat.le_of_ble_eq_true rfl) (by repeat' (first | exact trivial | exact ⟨_, rfl, Nat.le_refl _⟩ | exact Nat.le_of_ble_eq_true rfl | refine And.intro ?_ ?_)) (Nat.le_of_ble_eq_true rfl) rfl (fun F hE => ?_)
  repeat' (first | exact trivial | refine BS.a (fun h => ?_) (fun h => ?_) | refine BS.n ?_ | refine BS.s (fun h => ?_) (fun h => ?_) | refine And.intro ?_ ?_ | exact Need.au | exact OutS.whole rfl rfl | refine ListO.go gOk hE ?_)
  refine CodeK.loop gOk hE (fun i : Nat => ⟨[(0, vr 1000000 xs.length), (3, vr 7 xs.length), (4, vi i)], [(7, rOp .own true 114 (fl zOp xs i)), (1000000, rOp .fro false e xs)]⟩) (fun i => i ≤ xs.length) (fun i => xs.length - i) 0 (by refine leT.of ?_ ?_ rfl <;> repeat' (first | exact trivial | refine And.intro rfl ?_ | refine And.intro (by simp [fl_zero] <;> rfl) ?_)) (Nat.zero_le _) ?_
  rintro i hi
  have hl := fl_len zOp xs i hi
  repeat' (first | exact trivial | refine BS.a (fun h => ?_) (fun h => ?_) | refine BS.n ?_ | refine BS.s (fun h => ?_) (fun h => ?_) | refine And.intro ?_ ?_ | exact Need.au | exact OutS.whole rfl rfl | refine ListO.go gOk hE ?_)
  · refine OpK.call (toOp_run (xs.getD i zOp)) rfl rfl rfl rfl hE (by repeat' (first | exact PsA.lit _ | exact PsA.ref rfl rfl | constructor)) rfl rfl ?_
    repeat' (first | exact trivial | refine BS.a (fun h => ?_) (fun h => ?_) | refine BS.n ?_ | refine BS.s (fun h => ?_) (fun h => ?_) | refine And.intro ?_ ?_ | exact Need.au | exact OutS.whole rfl rfl | refine ListO.go gOk hE ?_)
    all_goals (refine ⟨i + 1, (by refine leT.of ?_ ?_ rfl <;> repeat' (first | exact trivial | refine And.intro rfl ?_ | refine And.intro (by first | (rw [← fl_set zOp xs i (by omega)]; rfl) | (simp <;> rfl)) ?_)), ?_⟩; (refine And.intro ?_ ?_) <;> (first | omega | (dsimp only; omega) | trivial))
  · exact OutS.whole hl.symm (by rw [fl_full _ _ _ (by omega) hi]; rfl)
theorem eqOpS_run (e : Nat) (xs : List OpT) (hn : xs.length ≤ 4000000) : RunT Try.prog 101 [.one (.c (tOp e xs)), .one (.c (tOp e xs))] [] [ob true] [] := by
  refine RunT.of_vc gOk Try.func101 rfl rfl (Nat.le_of_ble_eq_true rfl) (by repeat' (first | exact trivial | exact ⟨_, rfl, Nat.le_refl _⟩ | exact Nat.le_of_ble_eq_true rfl | refine And.intro ?_ ?_)) (Nat.le_of_ble_eq_true rfl) rfl (fun F hE => ?_)
  repeat' (first | exact trivial | refine BS.a (fun h => ?_) (fun h => ?_) | refine BS.n ?_ | refine BS.s (fun h => ?_) (fun h => ?_) | refine And.intro ?_ ?_ | exact Need.au | exact OutS.whole rfl rfl | refine ListO.go gOk hE ?_)
  · refine CodeK.loop gOk hE (fun i : Nat => ⟨[(0, vr 1000000 xs.length), (1, vr 1000001 xs.length), (5, vi i)], [(1000000, rOp .fro false e xs), (1000001, rOp .fro false e xs)]⟩) (fun i => i ≤ xs.length) (fun i => xs.length - i) 0 (by refine leT.of ?_ ?_ rfl <;> repeat' (first | exact trivial | refine And.intro rfl ?_ | refine And.intro (by simp) ?_)) (Nat.zero_le _) ?_
    rintro i hi
    repeat' (first | exact trivial | refine BS.a (fun h => ?_) (fun h => ?_) | refine BS.n ?_ | refine BS.s (fun h => ?_) (fun h => ?_) | refine And.intro ?_ ?_ | exact Need.au | exact OutS.whole rfl rfl | refine ListO.go gOk hE ?_)
    · refine CodeK.draw gOk hE rfl (fun _ _ h => h) (.take 0 (.take 1 (.take 2 (.take 4 (.take 5 (.take 6 (.alt 3 (.alt 7 (.alt 8 (.take 9 .done) .stop) .stop) (.alt 7 (.alt 3 (.alt 8 (.take 9 .done) .stop) .stop) .stop)))))))) (by decide +kernel) ?_
      repeat' (first | exact trivial | refine BS.a (fun h => ?_) (fun h => ?_) | refine BS.n ?_ | refine BS.s (fun h => ?_) (fun h => ?_) | refine And.intro ?_ ?_ | exact Need.au | exact OutS.whole rfl rfl | refine ListO.go gOk hE ?_)
      all_goals (refine OpK.call (eqOp_run _) rfl rfl rfl rfl hE (by repeat' (first | exact PsA.lit _ | exact PsA.ref rfl rfl | constructor)) rfl rfl ?_)
      all_goals (repeat' (first | exact trivial | refine BS.a (fun h => ?_) (fun h => ?_) | refine BS.n ?_ | refine BS.s (fun h => ?_) (fun h => ?_) | refine And.intro ?_ ?_ | exact Need.au | exact OutS.whole rfl rfl | refine ListO.go gOk hE ?_))
      all_goals (refine ⟨i + 1, (by refine leT.of ?_ ?_ rfl <;> repeat' (first | exact trivial | refine And.intro rfl ?_ | refine And.intro (by simp) ?_)), ?_⟩; (refine And.intro ?_ ?_) <;> (first | omega | (dsimp only; omega) | trivial))
theorem Ops_of {e e' n : Nat} {row : Nat → Nat → C} (hn : n ≤ 9223372036854775807) (h : ∀ i r t, i < n → ([Dt.i, Dt.i, Dt.i, Dt.i] : List Dt)[r]? = some t → DtOk t (row i r)) : ∃ xs : List OpT, xs.length = n ∧ (∀ x ∈ xs, True) ∧ CSame (.sl .fro e 4 n row) ((tOp e' xs).er .fro) :=
  list_of decOp zOp 4 (fun f hf => by
    obtain ⟨z0, hz0, _⟩ := (hf 0 .i rfl).int
    obtain ⟨z1, hz1, _⟩ := (hf 1 .i rfl).int
    obtain ⟨z2, hz2, _⟩ := (hf 2 .i rfl).int
    obtain ⟨z3, hz3, _⟩ := (hf 3 .i rfl).int
    refine ⟨(z0, z1, z2, z3), trivial, fun r hr => ?_⟩
    match r, hr with
    | 0, _ => rw [hz0]; exact rfl
    | 1, _ => rw [hz1]; exact rfl
    | 2, _ => rw [hz2]; exact rfl
    | 3, _ => rw [hz3]; exact rfl
    ) h
theorem toSub_run (x : SubT) : RunT Try.prog 167 [aSub x] [] [oSub x] [] := by
  refine RunT.of_vc gOk Try.func167 rfl rfl (Nat.le_of_ble_eq_true rfl) (by repeat' (first | exact trivial | exact ⟨_, rfl, Nat.le_refl _⟩ | exact Nat.le_of_ble_eq_true rfl | refine And.intro ?_ ?_)) (Nat.le_of_ble_eq_true rfl) rfl (fun F hE => ?_)
  repeat' (first | exact trivial | refine BS.a (fun h => ?_) (fun h => ?_) | refine BS.n ?_ | refine BS.s (fun h => ?_) (fun h => ?_) | refine And.intro ?_ ?_ | exact Need.au | exact OutS.whole rfl rfl | refine ListO.go gOk hE ?_)
theorem eqSub_run (x : SubT) : RunT Try.prog 148 [aSub x, aSub x] [] [ob true] [] := by
  refine RunT.of_vc gOk Try.func148 rfl rfl (Nat.le_of_ble_eq_true rfl) (by repeat' (first | exact trivial | exact ⟨_, rfl, Nat.le_refl _⟩ | exact Nat.le_of_ble_eq_true rfl | refine And.intro ?_ ?_)) (Nat.le_of_ble_eq_true rfl) rfl (fun F hE => ?_)
  repeat' (first | exact trivial | refine BS.a (fun h => ?_) (fun h => ?_) | refine BS.n ?_ | refine BS.s (fun h => ?_) (fun h => ?_) | refine And.intro ?_ ?_ | exact Need.au | exact OutS.whole rfl rfl | refine ListO.go gOk hE ?_)
  all_goals exact absurd rfl h
theorem szEvS_run (e : Nat) (xs : List EvT) (m : Int) (h0 : 0 ≤ m) (h1 : m ≤ 1048576) (hn : xs.length ≤ 9223372036854775807) : RunT Try.prog 56 [.one (.c (tEv e xs)), ti m] [] [oi (szJ xs m)] [] := by
  refine RunT.of_vc gOk Try.func56 rfl rfl (Nat.le_of_ble_eq_true rfl) (by repeat' (first | exact trivial | exact ⟨_, rfl, Nat.le_refl _⟩ | exact Nat.le_of_ble_eq_true rfl | refine And.intro ?_ ?_)) (Nat.le_of_ble_eq_true rfl) rfl (fun F hE => ?_)
  repeat' (first | exact trivial | refine BS.a (fun h => ?_) (fun h => ?_) | refine BS.n ?_ | refine BS.s (fun h => ?_) (fun h => ?_) | refine And.intro ?_ ?_ | exact Need.au | exact OutS.whole rfl rfl | refine ListO.go gOk hE ?_)
  all_goals (refine Need.mk ?_; unfold szJ; first | rw [if_pos (by omega)] | rw [if_neg (by omega)])
theorem toEv_run (x : EvT) : RunT Try.prog 119 [aEv x] [] [oEv x] [] := by
  refine RunT.of_vc gOk Try.func119 rfl rfl (Nat.le_of_ble_eq_true rfl) (by repeat' (first | exact trivial | exact ⟨_, rfl, Nat.le_refl _⟩ | exact Nat.le_of_ble_eq_true rfl | refine And.intro ?_ ?_)) (Nat.le_of_ble_eq_true rfl) rfl (fun F hE => ?_)
  repeat' (first | exact trivial | refine BS.a (fun h => ?_) (fun h => ?_) | refine BS.n ?_ | refine BS.s (fun h => ?_) (fun h => ?_) | refine And.intro ?_ ?_ | exact Need.au | exact OutS.whole rfl rfl | refine ListO.go gOk hE ?_)
theorem eqEv_run (x : EvT) : RunT Try.prog 69 [aEv x, aEv x] [] [ob true] [] := by
  refine RunT.of_vc gOk Try.func69 rfl rfl (Nat.le_of_ble_eq_true rfl) (by repeat' (first | exact trivial | exact ⟨_, rfl, Nat.le_refl _⟩ | exact Nat.le_of_ble_eq_true rfl | refine And.intro ?_ ?_)) (Nat.le_of_ble_eq_true rfl) rfl (fun F hE => ?_)
  repeat' (first | exact trivial | refine BS.a (fun h => ?_) (fun h => ?_) | refine BS.n ?_ | refine BS.s (fun h => ?_) (fun h => ?_) | refine And.intro ?_ ?_ | exact Need.au | exact OutS.whole rfl rfl | refine ListO.go gOk hE ?_)
  all_goals exact absurd rfl h
theorem toEvS_run (e : Nat) (xs : List EvT) (hn : xs.length ≤ 1048576) : RunT Try.prog 62 [.one (.c (tEv e xs))] [] [.one (tEv 120 xs)] [] := by
  refine RunT.of_vc gOk Try.func62 rfl rfl (Nat.le_of_ble_eq_true rfl) (by repeat' (first | exact trivial | exact ⟨_, rfl, Nat.le_refl _⟩ | exact Nat.le_of_ble_eq_true rfl | refine And.intro ?_ ?_)) (Nat.le_of_ble_eq_true rfl) rfl (fun F hE => ?_)
  repeat' (first | exact trivial | refine BS.a (fun h => ?_) (fun h => ?_) | refine BS.n ?_ | refine BS.s (fun h => ?_) (fun h => ?_) | refine And.intro ?_ ?_ | exact Need.au | exact OutS.whole rfl rfl | refine ListO.go gOk hE ?_)
  refine CodeK.loop gOk hE (fun i : Nat => ⟨[(0, vr 1000000 xs.length), (3, vr 7 xs.length), (4, vi i)], [(7, rEv .own true 120 (fl zEv xs i)), (1000000, rEv .fro false e xs)]⟩) (fun i => i ≤ xs.length) (fun i => xs.length - i) 0 (by refine leT.of ?_ ?_ rfl <;> repeat' (first | exact trivial | refine And.intro rfl ?_ | refine And.intro (by simp [fl_zero] <;> rfl) ?_)) (Nat.zero_le _) ?_
  rintro i hi
  have hl := fl_len zEv xs i hi
  repeat' (first | exact trivial | refine BS.a (fun h => ?_) (fun h => ?_) | refine BS.n ?_ | refine BS.s (fun h => ?_) (fun h => ?_) | refine And.intro ?_ ?_ | exact Need.au | exact OutS.whole rfl rfl | refine ListO.go gOk hE ?_)
  · refine OpK.call (toEv_run (xs.getD i zEv)) rfl rfl rfl rfl hE (by repeat' (first | exact PsA.lit _ | exact PsA.ref rfl rfl | constructor)) rfl rfl ?_
    repeat' (first | exact trivial | refine BS.a (fun h => ?_) (fun h => ?_) | refine BS.n ?_ | refine BS.s (fun h => ?_) (fun h => ?_) | refine And.intro ?_ ?_ | exact Need.au | exact OutS.whole rfl rfl | refine ListO.go gOk hE ?_)
    all_goals (refine ⟨i + 1, (by refine leT.of ?_ ?_ rfl <;> repeat' (first | exact trivial | refine And.intro rfl ?_ | refine And.intro (by first | (rw [← fl_set zEv xs i (by omega)]; rfl) | (simp <;> rfl)) ?_)), ?_⟩; (refine And.intro ?_ ?_) <;> (first | omega | (dsimp only; omega) | trivial))
  · exact OutS.whole hl.symm (by rw [fl_full _ _ _ (by omega) hi]; rfl)
theorem eqEvS_run (e : Nat) (xs : List EvT) (hn : xs.length ≤ 4000000) : RunT Try.prog 23 [.one (.c (tEv e xs)), .one (.c (tEv e xs))] [] [ob true] [] := by
  refine RunT.of_vc gOk Try.func23 rfl rfl (Nat.le_of_ble_eq_true rfl) (by repeat' (first | exact trivial | exact ⟨_, rfl, Nat.le_refl _⟩ | exact Nat.le_of_ble_eq_true rfl | refine And.intro ?_ ?_)) (Nat.le_of_ble_eq_true rfl) rfl (fun F hE => ?_)
  repeat' (first | exact trivial | refine BS.a (fun h => ?_) (fun h => ?_) | refine BS.n ?_ | refine BS.s (fun h => ?_) (fun h => ?_) | refine And.intro ?_ ?_ | exact Need.au | exact OutS.whole rfl rfl | refine ListO.go gOk hE ?_)
  · refine CodeK.loop gOk hE (fun i : Nat => ⟨[(0, vr 1000000 xs.length), (1, vr 1000001 xs.length), (5, vi i)], [(1000000, rEv .fro false e xs), (1000001, rEv .fro false e xs)]⟩) (fun i => i ≤ xs.length) (fun i => xs.length - i) 0 (by refine leT.of ?_ ?_ rfl <;> repeat' (first | exact trivial | refine And.intro rfl ?_ | refine And.intro (by simp) ?_)) (Nat.zero_le _) ?_
    rintro i hi
    repeat' (first | exact trivial | refine BS.a (fun h => ?_) (fun h => ?_) | refine BS.n ?_ | refine BS.s (fun h => ?_) (fun h => ?_) | refine And.intro ?_ ?_ | exact Need.au | exact OutS.whole rfl rfl | refine ListO.go gOk hE ?_)
    · refine CodeK.draw gOk hE rfl (fun _ _ h => h) (.take 0 (.take 1 (.take 2 (.take 4 (.take 5 (.take 6 (.alt 3 (.alt 7 (.alt 8 (.take 9 .done) .stop) .stop) (.alt 7 (.alt 3 (.alt 8 (.take 9 .done) .stop) .stop) .stop)))))))) (by decide +kernel) ?_
      repeat' (first | exact trivial | refine BS.a (fun h => ?_) (fun h => ?_) | refine BS.n ?_ | refine BS.s (fun h => ?_) (fun h => ?_) | refine And.intro ?_ ?_ | exact Need.au | exact OutS.whole rfl rfl | refine ListO.go gOk hE ?_)
      all_goals (refine OpK.call (eqEv_run _) rfl rfl rfl rfl hE (by repeat' (first | exact PsA.lit _ | exact PsA.ref rfl rfl | constructor)) rfl rfl ?_)
      all_goals (repeat' (first | exact trivial | refine BS.a (fun h => ?_) (fun h => ?_) | refine BS.n ?_ | refine BS.s (fun h => ?_) (fun h => ?_) | refine And.intro ?_ ?_ | exact Need.au | exact OutS.whole rfl rfl | refine ListO.go gOk hE ?_))
      all_goals (refine ⟨i + 1, (by refine leT.of ?_ ?_ rfl <;> repeat' (first | exact trivial | refine And.intro rfl ?_ | refine And.intro (by simp) ?_)), ?_⟩; (refine And.intro ?_ ?_) <;> (first | omega | (dsimp only; omega) | trivial))
theorem Evs_of {e e' n : Nat} {row : Nat → Nat → C} (hn : n ≤ 9223372036854775807) (h : ∀ i r t, i < n → ([Dt.i, Dt.i, Dt.i, Dt.i, Dt.i, Dt.i, Dt.i] : List Dt)[r]? = some t → DtOk t (row i r)) : ∃ xs : List EvT, xs.length = n ∧ (∀ x ∈ xs, True) ∧ CSame (.sl .fro e 7 n row) ((tEv e' xs).er .fro) :=
  list_of decEv zEv 7 (fun f hf => by
    obtain ⟨z0, hz0, _⟩ := (hf 0 .i rfl).int
    obtain ⟨z1, hz1, _⟩ := (hf 1 .i rfl).int
    obtain ⟨z2, hz2, _⟩ := (hf 2 .i rfl).int
    obtain ⟨z3, hz3, _⟩ := (hf 3 .i rfl).int
    obtain ⟨z4, hz4, _⟩ := (hf 4 .i rfl).int
    obtain ⟨z5, hz5, _⟩ := (hf 5 .i rfl).int
    obtain ⟨z6, hz6, _⟩ := (hf 6 .i rfl).int
    refine ⟨(z0, z1, z2, z3, z4, z5, z6), trivial, fun r hr => ?_⟩
    match r, hr with
    | 0, _ => rw [hz0]; exact rfl
    | 1, _ => rw [hz1]; exact rfl
    | 2, _ => rw [hz2]; exact rfl
    | 3, _ => rw [hz3]; exact rfl
    | 4, _ => rw [hz4]; exact rfl
    | 5, _ => rw [hz5]; exact rfl
    | 6, _ => rw [hz6]; exact rfl
    ) h
end Go.Proofs.Ytjlphbhmjicdhaa
end

section
/- A job of a shelf. -/
namespace Go.Proofs.Ytjlphbhmjicdhaa
open Go Go.Tr
set_option maxRecDepth 100000
set_option maxHeartbeats 4000000
set_option linter.unusedVariables false
set_option linter.unusedSimpArgs false
theorem szJobS_run (e : Nat) (xs : List JobT) (m : Int) (h0 : 0 ≤ m) (h1 : m ≤ 1048576) (hn : xs.length ≤ 9223372036854775807) : RunT Try.prog 55 [.one (.c (tJob e xs)), ti m] [] [oi (szJ xs m)] [] := by
  refine RunT.of_vc gOk Try.func55 rfl rfl (Nat.le_of_ble_eq_true rfl) (by repeat' (first | exact trivial | exact ⟨_, rfl, Nat.le_refl _⟩ | exact Nat.le_of_ble_eq_true rfl | refine And.intro ?_ ?_)) (Nat.le_of_ble_eq_true rfl) rfl (fun F hE => ?_)
  repeat' (first | exact trivial | refine BS.a (fun h => ?_) (fun h => ?_) | refine BS.n ?_ | refine BS.s (fun h => ?_) (fun h => ?_) | refine And.intro ?_ ?_ | exact Need.au | exact OutS.whole rfl rfl | refine ListO.go gOk hE ?_)
  all_goals (refine Need.mk ?_; unfold szJ; first | rw [if_pos (by omega)] | rw [if_neg (by omega)])
theorem toJobX (x0 : Bool) (x1 : Int) (x2 : Int) (x3 : Int) (x4 : Int) (x5 : Int) (x6 : Int) (x7 : Int) (x8 : Int) (x9 : Int) (x10 : Int) (x11 : Int) (x12 : Int) (x13 : Int) (x14 : Int) (x15 : Int) (x16 : Bool) (x17 : Int) (x18 : Int) (x19 : Int) (x20 : Int) : RunT Try.prog 118 [.agg [.c (.lit (.bool x0)), .c (.lit (.int .i64 x1)), .c (.lit (.int .i64 x2)), .c (.lit (.int .i64 x3)), .c (.lit (.int .i64 x4)), .c (.lit (.int .i64 x5)), .c (.lit (.int .i64 x6)), .c (.lit (.int .i64 x7)), .c (.lit (.int .i64 x8)), .c (.lit (.int .i64 x9)), .c (.lit (.int .i64 x10)), .c (.lit (.int .i64 x11)), .c (.lit (.int .i64 x12)), .c (.lit (.int .i64 x13)), .c (.lit (.int .i64 x14)), .c (.lit (.int .i64 x15)), .c (.lit (.bool x16)), .c (.lit (.int .i64 x17)), .c (.lit (.int .i64 x18)), .c (.lit (.int .i64 x19)), .c (.lit (.int .i64 x20))]] [] [.agg [.lit (.bool x0), .lit (.int .i64 x1), .lit (.int .i64 x2), .lit (.int .i64 x3), .lit (.int .i64 x4), .lit (.int .i64 x5), .lit (.int .i64 x6), .lit (.int .i64 x7), .lit (.int .i64 x8), .lit (.int .i64 x9), .lit (.int .i64 x10), .lit (.int .i64 x11), .lit (.int .i64 x12), .lit (.int .i64 x13), .lit (.int .i64 x14), .lit (.int .i64 x15), .lit (.bool x16), .lit (.int .i64 x17), .lit (.int .i64 x18), .lit (.int .i64 x19), .lit (.int .i64 x20)]] [] := by
  have c1 : RunT Try.prog 139 [.agg [.c (.lit (.int .i64 x1)), .c (.lit (.int .i64 x2)), .c (.lit (.int .i64 x3)), .c (.lit (.int .i64 x4))]] [] [.agg [.lit (.int .i64 x1), .lit (.int .i64 x2), .lit (.int .i64 x3), .lit (.int .i64 x4)]] [] := toOp_run (x1, x2, x3, x4)
  have c2 : RunT Try.prog 167 [.agg [.c (.lit (.int .i64 x7)), .c (.lit (.int .i64 x8)), .c (.lit (.int .i64 x9)), .c (.lit (.int .i64 x10)), .c (.lit (.int .i64 x11)), .c (.lit (.int .i64 x12)), .c (.lit (.int .i64 x13)), .c (.lit (.int .i64 x14)), .c (.lit (.int .i64 x15)), .c (.lit (.bool x16))]] [] [.agg [.lit (.int .i64 x7), .lit (.int .i64 x8), .lit (.int .i64 x9), .lit (.int .i64 x10), .lit (.int .i64 x11), .lit (.int .i64 x12), .lit (.int .i64 x13), .lit (.int .i64 x14), .lit (.int .i64 x15), .lit (.bool x16)]] [] := toSub_run (x7, x8, x9, x10, x11, x12, x13, x14, x15, x16)
  refine RunT.of_vc gOk Try.func118 rfl rfl (Nat.le_of_ble_eq_true rfl) (by repeat' (first | exact trivial | exact ⟨_, rfl, Nat.le_refl _⟩ | exact Nat.le_of_ble_eq_true rfl | refine And.intro ?_ ?_)) (Nat.le_of_ble_eq_true rfl) rfl (fun F hE => ?_)
  repeat' (first | exact trivial | refine BS.a (fun h => ?_) (fun h => ?_) | refine BS.n ?_ | refine BS.s (fun h => ?_) (fun h => ?_) | refine And.intro ?_ ?_ | exact Need.au | exact OutS.whole rfl rfl | refine OpK.ca c1 hE ?_ | refine OpK.ca c2 hE ?_ | refine ListO.go gOk hE ?_)
theorem toJob_run (x : JobT) : RunT Try.prog 118 [aJob x] [] [oJob x] [] := toJobX x.1 x.2.1 x.2.2.1 x.2.2.2.1 x.2.2.2.2.1 x.2.2.2.2.2.1 x.2.2.2.2.2.2.1 x.2.2.2.2.2.2.2.1 x.2.2.2.2.2.2.2.2.1 x.2.2.2.2.2.2.2.2.2.1 x.2.2.2.2.2.2.2.2.2.2.1 x.2.2.2.2.2.2.2.2.2.2.2.1 x.2.2.2.2.2.2.2.2.2.2.2.2.1 x.2.2.2.2.2.2.2.2.2.2.2.2.2.1 x.2.2.2.2.2.2.2.2.2.2.2.2.2.2.1 x.2.2.2.2.2.2.2.2.2.2.2.2.2.2.2.1 x.2.2.2.2.2.2.2.2.2.2.2.2.2.2.2.2.1 x.2.2.2.2.2.2.2.2.2.2.2.2.2.2.2.2.2.1 x.2.2.2.2.2.2.2.2.2.2.2.2.2.2.2.2.2.2.1 x.2.2.2.2.2.2.2.2.2.2.2.2.2.2.2.2.2.2.2.1 x.2.2.2.2.2.2.2.2.2.2.2.2.2.2.2.2.2.2.2.2
theorem eqJobX (x0 : Bool) (x1 : Int) (x2 : Int) (x3 : Int) (x4 : Int) (x5 : Int) (x6 : Int) (x7 : Int) (x8 : Int) (x9 : Int) (x10 : Int) (x11 : Int) (x12 : Int) (x13 : Int) (x14 : Int) (x15 : Int) (x16 : Bool) (x17 : Int) (x18 : Int) (x19 : Int) (x20 : Int) : RunT Try.prog 100 [.agg [.c (.lit (.bool x0)), .c (.lit (.int .i64 x1)), .c (.lit (.int .i64 x2)), .c (.lit (.int .i64 x3)), .c (.lit (.int .i64 x4)), .c (.lit (.int .i64 x5)), .c (.lit (.int .i64 x6)), .c (.lit (.int .i64 x7)), .c (.lit (.int .i64 x8)), .c (.lit (.int .i64 x9)), .c (.lit (.int .i64 x10)), .c (.lit (.int .i64 x11)), .c (.lit (.int .i64 x12)), .c (.lit (.int .i64 x13)), .c (.lit (.int .i64 x14)), .c (.lit (.int .i64 x15)), .c (.lit (.bool x16)), .c (.lit (.int .i64 x17)), .c (.lit (.int .i64 x18)), .c (.lit (.int .i64 x19)), .c (.lit (.int .i64 x20))], .agg [.c (.lit (.bool x0)), .c (.lit (.int .i64 x1)), .c (.lit (.int .i64 x2)), .c (.lit (.int .i64 x3)), .c (.lit (.int .i64 x4)), .c (.lit (.int .i64 x5)), .c (.lit (.int .i64 x6)), .c (.lit (.int .i64 x7)), .c (.lit (.int .i64 x8)), .c (.lit (.int .i64 x9)), .c (.lit (.int .i64 x10)), .c (.lit (.int .i64 x11)), .c (.lit (.int .i64 x12)), .c (.lit (.int .i64 x13)), .c (.lit (.int .i64 x14)), .c (.lit (.int .i64 x15)), .c (.lit (.bool x16)), .c (.lit (.int .i64 x17)), .c (.lit (.int .i64 x18)), .c (.lit (.int .i64 x19)), .c (.lit (.int .i64 x20))]] [] [ob true] [] := by
  have c1 : RunT Try.prog 147 [.agg [.c (.lit (.int .i64 x1)), .c (.lit (.int .i64 x2)), .c (.lit (.int .i64 x3)), .c (.lit (.int .i64 x4))], .agg [.c (.lit (.int .i64 x1)), .c (.lit (.int .i64 x2)), .c (.lit (.int .i64 x3)), .c (.lit (.int .i64 x4))]] [] [ob true] [] := eqOp_run (x1, x2, x3, x4)
  have c2 : RunT Try.prog 148 [.agg [.c (.lit (.int .i64 x7)), .c (.lit (.int .i64 x8)), .c (.lit (.int .i64 x9)), .c (.lit (.int .i64 x10)), .c (.lit (.int .i64 x11)), .c (.lit (.int .i64 x12)), .c (.lit (.int .i64 x13)), .c (.lit (.int .i64 x14)), .c (.lit (.int .i64 x15)), .c (.lit (.bool x16))], .agg [.c (.lit (.int .i64 x7)), .c (.lit (.int .i64 x8)), .c (.lit (.int .i64 x9)), .c (.lit (.int .i64 x10)), .c (.lit (.int .i64 x11)), .c (.lit (.int .i64 x12)), .c (.lit (.int .i64 x13)), .c (.lit (.int .i64 x14)), .c (.lit (.int .i64 x15)), .c (.lit (.bool x16))]] [] [ob true] [] := eqSub_run (x7, x8, x9, x10, x11, x12, x13, x14, x15, x16)
  refine RunT.of_vc gOk Try.func100 rfl rfl (Nat.le_of_ble_eq_true rfl) (by repeat' (first | exact trivial | exact ⟨_, rfl, Nat.le_refl _⟩ | exact Nat.le_of_ble_eq_true rfl | refine And.intro ?_ ?_)) (Nat.le_of_ble_eq_true rfl) rfl (fun F hE => ?_)
  repeat' (first | exact trivial | refine BS.a (fun h => ?_) (fun h => ?_) | refine BS.n ?_ | refine BS.s (fun h => ?_) (fun h => ?_) | refine And.intro ?_ ?_ | exact Need.au | exact OutS.whole rfl rfl | refine OpK.ca c1 hE ?_ | refine OpK.ca c2 hE ?_ | refine ListO.go gOk hE ?_)
  all_goals first | exact absurd rfl h | (simp_all; done) | trace_state
theorem eqJob_run (x : JobT) : RunT Try.prog 100 [aJob x, aJob x] [] [ob true] [] := eqJobX x.1 x.2.1 x.2.2.1 x.2.2.2.1 x.2.2.2.2.1 x.2.2.2.2.2.1 x.2.2.2.2.2.2.1 x.2.2.2.2.2.2.2.1 x.2.2.2.2.2.2.2.2.1 x.2.2.2.2.2.2.2.2.2.1 x.2.2.2.2.2.2.2.2.2.2.1 x.2.2.2.2.2.2.2.2.2.2.2.1 x.2.2.2.2.2.2.2.2.2.2.2.2.1 x.2.2.2.2.2.2.2.2.2.2.2.2.2.1 x.2.2.2.2.2.2.2.2.2.2.2.2.2.2.1 x.2.2.2.2.2.2.2.2.2.2.2.2.2.2.2.1 x.2.2.2.2.2.2.2.2.2.2.2.2.2.2.2.2.1 x.2.2.2.2.2.2.2.2.2.2.2.2.2.2.2.2.2.1 x.2.2.2.2.2.2.2.2.2.2.2.2.2.2.2.2.2.2.1 x.2.2.2.2.2.2.2.2.2.2.2.2.2.2.2.2.2.2.2.1 x.2.2.2.2.2.2.2.2.2.2.2.2.2.2.2.2.2.2.2.2
end Go.Proofs.Ytjlphbhmjicdhaa
end

section
/- The jobs of a shelf. -/
namespace Go.Proofs.Ytjlphbhmjicdhaa
open Go Go.Tr
set_option maxRecDepth 100000
set_option maxHeartbeats 4000000
set_option linter.unusedVariables false
set_option linter.unusedSimpArgs false
theorem toJobS_run (e : Nat) (xs : List JobT) (hn : xs.length ≤ 1048576) : RunT Try.prog 61 [.one (.c (tJob e xs))] [] [.one (tJob 118 xs)] [] := by
  refine RunT.of_vc gOk Try.func61 rfl rfl (Nat.le_of_ble_eq_true rfl) (by repeat' (first | exact trivial | exact ⟨_, rfl, Nat.le_refl _⟩ | exact Nat.le_of_ble_eq_true rfl | refine And.intro ?_ ?_)) (Nat.le_of_ble_eq_true rfl) rfl (fun F hE => ?_)
  repeat' (first | exact trivial | refine BS.a (fun h => ?_) (fun h => ?_) | refine BS.n ?_ | refine BS.s (fun h => ?_) (fun h => ?_) | refine And.intro ?_ ?_ | exact Need.au | exact OutS.whole rfl rfl | refine ListO.go gOk hE ?_)
  refine CodeK.loop gOk hE (fun i : Nat => ⟨[(0, vr 1000000 xs.length), (3, vr 7 xs.length), (4, vi i)], [(7, rJob .own true 118 (fl zJob xs i)), (1000000, rJob .fro false e xs)]⟩) (fun i => i ≤ xs.length) (fun i => xs.length - i) 0 (by refine leT.of ?_ ?_ rfl <;> repeat' (first | exact trivial | refine And.intro rfl ?_ | refine And.intro (by simp [fl_zero] <;> rfl) ?_)) (Nat.zero_le _) ?_
  rintro i hi
  have hl := fl_len zJob xs i hi
  repeat' (first | exact trivial | refine BS.a (fun h => ?_) (fun h => ?_) | refine BS.n ?_ | refine BS.s (fun h => ?_) (fun h => ?_) | refine And.intro ?_ ?_ | exact Need.au | exact OutS.whole rfl rfl | refine ListO.go gOk hE ?_)
  · refine OpK.call (toJob_run (xs.getD i zJob)) rfl rfl rfl rfl hE (by repeat' (first | exact PsA.lit _ | exact PsA.ref rfl rfl | constructor)) rfl rfl ?_
    repeat' (first | exact trivial | refine BS.a (fun h => ?_) (fun h => ?_) | refine BS.n ?_ | refine BS.s (fun h => ?_) (fun h => ?_) | refine And.intro ?_ ?_ | exact Need.au | exact OutS.whole rfl rfl | refine ListO.go gOk hE ?_)
    all_goals (refine ⟨i + 1, (by refine leT.of ?_ ?_ rfl <;> repeat' (first | exact trivial | refine And.intro rfl ?_ | refine And.intro (by first | (rw [← fl_set zJob xs i (by omega)]; rfl) | (simp <;> rfl)) ?_)), ?_⟩; (refine And.intro ?_ ?_) <;> (first | omega | (dsimp only; omega) | trivial))
  · exact OutS.whole hl.symm (by rw [fl_full _ _ _ (by omega) hi]; rfl)
theorem eqJobS_run (e : Nat) (xs : List JobT) (hn : xs.length ≤ 4000000) : RunT Try.prog 45 [.one (.c (tJob e xs)), .one (.c (tJob e xs))] [] [ob true] [] := by
  refine RunT.of_vc gOk Try.func45 rfl rfl (Nat.le_of_ble_eq_true rfl) (by repeat' (first | exact trivial | exact ⟨_, rfl, Nat.le_refl _⟩ | exact Nat.le_of_ble_eq_true rfl | refine And.intro ?_ ?_)) (Nat.le_of_ble_eq_true rfl) rfl (fun F hE => ?_)
  repeat' (first | exact trivial | refine BS.a (fun h => ?_) (fun h => ?_) | refine BS.n ?_ | refine BS.s (fun h => ?_) (fun h => ?_) | refine And.intro ?_ ?_ | exact Need.au | exact OutS.whole rfl rfl | refine ListO.go gOk hE ?_)
  · refine CodeK.loop gOk hE (fun i : Nat => ⟨[(0, vr 1000000 xs.length), (1, vr 1000001 xs.length), (5, vi i)], [(1000000, rJob .fro false e xs), (1000001, rJob .fro false e xs)]⟩) (fun i => i ≤ xs.length) (fun i => xs.length - i) 0 (by refine leT.of ?_ ?_ rfl <;> repeat' (first | exact trivial | refine And.intro rfl ?_ | refine And.intro (by simp) ?_)) (Nat.zero_le _) ?_
    rintro i hi
    repeat' (first | exact trivial | refine BS.a (fun h => ?_) (fun h => ?_) | refine BS.n ?_ | refine BS.s (fun h => ?_) (fun h => ?_) | refine And.intro ?_ ?_ | exact Need.au | exact OutS.whole rfl rfl | refine ListO.go gOk hE ?_)
    · refine CodeK.draw gOk hE rfl (fun _ _ h => h) (.take 0 (.take 1 (.take 2 (.take 4 (.take 5 (.take 6 (.alt 3 (.alt 7 (.alt 8 (.take 9 .done) .stop) .stop) (.alt 7 (.alt 3 (.alt 8 (.take 9 .done) .stop) .stop) .stop)))))))) (by decide +kernel) ?_
      repeat' (first | exact trivial | refine BS.a (fun h => ?_) (fun h => ?_) | refine BS.n ?_ | refine BS.s (fun h => ?_) (fun h => ?_) | refine And.intro ?_ ?_ | exact Need.au | exact OutS.whole rfl rfl | refine ListO.go gOk hE ?_)
      all_goals (refine OpK.call (eqJob_run _) rfl rfl rfl rfl hE (by repeat' (first | exact PsA.lit _ | exact PsA.ref rfl rfl | constructor)) rfl rfl ?_)
      all_goals (repeat' (first | exact trivial | refine BS.a (fun h => ?_) (fun h => ?_) | refine BS.n ?_ | refine BS.s (fun h => ?_) (fun h => ?_) | refine And.intro ?_ ?_ | exact Need.au | exact OutS.whole rfl rfl | refine ListO.go gOk hE ?_))
      all_goals (refine ⟨i + 1, (by refine leT.of ?_ ?_ rfl <;> repeat' (first | exact trivial | refine And.intro rfl ?_ | refine And.intro (by simp) ?_)), ?_⟩; (refine And.intro ?_ ?_) <;> (first | omega | (dsimp only; omega) | trivial))
theorem Jobs_of {e e' n : Nat} {row : Nat → Nat → C} (hn : n ≤ 9223372036854775807) (h : ∀ i r t, i < n → ([Dt.b, Dt.i, Dt.i, Dt.i, Dt.i, Dt.i, Dt.i, Dt.i, Dt.i, Dt.i, Dt.i, Dt.i, Dt.i, Dt.i, Dt.i, Dt.i, Dt.b, Dt.i, Dt.i, Dt.i, Dt.i] : List Dt)[r]? = some t → DtOk t (row i r)) : ∃ xs : List JobT, xs.length = n ∧ (∀ x ∈ xs, True) ∧ CSame (.sl .fro e 21 n row) ((tJob e' xs).er .fro) :=
  list_of decJob zJob 21 (fun f hf => by
    obtain ⟨z0, hz0⟩ := (hf 0 .b rfl).bool
    obtain ⟨z1, hz1, _⟩ := (hf 1 .i rfl).int
    obtain ⟨z2, hz2, _⟩ := (hf 2 .i rfl).int
    obtain ⟨z3, hz3, _⟩ := (hf 3 .i rfl).int
    obtain ⟨z4, hz4, _⟩ := (hf 4 .i rfl).int
    obtain ⟨z5, hz5, _⟩ := (hf 5 .i rfl).int
    obtain ⟨z6, hz6, _⟩ := (hf 6 .i rfl).int
    obtain ⟨z7, hz7, _⟩ := (hf 7 .i rfl).int
    obtain ⟨z8, hz8, _⟩ := (hf 8 .i rfl).int
    obtain ⟨z9, hz9, _⟩ := (hf 9 .i rfl).int
    obtain ⟨z10, hz10, _⟩ := (hf 10 .i rfl).int
    obtain ⟨z11, hz11, _⟩ := (hf 11 .i rfl).int
    obtain ⟨z12, hz12, _⟩ := (hf 12 .i rfl).int
    obtain ⟨z13, hz13, _⟩ := (hf 13 .i rfl).int
    obtain ⟨z14, hz14, _⟩ := (hf 14 .i rfl).int
    obtain ⟨z15, hz15, _⟩ := (hf 15 .i rfl).int
    obtain ⟨z16, hz16⟩ := (hf 16 .b rfl).bool
    obtain ⟨z17, hz17, _⟩ := (hf 17 .i rfl).int
    obtain ⟨z18, hz18, _⟩ := (hf 18 .i rfl).int
    obtain ⟨z19, hz19, _⟩ := (hf 19 .i rfl).int
    obtain ⟨z20, hz20, _⟩ := (hf 20 .i rfl).int
    refine ⟨(z0, z1, z2, z3, z4, z5, z6, z7, z8, z9, z10, z11, z12, z13, z14, z15, z16, z17, z18, z19, z20), trivial, fun r hr => ?_⟩
    match r, hr with
    | 0, _ => rw [hz0]; exact rfl
    | 1, _ => rw [hz1]; exact rfl
    | 2, _ => rw [hz2]; exact rfl
    | 3, _ => rw [hz3]; exact rfl
    | 4, _ => rw [hz4]; exact rfl
    | 5, _ => rw [hz5]; exact rfl
    | 6, _ => rw [hz6]; exact rfl
    | 7, _ => rw [hz7]; exact rfl
    | 8, _ => rw [hz8]; exact rfl
    | 9, _ => rw [hz9]; exact rfl
    | 10, _ => rw [hz10]; exact rfl
    | 11, _ => rw [hz11]; exact rfl
    | 12, _ => rw [hz12]; exact rfl
    | 13, _ => rw [hz13]; exact rfl
    | 14, _ => rw [hz14]; exact rfl
    | 15, _ => rw [hz15]; exact rfl
    | 16, _ => rw [hz16]; exact rfl
    | 17, _ => rw [hz17]; exact rfl
    | 18, _ => rw [hz18]; exact rfl
    | 19, _ => rw [hz19]; exact rfl
    | 20, _ => rw [hz20]; exact rfl
    | r + 21, hr => exact absurd hr (by omega)
    ) h
end Go.Proofs.Ytjlphbhmjicdhaa
end

section
namespace Go.Proofs.Ytjlphbhmjicdhaa
open Go Go.Tr
set_option maxRecDepth 100000
set_option maxHeartbeats 4000000
set_option linter.unusedVariables false
set_option linter.unusedSimpArgs false
theorem rows_of {e e' n : Nat} {row : Nat → Nat → C} (hn : n ≤ 9223372036854775807) (h : ∀ i r t, i < n → ([Dt.i, Dt.i] : List Dt)[r]? = some t → DtOk t (row i r)) : ∃ xs : List Row, xs.length = n ∧ (∀ x ∈ xs, (-9223372036854775808 ≤ x.1 ∧ x.1 ≤ 9223372036854775807) ∧ -9223372036854775808 ≤ x.2 ∧ x.2 ≤ 9223372036854775807) ∧ CSame (.sl .fro e 2 n row) ((tR e' xs).er .fro) :=
  list_of decR (0, 0) 2 (fun f hf => by
    obtain ⟨z, hz, h1, h2⟩ := (hf 0 .i rfl).int
    obtain ⟨y, hy, h3, h4⟩ := (hf 1 .i rfl).int
    refine ⟨(z, y), ⟨⟨h1, h2⟩, h3, h4⟩, fun r hr => ?_⟩
    match r, hr with
    | 0, _ => rw [hz]; exact rfl
    | 1, _ => rw [hy]; exact rfl) h
theorem llists_of {e e' e2 n : Nat} {row : Nat → Nat → C} (hn : n ≤ 9223372036854775807) (h : ∀ i r t, i < n → ([Dt.sl [.i, .i]] : List Dt)[r]? = some t → DtOk t (row i r)) : ∃ xs : List (List Row), xs.length = n ∧ (∀ x ∈ xs, x.length ≤ 9223372036854775807 ∧ ∀ z ∈ x, (-9223372036854775808 ≤ z.1 ∧ z.1 ≤ 9223372036854775807) ∧ -9223372036854775808 ≤ z.2 ∧ z.2 ≤ 9223372036854775807) ∧ CSame (.sl .fro e 1 n row) ((tLL e2 e' xs).er .fro) :=
  list_of decLL [] 1 (fun f hf => by
    obtain ⟨e3, n2, row2, hz, h1, h2⟩ := (hf 0 (.sl [.i, .i]) rfl).slice
    obtain ⟨xs, k1, k2, k3⟩ := rows_of (e := e3) (e' := e2) h1 h2
    refine ⟨xs, ⟨by omega, k2⟩, fun r hr => ?_⟩
    obtain rfl : r = 0 := by omega
    rw [hz]; exact k3) h
end Go.Proofs.Ytjlphbhmjicdhaa
end

section
namespace Go.Proofs.Ytjlphbhmjicdhaa
open Go Go.Tr
set_option maxRecDepth 100000
set_option maxHeartbeats 4000000
set_option linter.unusedVariables false
set_option linter.unusedSimpArgs false
theorem szJ_le {α : Type} {xs : List α} {m : Int} (h : ¬ szJ xs m < 0) : (xs.length : Int) ≤ m ∧ szJ xs m = m - xs.length := by
  unfold szJ at h ⊢; split at h <;> split <;> omega
theorem getD_leR {α : Type} {xs : List (List α)} {m : Nat} (h : ∀ x ∈ xs, x.length ≤ m) (i : Nat) : (xs.getD i []).length ≤ m := by
  by_cases hi : i < xs.length
  · have : xs.getD i [] = xs[i] := by simp [List.getD, hi]
    rw [this]; exact h _ (List.getElem_mem hi)
  · simp [List.getD, hi]
theorem szPinS_run (e : Nat) (xs : List PinT) (m : Int) (h0 : 0 ≤ m) (h1 : m ≤ 1048576) (hn : xs.length ≤ 9223372036854775807) : RunT Try.prog 159 [.one (.c (tPin e xs)), ti m] [] [oi (szJ xs m)] [] := by
  refine RunT.of_vc gOk Try.func159 rfl rfl (Nat.le_of_ble_eq_true rfl) (by repeat' (first | exact trivial | exact ⟨_, rfl, Nat.le_refl _⟩ | exact Nat.le_of_ble_eq_true rfl | refine And.intro ?_ ?_)) (Nat.le_of_ble_eq_true rfl) rfl (fun F hE => ?_)
  repeat' (first | exact trivial | refine BS.a (fun h => ?_) (fun h => ?_) | refine BS.n ?_ | refine BS.s (fun h => ?_) (fun h => ?_) | refine And.intro ?_ ?_ | exact Need.au | exact OutS.whole rfl rfl | refine ListO.go gOk hE ?_)
  all_goals (refine Need.mk ?_; unfold szJ; first | rw [if_pos (by omega)] | rw [if_neg (by omega)])
theorem toPin_run (x : PinT) : RunT Try.prog 204 [aPin x] [] [oPin x] [] := by
  refine RunT.of_vc gOk Try.func204 rfl rfl (Nat.le_of_ble_eq_true rfl) (by repeat' (first | exact trivial | exact ⟨_, rfl, Nat.le_refl _⟩ | exact Nat.le_of_ble_eq_true rfl | refine And.intro ?_ ?_)) (Nat.le_of_ble_eq_true rfl) rfl (fun F hE => ?_)
  repeat' (first | exact trivial | refine BS.a (fun h => ?_) (fun h => ?_) | refine BS.n ?_ | refine BS.s (fun h => ?_) (fun h => ?_) | refine And.intro ?_ ?_ | exact Need.au | exact OutS.whole rfl rfl | refine ListO.go gOk hE ?_)
theorem eqPin_run (x : PinT) : RunT Try.prog 196 [aPin x, aPin x] [] [ob true] [] := by
  refine RunT.of_vc gOk Try.func196 rfl rfl (Nat.le_of_ble_eq_true rfl) (by repeat' (first | exact trivial | exact ⟨_, rfl, Nat.le_refl _⟩ | exact Nat.le_of_ble_eq_true rfl | refine And.intro ?_ ?_)) (Nat.le_of_ble_eq_true rfl) rfl (fun F hE => ?_)
  repeat' (first | exact trivial | refine BS.a (fun h => ?_) (fun h => ?_) | refine BS.n ?_ | refine BS.s (fun h => ?_) (fun h => ?_) | refine And.intro ?_ ?_ | exact Need.au | exact OutS.whole rfl rfl | refine ListO.go gOk hE ?_)
  all_goals exact absurd rfl h
theorem toPinS_run (e : Nat) (xs : List PinT) (hn : xs.length ≤ 1048576) : RunT Try.prog 165 [.one (.c (tPin e xs))] [] [.one (tPin 240 xs)] [] := by
  refine RunT.of_vc gOk Try.func165 rfl rfl (Nat.le_of_ble_eq_true rfl) (by repeat' (first | exact trivial | exact ⟨_, rfl, Nat.le_refl _⟩ | exact Nat.le_of_ble_eq_true rfl | refine And.intro ?_ ?_)) (Nat.le_of_ble_eq_true rfl) rfl (fun F hE => ?_)
  repeat' (first | exact trivial | refine BS.a (fun h => ?_) (fun h => ?_) | refine BS.n ?_ | refine BS.s (fun h => ?_) (fun h => ?_) | refine And.intro ?_ ?_ | exact Need.au | exact OutS.whole rfl rfl | refine ListO.go gOk hE ?_)
  refine CodeK.loop gOk hE (fun i : Nat => ⟨[(0, vr 1000000 xs.length), (3, vr 7 xs.length), (4, vi i)], [(7, rPin .own true 240 (fl zPin xs i)), (1000000, rPin .fro false e xs)]⟩) (fun i => i ≤ xs.length) (fun i => xs.length - i) 0 (by refine leT.of ?_ ?_ rfl <;> repeat' (first | exact trivial | refine And.intro rfl ?_ | refine And.intro (by simp [fl_zero] <;> rfl) ?_)) (Nat.zero_le _) ?_
  rintro i hi
  have hl := fl_len zPin xs i hi
  repeat' (first | exact trivial | refine BS.a (fun h => ?_) (fun h => ?_) | refine BS.n ?_ | refine BS.s (fun h => ?_) (fun h => ?_) | refine And.intro ?_ ?_ | exact Need.au | exact OutS.whole rfl rfl | refine ListO.go gOk hE ?_)
  · refine OpK.call (toPin_run (xs.getD i zPin)) rfl rfl rfl rfl hE (by repeat' (first | exact PsA.lit _ | exact PsA.ref rfl rfl | constructor)) rfl rfl ?_
    repeat' (first | exact trivial | refine BS.a (fun h => ?_) (fun h => ?_) | refine BS.n ?_ | refine BS.s (fun h => ?_) (fun h => ?_) | refine And.intro ?_ ?_ | exact Need.au | exact OutS.whole rfl rfl | refine ListO.go gOk hE ?_)
    all_goals (refine ⟨i + 1, (by refine leT.of ?_ ?_ rfl <;> repeat' (first | exact trivial | refine And.intro rfl ?_ | refine And.intro (by first | (rw [← fl_set zPin xs i (by omega)]; rfl) | (simp <;> rfl)) ?_)), ?_⟩; (refine And.intro ?_ ?_) <;> (first | omega | (dsimp only; omega) | trivial))
  · exact OutS.whole hl.symm (by rw [fl_full _ _ _ (by omega) hi]; rfl)
theorem eqPinS_run (e : Nat) (xs : List PinT) (hn : xs.length ≤ 4000000) : RunT Try.prog 145 [.one (.c (tPin e xs)), .one (.c (tPin e xs))] [] [ob true] [] := by
  refine RunT.of_vc gOk Try.func145 rfl rfl (Nat.le_of_ble_eq_true rfl) (by repeat' (first | exact trivial | exact ⟨_, rfl, Nat.le_refl _⟩ | exact Nat.le_of_ble_eq_true rfl | refine And.intro ?_ ?_)) (Nat.le_of_ble_eq_true rfl) rfl (fun F hE => ?_)
  repeat' (first | exact trivial | refine BS.a (fun h => ?_) (fun h => ?_) | refine BS.n ?_ | refine BS.s (fun h => ?_) (fun h => ?_) | refine And.intro ?_ ?_ | exact Need.au | exact OutS.whole rfl rfl | refine ListO.go gOk hE ?_)
  · refine CodeK.loop gOk hE (fun i : Nat => ⟨[(0, vr 1000000 xs.length), (1, vr 1000001 xs.length), (5, vi i)], [(1000000, rPin .fro false e xs), (1000001, rPin .fro false e xs)]⟩) (fun i => i ≤ xs.length) (fun i => xs.length - i) 0 (by refine leT.of ?_ ?_ rfl <;> repeat' (first | exact trivial | refine And.intro rfl ?_ | refine And.intro (by simp) ?_)) (Nat.zero_le _) ?_
    rintro i hi
    repeat' (first | exact trivial | refine BS.a (fun h => ?_) (fun h => ?_) | refine BS.n ?_ | refine BS.s (fun h => ?_) (fun h => ?_) | refine And.intro ?_ ?_ | exact Need.au | exact OutS.whole rfl rfl | refine ListO.go gOk hE ?_)
    · refine CodeK.draw gOk hE rfl (fun _ _ h => h) (.take 0 (.take 1 (.take 2 (.take 4 (.take 5 (.take 6 (.alt 3 (.alt 7 (.alt 8 (.take 9 .done) .stop) .stop) (.alt 7 (.alt 3 (.alt 8 (.take 9 .done) .stop) .stop) .stop)))))))) (by decide +kernel) ?_
      repeat' (first | exact trivial | refine BS.a (fun h => ?_) (fun h => ?_) | refine BS.n ?_ | refine BS.s (fun h => ?_) (fun h => ?_) | refine And.intro ?_ ?_ | exact Need.au | exact OutS.whole rfl rfl | refine ListO.go gOk hE ?_)
      all_goals (refine OpK.call (eqPin_run _) rfl rfl rfl rfl hE (by repeat' (first | exact PsA.lit _ | exact PsA.ref rfl rfl | constructor)) rfl rfl ?_)
      all_goals (repeat' (first | exact trivial | refine BS.a (fun h => ?_) (fun h => ?_) | refine BS.n ?_ | refine BS.s (fun h => ?_) (fun h => ?_) | refine And.intro ?_ ?_ | exact Need.au | exact OutS.whole rfl rfl | refine ListO.go gOk hE ?_))
      all_goals (refine ⟨i + 1, (by refine leT.of ?_ ?_ rfl <;> repeat' (first | exact trivial | refine And.intro rfl ?_ | refine And.intro (by simp) ?_)), ?_⟩; (refine And.intro ?_ ?_) <;> (first | omega | (dsimp only; omega) | trivial))
theorem Pins_of {e e' n : Nat} {row : Nat → Nat → C} (hn : n ≤ 9223372036854775807) (h : ∀ i r t, i < n → ([Dt.b, Dt.i, Dt.b, Dt.i] : List Dt)[r]? = some t → DtOk t (row i r)) : ∃ xs : List PinT, xs.length = n ∧ (∀ x ∈ xs, True ∧ (-9223372036854775808 ≤ x.2.1 ∧ x.2.1 ≤ 9223372036854775807) ∧ True ∧ (-9223372036854775808 ≤ x.2.2.2 ∧ x.2.2.2 ≤ 9223372036854775807)) ∧ CSame (.sl .fro e 4 n row) ((tPin e' xs).er .fro) :=
  list_of decPin zPin 4 (fun f hf => by
    obtain ⟨z0, hz0⟩ := (hf 0 .b rfl).bool
    obtain ⟨z1, hz1, w1⟩ := (hf 1 .i rfl).int
    obtain ⟨z2, hz2⟩ := (hf 2 .b rfl).bool
    obtain ⟨z3, hz3, w3⟩ := (hf 3 .i rfl).int
    refine ⟨(z0, z1, z2, z3), ⟨trivial, w1, trivial, w3⟩, fun r hr => ?_⟩
    match r, hr with
    | 0, _ => rw [hz0]; exact rfl
    | 1, _ => rw [hz1]; exact rfl
    | 2, _ => rw [hz2]; exact rfl
    | 3, _ => rw [hz3]; exact rfl
    ) h
theorem Pin_eq (p q : PinT) (w : World) : (Op.equalIn 10000 240 (.agg (vPin p).toArray) (.agg (vPin q).toArray)).run Try.prog w = .ok (decide (p = q)) w := by
  have u3 := Try.underlying3
  have u4 := Try.underlying4
  obtain ⟨p0, p1, p2, p3⟩ := p
  obtain ⟨q0, q1, q2, q3⟩ := q
  have hS : Try.prog.underlying 240 = some (.struct (Try.prog.fieldsOf 240)) := by kernel_rfl
  rw [show (10000 : Nat) = 9999 + 1 from rfl, run_equalIn_agg w 9999 240 _ _ hS (by kernel_rfl)]
  simp only [Program.fieldsOf, Try.underlying240]
  go_simp
  by_cases h0 : p0 = q0 <;> by_cases h1 : p1 = q1 <;> by_cases h2 : p2 = q2 <;> by_cases h3 : p3 = q3 <;> simp [h0, h1, h2, h3]
abbrev aClk (E : Int) (e : Nat) (ps : List PinT) : TAg := .agg [.c (.lit (.int .i64 E)), .c (tPin e ps)]
theorem szClock_run (E : Int) (e : Nat) (ps : List PinT) (m : Int) (h0 : 0 ≤ m) (h1 : m ≤ 1048576) (hn : ps.length ≤ 9223372036854775807) : RunT Try.prog 110 [aClk E e ps, ti m] [] [oi (szJ ps m)] [] := by
  have c0 := szPinS_run e ps m h0 h1 hn
  refine RunT.of_vc gOk Try.func110 rfl rfl (Nat.le_of_ble_eq_true rfl) (by repeat' (first | exact trivial | exact ⟨_, rfl, Nat.le_refl _⟩ | exact Nat.le_of_ble_eq_true rfl | refine And.intro ?_ ?_)) (Nat.le_of_ble_eq_true rfl) rfl (fun F hE => ?_)
  repeat' (first | exact trivial | refine BS.a (fun h => ?_) (fun h => ?_) | refine BS.n ?_ | refine BS.s (fun h => ?_) (fun h => ?_) | refine And.intro ?_ ?_ | exact Need.au | exact OutS.whole rfl rfl | refine OpK.ca c0 hE ?_ | refine ListO.go gOk hE ?_)
  all_goals (refine Need.mk ?_; unfold szJ at *; split at * <;> simp_all <;> omega)
theorem toClock_run (E : Int) (e : Nat) (ps : List PinT) (hn : ps.length ≤ 1048576) : RunT Try.prog 116 [aClk E e ps] [] [.agg [.lit (.int .i64 E), tPin 240 ps]] [] := by
  have c0 := toPinS_run e ps hn
  refine RunT.of_vc gOk Try.func116 rfl rfl (Nat.le_of_ble_eq_true rfl) (by repeat' (first | exact trivial | exact ⟨_, rfl, Nat.le_refl _⟩ | exact Nat.le_of_ble_eq_true rfl | refine And.intro ?_ ?_)) (Nat.le_of_ble_eq_true rfl) rfl (fun F hE => ?_)
  repeat' (first | exact trivial | refine BS.a (fun h => ?_) (fun h => ?_) | refine BS.n ?_ | refine BS.s (fun h => ?_) (fun h => ?_) | refine And.intro ?_ ?_ | exact Need.au | exact OutS.whole rfl rfl | refine OpK.ca c0 hE ?_ | refine ListO.go gOk hE ?_)
theorem eqClock_run (E : Int) (e : Nat) (ps : List PinT) (hn : ps.length ≤ 4000000) : RunT Try.prog 98 [aClk E e ps, aClk E e ps] [] [ob true] [] := by
  have c0 := eqPinS_run e ps hn
  refine RunT.of_vc gOk Try.func98 rfl rfl (Nat.le_of_ble_eq_true rfl) (by repeat' (first | exact trivial | exact ⟨_, rfl, Nat.le_refl _⟩ | exact Nat.le_of_ble_eq_true rfl | refine And.intro ?_ ?_)) (Nat.le_of_ble_eq_true rfl) rfl (fun F hE => ?_)
  repeat' (first | exact trivial | refine BS.a (fun h => ?_) (fun h => ?_) | refine BS.n ?_ | refine BS.s (fun h => ?_) (fun h => ?_) | refine And.intro ?_ ?_ | exact Need.au | exact OutS.whole rfl rfl | refine OpK.ca c0 hE ?_ | refine ListO.go gOk hE ?_)
  all_goals (first | exact absurd rfl ‹_› | simp_all)
end Go.Proofs.Ytjlphbhmjicdhaa
end
