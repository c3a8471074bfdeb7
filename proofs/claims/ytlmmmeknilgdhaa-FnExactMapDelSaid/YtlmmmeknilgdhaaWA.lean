import Derived.Test.YtlmmmeknilgdhaaVQ
import Derived.Test.YtlmmmeknilgdhaaTy
namespace Go.Proofs.Ytlmmmeknilgdhaa
open Go Go.Tr
set_option maxRecDepth 100000
set_option linter.unusedVariables false
set_option linter.unusedSimpArgs false
def encI (x : Int) (_ : Nat) : TC := .lit (.int .i64 x)
def decI : List Value → Option Int
  | [.int .i64 x] => some x
  | _ => none
def tI (xs : List Int) : TC := .sl 3 1 Int encI decI 0 xs
abbrev rI (o : RO) (f : Bool) (xs : List Int) : TRoot := .ty o f 3 1 Int encI decI 0 xs
abbrev SpanT := Int × Int
def encSpan (x : SpanT) : Nat → TC
  | 0 => .lit (.int .i64 x.1)
  | _ => .lit (.int .i64 x.2)
def decSpan : List Value → Option SpanT
  | [.int .i64 x0, .int .i64 x1] => some (x0, x1)
  | _ => none
abbrev zSpan : SpanT := (0, 0)
def tSpan (e : Nat) (xs : List SpanT) : TC := .sl e 2 SpanT encSpan decSpan zSpan xs
abbrev rSpan (o : RO) (f : Bool) (e : Nat) (xs : List SpanT) : TRoot := .ty o f e 2 SpanT encSpan decSpan zSpan xs
abbrev aSpan (x : SpanT) : TAg := .agg [.c (.lit (.int .i64 x.1)), .c (.lit (.int .i64 x.2))]
abbrev oSpan (x : SpanT) : TAr := .agg [.lit (.int .i64 x.1), .lit (.int .i64 x.2)]
abbrev EvT := Int × Int × Int × Int × Int × Int × Int
def encEv (x : EvT) : Nat → TC
  | 0 => .lit (.int .i64 x.1)
  | 1 => .lit (.int .i64 x.2.1)
  | 2 => .lit (.int .i64 x.2.2.1)
  | 3 => .lit (.int .i64 x.2.2.2.1)
  | 4 => .lit (.int .i64 x.2.2.2.2.1)
  | 5 => .lit (.int .i64 x.2.2.2.2.2.1)
  | _ => .lit (.int .i64 x.2.2.2.2.2.2)
def decEv : List Value → Option EvT
  | [.int .i64 x0, .int .i64 x1, .int .i64 x2, .int .i64 x3, .int .i64 x4, .int .i64 x5, .int .i64 x6] => some (x0, x1, x2, x3, x4, x5, x6)
  | _ => none
abbrev zEv : EvT := (0, 0, 0, 0, 0, 0, 0)
def tEv (e : Nat) (xs : List EvT) : TC := .sl e 7 EvT encEv decEv zEv xs
abbrev rEv (o : RO) (f : Bool) (e : Nat) (xs : List EvT) : TRoot := .ty o f e 7 EvT encEv decEv zEv xs
abbrev aEv (x : EvT) : TAg := .agg [.c (.lit (.int .i64 x.1)), .c (.lit (.int .i64 x.2.1)), .c (.lit (.int .i64 x.2.2.1)), .c (.lit (.int .i64 x.2.2.2.1)), .c (.lit (.int .i64 x.2.2.2.2.1)), .c (.lit (.int .i64 x.2.2.2.2.2.1)), .c (.lit (.int .i64 x.2.2.2.2.2.2))]
abbrev oEv (x : EvT) : TAr := .agg [.lit (.int .i64 x.1), .lit (.int .i64 x.2.1), .lit (.int .i64 x.2.2.1), .lit (.int .i64 x.2.2.2.1), .lit (.int .i64 x.2.2.2.2.1), .lit (.int .i64 x.2.2.2.2.2.1), .lit (.int .i64 x.2.2.2.2.2.2)]
abbrev KVT := Int × Int
def encKV (x : KVT) : Nat → TC
  | 0 => .lit (.int .i64 x.1)
  | _ => .lit (.int .i64 x.2)
def decKV : List Value → Option KVT
  | [.int .i64 x0, .int .i64 x1] => some (x0, x1)
  | _ => none
abbrev zKV : KVT := (0, 0)
def tKV (e : Nat) (xs : List KVT) : TC := .sl e 2 KVT encKV decKV zKV xs
abbrev rKV (o : RO) (f : Bool) (e : Nat) (xs : List KVT) : TRoot := .ty o f e 2 KVT encKV decKV zKV xs
abbrev aKV (x : KVT) : TAg := .agg [.c (.lit (.int .i64 x.1)), .c (.lit (.int .i64 x.2))]
abbrev oKV (x : KVT) : TAr := .agg [.lit (.int .i64 x.1), .lit (.int .i64 x.2)]
abbrev SeenT := Int × Int
def encSeen (x : SeenT) : Nat → TC
  | 0 => .lit (.int .i64 x.1)
  | _ => .lit (.int .i64 x.2)
def decSeen : List Value → Option SeenT
  | [.int .i64 x0, .int .i64 x1] => some (x0, x1)
  | _ => none
abbrev zSeen : SeenT := (0, 0)
def tSeen (e : Nat) (xs : List SeenT) : TC := .sl e 2 SeenT encSeen decSeen zSeen xs
abbrev rSeen (o : RO) (f : Bool) (e : Nat) (xs : List SeenT) : TRoot := .ty o f e 2 SeenT encSeen decSeen zSeen xs
abbrev aSeen (x : SeenT) : TAg := .agg [.c (.lit (.int .i64 x.1)), .c (.lit (.int .i64 x.2))]
abbrev oSeen (x : SeenT) : TAr := .agg [.lit (.int .i64 x.1), .lit (.int .i64 x.2)]
abbrev WriteT := Int × Bool × Int
def encWrite (x : WriteT) : Nat → TC
  | 0 => .lit (.int .i64 x.1)
  | 1 => .lit (.bool x.2.1)
  | _ => .lit (.int .i64 x.2.2)
def decWrite : List Value → Option WriteT
  | [.int .i64 x0, .bool x1, .int .i64 x2] => some (x0, x1, x2)
  | _ => none
abbrev zWrite : WriteT := (0, false, 0)
def tWrite (e : Nat) (xs : List WriteT) : TC := .sl e 3 WriteT encWrite decWrite zWrite xs
abbrev rWrite (o : RO) (f : Bool) (e : Nat) (xs : List WriteT) : TRoot := .ty o f e 3 WriteT encWrite decWrite zWrite xs
abbrev aWrite (x : WriteT) : TAg := .agg [.c (.lit (.int .i64 x.1)), .c (.lit (.bool x.2.1)), .c (.lit (.int .i64 x.2.2))]
abbrev oWrite (x : WriteT) : TAr := .agg [.lit (.int .i64 x.1), .lit (.bool x.2.1), .lit (.int .i64 x.2.2)]
abbrev NodeT := Int × Int × Int
def encNode (x : NodeT) : Nat → TC
  | 0 => .lit (.int .i64 x.1)
  | 1 => .lit (.int .i64 x.2.1)
  | _ => .lit (.int .i64 x.2.2)
def decNode : List Value → Option NodeT
  | [.int .i64 x0, .int .i64 x1, .int .i64 x2] => some (x0, x1, x2)
  | _ => none
abbrev zNode : NodeT := (0, 0, 0)
def tNode (e : Nat) (xs : List NodeT) : TC := .sl e 3 NodeT encNode decNode zNode xs
abbrev rNode (o : RO) (f : Bool) (e : Nat) (xs : List NodeT) : TRoot := .ty o f e 3 NodeT encNode decNode zNode xs
abbrev aNode (x : NodeT) : TAg := .agg [.c (.lit (.int .i64 x.1)), .c (.lit (.int .i64 x.2.1)), .c (.lit (.int .i64 x.2.2))]
abbrev oNode (x : NodeT) : TAr := .agg [.lit (.int .i64 x.1), .lit (.int .i64 x.2.1), .lit (.int .i64 x.2.2)]
abbrev BktT := Int × Int × Int
def encBkt (x : BktT) : Nat → TC
  | 0 => .lit (.int .i64 x.1)
  | 1 => .lit (.int .i64 x.2.1)
  | _ => .lit (.int .i64 x.2.2)
def decBkt : List Value → Option BktT
  | [.int .i64 x0, .int .i64 x1, .int .i64 x2] => some (x0, x1, x2)
  | _ => none
abbrev zBkt : BktT := (0, 0, 0)
def tBkt (e : Nat) (xs : List BktT) : TC := .sl e 3 BktT encBkt decBkt zBkt xs
abbrev rBkt (o : RO) (f : Bool) (e : Nat) (xs : List BktT) : TRoot := .ty o f e 3 BktT encBkt decBkt zBkt xs
abbrev aBkt (x : BktT) : TAg := .agg [.c (.lit (.int .i64 x.1)), .c (.lit (.int .i64 x.2.1)), .c (.lit (.int .i64 x.2.2))]
abbrev oBkt (x : BktT) : TAr := .agg [.lit (.int .i64 x.1), .lit (.int .i64 x.2.1), .lit (.int .i64 x.2.2)]
abbrev CmdT := Int × Int × Int
def encCmd (x : CmdT) : Nat → TC
  | 0 => .lit (.int .i64 x.1)
  | 1 => .lit (.int .i64 x.2.1)
  | _ => .lit (.int .i64 x.2.2)
def decCmd : List Value → Option CmdT
  | [.int .i64 x0, .int .i64 x1, .int .i64 x2] => some (x0, x1, x2)
  | _ => none
abbrev zCmd : CmdT := (0, 0, 0)
def tCmd (e : Nat) (xs : List CmdT) : TC := .sl e 3 CmdT encCmd decCmd zCmd xs
abbrev rCmd (o : RO) (f : Bool) (e : Nat) (xs : List CmdT) : TRoot := .ty o f e 3 CmdT encCmd decCmd zCmd xs
abbrev aCmd (x : CmdT) : TAg := .agg [.c (.lit (.int .i64 x.1)), .c (.lit (.int .i64 x.2.1)), .c (.lit (.int .i64 x.2.2))]
abbrev oCmd (x : CmdT) : TAr := .agg [.lit (.int .i64 x.1), .lit (.int .i64 x.2.1), .lit (.int .i64 x.2.2)]
abbrev OpT := Int × Int × Int × Int
def encOp (x : OpT) : Nat → TC
  | 0 => .lit (.int .i64 x.1)
  | 1 => .lit (.int .i64 x.2.1)
  | 2 => .lit (.int .i64 x.2.2.1)
  | _ => .lit (.int .i64 x.2.2.2)
def decOp : List Value → Option OpT
  | [.int .i64 x0, .int .i64 x1, .int .i64 x2, .int .i64 x3] => some (x0, x1, x2, x3)
  | _ => none
abbrev zOp : OpT := (0, 0, 0, 0)
def tOp (e : Nat) (xs : List OpT) : TC := .sl e 4 OpT encOp decOp zOp xs
abbrev rOp (o : RO) (f : Bool) (e : Nat) (xs : List OpT) : TRoot := .ty o f e 4 OpT encOp decOp zOp xs
abbrev aOp (x : OpT) : TAg := .agg [.c (.lit (.int .i64 x.1)), .c (.lit (.int .i64 x.2.1)), .c (.lit (.int .i64 x.2.2.1)), .c (.lit (.int .i64 x.2.2.2))]
abbrev oOp (x : OpT) : TAr := .agg [.lit (.int .i64 x.1), .lit (.int .i64 x.2.1), .lit (.int .i64 x.2.2.1), .lit (.int .i64 x.2.2.2)]
abbrev SubT := Int × Int × Int × Int × Int × Int × Int × Int × Int × Bool
def encSub (x : SubT) : Nat → TC
  | 0 => .lit (.int .i64 x.1)
  | 1 => .lit (.int .i64 x.2.1)
  | 2 => .lit (.int .i64 x.2.2.1)
  | 3 => .lit (.int .i64 x.2.2.2.1)
  | 4 => .lit (.int .i64 x.2.2.2.2.1)
  | 5 => .lit (.int .i64 x.2.2.2.2.2.1)
  | 6 => .lit (.int .i64 x.2.2.2.2.2.2.1)
  | 7 => .lit (.int .i64 x.2.2.2.2.2.2.2.1)
  | 8 => .lit (.int .i64 x.2.2.2.2.2.2.2.2.1)
  | _ => .lit (.bool x.2.2.2.2.2.2.2.2.2)
def decSub : List Value → Option SubT
  | [.int .i64 x0, .int .i64 x1, .int .i64 x2, .int .i64 x3, .int .i64 x4, .int .i64 x5, .int .i64 x6, .int .i64 x7, .int .i64 x8, .bool x9] => some (x0, x1, x2, x3, x4, x5, x6, x7, x8, x9)
  | _ => none
abbrev zSub : SubT := (0, 0, 0, 0, 0, 0, 0, 0, 0, false)
def tSub (e : Nat) (xs : List SubT) : TC := .sl e 10 SubT encSub decSub zSub xs
abbrev rSub (o : RO) (f : Bool) (e : Nat) (xs : List SubT) : TRoot := .ty o f e 10 SubT encSub decSub zSub xs
abbrev aSub (x : SubT) : TAg := .agg [.c (.lit (.int .i64 x.1)), .c (.lit (.int .i64 x.2.1)), .c (.lit (.int .i64 x.2.2.1)), .c (.lit (.int .i64 x.2.2.2.1)), .c (.lit (.int .i64 x.2.2.2.2.1)), .c (.lit (.int .i64 x.2.2.2.2.2.1)), .c (.lit (.int .i64 x.2.2.2.2.2.2.1)), .c (.lit (.int .i64 x.2.2.2.2.2.2.2.1)), .c (.lit (.int .i64 x.2.2.2.2.2.2.2.2.1)), .c (.lit (.bool x.2.2.2.2.2.2.2.2.2))]
abbrev oSub (x : SubT) : TAr := .agg [.lit (.int .i64 x.1), .lit (.int .i64 x.2.1), .lit (.int .i64 x.2.2.1), .lit (.int .i64 x.2.2.2.1), .lit (.int .i64 x.2.2.2.2.1), .lit (.int .i64 x.2.2.2.2.2.1), .lit (.int .i64 x.2.2.2.2.2.2.1), .lit (.int .i64 x.2.2.2.2.2.2.2.1), .lit (.int .i64 x.2.2.2.2.2.2.2.2.1), .lit (.bool x.2.2.2.2.2.2.2.2.2)]
abbrev PinT := Bool × Int × Bool × Int
def encPin (x : PinT) : Nat → TC
  | 0 => .lit (.bool x.1)
  | 1 => .lit (.int .i64 x.2.1)
  | 2 => .lit (.bool x.2.2.1)
  | _ => .lit (.int .i64 x.2.2.2)
def decPin : List Value → Option PinT
  | [.bool x0, .int .i64 x1, .bool x2, .int .i64 x3] => some (x0, x1, x2, x3)
  | _ => none
abbrev zPin : PinT := (false, 0, false, 0)
def tPin (e : Nat) (xs : List PinT) : TC := .sl e 4 PinT encPin decPin zPin xs
abbrev rPin (o : RO) (f : Bool) (e : Nat) (xs : List PinT) : TRoot := .ty o f e 4 PinT encPin decPin zPin xs
abbrev aPin (x : PinT) : TAg := .agg [.c (.lit (.bool x.1)), .c (.lit (.int .i64 x.2.1)), .c (.lit (.bool x.2.2.1)), .c (.lit (.int .i64 x.2.2.2))]
abbrev oPin (x : PinT) : TAr := .agg [.lit (.bool x.1), .lit (.int .i64 x.2.1), .lit (.bool x.2.2.1), .lit (.int .i64 x.2.2.2)]
abbrev ResT := Bool × Int
def encRes (x : ResT) : Nat → TC
  | 0 => .lit (.bool x.1)
  | _ => .lit (.int .i64 x.2)
def decRes : List Value → Option ResT
  | [.bool x0, .int .i64 x1] => some (x0, x1)
  | _ => none
abbrev zRes : ResT := (false, 0)
def tRes (e : Nat) (xs : List ResT) : TC := .sl e 2 ResT encRes decRes zRes xs
abbrev rRes (o : RO) (f : Bool) (e : Nat) (xs : List ResT) : TRoot := .ty o f e 2 ResT encRes decRes zRes xs
abbrev aRes (x : ResT) : TAg := .agg [.c (.lit (.bool x.1)), .c (.lit (.int .i64 x.2))]
abbrev oRes (x : ResT) : TAr := .agg [.lit (.bool x.1), .lit (.int .i64 x.2)]
abbrev vSpan (x : SpanT) : List Value := [Value.int .i64 (x.1), Value.int .i64 (x.2)]
abbrev vEv (x : EvT) : List Value := [Value.int .i64 (x.1), Value.int .i64 (x.2.1), Value.int .i64 (x.2.2.1), Value.int .i64 (x.2.2.2.1), Value.int .i64 (x.2.2.2.2.1), Value.int .i64 (x.2.2.2.2.2.1), Value.int .i64 (x.2.2.2.2.2.2)]
abbrev vKV (x : KVT) : List Value := [Value.int .i64 (x.1), Value.int .i64 (x.2)]
abbrev vSeen (x : SeenT) : List Value := [Value.int .i64 (x.1), Value.int .i64 (x.2)]
abbrev vWrite (x : WriteT) : List Value := [Value.int .i64 (x.1), Value.bool (x.2.1), Value.int .i64 (x.2.2)]
abbrev vNode (x : NodeT) : List Value := [Value.int .i64 (x.1), Value.int .i64 (x.2.1), Value.int .i64 (x.2.2)]
abbrev vBkt (x : BktT) : List Value := [Value.int .i64 (x.1), Value.int .i64 (x.2.1), Value.int .i64 (x.2.2)]
abbrev vCmd (x : CmdT) : List Value := [Value.int .i64 (x.1), Value.int .i64 (x.2.1), Value.int .i64 (x.2.2)]
abbrev vOp (x : OpT) : List Value := [Value.int .i64 (x.1), Value.int .i64 (x.2.1), Value.int .i64 (x.2.2.1), Value.int .i64 (x.2.2.2)]
abbrev vSub (x : SubT) : List Value := [Value.int .i64 (x.1), Value.int .i64 (x.2.1), Value.int .i64 (x.2.2.1), Value.int .i64 (x.2.2.2.1), Value.int .i64 (x.2.2.2.2.1), Value.int .i64 (x.2.2.2.2.2.1), Value.int .i64 (x.2.2.2.2.2.2.1), Value.int .i64 (x.2.2.2.2.2.2.2.1), Value.int .i64 (x.2.2.2.2.2.2.2.2.1), Value.bool (x.2.2.2.2.2.2.2.2.2)]
abbrev vPin (x : PinT) : List Value := [Value.bool (x.1), Value.int .i64 (x.2.1), Value.bool (x.2.2.1), Value.int .i64 (x.2.2.2)]
abbrev vRes (x : ResT) : List Value := [Value.bool (x.1), Value.int .i64 (x.2)]
def gT : Gt := ⟨tyT, 4, fun e =>
  if e = 3 then some ⟨Int, encI, decI, 0⟩
  else if e = 9999999 then some ⟨SpanT, encSpan, decSpan, zSpan⟩
  else if e = 201 then some ⟨EvT, encEv, decEv, zEv⟩
  else if e = 136 then some ⟨KVT, encKV, decKV, zKV⟩
  else if e = 9999999 then some ⟨SeenT, encSeen, decSeen, zSeen⟩
  else if e = 39 then some ⟨WriteT, encWrite, decWrite, zWrite⟩
  else if e = 50 then some ⟨CmdT, encCmd, decCmd, zCmd⟩
  else if e = 284 then some ⟨PinT, encPin, decPin, zPin⟩
  else if e = 47 then some ⟨ResT, encRes, decRes, zRes⟩
  else none⟩
theorem gOk : GOk Try.prog gT := ⟨tyOk, Try.underlying4⟩
def ti (x : Int) : TAg := .one (.c (.lit (.int .i64 x)))
def tb (x : Bool) : TAg := .one (.c (.lit (.bool x)))
def oi (x : Int) : TAr := .one (.lit (.int .i64 x))
def ob (x : Bool) : TAr := .one (.lit (.bool x))
abbrev vi (x : Int) : V := .a (.lit (.int .i64 x))
abbrev vb (x : Bool) : V := .a (.lit (.bool x))
abbrev vr (κ n : Nat) : V := .a (.ref κ 0 n)
theorem drop_cons {α : Type} {xs : List α} {i : Nat} (d : α) (h : i < xs.length) : xs.drop i = xs.getD i d :: xs.drop (i + 1) := by
  rw [List.drop_eq_getElem_cons h]; simp [List.getD, h]
def szI {α : Type} (xs : List α) (m : Int) : Int := if m - xs.length < 0 then -1 else m - xs.length
theorem szI_le {α : Type} {xs : List α} {m : Int} (h : ¬ szI xs m < 0) : (xs.length : Int) ≤ m ∧ szI xs m = m - xs.length := by
  unfold szI at h ⊢; split at h <;> split <;> omega
def fl {α : Type} (d : α) (xs : List α) (i : Nat) : List α := xs.take i ++ List.replicate (xs.length - i) d
theorem fl_zero {α : Type} (d : α) (xs : List α) : fl d xs 0 = List.replicate xs.length d := by simp [fl]
theorem fl_len {α : Type} (d : α) (xs : List α) (i : Nat) (h : i ≤ xs.length) : (fl d xs i).length = xs.length := by simp [fl]; omega
theorem fl_full {α : Type} (d : α) (xs : List α) (i : Nat) (h : ¬ i < xs.length) (h' : i ≤ xs.length) : fl d xs i = xs := by
  have : i = xs.length := by omega
  subst this; simp [fl]
theorem fl_set {α : Type} (d : α) (xs : List α) (i : Nat) (h : i < xs.length) : (fl d xs i).set i (xs.getD i d) = fl d xs (i + 1) := by
  apply List.ext_getElem
  · simp [fl]; omega
  · intro j h1 h2
    simp only [List.getElem_set, fl, List.getElem_append, List.length_take, List.getElem_take, List.getElem_replicate]
    by_cases e : i = j
    · subst e; simp [List.getD, h]
      omega
    · simp only [e, if_false]
      by_cases hj : j < i
      · rw [dif_pos (by omega), dif_pos (by omega)]
      · rw [dif_neg (by omega), dif_neg (by omega)]
end Go.Proofs.Ytlmmmeknilgdhaa
