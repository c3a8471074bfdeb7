import Derived.Test.YtlnlogflhagocaaVQ
import Derived.Test.YtlnlogflhagocaaTy
import Derived.Test.YtlnlogflhagocaaVZ
import Derived.Test.YtlnlogflhagocaaPB
import Derived.Test.YtlnlogflhagocaaPD
import Derived.Test.YtlnlogflhagocaaUN
import Derived.Test.YtlnlogflhagocaaVW
import Derived.Lib.AppendZerosOnto
import Derived.Lib.Overlaps
import Derived.Laws.Externs
import Derived.Test.YtlnlogflhagocaaUP
import Derived.Test.YtlnlogflhagocaaVU
section
namespace Go.Proofs.Ytlnlogflhagocaa
open Go Go.Tr
set_option maxRecDepth 100000
set_option linter.unusedVariables false
set_option linter.unusedSimpArgs false
def encI (x : Int) (_ : Nat) : TC := .lit (.int .i64 x)
def decI : List Value → Option Int
  | [.int .i64 x] => some x
  | _ => none
def tI (xs : List Int) : TC := .sl 3 1 Int encI decI 0 xs
abbrev rI (o : RO) (f : Bool) (xs : List Int) : TRoot := .ty o f 3 1 Int encI decI 0 xs
abbrev SpanT := Int × Int
def encSpan (x : SpanT) : Nat → TC
  | 0 => .lit (.int .i64 x.1)
  | _ => .lit (.int .i64 x.2)
def decSpan : List Value → Option SpanT
  | [.int .i64 x0, .int .i64 x1] => some (x0, x1)
  | _ => none
abbrev zSpan : SpanT := (0, 0)
def tSpan (e : Nat) (xs : List SpanT) : TC := .sl e 2 SpanT encSpan decSpan zSpan xs
abbrev rSpan (o : RO) (f : Bool) (e : Nat) (xs : List SpanT) : TRoot := .ty o f e 2 SpanT encSpan decSpan zSpan xs
abbrev aSpan (x : SpanT) : TAg := .agg [.c (.lit (.int .i64 x.1)), .c (.lit (.int .i64 x.2))]
abbrev oSpan (x : SpanT) : TAr := .agg [.lit (.int .i64 x.1), .lit (.int .i64 x.2)]
abbrev EvT := Int × Int × Int × Int × Int × Int × Int
def encEv (x : EvT) : Nat → TC
  | 0 => .lit (.int .i64 x.1)
  | 1 => .lit (.int .i64 x.2.1)
  | 2 => .lit (.int .i64 x.2.2.1)
  | 3 => .lit (.int .i64 x.2.2.2.1)
  | 4 => .lit (.int .i64 x.2.2.2.2.1)
  | 5 => .lit (.int .i64 x.2.2.2.2.2.1)
  | _ => .lit (.int .i64 x.2.2.2.2.2.2)
def decEv : List Value → Option EvT
  | [.int .i64 x0, .int .i64 x1, .int .i64 x2, .int .i64 x3, .int .i64 x4, .int .i64 x5, .int .i64 x6] => some (x0, x1, x2, x3, x4, x5, x6)
  | _ => none
abbrev zEv : EvT := (0, 0, 0, 0, 0, 0, 0)
def tEv (e : Nat) (xs : List EvT) : TC := .sl e 7 EvT encEv decEv zEv xs
abbrev rEv (o : RO) (f : Bool) (e : Nat) (xs : List EvT) : TRoot := .ty o f e 7 EvT encEv decEv zEv xs
abbrev aEv (x : EvT) : TAg := .agg [.c (.lit (.int .i64 x.1)), .c (.lit (.int .i64 x.2.1)), .c (.lit (.int .i64 x.2.2.1)), .c (.lit (.int .i64 x.2.2.2.1)), .c (.lit (.int .i64 x.2.2.2.2.1)), .c (.lit (.int .i64 x.2.2.2.2.2.1)), .c (.lit (.int .i64 x.2.2.2.2.2.2))]
abbrev oEv (x : EvT) : TAr := .agg [.lit (.int .i64 x.1), .lit (.int .i64 x.2.1), .lit (.int .i64 x.2.2.1), .lit (.int .i64 x.2.2.2.1), .lit (.int .i64 x.2.2.2.2.1), .lit (.int .i64 x.2.2.2.2.2.1), .lit (.int .i64 x.2.2.2.2.2.2)]
abbrev KVT := Int × Int
def encKV (x : KVT) : Nat → TC
  | 0 => .lit (.int .i64 x.1)
  | _ => .lit (.int .i64 x.2)
def decKV : List Value → Option KVT
  | [.int .i64 x0, .int .i64 x1] => some (x0, x1)
  | _ => none
abbrev zKV : KVT := (0, 0)
def tKV (e : Nat) (xs : List KVT) : TC := .sl e 2 KVT encKV decKV zKV xs
abbrev rKV (o : RO) (f : Bool) (e : Nat) (xs : List KVT) : TRoot := .ty o f e 2 KVT encKV decKV zKV xs
abbrev aKV (x : KVT) : TAg := .agg [.c (.lit (.int .i64 x.1)), .c (.lit (.int .i64 x.2))]
abbrev oKV (x : KVT) : TAr := .agg [.lit (.int .i64 x.1), .lit (.int .i64 x.2)]
abbrev SeenT := Int × Int
def encSeen (x : SeenT) : Nat → TC
  | 0 => .lit (.int .i64 x.1)
  | _ => .lit (.int .i64 x.2)
def decSeen : List Value → Option SeenT
  | [.int .i64 x0, .int .i64 x1] => some (x0, x1)
  | _ => none
abbrev zSeen : SeenT := (0, 0)
def tSeen (e : Nat) (xs : List SeenT) : TC := .sl e 2 SeenT encSeen decSeen zSeen xs
abbrev rSeen (o : RO) (f : Bool) (e : Nat) (xs : List SeenT) : TRoot := .ty o f e 2 SeenT encSeen decSeen zSeen xs
abbrev aSeen (x : SeenT) : TAg := .agg [.c (.lit (.int .i64 x.1)), .c (.lit (.int .i64 x.2))]
abbrev oSeen (x : SeenT) : TAr := .agg [.lit (.int .i64 x.1), .lit (.int .i64 x.2)]
abbrev WriteT := Int × Bool × Int
def encWrite (x : WriteT) : Nat → TC
  | 0 => .lit (.int .i64 x.1)
  | 1 => .lit (.bool x.2.1)
  | _ => .lit (.int .i64 x.2.2)
def decWrite : List Value → Option WriteT
  | [.int .i64 x0, .bool x1, .int .i64 x2] => some (x0, x1, x2)
  | _ => none
abbrev zWrite : WriteT := (0, false, 0)
def tWrite (e : Nat) (xs : List WriteT) : TC := .sl e 3 WriteT encWrite decWrite zWrite xs
abbrev rWrite (o : RO) (f : Bool) (e : Nat) (xs : List WriteT) : TRoot := .ty o f e 3 WriteT encWrite decWrite zWrite xs
abbrev aWrite (x : WriteT) : TAg := .agg [.c (.lit (.int .i64 x.1)), .c (.lit (.bool x.2.1)), .c (.lit (.int .i64 x.2.2))]
abbrev oWrite (x : WriteT) : TAr := .agg [.lit (.int .i64 x.1), .lit (.bool x.2.1), .lit (.int .i64 x.2.2)]
abbrev NodeT := Int × Int × Int
def encNode (x : NodeT) : Nat → TC
  | 0 => .lit (.int .i64 x.1)
  | 1 => .lit (.int .i64 x.2.1)
  | _ => .lit (.int .i64 x.2.2)
def decNode : List Value → Option NodeT
  | [.int .i64 x0, .int .i64 x1, .int .i64 x2] => some (x0, x1, x2)
  | _ => none
abbrev zNode : NodeT := (0, 0, 0)
def tNode (e : Nat) (xs : List NodeT) : TC := .sl e 3 NodeT encNode decNode zNode xs
abbrev rNode (o : RO) (f : Bool) (e : Nat) (xs : List NodeT) : TRoot := .ty o f e 3 NodeT encNode decNode zNode xs
abbrev aNode (x : NodeT) : TAg := .agg [.c (.lit (.int .i64 x.1)), .c (.lit (.int .i64 x.2.1)), .c (.lit (.int .i64 x.2.2))]
abbrev oNode (x : NodeT) : TAr := .agg [.lit (.int .i64 x.1), .lit (.int .i64 x.2.1), .lit (.int .i64 x.2.2)]
abbrev BktT := Int × Int × Int
def encBkt (x : BktT) : Nat → TC
  | 0 => .lit (.int .i64 x.1)
  | 1 => .lit (.int .i64 x.2.1)
  | _ => .lit (.int .i64 x.2.2)
def decBkt : List Value → Option BktT
  | [.int .i64 x0, .int .i64 x1, .int .i64 x2] => some (x0, x1, x2)
  | _ => none
abbrev zBkt : BktT := (0, 0, 0)
def tBkt (e : Nat) (xs : List BktT) : TC := .sl e 3 BktT encBkt decBkt zBkt xs
abbrev rBkt (o : RO) (f : Bool) (e : Nat) (xs : List BktT) : TRoot := .ty o f e 3 BktT encBkt decBkt zBkt xs
abbrev aBkt (x : BktT) : TAg := .agg [.c (.lit (.int .i64 x.1)), .c (.lit (.int .i64 x.2.1)), .c (.lit (.int .i64 x.2.2))]
abbrev oBkt (x : BktT) : TAr := .agg [.lit (.int .i64 x.1), .lit (.int .i64 x.2.1), .lit (.int .i64 x.2.2)]
abbrev CmdT := Int × Int × Int
def encCmd (x : CmdT) : Nat → TC
  | 0 => .lit (.int .i64 x.1)
  | 1 => .lit (.int .i64 x.2.1)
  | _ => .lit (.int .i64 x.2.2)
def decCmd : List Value → Option CmdT
  | [.int .i64 x0, .int .i64 x1, .int .i64 x2] => some (x0, x1, x2)
  | _ => none
abbrev zCmd : CmdT := (0, 0, 0)
def tCmd (e : Nat) (xs : List CmdT) : TC := .sl e 3 CmdT encCmd decCmd zCmd xs
abbrev rCmd (o : RO) (f : Bool) (e : Nat) (xs : List CmdT) : TRoot := .ty o f e 3 CmdT encCmd decCmd zCmd xs
abbrev aCmd (x : CmdT) : TAg := .agg [.c (.lit (.int .i64 x.1)), .c (.lit (.int .i64 x.2.1)), .c (.lit (.int .i64 x.2.2))]
abbrev oCmd (x : CmdT) : TAr := .agg [.lit (.int .i64 x.1), .lit (.int .i64 x.2.1), .lit (.int .i64 x.2.2)]
abbrev OpT := Int × Int × Int × Int
def encOp (x : OpT) : Nat → TC
  | 0 => .lit (.int .i64 x.1)
  | 1 => .lit (.int .i64 x.2.1)
  | 2 => .lit (.int .i64 x.2.2.1)
  | _ => .lit (.int .i64 x.2.2.2)
def decOp : List Value → Option OpT
  | [.int .i64 x0, .int .i64 x1, .int .i64 x2, .int .i64 x3] => some (x0, x1, x2, x3)
  | _ => none
abbrev zOp : OpT := (0, 0, 0, 0)
def tOp (e : Nat) (xs : List OpT) : TC := .sl e 4 OpT encOp decOp zOp xs
abbrev rOp (o : RO) (f : Bool) (e : Nat) (xs : List OpT) : TRoot := .ty o f e 4 OpT encOp decOp zOp xs
abbrev aOp (x : OpT) : TAg := .agg [.c (.lit (.int .i64 x.1)), .c (.lit (.int .i64 x.2.1)), .c (.lit (.int .i64 x.2.2.1)), .c (.lit (.int .i64 x.2.2.2))]
abbrev oOp (x : OpT) : TAr := .agg [.lit (.int .i64 x.1), .lit (.int .i64 x.2.1), .lit (.int .i64 x.2.2.1), .lit (.int .i64 x.2.2.2)]
abbrev SubT := Int × Int × Int × Int × Int × Int × Int × Int × Int × Bool
def encSub (x : SubT) : Nat → TC
  | 0 => .lit (.int .i64 x.1)
  | 1 => .lit (.int .i64 x.2.1)
  | 2 => .lit (.int .i64 x.2.2.1)
  | 3 => .lit (.int .i64 x.2.2.2.1)
  | 4 => .lit (.int .i64 x.2.2.2.2.1)
  | 5 => .lit (.int .i64 x.2.2.2.2.2.1)
  | 6 => .lit (.int .i64 x.2.2.2.2.2.2.1)
  | 7 => .lit (.int .i64 x.2.2.2.2.2.2.2.1)
  | 8 => .lit (.int .i64 x.2.2.2.2.2.2.2.2.1)
  | _ => .lit (.bool x.2.2.2.2.2.2.2.2.2)
def decSub : List Value → Option SubT
  | [.int .i64 x0, .int .i64 x1, .int .i64 x2, .int .i64 x3, .int .i64 x4, .int .i64 x5, .int .i64 x6, .int .i64 x7, .int .i64 x8, .bool x9] => some (x0, x1, x2, x3, x4, x5, x6, x7, x8, x9)
  | _ => none
abbrev zSub : SubT := (0, 0, 0, 0, 0, 0, 0, 0, 0, false)
def tSub (e : Nat) (xs : List SubT) : TC := .sl e 10 SubT encSub decSub zSub xs
abbrev rSub (o : RO) (f : Bool) (e : Nat) (xs : List SubT) : TRoot := .ty o f e 10 SubT encSub decSub zSub xs
abbrev aSub (x : SubT) : TAg := .agg [.c (.lit (.int .i64 x.1)), .c (.lit (.int .i64 x.2.1)), .c (.lit (.int .i64 x.2.2.1)), .c (.lit (.int .i64 x.2.2.2.1)), .c (.lit (.int .i64 x.2.2.2.2.1)), .c (.lit (.int .i64 x.2.2.2.2.2.1)), .c (.lit (.int .i64 x.2.2.2.2.2.2.1)), .c (.lit (.int .i64 x.2.2.2.2.2.2.2.1)), .c (.lit (.int .i64 x.2.2.2.2.2.2.2.2.1)), .c (.lit (.bool x.2.2.2.2.2.2.2.2.2))]
abbrev oSub (x : SubT) : TAr := .agg [.lit (.int .i64 x.1), .lit (.int .i64 x.2.1), .lit (.int .i64 x.2.2.1), .lit (.int .i64 x.2.2.2.1), .lit (.int .i64 x.2.2.2.2.1), .lit (.int .i64 x.2.2.2.2.2.1), .lit (.int .i64 x.2.2.2.2.2.2.1), .lit (.int .i64 x.2.2.2.2.2.2.2.1), .lit (.int .i64 x.2.2.2.2.2.2.2.2.1), .lit (.bool x.2.2.2.2.2.2.2.2.2)]
abbrev PinT := Bool × Int × Bool × Int
def encPin (x : PinT) : Nat → TC
  | 0 => .lit (.bool x.1)
  | 1 => .lit (.int .i64 x.2.1)
  | 2 => .lit (.bool x.2.2.1)
  | _ => .lit (.int .i64 x.2.2.2)
def decPin : List Value → Option PinT
  | [.bool x0, .int .i64 x1, .bool x2, .int .i64 x3] => some (x0, x1, x2, x3)
  | _ => none
abbrev zPin : PinT := (false, 0, false, 0)
def tPin (e : Nat) (xs : List PinT) : TC := .sl e 4 PinT encPin decPin zPin xs
abbrev rPin (o : RO) (f : Bool) (e : Nat) (xs : List PinT) : TRoot := .ty o f e 4 PinT encPin decPin zPin xs
abbrev aPin (x : PinT) : TAg := .agg [.c (.lit (.bool x.1)), .c (.lit (.int .i64 x.2.1)), .c (.lit (.bool x.2.2.1)), .c (.lit (.int .i64 x.2.2.2))]
abbrev oPin (x : PinT) : TAr := .agg [.lit (.bool x.1), .lit (.int .i64 x.2.1), .lit (.bool x.2.2.1), .lit (.int .i64 x.2.2.2)]
abbrev ResT := Bool × Int
def encRes (x : ResT) : Nat → TC
  | 0 => .lit (.bool x.1)
  | _ => .lit (.int .i64 x.2)
def decRes : List Value → Option ResT
  | [.bool x0, .int .i64 x1] => some (x0, x1)
  | _ => none
abbrev zRes : ResT := (false, 0)
def tRes (e : Nat) (xs : List ResT) : TC := .sl e 2 ResT encRes decRes zRes xs
abbrev rRes (o : RO) (f : Bool) (e : Nat) (xs : List ResT) : TRoot := .ty o f e 2 ResT encRes decRes zRes xs
abbrev aRes (x : ResT) : TAg := .agg [.c (.lit (.bool x.1)), .c (.lit (.int .i64 x.2))]
abbrev oRes (x : ResT) : TAr := .agg [.lit (.bool x.1), .lit (.int .i64 x.2)]
abbrev vSpan (x : SpanT) : List Value := [Value.int .i64 (x.1), Value.int .i64 (x.2)]
abbrev vEv (x : EvT) : List Value := [Value.int .i64 (x.1), Value.int .i64 (x.2.1), Value.int .i64 (x.2.2.1), Value.int .i64 (x.2.2.2.1), Value.int .i64 (x.2.2.2.2.1), Value.int .i64 (x.2.2.2.2.2.1), Value.int .i64 (x.2.2.2.2.2.2)]
abbrev vKV (x : KVT) : List Value := [Value.int .i64 (x.1), Value.int .i64 (x.2)]
abbrev vSeen (x : SeenT) : List Value := [Value.int .i64 (x.1), Value.int .i64 (x.2)]
abbrev vWrite (x : WriteT) : List Value := [Value.int .i64 (x.1), Value.bool (x.2.1), Value.int .i64 (x.2.2)]
abbrev vNode (x : NodeT) : List Value := [Value.int .i64 (x.1), Value.int .i64 (x.2.1), Value.int .i64 (x.2.2)]
abbrev vBkt (x : BktT) : List Value := [Value.int .i64 (x.1), Value.int .i64 (x.2.1), Value.int .i64 (x.2.2)]
abbrev vCmd (x : CmdT) : List Value := [Value.int .i64 (x.1), Value.int .i64 (x.2.1), Value.int .i64 (x.2.2)]
abbrev vOp (x : OpT) : List Value := [Value.int .i64 (x.1), Value.int .i64 (x.2.1), Value.int .i64 (x.2.2.1), Value.int .i64 (x.2.2.2)]
abbrev vSub (x : SubT) : List Value := [Value.int .i64 (x.1), Value.int .i64 (x.2.1), Value.int .i64 (x.2.2.1), Value.int .i64 (x.2.2.2.1), Value.int .i64 (x.2.2.2.2.1), Value.int .i64 (x.2.2.2.2.2.1), Value.int .i64 (x.2.2.2.2.2.2.1), Value.int .i64 (x.2.2.2.2.2.2.2.1), Value.int .i64 (x.2.2.2.2.2.2.2.2.1), Value.bool (x.2.2.2.2.2.2.2.2.2)]
abbrev vPin (x : PinT) : List Value := [Value.bool (x.1), Value.int .i64 (x.2.1), Value.bool (x.2.2.1), Value.int .i64 (x.2.2.2)]
abbrev vRes (x : ResT) : List Value := [Value.bool (x.1), Value.int .i64 (x.2)]
abbrev TEvT := Int × Int × Int × Int × List CmdT × List ResT
def encTEv (eC eR : Nat) (x : TEvT) : Nat → TC
  | 0 => .lit (.int .i64 x.1)
  | 1 => .lit (.int .i64 x.2.1)
  | 2 => .lit (.int .i64 x.2.2.1)
  | 3 => .lit (.int .i64 x.2.2.2.1)
  | 4 => tCmd eC x.2.2.2.2.1
  | _ => tRes eR x.2.2.2.2.2
def decTEv : List Value → Option TEvT := fun _ => none
abbrev zTEv : TEvT := (0, 0, 0, 0, [], [])
def tTEv (e eC eR : Nat) (xs : List TEvT) : TC := .sl e 6 TEvT (encTEv eC eR) decTEv zTEv xs
abbrev rTEv (o : RO) (f : Bool) (e eC eR : Nat) (xs : List TEvT) : TRoot := .ty o f e 6 TEvT (encTEv eC eR) decTEv zTEv xs
abbrev aTEv (eC eR : Nat) (x : TEvT) : TAg := .agg [.c (.lit (.int .i64 x.1)), .c (.lit (.int .i64 x.2.1)), .c (.lit (.int .i64 x.2.2.1)), .c (.lit (.int .i64 x.2.2.2.1)), .c (tCmd eC x.2.2.2.2.1), .c (tRes eR x.2.2.2.2.2)]
abbrev oTEv (eC eR : Nat) (x : TEvT) : TAr := .agg [.lit (.int .i64 x.1), .lit (.int .i64 x.2.1), .lit (.int .i64 x.2.2.1), .lit (.int .i64 x.2.2.2.1), tCmd eC x.2.2.2.2.1, tRes eR x.2.2.2.2.2]
def gT : Gt := ⟨tyT, 4, fun e =>
  if e = 3 then some ⟨Int, encI, decI, 0⟩
  else if e = 9999999 then some ⟨SpanT, encSpan, decSpan, zSpan⟩
  else if e = 125 then some ⟨EvT, encEv, decEv, zEv⟩
  else if e = 179 then some ⟨KVT, encKV, decKV, zKV⟩
  else if e = 323 then some ⟨SeenT, encSeen, decSeen, zSeen⟩
  else if e = 327 then some ⟨WriteT, encWrite, decWrite, zWrite⟩
  else if e = 247 then some ⟨CmdT, encCmd, decCmd, zCmd⟩
  else if e = 270 then some ⟨PinT, encPin, decPin, zPin⟩
  else if e = 249 then some ⟨ResT, encRes, decRes, zRes⟩
  else if e = 174 then some ⟨TEvT, encTEv 247 249, decTEv, zTEv⟩
  else none⟩
theorem gOk : GOk Try.prog gT := ⟨tyOk, Try.underlying4⟩
def ti (x : Int) : TAg := .one (.c (.lit (.int .i64 x)))
def tb (x : Bool) : TAg := .one (.c (.lit (.bool x)))
def oi (x : Int) : TAr := .one (.lit (.int .i64 x))
def ob (x : Bool) : TAr := .one (.lit (.bool x))
abbrev vi (x : Int) : V := .a (.lit (.int .i64 x))
abbrev vb (x : Bool) : V := .a (.lit (.bool x))
abbrev vr (κ n : Nat) : V := .a (.ref κ 0 n)
theorem drop_cons {α : Type} {xs : List α} {i : Nat} (d : α) (h : i < xs.length) : xs.drop i = xs.getD i d :: xs.drop (i + 1) := by
  rw [List.drop_eq_getElem_cons h]; simp [List.getD, h]
def szI {α : Type} (xs : List α) (m : Int) : Int := if m - xs.length < 0 then -1 else m - xs.length
theorem szI_le {α : Type} {xs : List α} {m : Int} (h : ¬ szI xs m < 0) : (xs.length : Int) ≤ m ∧ szI xs m = m - xs.length := by
  unfold szI at h ⊢; split at h <;> split <;> omega
def fl {α : Type} (d : α) (xs : List α) (i : Nat) : List α := xs.take i ++ List.replicate (xs.length - i) d
theorem fl_zero {α : Type} (d : α) (xs : List α) : fl d xs 0 = List.replicate xs.length d := by simp [fl]
theorem fl_len {α : Type} (d : α) (xs : List α) (i : Nat) (h : i ≤ xs.length) : (fl d xs i).length = xs.length := by simp [fl]; omega
theorem fl_full {α : Type} (d : α) (xs : List α) (i : Nat) (h : ¬ i < xs.length) (h' : i ≤ xs.length) : fl d xs i = xs := by
  have : i = xs.length := by omega
  subst this; simp [fl]
theorem fl_set {α : Type} (d : α) (xs : List α) (i : Nat) (h : i < xs.length) : (fl d xs i).set i (xs.getD i d) = fl d xs (i + 1) := by
  apply List.ext_getElem
  · simp [fl]; omega
  · intro j h1 h2
    simp only [List.getElem_set, fl, List.getElem_append, List.length_take, List.getElem_take, List.getElem_replicate]
    by_cases e : i = j
    · subst e; simp [List.getD, h]
      omega
    · simp only [e, if_false]
      by_cases hj : j < i
      · rw [dif_pos (by omega), dif_pos (by omega)]
      · rw [dif_neg (by omega), dif_neg (by omega)]
end Go.Proofs.Ytlnlogflhagocaa
end

section
namespace Go.Proofs.Ytlnlogflhagocaa
open Go Go.Tr
set_option maxRecDepth 100000
set_option linter.unusedVariables false
set_option linter.unusedSimpArgs false
theorem szCmdS_run (e : Nat) (xs : List CmdT) (m : Int) (h0 : 0 ≤ m) (h1 : m ≤ 1048576) (hn : xs.length ≤ 9223372036854775807) : RunT Try.prog 155 [.one (.c (tCmd e xs)), ti m] [] [oi (szI xs m)] [] := by
  refine RunT.of_vc gOk Try.func155 rfl rfl (Nat.le_of_ble_eq_true rfl) (by repeat' (first | exact trivial | exact ⟨_, rfl, Nat.le_refl _⟩ | exact Nat.le_of_ble_eq_true rfl | refine And.intro ?_ ?_)) (Nat.le_of_ble_eq_true rfl) rfl (fun F hE => ?_)
  repeat' (first | exact trivial | refine BS.d (fun h => ?_) (fun h => ?_) | refine BS.e (fun h => ?_) (fun h => ?_) | refine BS.ne (fun h => ?_) (fun h => ?_) | refine BS.n ?_ | refine BS.s (fun h => ?_) (fun h => ?_) | refine And.intro ?_ ?_ | (refine Need.mk ?_; first | with_reducible rfl | (show @Eq TC _ _; rfl) | omega | (simp only [adN_zero]; omega)) | exact OutS.whole rfl rfl | refine ListO.go gOk hE ?_)
  all_goals (refine Need.mk ?_; unfold szI; first | rw [if_pos (by omega)] | rw [if_neg (by omega)])
theorem toCmd_run (x : CmdT) : RunT Try.prog 224 [aCmd x] [] [oCmd x] [] := by
  refine RunT.of_vc gOk Try.func224 rfl rfl (Nat.le_of_ble_eq_true rfl) (by repeat' (first | exact trivial | exact ⟨_, rfl, Nat.le_refl _⟩ | exact Nat.le_of_ble_eq_true rfl | refine And.intro ?_ ?_)) (Nat.le_of_ble_eq_true rfl) rfl (fun F hE => ?_)
  repeat' (first | exact trivial | refine BS.d (fun h => ?_) (fun h => ?_) | refine BS.e (fun h => ?_) (fun h => ?_) | refine BS.ne (fun h => ?_) (fun h => ?_) | refine BS.n ?_ | refine BS.s (fun h => ?_) (fun h => ?_) | refine And.intro ?_ ?_ | (refine Need.mk ?_; first | with_reducible rfl | (show @Eq TC _ _; rfl) | omega | (simp only [adN_zero]; omega)) | exact OutS.whole rfl rfl | refine ListO.go gOk hE ?_)
theorem eqCmd_run (x : CmdT) : RunT Try.prog 232 [aCmd x, aCmd x] [] [ob true] [] := by
  refine RunT.of_vc gOk Try.func232 rfl rfl (Nat.le_of_ble_eq_true rfl) (by repeat' (first | exact trivial | exact ⟨_, rfl, Nat.le_refl _⟩ | exact Nat.le_of_ble_eq_true rfl | refine And.intro ?_ ?_)) (Nat.le_of_ble_eq_true rfl) rfl (fun F hE => ?_)
  repeat' (first | exact trivial | refine BS.d (fun h => ?_) (fun h => ?_) | refine BS.e (fun h => ?_) (fun h => ?_) | refine BS.ne (fun h => ?_) (fun h => ?_) | refine BS.n ?_ | refine BS.s (fun h => ?_) (fun h => ?_) | refine And.intro ?_ ?_ | (refine Need.mk ?_; first | with_reducible rfl | (show @Eq TC _ _; rfl) | omega | (simp only [adN_zero]; omega)) | exact OutS.whole rfl rfl | refine ListO.go gOk hE ?_)
  all_goals exact absurd rfl h
theorem toCmdS_run (e : Nat) (xs : List CmdT) (hn : xs.length ≤ 1048576) : RunT Try.prog 161 [.one (.c (tCmd e xs))] [] [.one (tCmd 247 xs)] [] := by
  refine RunT.of_vc gOk Try.func161 rfl rfl (Nat.le_of_ble_eq_true rfl) (by repeat' (first | exact trivial | exact ⟨_, rfl, Nat.le_refl _⟩ | exact Nat.le_of_ble_eq_true rfl | refine And.intro ?_ ?_)) (Nat.le_of_ble_eq_true rfl) rfl (fun F hE => ?_)
  repeat' (first | exact trivial | refine BS.d (fun h => ?_) (fun h => ?_) | refine BS.e (fun h => ?_) (fun h => ?_) | refine BS.ne (fun h => ?_) (fun h => ?_) | refine BS.n ?_ | refine BS.s (fun h => ?_) (fun h => ?_) | refine And.intro ?_ ?_ | (refine Need.mk ?_; first | with_reducible rfl | (show @Eq TC _ _; rfl) | omega | (simp only [adN_zero]; omega)) | exact OutS.whole rfl rfl | refine ListO.go gOk hE ?_)
  refine CodeK.loop gOk hE (fun i : Nat => ⟨[(0, vr 1000000 xs.length), (3, vr 7 xs.length), (4, vi i)], [(7, rCmd .own true 247 (fl zCmd xs i)), (1000000, rCmd .fro false e xs)]⟩) (fun i => i ≤ xs.length) (fun i => xs.length - i) 0 (by refine leT.of ?_ ?_ rfl <;> repeat' (first | exact trivial | refine And.intro rfl ?_ | refine And.intro (by simp [fl_zero] <;> rfl) ?_)) (Nat.zero_le _) ?_
  rintro i hi
  have hl := fl_len zCmd xs i hi
  repeat' (first | exact trivial | refine BS.d (fun h => ?_) (fun h => ?_) | refine BS.e (fun h => ?_) (fun h => ?_) | refine BS.ne (fun h => ?_) (fun h => ?_) | refine BS.n ?_ | refine BS.s (fun h => ?_) (fun h => ?_) | refine And.intro ?_ ?_ | (refine Need.mk ?_; first | with_reducible rfl | (show @Eq TC _ _; rfl) | omega | (simp only [adN_zero]; omega)) | exact OutS.whole rfl rfl | refine ListO.go gOk hE ?_)
  · refine OpK.call (toCmd_run (xs.getD i zCmd)) rfl rfl rfl rfl hE (by repeat' (first | exact PsA.lit _ | exact PsA.ref rfl rfl | constructor)) rfl rfl ?_
    repeat' (first | exact trivial | refine BS.d (fun h => ?_) (fun h => ?_) | refine BS.e (fun h => ?_) (fun h => ?_) | refine BS.ne (fun h => ?_) (fun h => ?_) | refine BS.n ?_ | refine BS.s (fun h => ?_) (fun h => ?_) | refine And.intro ?_ ?_ | (refine Need.mk ?_; first | with_reducible rfl | (show @Eq TC _ _; rfl) | omega | (simp only [adN_zero]; omega)) | exact OutS.whole rfl rfl | refine ListO.go gOk hE ?_)
    all_goals (refine ⟨i + 1, (by refine leT.of ?_ ?_ rfl <;> repeat' (first | exact trivial | refine And.intro rfl ?_ | refine And.intro (by first | (rw [← fl_set zCmd xs i (by omega)]; rfl) | (simp <;> rfl)) ?_)), ?_⟩; (refine And.intro ?_ ?_) <;> (first | omega | (dsimp only; omega) | trivial))
  · exact OutS.whole hl.symm (by rw [fl_full _ _ _ (by omega) hi]; rfl)
theorem eqCmdS_run (e : Nat) (xs : List CmdT) (hn : xs.length ≤ 4000000) : RunT Try.prog 168 [.one (.c (tCmd e xs)), .one (.c (tCmd e xs))] [] [ob true] [] := by
  refine RunT.of_vc gOk Try.func168 rfl rfl (Nat.le_of_ble_eq_true rfl) (by repeat' (first | exact trivial | exact ⟨_, rfl, Nat.le_refl _⟩ | exact Nat.le_of_ble_eq_true rfl | refine And.intro ?_ ?_)) (Nat.le_of_ble_eq_true rfl) rfl (fun F hE => ?_)
  repeat' (first | exact trivial | refine BS.d (fun h => ?_) (fun h => ?_) | refine BS.e (fun h => ?_) (fun h => ?_) | refine BS.ne (fun h => ?_) (fun h => ?_) | refine BS.n ?_ | refine BS.s (fun h => ?_) (fun h => ?_) | refine And.intro ?_ ?_ | (refine Need.mk ?_; first | with_reducible rfl | (show @Eq TC _ _; rfl) | omega | (simp only [adN_zero]; omega)) | exact OutS.whole rfl rfl | refine ListO.go gOk hE ?_)
  · refine CodeK.loop gOk hE (fun i : Nat => ⟨[(0, vr 1000000 xs.length), (1, vr 1000001 xs.length), (5, vi i)], [(1000000, rCmd .fro false e xs), (1000001, rCmd .fro false e xs)]⟩) (fun i => i ≤ xs.length) (fun i => xs.length - i) 0 (by refine leT.of ?_ ?_ rfl <;> repeat' (first | exact trivial | refine And.intro rfl ?_ | refine And.intro (by simp) ?_)) (Nat.zero_le _) ?_
    rintro i hi
    repeat' (first | exact trivial | refine BS.d (fun h => ?_) (fun h => ?_) | refine BS.e (fun h => ?_) (fun h => ?_) | refine BS.ne (fun h => ?_) (fun h => ?_) | refine BS.n ?_ | refine BS.s (fun h => ?_) (fun h => ?_) | refine And.intro ?_ ?_ | (refine Need.mk ?_; first | with_reducible rfl | (show @Eq TC _ _; rfl) | omega | (simp only [adN_zero]; omega)) | exact OutS.whole rfl rfl | refine ListO.go gOk hE ?_)
    · refine CodeK.draw gOk hE rfl (fun _ _ h => h) (.take 0 (.take 1 (.take 2 (.take 4 (.take 5 (.take 6 (.alt 3 (.alt 7 (.alt 8 (.take 9 .done) .stop) .stop) (.alt 7 (.alt 3 (.alt 8 (.take 9 .done) .stop) .stop) .stop)))))))) (by decide +kernel) ?_
      repeat' (first | exact trivial | refine BS.d (fun h => ?_) (fun h => ?_) | refine BS.e (fun h => ?_) (fun h => ?_) | refine BS.ne (fun h => ?_) (fun h => ?_) | refine BS.n ?_ | refine BS.s (fun h => ?_) (fun h => ?_) | refine And.intro ?_ ?_ | (refine Need.mk ?_; first | with_reducible rfl | (show @Eq TC _ _; rfl) | omega | (simp only [adN_zero]; omega)) | exact OutS.whole rfl rfl | refine ListO.go gOk hE ?_)
      all_goals (refine OpK.call (eqCmd_run _) rfl rfl rfl rfl hE (by repeat' (first | exact PsA.lit _ | exact PsA.ref rfl rfl | constructor)) rfl rfl ?_)
      all_goals (repeat' (first | exact trivial | refine BS.d (fun h => ?_) (fun h => ?_) | refine BS.e (fun h => ?_) (fun h => ?_) | refine BS.ne (fun h => ?_) (fun h => ?_) | refine BS.n ?_ | refine BS.s (fun h => ?_) (fun h => ?_) | refine And.intro ?_ ?_ | (refine Need.mk ?_; first | with_reducible rfl | (show @Eq TC _ _; rfl) | omega | (simp only [adN_zero]; omega)) | exact OutS.whole rfl rfl | refine ListO.go gOk hE ?_))
      all_goals (refine ⟨i + 1, (by refine leT.of ?_ ?_ rfl <;> repeat' (first | exact trivial | refine And.intro rfl ?_ | refine And.intro (by simp) ?_)), ?_⟩; (refine And.intro ?_ ?_) <;> (first | omega | (dsimp only; omega) | trivial))
theorem Cmds_of {e e' n : Nat} {row : Nat → Nat → C} (hn : n ≤ 9223372036854775807) (h : ∀ i r t, i < n → ([Dt.i, Dt.i, Dt.i] : List Dt)[r]? = some t → DtOk t (row i r)) : ∃ xs : List CmdT, xs.length = n ∧ (∀ x ∈ xs, (-9223372036854775808 ≤ x.1 ∧ x.1 ≤ 9223372036854775807) ∧ (-9223372036854775808 ≤ x.2.1 ∧ x.2.1 ≤ 9223372036854775807) ∧ (-9223372036854775808 ≤ x.2.2 ∧ x.2.2 ≤ 9223372036854775807)) ∧ CSame (.sl .fro e 3 n row) ((tCmd e' xs).er .fro) :=
  list_of decCmd zCmd 3 (fun f hf => by
    obtain ⟨z0, hz0, w0⟩ := (hf 0 .i rfl).int
    obtain ⟨z1, hz1, w1⟩ := (hf 1 .i rfl).int
    obtain ⟨z2, hz2, w2⟩ := (hf 2 .i rfl).int
    refine ⟨(z0, z1, z2), ⟨w0, w1, w2⟩, fun r hr => ?_⟩
    match r, hr with
    | 0, _ => rw [hz0]; exact rfl
    | 1, _ => rw [hz1]; exact rfl
    | 2, _ => rw [hz2]; exact rfl
    ) h
end Go.Proofs.Ytlnlogflhagocaa
end

section
namespace Go.Proofs.Ytlnlogflhagocaa
open Go Go.Tr
set_option maxRecDepth 100000
set_option linter.unusedVariables false
set_option linter.unusedSimpArgs false
theorem szResS_run (e : Nat) (xs : List ResT) (m : Int) (h0 : 0 ≤ m) (h1 : m ≤ 1048576) (hn : xs.length ≤ 9223372036854775807) : RunT Try.prog 156 [.one (.c (tRes e xs)), ti m] [] [oi (szI xs m)] [] := by
  refine RunT.of_vc gOk Try.func156 rfl rfl (Nat.le_of_ble_eq_true rfl) (by repeat' (first | exact trivial | exact ⟨_, rfl, Nat.le_refl _⟩ | exact Nat.le_of_ble_eq_true rfl | refine And.intro ?_ ?_)) (Nat.le_of_ble_eq_true rfl) rfl (fun F hE => ?_)
  repeat' (first | exact trivial | refine BS.d (fun h => ?_) (fun h => ?_) | refine BS.e (fun h => ?_) (fun h => ?_) | refine BS.ne (fun h => ?_) (fun h => ?_) | refine BS.n ?_ | refine BS.s (fun h => ?_) (fun h => ?_) | refine And.intro ?_ ?_ | (refine Need.mk ?_; first | with_reducible rfl | (show @Eq TC _ _; rfl) | omega | (simp only [adN_zero]; omega)) | exact OutS.whole rfl rfl | refine ListO.go gOk hE ?_)
  all_goals (refine Need.mk ?_; unfold szI; first | rw [if_pos (by omega)] | rw [if_neg (by omega)])
theorem toRes_run (x : ResT) : RunT Try.prog 225 [aRes x] [] [oRes x] [] := by
  refine RunT.of_vc gOk Try.func225 rfl rfl (Nat.le_of_ble_eq_true rfl) (by repeat' (first | exact trivial | exact ⟨_, rfl, Nat.le_refl _⟩ | exact Nat.le_of_ble_eq_true rfl | refine And.intro ?_ ?_)) (Nat.le_of_ble_eq_true rfl) rfl (fun F hE => ?_)
  repeat' (first | exact trivial | refine BS.d (fun h => ?_) (fun h => ?_) | refine BS.e (fun h => ?_) (fun h => ?_) | refine BS.ne (fun h => ?_) (fun h => ?_) | refine BS.n ?_ | refine BS.s (fun h => ?_) (fun h => ?_) | refine And.intro ?_ ?_ | (refine Need.mk ?_; first | with_reducible rfl | (show @Eq TC _ _; rfl) | omega | (simp only [adN_zero]; omega)) | exact OutS.whole rfl rfl | refine ListO.go gOk hE ?_)
theorem eqRes_run (x : ResT) : RunT Try.prog 233 [aRes x, aRes x] [] [ob true] [] := by
  refine RunT.of_vc gOk Try.func233 rfl rfl (Nat.le_of_ble_eq_true rfl) (by repeat' (first | exact trivial | exact ⟨_, rfl, Nat.le_refl _⟩ | exact Nat.le_of_ble_eq_true rfl | refine And.intro ?_ ?_)) (Nat.le_of_ble_eq_true rfl) rfl (fun F hE => ?_)
  repeat' (first | exact trivial | refine BS.d (fun h => ?_) (fun h => ?_) | refine BS.e (fun h => ?_) (fun h => ?_) | refine BS.ne (fun h => ?_) (fun h => ?_) | refine BS.n ?_ | refine BS.s (fun h => ?_) (fun h => ?_) | refine And.intro ?_ ?_ | (refine Need.mk ?_; first | with_reducible rfl | (show @Eq TC _ _; rfl) | omega | (simp only [adN_zero]; omega)) | exact OutS.whole rfl rfl | refine ListO.go gOk hE ?_)
  all_goals exact absurd rfl h
theorem toResS_run (e : Nat) (xs : List ResT) (hn : xs.length ≤ 1048576) : RunT Try.prog 162 [.one (.c (tRes e xs))] [] [.one (tRes 249 xs)] [] := by
  refine RunT.of_vc gOk Try.func162 rfl rfl (Nat.le_of_ble_eq_true rfl) (by repeat' (first | exact trivial | exact ⟨_, rfl, Nat.le_refl _⟩ | exact Nat.le_of_ble_eq_true rfl | refine And.intro ?_ ?_)) (Nat.le_of_ble_eq_true rfl) rfl (fun F hE => ?_)
  repeat' (first | exact trivial | refine BS.d (fun h => ?_) (fun h => ?_) | refine BS.e (fun h => ?_) (fun h => ?_) | refine BS.ne (fun h => ?_) (fun h => ?_) | refine BS.n ?_ | refine BS.s (fun h => ?_) (fun h => ?_) | refine And.intro ?_ ?_ | (refine Need.mk ?_; first | with_reducible rfl | (show @Eq TC _ _; rfl) | omega | (simp only [adN_zero]; omega)) | exact OutS.whole rfl rfl | refine ListO.go gOk hE ?_)
  refine CodeK.loop gOk hE (fun i : Nat => ⟨[(0, vr 1000000 xs.length), (3, vr 7 xs.length), (4, vi i)], [(7, rRes .own true 249 (fl zRes xs i)), (1000000, rRes .fro false e xs)]⟩) (fun i => i ≤ xs.length) (fun i => xs.length - i) 0 (by refine leT.of ?_ ?_ rfl <;> repeat' (first | exact trivial | refine And.intro rfl ?_ | refine And.intro (by simp [fl_zero] <;> rfl) ?_)) (Nat.zero_le _) ?_
  rintro i hi
  have hl := fl_len zRes xs i hi
  repeat' (first | exact trivial | refine BS.d (fun h => ?_) (fun h => ?_) | refine BS.e (fun h => ?_) (fun h => ?_) | refine BS.ne (fun h => ?_) (fun h => ?_) | refine BS.n ?_ | refine BS.s (fun h => ?_) (fun h => ?_) | refine And.intro ?_ ?_ | (refine Need.mk ?_; first | with_reducible rfl | (show @Eq TC _ _; rfl) | omega | (simp only [adN_zero]; omega)) | exact OutS.whole rfl rfl | refine ListO.go gOk hE ?_)
  · refine OpK.call (toRes_run (xs.getD i zRes)) rfl rfl rfl rfl hE (by repeat' (first | exact PsA.lit _ | exact PsA.ref rfl rfl | constructor)) rfl rfl ?_
    repeat' (first | exact trivial | refine BS.d (fun h => ?_) (fun h => ?_) | refine BS.e (fun h => ?_) (fun h => ?_) | refine BS.ne (fun h => ?_) (fun h => ?_) | refine BS.n ?_ | refine BS.s (fun h => ?_) (fun h => ?_) | refine And.intro ?_ ?_ | (refine Need.mk ?_; first | with_reducible rfl | (show @Eq TC _ _; rfl) | omega | (simp only [adN_zero]; omega)) | exact OutS.whole rfl rfl | refine ListO.go gOk hE ?_)
    all_goals (refine ⟨i + 1, (by refine leT.of ?_ ?_ rfl <;> repeat' (first | exact trivial | refine And.intro rfl ?_ | refine And.intro (by first | (rw [← fl_set zRes xs i (by omega)]; rfl) | (simp <;> rfl)) ?_)), ?_⟩; (refine And.intro ?_ ?_) <;> (first | omega | (dsimp only; omega) | trivial))
  · exact OutS.whole hl.symm (by rw [fl_full _ _ _ (by omega) hi]; rfl)
theorem eqResS_run (e : Nat) (xs : List ResT) (hn : xs.length ≤ 4000000) : RunT Try.prog 169 [.one (.c (tRes e xs)), .one (.c (tRes e xs))] [] [ob true] [] := by
  refine RunT.of_vc gOk Try.func169 rfl rfl (Nat.le_of_ble_eq_true rfl) (by repeat' (first | exact trivial | exact ⟨_, rfl, Nat.le_refl _⟩ | exact Nat.le_of_ble_eq_true rfl | refine And.intro ?_ ?_)) (Nat.le_of_ble_eq_true rfl) rfl (fun F hE => ?_)
  repeat' (first | exact trivial | refine BS.d (fun h => ?_) (fun h => ?_) | refine BS.e (fun h => ?_) (fun h => ?_) | refine BS.ne (fun h => ?_) (fun h => ?_) | refine BS.n ?_ | refine BS.s (fun h => ?_) (fun h => ?_) | refine And.intro ?_ ?_ | (refine Need.mk ?_; first | with_reducible rfl | (show @Eq TC _ _; rfl) | omega | (simp only [adN_zero]; omega)) | exact OutS.whole rfl rfl | refine ListO.go gOk hE ?_)
  · refine CodeK.loop gOk hE (fun i : Nat => ⟨[(0, vr 1000000 xs.length), (1, vr 1000001 xs.length), (5, vi i)], [(1000000, rRes .fro false e xs), (1000001, rRes .fro false e xs)]⟩) (fun i => i ≤ xs.length) (fun i => xs.length - i) 0 (by refine leT.of ?_ ?_ rfl <;> repeat' (first | exact trivial | refine And.intro rfl ?_ | refine And.intro (by simp) ?_)) (Nat.zero_le _) ?_
    rintro i hi
    repeat' (first | exact trivial | refine BS.d (fun h => ?_) (fun h => ?_) | refine BS.e (fun h => ?_) (fun h => ?_) | refine BS.ne (fun h => ?_) (fun h => ?_) | refine BS.n ?_ | refine BS.s (fun h => ?_) (fun h => ?_) | refine And.intro ?_ ?_ | (refine Need.mk ?_; first | with_reducible rfl | (show @Eq TC _ _; rfl) | omega | (simp only [adN_zero]; omega)) | exact OutS.whole rfl rfl | refine ListO.go gOk hE ?_)
    · refine CodeK.draw gOk hE rfl (fun _ _ h => h) (.take 0 (.take 1 (.take 2 (.take 4 (.take 5 (.take 6 (.alt 3 (.alt 7 (.alt 8 (.take 9 .done) .stop) .stop) (.alt 7 (.alt 3 (.alt 8 (.take 9 .done) .stop) .stop) .stop)))))))) (by decide +kernel) ?_
      repeat' (first | exact trivial | refine BS.d (fun h => ?_) (fun h => ?_) | refine BS.e (fun h => ?_) (fun h => ?_) | refine BS.ne (fun h => ?_) (fun h => ?_) | refine BS.n ?_ | refine BS.s (fun h => ?_) (fun h => ?_) | refine And.intro ?_ ?_ | (refine Need.mk ?_; first | with_reducible rfl | (show @Eq TC _ _; rfl) | omega | (simp only [adN_zero]; omega)) | exact OutS.whole rfl rfl | refine ListO.go gOk hE ?_)
      all_goals (refine OpK.call (eqRes_run _) rfl rfl rfl rfl hE (by repeat' (first | exact PsA.lit _ | exact PsA.ref rfl rfl | constructor)) rfl rfl ?_)
      all_goals (repeat' (first | exact trivial | refine BS.d (fun h => ?_) (fun h => ?_) | refine BS.e (fun h => ?_) (fun h => ?_) | refine BS.ne (fun h => ?_) (fun h => ?_) | refine BS.n ?_ | refine BS.s (fun h => ?_) (fun h => ?_) | refine And.intro ?_ ?_ | (refine Need.mk ?_; first | with_reducible rfl | (show @Eq TC _ _; rfl) | omega | (simp only [adN_zero]; omega)) | exact OutS.whole rfl rfl | refine ListO.go gOk hE ?_))
      all_goals (refine ⟨i + 1, (by refine leT.of ?_ ?_ rfl <;> repeat' (first | exact trivial | refine And.intro rfl ?_ | refine And.intro (by simp) ?_)), ?_⟩; (refine And.intro ?_ ?_) <;> (first | omega | (dsimp only; omega) | trivial))
theorem Ress_of {e e' n : Nat} {row : Nat → Nat → C} (hn : n ≤ 9223372036854775807) (h : ∀ i r t, i < n → ([Dt.b, Dt.i] : List Dt)[r]? = some t → DtOk t (row i r)) : ∃ xs : List ResT, xs.length = n ∧ (∀ x ∈ xs, True ∧ (-9223372036854775808 ≤ x.2 ∧ x.2 ≤ 9223372036854775807)) ∧ CSame (.sl .fro e 2 n row) ((tRes e' xs).er .fro) :=
  list_of decRes zRes 2 (fun f hf => by
    obtain ⟨z0, hz0⟩ := (hf 0 .b rfl).bool
    obtain ⟨z1, hz1, w1⟩ := (hf 1 .i rfl).int
    refine ⟨(z0, z1), ⟨trivial, w1⟩, fun r hr => ?_⟩
    match r, hr with
    | 0, _ => rw [hz0]; exact rfl
    | 1, _ => rw [hz1]; exact rfl
    ) h
end Go.Proofs.Ytlnlogflhagocaa
end

section
namespace Go.Proofs.Ytlnlogflhagocaa
open Go Go.Tr
set_option maxRecDepth 100000
set_option linter.unusedVariables false
set_option linter.unusedSimpArgs false
/-- All of the first n have the property. -/
noncomputable def allP (n : Nat) (p : Nat → Prop) : Bool := @decide (∀ j, j < n → p j) (Classical.propDecidable _)
theorem allP_false {n i : Nat} {p : Nat → Prop} (hi : i < n) (h : ¬ p i) : allP n p = false := by
  unfold allP; exact @decide_eq_false _ (Classical.propDecidable _) (fun k => h (k i hi))
theorem allP_true {n : Nat} {p : Nat → Prop} (h : ∀ j, j < n → p j) : allP n p = true := by
  unfold allP; exact @decide_eq_true _ (Classical.propDecidable _) h
/-- How many of the first n have the property. -/
def cntP (p : Nat → Bool) : Nat → Int
  | 0 => 0
  | m + 1 => cntP p m + if p m then 1 else 0
theorem cntP_bd (p : Nat → Bool) : ∀ n : Nat, 0 ≤ cntP p n ∧ cntP p n ≤ n
  | 0 => ⟨Int.le_refl _, Int.le_refl _⟩
  | n + 1 => by have := cntP_bd p n; unfold cntP; split <;> omega
theorem cntP_yes {p : Nat → Bool} {i : Nat} (h : p i = true) : cntP p (i + 1) = cntP p i + 1 := by rw [cntP, if_pos h]
theorem cntP_no {p : Nat → Bool} {i : Nat} (h : p i = false) : cntP p (i + 1) = cntP p i := by rw [cntP, if_neg (by simp [h])]; omega
theorem cntP_stop {p : Nat → Bool} {i : Nat} (h : ∀ j, i ≤ j → p j = false) : ∀ n : Nat, i ≤ n → cntP p n = cntP p i
  | 0, hn => by obtain rfl : i = 0 := by omega
                rfl
  | n + 1, hn => by
    by_cases e : i = n + 1
    · rw [e]
    · show cntP p n + (if p n then 1 else 0) = _
      rw [h n (by omega), cntP_stop h n (by omega)]; simp
/-- The last of the first n that has the property. -/
def lastP (p : Nat → Bool) : Nat → Option Nat
  | 0 => none
  | m + 1 => if p m then some m else lastP p m
theorem lastP_lt {p : Nat → Bool} : ∀ {n m : Nat}, lastP p n = some m → m < n ∧ p m = true
  | 0, m, h => by cases h
  | n + 1, m, h => by
    unfold lastP at h
    split at h
    · injection h with h; subst h; exact ⟨by omega, by assumption⟩
    · have := lastP_lt h; exact ⟨by omega, this.2⟩
/-- The first of n places, from place i on, that has the property. -/
def firstP (p : Nat → Bool) : Nat → Nat → Option Nat
  | _, 0 => none
  | i, m + 1 => if p i then some i else firstP p (i + 1) m
theorem firstP_yes {p : Nat → Bool} {i m : Nat} (hm : 0 < m) (h : p i = true) : firstP p i m = some i := by
  cases m with
  | zero => omega
  | succ m => unfold firstP; rw [if_pos h]
theorem firstP_no {p : Nat → Bool} {i m : Nat} (hm : 0 < m) (h : p i = false) : firstP p i m = firstP p (i + 1) (m - 1) := by
  cases m with
  | zero => omega
  | succ m => rw [firstP, if_neg (by simp [h])]; rfl
end Go.Proofs.Ytlnlogflhagocaa
end

section
namespace Go.Proofs.Ytlnlogflhagocaa
open Go Go.Tr
set_option maxRecDepth 100000
set_option maxHeartbeats 4000000
set_option linter.unusedVariables false
set_option linter.unusedSimpArgs false
/-- What is left of m behind an event; behind a list of them. -/
def szT (x : TEvT) (m : Int) : Int := if szI x.2.2.2.2.1 m < 0 then -1 else szI x.2.2.2.2.2 (szI x.2.2.2.2.1 m)
def szTs : List TEvT → Int → Int
  | [], m => m
  | x :: l, m => if szT x m < 0 then -1 else szTs l (szT x m)
def szTL (xs : List TEvT) (m : Int) : Int := if m - xs.length < 0 then -1 else szTs xs (m - xs.length)
theorem szI_bd {α : Type} (xs : List α) (m : Int) (h : 0 ≤ m) : szI xs m ≤ m ∧ -1 ≤ szI xs m ∧ (0 ≤ szI xs m → (xs.length : Int) ≤ m) := by unfold szI; split <;> omega
theorem szT_bd (x : TEvT) (m : Int) (h : 0 ≤ m) : szT x m ≤ m ∧ -1 ≤ szT x m ∧ (0 ≤ szT x m → (x.2.2.2.2.1.length : Int) ≤ m ∧ (x.2.2.2.2.2.length : Int) ≤ m) := by
  unfold szT
  have h1 := szI_bd x.2.2.2.2.1 m h
  split
  · omega
  · have h2 := szI_bd x.2.2.2.2.2 (szI x.2.2.2.2.1 m) (by omega)
    omega
theorem szTs_bd : ∀ (l : List TEvT) (m : Int), 0 ≤ m → szTs l m ≤ m ∧ -1 ≤ szTs l m ∧ (0 ≤ szTs l m → ∀ x ∈ l, (x.2.2.2.2.1.length : Int) ≤ m ∧ (x.2.2.2.2.2.length : Int) ≤ m)
  | [], m, h => ⟨Int.le_refl _, by simp [szTs]; omega, fun _ x hx => by simp at hx⟩
  | x :: l, m, h => by
    have h1 := szT_bd x m h
    unfold szTs
    split
    · exact ⟨by omega, by omega, fun h => by omega⟩
    · obtain ⟨k1, k2, k3⟩ := szTs_bd l (szT x m) (by omega)
      refine ⟨by omega, by omega, fun h4 y hy => ?_⟩
      rcases List.mem_cons.1 hy with rfl | hy
      · exact h1.2.2 (by omega)
      · have := k3 h4 y hy; omega
theorem szTEv_run (eC eR : Nat) (x : TEvT) (m : Int) (h0 : 0 ≤ m) (h1 : m ≤ 1048576) (hc : x.2.2.2.2.1.length ≤ 9223372036854775807) (hr : x.2.2.2.2.2.length ≤ 9223372036854775807) : RunT Try.prog 97 [aTEv eC eR x, ti m] [] [oi (szT x m)] [] := by
  have b1 := szI_bd x.2.2.2.2.1 m h0
  have c1 := szCmdS_run eC x.2.2.2.2.1 m h0 h1 hc
  refine RunT.of_vc gOk Try.func97 rfl rfl (Nat.le_of_ble_eq_true rfl) (by repeat' (first | exact trivial | exact ⟨_, rfl, Nat.le_refl _⟩ | exact Nat.le_of_ble_eq_true rfl | refine And.intro ?_ ?_)) (Nat.le_of_ble_eq_true rfl) rfl (fun F hE => ?_)
  repeat' (first | exact trivial | refine BS.d (fun h => ?_) (fun h => ?_) | refine BS.e (fun h => ?_) (fun h => ?_) | refine BS.ne (fun h => ?_) (fun h => ?_) | refine BS.n ?_ | refine BS.s (fun h => ?_) (fun h => ?_) | refine And.intro ?_ ?_ | (refine Need.mk ?_; first | with_reducible rfl | (show @Eq TC _ _; rfl) | omega | (simp only [adN_zero]; omega)) | exact OutS.whole rfl rfl | (refine OpK.call c1 rfl rfl rfl rfl hE ?_ rfl rfl ?_; focus ((repeat' (first | exact PsA.lit _ | exact PsA.ref rfl rfl | constructor)); all_goals (fail "ps"))) | refine ListO.go gOk hE ?_)
  all_goals first | (refine Need.mk ?_; unfold szT; rw [if_pos (by assumption)]) | skip
  all_goals have c2 := szResS_run eR x.2.2.2.2.2 (szI x.2.2.2.2.1 m) (by omega) (by omega) hr
  all_goals (repeat' (first | exact trivial | refine BS.d (fun h => ?_) (fun h => ?_) | refine BS.e (fun h => ?_) (fun h => ?_) | refine BS.ne (fun h => ?_) (fun h => ?_) | refine BS.n ?_ | refine BS.s (fun h => ?_) (fun h => ?_) | refine And.intro ?_ ?_ | (refine Need.mk ?_; first | with_reducible rfl | (show @Eq TC _ _; rfl) | omega | (simp only [adN_zero]; omega)) | exact OutS.whole rfl rfl | (refine OpK.call c2 rfl rfl rfl rfl hE ?_ rfl rfl ?_; focus ((repeat' (first | exact PsA.lit _ | exact PsA.ref rfl rfl | constructor)); all_goals (fail "ps"))) | refine ListO.go gOk hE ?_))
  all_goals (refine Need.mk ?_; unfold szT; rw [if_neg (by assumption)])
  all_goals (have b2 := szI_bd x.2.2.2.2.2 (szI x.2.2.2.2.1 m) (by omega); omega)
theorem toTEv_run (eC eR : Nat) (x : TEvT) (hc : x.2.2.2.2.1.length ≤ 1048576) (hr : x.2.2.2.2.2.length ≤ 1048576) : RunT Try.prog 100 [aTEv eC eR x] [] [oTEv 247 249 x] [] := by
  have c1 := toCmdS_run eC x.2.2.2.2.1 hc
  have c2 := toResS_run eR x.2.2.2.2.2 hr
  refine RunT.of_vc gOk Try.func100 rfl rfl (Nat.le_of_ble_eq_true rfl) (by repeat' (first | exact trivial | exact ⟨_, rfl, Nat.le_refl _⟩ | exact Nat.le_of_ble_eq_true rfl | refine And.intro ?_ ?_)) (Nat.le_of_ble_eq_true rfl) rfl (fun F hE => ?_)
  repeat' (first | exact trivial | refine BS.d (fun h => ?_) (fun h => ?_) | refine BS.e (fun h => ?_) (fun h => ?_) | refine BS.ne (fun h => ?_) (fun h => ?_) | refine BS.n ?_ | refine BS.s (fun h => ?_) (fun h => ?_) | refine And.intro ?_ ?_ | (refine Need.mk ?_; first | with_reducible rfl | (show @Eq TC _ _; rfl) | omega | (simp only [adN_zero]; omega)) | exact OutS.whole rfl rfl | (refine OpK.call c1 rfl rfl rfl rfl hE ?_ rfl rfl ?_; focus ((repeat' (first | exact PsA.lit _ | exact PsA.ref rfl rfl | constructor)); all_goals (fail "ps"))) | (refine OpK.call c2 rfl rfl rfl rfl hE ?_ rfl rfl ?_; focus ((repeat' (first | exact PsA.lit _ | exact PsA.ref rfl rfl | constructor)); all_goals (fail "ps"))) | refine ListO.go gOk hE ?_)
theorem eqTEv_run (eC eR : Nat) (x : TEvT) (hc : x.2.2.2.2.1.length ≤ 4000000) (hr : x.2.2.2.2.2.length ≤ 4000000) : RunT Try.prog 104 [aTEv eC eR x, aTEv eC eR x] [] [ob true] [] := by
  have c1 := eqCmdS_run eC x.2.2.2.2.1 hc
  have c2 := eqResS_run eR x.2.2.2.2.2 hr
  refine RunT.of_vc gOk Try.func104 rfl rfl (Nat.le_of_ble_eq_true rfl) (by repeat' (first | exact trivial | exact ⟨_, rfl, Nat.le_refl _⟩ | exact Nat.le_of_ble_eq_true rfl | refine And.intro ?_ ?_)) (Nat.le_of_ble_eq_true rfl) rfl (fun F hE => ?_)
  repeat' (first | exact trivial | refine BS.d (fun h => ?_) (fun h => ?_) | refine BS.e (fun h => ?_) (fun h => ?_) | refine BS.ne (fun h => ?_) (fun h => ?_) | refine BS.n ?_ | refine BS.s (fun h => ?_) (fun h => ?_) | refine And.intro ?_ ?_ | (refine Need.mk ?_; first | with_reducible rfl | (show @Eq TC _ _; rfl) | omega | (simp only [adN_zero]; omega)) | exact OutS.whole rfl rfl | (refine OpK.call c1 rfl rfl rfl rfl hE ?_ rfl rfl ?_; focus ((repeat' (first | exact PsA.lit _ | exact PsA.ref rfl rfl | constructor)); all_goals (fail "ps"))) | (refine OpK.call c2 rfl rfl rfl rfl hE ?_ rfl rfl ?_; focus ((repeat' (first | exact PsA.lit _ | exact PsA.ref rfl rfl | constructor)); all_goals (fail "ps"))) | refine ListO.go gOk hE ?_)
  all_goals (first | exact absurd rfl ‹_› | simp_all)
end Go.Proofs.Ytlnlogflhagocaa
end

section
namespace Go.Proofs.Ytlnlogflhagocaa
open Go Go.Tr
set_option maxRecDepth 100000
set_option maxHeartbeats 4000000
set_option linter.unusedVariables false
set_option linter.unusedSimpArgs false
theorem szTEvS_run (e eC eR : Nat) (xs : List TEvT) (m : Int) (h0 : 0 ≤ m) (h1 : m ≤ 1048576) (hn : xs.length ≤ 9223372036854775807) (hx : ∀ i, (xs.getD i zTEv).2.2.2.2.1.length ≤ 9223372036854775807 ∧ (xs.getD i zTEv).2.2.2.2.2.length ≤ 9223372036854775807) : RunT Try.prog 41 [.one (.c (tTEv e eC eR xs)), ti m] [] [oi (szTL xs m)] [] := by
  refine RunT.of_vc gOk Try.func41 rfl rfl (Nat.le_of_ble_eq_true rfl) (by repeat' (first | exact trivial | exact ⟨_, rfl, Nat.le_refl _⟩ | exact Nat.le_of_ble_eq_true rfl | refine And.intro ?_ ?_)) (Nat.le_of_ble_eq_true rfl) rfl (fun F hE => ?_)
  repeat' (first | exact trivial | refine BS.d (fun h => ?_) (fun h => ?_) | refine BS.e (fun h => ?_) (fun h => ?_) | refine BS.ne (fun h => ?_) (fun h => ?_) | refine BS.n ?_ | refine BS.s (fun h => ?_) (fun h => ?_) | refine And.intro ?_ ?_ | (refine Need.mk ?_; first | with_reducible rfl | (show @Eq TC _ _; rfl) | omega | (simp only [adN_zero]; omega)) | exact OutS.whole rfl rfl | refine ListO.go gOk hE ?_)
  · refine Need.mk ?_
    unfold szTL; rw [if_pos (by omega)]
  · refine CodeK.loop gOk hE (fun i : Nat × Int => ⟨[(0, vr 1000000 xs.length), (1, vi i.2), (5, vi i.1)], [(1000000, rTEv .fro false e eC eR xs)]⟩) (fun i => i.1 ≤ xs.length ∧ 0 ≤ i.2 ∧ i.2 ≤ 1048576 ∧ szTL xs m = szTs (xs.drop i.1) i.2) (fun i => xs.length - i.1) (0, m - xs.length) (by refine leT.of ?_ ?_ rfl <;> repeat' (first | exact trivial | refine And.intro rfl ?_ | refine And.intro (by simp) ?_)) ⟨Nat.zero_le _, by omega, by omega, by unfold szTL; rw [if_neg (by omega)]; rfl⟩ ?_
    rintro ⟨i, b⟩ ⟨hi, hb, hb1, hs⟩
    dsimp only at hi hb hb1 hs
    have c1 := szTEv_run eC eR (xs.getD i zTEv) b hb hb1 (hx i).1 (hx i).2
    have b1 := szT_bd (xs.getD i zTEv) b hb
    repeat' (first | exact trivial | refine BS.d (fun h => ?_) (fun h => ?_) | refine BS.e (fun h => ?_) (fun h => ?_) | refine BS.ne (fun h => ?_) (fun h => ?_) | refine BS.n ?_ | refine BS.s (fun h => ?_) (fun h => ?_) | refine And.intro ?_ ?_ | (refine Need.mk ?_; first | with_reducible rfl | (show @Eq TC _ _; rfl) | omega | (simp only [adN_zero]; omega)) | exact OutS.whole rfl rfl | (refine OpK.call c1 rfl rfl rfl rfl hE ?_ rfl rfl ?_; focus ((repeat' (first | exact PsA.lit _ | exact PsA.ref rfl rfl | constructor)); all_goals (fail "ps"))) | refine ListO.go gOk hE ?_)
    all_goals (try simp only [adN_zero] at *)
    all_goals first
      | (exfalso; omega)
      | (refine Need.mk ?_; omega)
      | (refine Need.mk ?_; rw [hs, drop_cons zTEv (xs := xs) (i := i) (by omega), szTs, if_pos (by assumption)])
      | (refine Need.mk ?_; rw [hs, List.drop_eq_nil_of_le (by omega)]; rfl)
      | (refine ⟨(i + 1, szT (xs.getD i zTEv) b), (by refine leT.of ?_ ?_ rfl <;> repeat' (first | exact trivial | refine And.intro rfl ?_ | refine And.intro (by simp) ?_)), ⟨?_, ?_, ?_, ?_⟩, ?_⟩; (dsimp only; omega); (dsimp only; omega); (dsimp only; omega); (dsimp only; rw [hs, drop_cons zTEv (xs := xs) (i := i) (by omega), szTs, if_neg (by assumption)]); (dsimp only; omega))
theorem toTEvS_run (e eC eR : Nat) (xs : List TEvT) (hn : xs.length ≤ 1048576) (hx : ∀ i, (xs.getD i zTEv).2.2.2.2.1.length ≤ 1048576 ∧ (xs.getD i zTEv).2.2.2.2.2.length ≤ 1048576) : RunT Try.prog 43 [.one (.c (tTEv e eC eR xs))] [] [.one (tTEv 174 247 249 xs)] [] := by
  refine RunT.of_vc gOk Try.func43 rfl rfl (Nat.le_of_ble_eq_true rfl) (by repeat' (first | exact trivial | exact ⟨_, rfl, Nat.le_refl _⟩ | exact Nat.le_of_ble_eq_true rfl | refine And.intro ?_ ?_)) (Nat.le_of_ble_eq_true rfl) rfl (fun F hE => ?_)
  repeat' (first | exact trivial | refine BS.d (fun h => ?_) (fun h => ?_) | refine BS.e (fun h => ?_) (fun h => ?_) | refine BS.ne (fun h => ?_) (fun h => ?_) | refine BS.n ?_ | refine BS.s (fun h => ?_) (fun h => ?_) | refine And.intro ?_ ?_ | (refine Need.mk ?_; first | with_reducible rfl | (show @Eq TC _ _; rfl) | omega | (simp only [adN_zero]; omega)) | exact OutS.whole rfl rfl | refine ListO.go gOk hE ?_)
  refine CodeK.loop gOk hE (fun i : Nat => ⟨[(0, vr 1000000 xs.length), (3, vr 7 xs.length), (4, vi i)], [(7, rTEv .own true 174 247 249 (fl zTEv xs i)), (1000000, rTEv .fro false e eC eR xs)]⟩) (fun i => i ≤ xs.length) (fun i => xs.length - i) 0 (by refine leT.of ?_ ?_ rfl <;> repeat' (first | exact trivial | refine And.intro rfl ?_ | refine And.intro (by simp [fl_zero] <;> rfl) ?_)) (Nat.zero_le _) ?_
  rintro i hi
  have hl := fl_len zTEv xs i hi
  have c1 := toTEv_run eC eR (xs.getD i zTEv) (hx i).1 (hx i).2
  repeat' (first | exact trivial | refine BS.d (fun h => ?_) (fun h => ?_) | refine BS.e (fun h => ?_) (fun h => ?_) | refine BS.ne (fun h => ?_) (fun h => ?_) | refine BS.n ?_ | refine BS.s (fun h => ?_) (fun h => ?_) | refine And.intro ?_ ?_ | (refine Need.mk ?_; first | with_reducible rfl | (show @Eq TC _ _; rfl) | omega | (simp only [adN_zero]; omega)) | exact OutS.whole rfl rfl | (refine OpK.call c1 rfl rfl rfl rfl hE ?_ rfl rfl ?_; focus ((repeat' (first | exact PsA.lit _ | exact PsA.ref rfl rfl | constructor)); all_goals (fail "ps"))) | refine ListO.go gOk hE ?_)
  all_goals first
    | (refine OutS.whole hl.symm ?_; rw [fl_full _ _ _ (by omega) hi]; rfl)
    | skip
  all_goals refine OpK.stN gOk (xs.getD i zTEv) rfl rfl rfl rfl rfl rfl rfl rfl rfl (by first | omega | (simp only [adN_zero]; omega)) (StN.lit rfl (StN.lit rfl (StN.lit rfl (StN.lit rfl (StN.ref rfl rfl rfl rfl rfl (StN.ref rfl rfl rfl rfl rfl StN.nil)))))) ?_
  all_goals (repeat' (first | exact trivial | refine BS.d (fun h => ?_) (fun h => ?_) | refine BS.e (fun h => ?_) (fun h => ?_) | refine BS.ne (fun h => ?_) (fun h => ?_) | refine BS.n ?_ | refine BS.s (fun h => ?_) (fun h => ?_) | refine And.intro ?_ ?_ | (refine Need.mk ?_; first | with_reducible rfl | (show @Eq TC _ _; rfl) | omega | (simp only [adN_zero]; omega)) | exact OutS.whole rfl rfl | refine ListO.go gOk hE ?_))
  all_goals (refine ⟨i + 1, (by refine leT.of ?_ ?_ rfl <;> repeat' (first | exact trivial | refine And.intro rfl ?_ | refine And.intro (by first | (rw [← fl_set zTEv xs i (by omega)]; rfl) | (simp <;> rfl)) ?_)), ?_⟩; (refine And.intro ?_ ?_) <;> (first | omega | (dsimp only; omega) | trivial))
theorem eqTEvS_run (e eC eR : Nat) (xs : List TEvT) (hn : xs.length ≤ 4000000) (hx : ∀ i, (xs.getD i zTEv).2.2.2.2.1.length ≤ 4000000 ∧ (xs.getD i zTEv).2.2.2.2.2.length ≤ 4000000) : RunT Try.prog 46 [.one (.c (tTEv e eC eR xs)), .one (.c (tTEv e eC eR xs))] [] [ob true] [] := by
  refine RunT.of_vc gOk Try.func46 rfl rfl (Nat.le_of_ble_eq_true rfl) (by repeat' (first | exact trivial | exact ⟨_, rfl, Nat.le_refl _⟩ | exact Nat.le_of_ble_eq_true rfl | refine And.intro ?_ ?_)) (Nat.le_of_ble_eq_true rfl) rfl (fun F hE => ?_)
  repeat' (first | exact trivial | refine BS.d (fun h => ?_) (fun h => ?_) | refine BS.e (fun h => ?_) (fun h => ?_) | refine BS.ne (fun h => ?_) (fun h => ?_) | refine BS.n ?_ | refine BS.s (fun h => ?_) (fun h => ?_) | refine And.intro ?_ ?_ | (refine Need.mk ?_; first | with_reducible rfl | (show @Eq TC _ _; rfl) | omega | (simp only [adN_zero]; omega)) | exact OutS.whole rfl rfl | refine ListO.go gOk hE ?_)
  · refine CodeK.loop gOk hE (fun i : Nat => ⟨[(0, vr 1000000 xs.length), (1, vr 1000001 xs.length), (5, vi i)], [(1000000, rTEv .fro false e eC eR xs), (1000001, rTEv .fro false e eC eR xs)]⟩) (fun i => i ≤ xs.length) (fun i => xs.length - i) 0 (by refine leT.of ?_ ?_ rfl <;> repeat' (first | exact trivial | refine And.intro rfl ?_ | refine And.intro (by simp) ?_)) (Nat.zero_le _) ?_
    rintro i hi
    have c1 := eqTEv_run eC eR (xs.getD i zTEv) (hx i).1 (hx i).2
    repeat' (first | exact trivial | refine BS.d (fun h => ?_) (fun h => ?_) | refine BS.e (fun h => ?_) (fun h => ?_) | refine BS.ne (fun h => ?_) (fun h => ?_) | refine BS.n ?_ | refine BS.s (fun h => ?_) (fun h => ?_) | refine And.intro ?_ ?_ | (refine Need.mk ?_; first | with_reducible rfl | (show @Eq TC _ _; rfl) | omega | (simp only [adN_zero]; omega)) | exact OutS.whole rfl rfl | (refine OpK.call c1 rfl rfl rfl rfl hE ?_ rfl rfl ?_; focus ((repeat' (first | exact PsA.lit _ | exact PsA.ref rfl rfl | constructor)); all_goals (fail "ps"))) | (refine CodeK.draw gOk hE rfl (fun _ _ h => h) (.take 0 (.take 1 (.take 2 (.take 4 (.take 5 (.take 6 (.alt 3 (.alt 7 (.alt 8 (.take 9 .done) .stop) .stop) (.alt 7 (.alt 3 (.alt 8 (.take 9 .done) .stop) .stop) .stop)))))))) ?_ ?_; focus (decide +kernel)) | refine ListO.go gOk hE ?_)
    all_goals (refine ⟨i + 1, (by refine leT.of ?_ ?_ rfl <;> repeat' (first | exact trivial | refine And.intro rfl ?_ | refine And.intro (by simp) ?_)), ?_⟩; (refine And.intro ?_ ?_) <;> (first | omega | (dsimp only; omega) | trivial))
end Go.Proofs.Ytlnlogflhagocaa
end

section
namespace Go.Proofs.Ytlnlogflhagocaa
open Go Go.Tr
set_option maxRecDepth 100000
set_option maxHeartbeats 4000000
set_option linter.unusedVariables false
set_option linter.unusedSimpArgs false
def pl (xs : List TEvT) (k s : Int) (j : Nat) : Bool := decide ((xs.getD j zTEv).1 = k) && decide ((xs.getD j zTEv).2.2.1 = s)
def plR : Option Nat → Int
  | some j => (j : Int)
  | none => -1
theorem firstP_lt {p : Nat → Bool} : ∀ {m i j : Nat}, firstP p i m = some j → i ≤ j ∧ j < i + m ∧ p j = true
  | 0, i, j, h => by cases h
  | m + 1, i, j, h => by
    unfold firstP at h
    split at h
    · injection h with h; subst h; exact ⟨Nat.le_refl _, by omega, by assumption⟩
    · have := firstP_lt h; exact ⟨by omega, by omega, this.2.2⟩
theorem firstP_none {p : Nat → Bool} : ∀ {m i : Nat}, firstP p i m = none → ∀ j, i ≤ j → j < i + m → p j = false
  | 0, i, h, j, h1, h2 => by omega
  | m + 1, i, h, j, h1, h2 => by
    unfold firstP at h
    split at h
    · cases h
    · rename_i hp
      by_cases e : j = i
      · subst e; simpa using hp
      · exact firstP_none h j (by omega) (by omega)
/-- The place of the first event of this kind with this serial. -/
def plc (xs : List TEvT) (k s : Int) : Int := plR (firstP (pl xs k s) 0 xs.length)
theorem plc_bd (xs : List TEvT) (k s : Int) : -1 ≤ plc xs k s ∧ plc xs k s < xs.length := by
  unfold plc
  cases h : firstP (pl xs k s) 0 xs.length with
  | none => exact ⟨Int.le_refl _, by show (-1 : Int) < xs.length; omega⟩
  | some j => have := (firstP_lt h).2.1; exact ⟨by show (-1 : Int) ≤ (j : Int); omega, by show (j : Int) < xs.length; omega⟩
theorem PlaceOfS_run (e eC eR : Nat) (xs : List TEvT) (k s : Int) (hn : xs.length ≤ 1048576) : RunT Try.prog 158 [.one (.c (tTEv e eC eR xs)), ti k, ti s] [] [oi (plc xs k s)] [] := by
  refine RunT.of_vc gOk Try.func158 rfl rfl (Nat.le_of_ble_eq_true rfl) (by repeat' (first | exact trivial | exact ⟨_, rfl, Nat.le_refl _⟩ | exact Nat.le_of_ble_eq_true rfl | refine And.intro ?_ ?_)) (Nat.le_of_ble_eq_true rfl) rfl (fun F hE => ?_)
  repeat' (first | exact trivial | refine BS.d (fun h => ?_) (fun h => ?_) | refine BS.e (fun h => ?_) (fun h => ?_) | refine BS.ne (fun h => ?_) (fun h => ?_) | refine BS.n ?_ | refine BS.s (fun h => ?_) (fun h => ?_) | refine And.intro ?_ ?_ | (refine Need.mk ?_; first | with_reducible rfl | (show @Eq TC _ _; rfl) | omega | (simp only [adN_zero]; omega)) | exact OutS.whole rfl rfl | refine ListO.go gOk hE ?_)
  refine CodeK.loop gOk hE (fun i : Nat => ⟨[(0, vr 1000000 xs.length), (1, vi k), (2, vi s), (7, vi i)], [(1000000, rTEv .fro false e eC eR xs)]⟩) (fun i => i ≤ xs.length ∧ plc xs k s = plR (firstP (pl xs k s) i (xs.length - i))) (fun i => xs.length - i) 0 (by refine leT.of ?_ ?_ rfl <;> repeat' (first | exact trivial | refine And.intro rfl ?_ | refine And.intro (by simp) ?_)) ⟨Nat.zero_le _, rfl⟩ ?_
  rintro i ⟨hi, hs⟩
  rcases hp : pl xs k s i
  all_goals (have hp0 := hp; simp only [pl, Bool.and_eq_true, Bool.and_eq_false_imp, decide_eq_true_eq, decide_eq_false_iff_not] at hp)
  all_goals (repeat' (first | exact trivial | refine BS.d (fun h => ?_) (fun h => ?_) | refine BS.e (fun h => ?_) (fun h => ?_) | refine BS.ne (fun h => ?_) (fun h => ?_) | refine BS.n ?_ | refine BS.s (fun h => ?_) (fun h => ?_) | refine And.intro ?_ ?_ | (refine Need.mk ?_; first | with_reducible rfl | (show @Eq TC _ _; rfl) | omega | (simp only [adN_zero]; omega)) | exact OutS.whole rfl rfl | refine ListO.go gOk hE ?_))
  all_goals (try simp only [adN_zero] at *)
  all_goals first
    | (exfalso; first | omega | (simp_all; done))
    | (refine Need.mk ?_; rw [hs, firstP_yes (by omega) hp0]; rfl)
    | (refine Need.mk ?_; rw [hs, show xs.length - i = 0 by omega]; rfl)
    | (refine ⟨i + 1, (by refine leT.of ?_ ?_ rfl <;> repeat' (first | exact trivial | refine And.intro rfl ?_ | refine And.intro (by simp) ?_)), ⟨by omega, by rw [hs, firstP_no (by omega) hp0, show xs.length - i - 1 = xs.length - (i + 1) by omega]⟩, by first | omega | (dsimp only; omega)⟩)
theorem PlaceOf1_run (eC eR : Nat) (x : TEvT) (k s : Int) (g1 j1 g2 j2 : Nat) : RunH Try.prog (hcL [(g1, j1, .int .i64 k), (g2, j2, .int .i64 s)]) 228 [aTEv eC eR x, .one (.c (.lit (.pointer (some ⟨g1, j1, none⟩)))), .one (.c (.lit (.pointer (some ⟨g2, j2, none⟩))))] [] [ob (decide (x.1 = k) && decide (x.2.2.1 = s))] [] := by
  refine RunH.of_vc gOk Try.func228 rfl rfl (Nat.le_of_ble_eq_true rfl) (by repeat' (first | exact trivial | exact ⟨_, rfl, Nat.le_refl _⟩ | exact Nat.le_of_ble_eq_true rfl | refine And.intro ?_ ?_)) (Nat.le_of_ble_eq_true rfl) rfl (fun F hE hA => ?_)
  repeat' (first | exact trivial | refine BS.d (fun h => ?_) (fun h => ?_) | refine BS.e (fun h => ?_) (fun h => ?_) | refine BS.ne (fun h => ?_) (fun h => ?_) | refine BS.n ?_ | refine BS.s (fun h => ?_) (fun h => ?_) | refine And.intro ?_ ?_ | (refine Need.mk ?_; first | with_reducible rfl | (show @Eq TC _ _; rfl) | omega | (simp only [adN_zero]; omega)) | exact OutS.whole rfl rfl | (first | refine OpK.ldI gOk 0 hA rfl rfl rfl rfl rfl rfl rfl ?_ | refine OpK.ldI gOk 1 hA rfl rfl rfl rfl rfl rfl rfl ?_ | refine OpK.ldI gOk 2 hA rfl rfl rfl rfl rfl rfl rfl ?_) | refine ListO.go gOk hE ?_)
  all_goals (refine Need.mk ?_; simp_all [Bool.beq_eq_decide_eq])
theorem IndexTEv_run {hc : Hc} {cf : Nat} {caps : Array Value} (p : TEvT → Bool) (e eC eR : Nat) (xs : List TEvT) (hn : xs.length ≤ 1048576) (hcs : ∀ v ∈ caps, scal v = true) (hf : ∀ x : TEvT, RunH Try.prog hc cf ([aTEv eC eR x] ++ capA caps) [] [ob (p x)] []) :
    RunH Try.prog hc 227 [.one (.c (tTEv e eC eR xs)), .one (.c (.lit (.func (.func cf) #[] caps)))] [] [oi (plR (firstP (fun j => p (xs.getD j zTEv)) 0 xs.length))] [] := by
  refine RunH.of_vc gOk Try.func227 rfl rfl (Nat.le_of_ble_eq_true rfl) (by repeat' (first | exact trivial | exact ⟨_, rfl, Nat.le_refl _⟩ | exact Nat.le_of_ble_eq_true rfl | refine And.intro ?_ ?_)) (Nat.le_of_ble_eq_true rfl) rfl (fun F hE hA => ?_)
  repeat' (first | exact trivial | refine BS.d (fun h => ?_) (fun h => ?_) | refine BS.e (fun h => ?_) (fun h => ?_) | refine BS.ne (fun h => ?_) (fun h => ?_) | refine BS.n ?_ | refine BS.s (fun h => ?_) (fun h => ?_) | refine And.intro ?_ ?_ | (refine Need.mk ?_; first | with_reducible rfl | (show @Eq TC _ _; rfl) | omega | (simp only [adN_zero]; omega)) | exact OutS.whole rfl rfl | refine ListO.go gOk hE ?_)
  refine CodeK.loop gOk hE (fun i : Nat => ⟨[(0, vr 1000000 xs.length), (1, .a (.lit (.func (.func cf) #[] caps))), (7, vi xs.length), (8, vi i)], [(1000000, rTEv .fro false e eC eR xs)]⟩) (fun i => i ≤ xs.length ∧ firstP (fun j => p (xs.getD j zTEv)) 0 xs.length = firstP (fun j => p (xs.getD j zTEv)) i (xs.length - i)) (fun i => xs.length - i) 0 (by refine leT.of ?_ ?_ rfl <;> repeat' (first | exact trivial | refine And.intro rfl ?_ | refine And.intro (by simp) ?_)) ⟨Nat.zero_le _, rfl⟩ ?_
  rintro i ⟨hi, hs⟩
  rcases hp : p (xs.getD i zTEv)
  all_goals (have c1 := hf (xs.getD i zTEv); rw [hp] at c1)
  all_goals (repeat' (first | exact trivial | refine BS.d (fun h => ?_) (fun h => ?_) | refine BS.e (fun h => ?_) (fun h => ?_) | refine BS.ne (fun h => ?_) (fun h => ?_) | refine BS.n ?_ | refine BS.s (fun h => ?_) (fun h => ?_) | refine And.intro ?_ ?_ | (refine Need.mk ?_; first | with_reducible rfl | (show @Eq TC _ _; rfl) | omega | (simp only [adN_zero]; omega)) | exact OutS.whole rfl rfl | (refine OpK.callC c1 hA hcs rfl rfl rfl rfl hE ?_ rfl rfl ?_; focus ((repeat' (first | exact PsA.lit _ | exact PsA.ref rfl rfl | constructor)); all_goals (fail "ps"))) | refine ListO.go gOk hE ?_))
  all_goals (try simp only [adN_zero] at *)
  all_goals first
    | (exfalso; first | omega | (simp_all; done))
    | (refine Need.mk ?_; omega)
    | (refine Need.mk ?_; rw [hs, firstP_yes (by omega) hp]; rfl)
    | (refine Need.mk ?_; rw [hs, show xs.length - i = 0 by omega]; rfl)
    | (refine ⟨i + 1, (by refine leT.of ?_ ?_ rfl <;> repeat' (first | exact trivial | refine And.intro rfl ?_ | refine And.intro (by simp) ?_)), ⟨by omega, by rw [hs, firstP_no (by omega) hp, show xs.length - i - 1 = xs.length - (i + 1) by omega]⟩, by first | omega | (dsimp only; omega)⟩)
theorem PlaceOfI_run (e eC eR : Nat) (xs : List TEvT) (k s : Int) (hn : xs.length ≤ 1048576) : RunT Try.prog 165 [.one (.c (tTEv e eC eR xs)), ti k, ti s] [] [oi (plc xs k s)] [] := by
  refine RunH.toT ?_
  have c1 : ∀ ps : List (Nat × Nat), ps.length = 2 → RunH Try.prog (hcU (hcL (hcOf ps [.int .i64 k, .int .i64 s])) hc0) 227 [.one (.c (tTEv e eC eR xs)), .one (.c (.lit (.func (.func 228) #[] (ptrs ps))))] [] [oi (plc xs k s)] [] := by
    intro ps hps
    match ps, hps with
    | [(g1, j1), (g2, j2)], _ =>
      exact (IndexTEv_run (caps := ptrs [(g1, j1), (g2, j2)]) (fun x : TEvT => decide (x.1 = k) && decide (x.2.2.1 = s)) e eC eR xs hn (ptrs_scal _) (fun x => PlaceOf1_run eC eR x k s g1 j1 g2 j2)).mono (fun g j v hm => .inl hm)
  refine RunH.of_vc gOk Try.func165 rfl rfl (Nat.le_of_ble_eq_true rfl) (by repeat' (first | exact trivial | exact ⟨_, rfl, Nat.le_refl _⟩ | exact Nat.le_of_ble_eq_true rfl | refine And.intro ?_ ?_)) (Nat.le_of_ble_eq_true rfl) rfl (fun F hE hA => ?_)
  repeat' (first | exact trivial | refine BS.d (fun h => ?_) (fun h => ?_) | refine BS.e (fun h => ?_) (fun h => ?_) | refine BS.ne (fun h => ?_) (fun h => ?_) | refine BS.n ?_ | refine BS.s (fun h => ?_) (fun h => ?_) | refine And.intro ?_ ?_ | (refine Need.mk ?_; first | with_reducible rfl | (show @Eq TC _ _; rfl) | omega | (simp only [adN_zero]; omega)) | exact OutS.whole rfl rfl | refine ListO.go gOk hE ?_)
  (refine ListK.mkCall (args := (fun v => [.one (.c (tTEv e eC eR xs)), .one (.c (.lit v))])) rfl rfl rfl rfl (.cons rfl rfl (.cons rfl rfl .nil)) hA c1 rfl rfl rfl rfl rfl hE ?_ rfl rfl ?_ gOk; focus (intro v; (repeat' (first | exact PsA.lit _ | exact PsA.ref rfl rfl | constructor)); all_goals (fail "ps")))
  repeat' (first | exact trivial | refine BS.d (fun h => ?_) (fun h => ?_) | refine BS.e (fun h => ?_) (fun h => ?_) | refine BS.ne (fun h => ?_) (fun h => ?_) | refine BS.n ?_ | refine BS.s (fun h => ?_) (fun h => ?_) | refine And.intro ?_ ?_ | (refine Need.mk ?_; first | with_reducible rfl | (show @Eq TC _ _; rfl) | omega | (simp only [adN_zero]; omega)) | exact OutS.whole rfl rfl | refine ListO.go gOk hE ?_)
end Go.Proofs.Ytlnlogflhagocaa
end

section
namespace Go.Proofs.Ytlnlogflhagocaa
open Go Go.Tr
set_option maxRecDepth 100000
set_option maxHeartbeats 4000000
set_option linter.unusedVariables false
set_option linter.unusedSimpArgs false
theorem szTL_ok {xs : List TEvT} (hz : ¬ szTL xs 1048576 < 0) : xs.length ≤ 1048576 ∧ ∀ i, (xs.getD i zTEv).2.2.2.2.1.length ≤ 1048576 ∧ (xs.getD i zTEv).2.2.2.2.2.length ≤ 1048576 := by
  have hm : xs.length ≤ 1048576 := by unfold szTL at hz; split at hz <;> omega
  refine ⟨hm, fun i => ?_⟩
  unfold szTL at hz
  rw [if_neg (by omega)] at hz
  have h3 := (szTs_bd xs (1048576 - xs.length) (by omega)).2.2 (by omega)
  by_cases hi : i < xs.length
  · have : xs.getD i zTEv = xs[i] := by simp [List.getD, hi]
    rw [this]
    have := h3 _ (List.getElem_mem hi)
    omega
  · simp [List.getD, hi]
theorem TEvs_of {e e' n : Nat} {row : Nat → Nat → C} (hn : n ≤ 9223372036854775807) (h : ∀ i r t, i < n → ([Dt.i, Dt.i, Dt.i, Dt.i, Dt.sl [.i, .i, .i], Dt.sl [.b, .i]] : List Dt)[r]? = some t → DtOk t (row i r)) : ∃ xs : List TEvT, xs.length = n ∧ (∀ x ∈ xs, x.2.2.2.2.1.length ≤ 9223372036854775807 ∧ x.2.2.2.2.2.length ≤ 9223372036854775807) ∧ CSame (.sl .fro e 6 n row) ((tTEv e' 0 0 xs).er .fro) :=
  list_of decTEv zTEv 6 (fun f hf => by
    obtain ⟨z0, hz0, w0⟩ := (hf 0 .i rfl).int
    obtain ⟨z1, hz1, w1⟩ := (hf 1 .i rfl).int
    obtain ⟨z2, hz2, w2⟩ := (hf 2 .i rfl).int
    obtain ⟨z3, hz3, w3⟩ := (hf 3 .i rfl).int
    obtain ⟨e4, n4, row4, hz4, l4, k4⟩ := (hf 4 (.sl [.i, .i, .i]) rfl).slice
    obtain ⟨e5, n5, row5, hz5, l5, k5⟩ := (hf 5 (.sl [.b, .i]) rfl).slice
    obtain ⟨g4, lg4, pg4, sg4⟩ := Cmds_of (e := e4) (e' := 0) l4 k4
    obtain ⟨g5, lg5, pg5, sg5⟩ := Ress_of (e := e5) (e' := 0) l5 k5
    refine ⟨(z0, z1, z2, z3, g4, g5), ⟨by show g4.length ≤ _; omega, by show g5.length ≤ _; omega⟩, fun r hr => ?_⟩
    match r, hr with
    | 0, _ => rw [hz0]; exact rfl
    | 1, _ => rw [hz1]; exact rfl
    | 2, _ => rw [hz2]; exact rfl
    | 3, _ => rw [hz3]; exact rfl
    | 4, _ => rw [hz4]; exact sg4
    | 5, _ => rw [hz5]; exact sg5
    ) h
end Go.Proofs.Ytlnlogflhagocaa
end

section
namespace Go.Proofs.Ytlnlogflhagocaa
open Go Go.Tr
set_option maxRecDepth 100000
set_option maxHeartbeats 4000000
set_option linter.unusedVariables false
set_option linter.unusedSimpArgs false
theorem l8HasT_run (xs : List Int) (x : Int) (hn : xs.length ≤ 4000000) : RunT Try.prog 157 [.one (.c (tI xs)), ti x] [] [ob (decide (x ∈ xs))] [] := by
  refine RunT.of_vc gOk Try.func157 rfl rfl (Nat.le_of_ble_eq_true rfl) (by repeat' (first | exact trivial | exact ⟨_, rfl, Nat.le_refl _⟩ | exact Nat.le_of_ble_eq_true rfl | refine And.intro ?_ ?_)) (Nat.le_of_ble_eq_true rfl) rfl (fun F hE => ?_)
  repeat' (first | exact trivial | refine BS.d (fun h => ?_) (fun h => ?_) | refine BS.e (fun h => ?_) (fun h => ?_) | refine BS.ne (fun h => ?_) (fun h => ?_) | refine BS.n ?_ | refine BS.s (fun h => ?_) (fun h => ?_) | refine And.intro ?_ ?_ | (refine Need.mk ?_; first | with_reducible rfl | (show @Eq TC _ _; rfl) | omega | (simp only [adN_zero]; omega)) | exact OutS.whole rfl rfl | refine ListO.go gOk hE ?_)
  refine CodeK.loop gOk hE (fun i : Nat => ⟨[(0, vr 1000000 xs.length), (1, vi x), (5, vi i)], [(1000000, rI .fro false xs)]⟩) (fun i => i ≤ xs.length ∧ ∀ j, j < i → xs.getD j 0 ≠ x) (fun i => xs.length - i) 0 (by refine leT.of ?_ ?_ rfl <;> repeat' (first | exact trivial | refine And.intro rfl ?_ | refine And.intro (by simp) ?_)) ⟨Nat.zero_le _, fun j hj => absurd hj (Nat.not_lt_zero _)⟩ ?_
  rintro i ⟨hi, hq⟩
  by_cases hp : xs.getD i 0 = x
  all_goals (repeat' (first | exact trivial | refine BS.d (fun h => ?_) (fun h => ?_) | refine BS.e (fun h => ?_) (fun h => ?_) | refine BS.ne (fun h => ?_) (fun h => ?_) | refine BS.n ?_ | refine BS.s (fun h => ?_) (fun h => ?_) | refine And.intro ?_ ?_ | (refine Need.mk ?_; first | with_reducible rfl | (show @Eq TC _ _; rfl) | omega | (simp only [adN_zero]; omega)) | exact OutS.whole rfl rfl | refine ListO.go gOk hE ?_))
  all_goals (try simp only [adN_zero] at *)
  all_goals first
    | (exfalso; first | omega | (simp_all; done))
    | (refine Need.mk ?_; symm; apply decide_eq_true; rw [← hp, List.getD_eq_getElem?_getD, List.getElem?_eq_getElem (by omega)]; exact List.getElem_mem _)
    | (refine Need.mk ?_; symm; apply decide_eq_false; intro hm; obtain ⟨j, hj, hj2⟩ := List.getElem_of_mem hm; exact hq j (by omega) (by rw [List.getD_eq_getElem?_getD, List.getElem?_eq_getElem hj]; exact hj2))
    | (refine ⟨i + 1, (by refine leT.of ?_ ?_ rfl <;> repeat' (first | exact trivial | refine And.intro rfl ?_ | refine And.intro (by simp) ?_)), ⟨by omega, fun j hj => (Nat.lt_or_ge j i).elim (hq j) (fun h9 => (show j = i by omega) ▸ hp)⟩, by first | omega | (dsimp only; omega)⟩)
theorem IndexI_run (xs : List Int) (x : Int) (hn : xs.length ≤ 4000000) : ∃ r : Int, (0 ≤ r ↔ x ∈ xs) ∧ RunT Try.prog 226 [.one (.c (tI xs)), ti x] [] [oi r] [] := by
  refine ⟨plR (firstP (fun j => decide (xs.getD j 0 = x)) 0 xs.length), ?_, ?_⟩
  · cases h : firstP (fun j => decide (xs.getD j 0 = x)) 0 xs.length with
    | none =>
      refine ⟨fun h => absurd h (by show ¬ (0 : Int) ≤ -1; omega), fun hm => ?_⟩
      obtain ⟨j, hj, hj2⟩ := List.getElem_of_mem hm
      exact absurd (firstP_none h j (Nat.zero_le _) (by omega)) (by simp [List.getD_eq_getElem?_getD, List.getElem?_eq_getElem hj, hj2])
    | some j =>
      obtain ⟨_, h2, h3⟩ := firstP_lt h
      refine ⟨fun _ => ?_, fun _ => (by show (0 : Int) ≤ (j : Int); omega)⟩
      have h4 : xs.getD j 0 = x := of_decide_eq_true h3
      rw [← h4, List.getD_eq_getElem?_getD, List.getElem?_eq_getElem (by omega)]; exact List.getElem_mem _
  · refine RunT.of_vc gOk Try.func226 rfl rfl (Nat.le_of_ble_eq_true rfl) (by repeat' (first | exact trivial | exact ⟨_, rfl, Nat.le_refl _⟩ | exact Nat.le_of_ble_eq_true rfl | refine And.intro ?_ ?_)) (Nat.le_of_ble_eq_true rfl) rfl (fun F hE => ?_)
    repeat' (first | exact trivial | refine BS.d (fun h => ?_) (fun h => ?_) | refine BS.e (fun h => ?_) (fun h => ?_) | refine BS.ne (fun h => ?_) (fun h => ?_) | refine BS.n ?_ | refine BS.s (fun h => ?_) (fun h => ?_) | refine And.intro ?_ ?_ | (refine Need.mk ?_; first | with_reducible rfl | (show @Eq TC _ _; rfl) | omega | (simp only [adN_zero]; omega)) | exact OutS.whole rfl rfl | refine ListO.go gOk hE ?_)
    refine CodeK.loop gOk hE (fun i : Nat => ⟨[(0, vr 1000000 xs.length), (1, vi x), (7, vi xs.length), (8, vi i)], [(1000000, rI .fro false xs)]⟩) (fun i => i ≤ xs.length ∧ firstP (fun j => decide (xs.getD j 0 = x)) 0 xs.length = firstP (fun j => decide (xs.getD j 0 = x)) i (xs.length - i)) (fun i => xs.length - i) 0 (by refine leT.of ?_ ?_ rfl <;> repeat' (first | exact trivial | refine And.intro rfl ?_ | refine And.intro (by simp) ?_)) ⟨Nat.zero_le _, rfl⟩ ?_
    rintro i ⟨hi, hs⟩
    by_cases hp : xs.getD i 0 = x
    all_goals (repeat' (first | exact trivial | refine BS.d (fun h => ?_) (fun h => ?_) | refine BS.e (fun h => ?_) (fun h => ?_) | refine BS.ne (fun h => ?_) (fun h => ?_) | refine BS.n ?_ | refine BS.s (fun h => ?_) (fun h => ?_) | refine And.intro ?_ ?_ | (refine Need.mk ?_; first | with_reducible rfl | (show @Eq TC _ _; rfl) | omega | (simp only [adN_zero]; omega)) | exact OutS.whole rfl rfl | refine ListO.go gOk hE ?_))
    all_goals (try simp only [adN_zero] at *)
    all_goals first
      | (exfalso; first | omega | (simp_all; done))
      | (refine Need.mk ?_; rw [hs, firstP_yes (by omega) (decide_eq_true hp)]; rfl)
      | (refine Need.mk ?_; rw [hs, show xs.length - i = 0 by omega]; rfl)
      | (refine ⟨i + 1, (by refine leT.of ?_ ?_ rfl <;> repeat' (first | exact trivial | refine And.intro rfl ?_ | refine And.intro (by simp) ?_)), ⟨by omega, by rw [hs, firstP_no (by omega) (decide_eq_false hp), show xs.length - i - 1 = xs.length - (i + 1) by omega]⟩, by first | omega | (dsimp only; omega)⟩)
theorem ContainsI_run (xs : List Int) (x : Int) (hn : xs.length ≤ 4000000) : RunT Try.prog 164 [.one (.c (tI xs)), ti x] [] [ob (decide (x ∈ xs))] [] := by
  obtain ⟨r, h1, c1⟩ := IndexI_run xs x hn
  refine RunT.of_vc gOk Try.func164 rfl rfl (Nat.le_of_ble_eq_true rfl) (by repeat' (first | exact trivial | exact ⟨_, rfl, Nat.le_refl _⟩ | exact Nat.le_of_ble_eq_true rfl | refine And.intro ?_ ?_)) (Nat.le_of_ble_eq_true rfl) rfl (fun F hE => ?_)
  repeat' (first | exact trivial | refine BS.d (fun h => ?_) (fun h => ?_) | refine BS.e (fun h => ?_) (fun h => ?_) | refine BS.ne (fun h => ?_) (fun h => ?_) | refine BS.n ?_ | refine BS.s (fun h => ?_) (fun h => ?_) | refine And.intro ?_ ?_ | (refine Need.mk ?_; first | with_reducible rfl | (show @Eq TC _ _; rfl) | omega | (simp only [adN_zero]; omega)) | exact OutS.whole rfl rfl | (refine OpK.call c1 rfl rfl rfl rfl hE ?_ rfl rfl ?_; focus ((repeat' (first | exact PsA.lit _ | exact PsA.ref rfl rfl | constructor)); all_goals (fail "ps"))) | refine ListO.go gOk hE ?_)
  all_goals (refine Need.mk ?_; exact decide_eq_decide.2 h1)
/-- The batch has told that it succeeded. -/
def cmt (xs : List TEvT) (s : Int) : Bool := decide (0 ≤ plc xs 3 s) && decide ((xs.getD (plc xs 3 s).toNat zTEv).2.2.2.1 = 0)
theorem committed_run (e eC eR : Nat) (xs : List TEvT) (s : Int) (hn : xs.length ≤ 1048576) : RunT Try.prog 163 [.one (.c (tTEv e eC eR xs)), ti s] [] [ob (cmt xs s)] [] := by
  have c1 := PlaceOfI_run e eC eR xs 3 s hn
  have hb := plc_bd xs 3 s
  unfold cmt
  generalize plc xs 3 s = r at *
  by_cases hr : 0 ≤ r
  · obtain ⟨m, rfl⟩ := Int.eq_ofNat_of_zero_le hr
    refine RunT.of_vc gOk Try.func163 rfl rfl (Nat.le_of_ble_eq_true rfl) (by repeat' (first | exact trivial | exact ⟨_, rfl, Nat.le_refl _⟩ | exact Nat.le_of_ble_eq_true rfl | refine And.intro ?_ ?_)) (Nat.le_of_ble_eq_true rfl) rfl (fun F hE => ?_)
    repeat' (first | exact trivial | refine BS.d (fun h => ?_) (fun h => ?_) | refine BS.e (fun h => ?_) (fun h => ?_) | refine BS.ne (fun h => ?_) (fun h => ?_) | refine BS.n ?_ | refine BS.s (fun h => ?_) (fun h => ?_) | refine And.intro ?_ ?_ | (refine Need.mk ?_; first | with_reducible rfl | (show @Eq TC _ _; rfl) | omega | (simp only [adN_zero]; omega)) | exact OutS.whole rfl rfl | (refine OpK.call c1 rfl rfl rfl rfl hE ?_ rfl rfl ?_; focus ((repeat' (first | exact PsA.lit _ | exact PsA.ref rfl rfl | constructor)); all_goals (fail "ps"))) | refine ListO.go gOk hE ?_)
    all_goals (try simp only [adN_zero] at *)
    all_goals first | (exfalso; omega) | (refine Need.mk ?_; omega) | (refine Need.mk ?_; simp [Bool.beq_eq_decide_eq])
  · refine RunT.of_vc gOk Try.func163 rfl rfl (Nat.le_of_ble_eq_true rfl) (by repeat' (first | exact trivial | exact ⟨_, rfl, Nat.le_refl _⟩ | exact Nat.le_of_ble_eq_true rfl | refine And.intro ?_ ?_)) (Nat.le_of_ble_eq_true rfl) rfl (fun F hE => ?_)
    repeat' (first | exact trivial | refine BS.d (fun h => ?_) (fun h => ?_) | refine BS.e (fun h => ?_) (fun h => ?_) | refine BS.ne (fun h => ?_) (fun h => ?_) | refine BS.n ?_ | refine BS.s (fun h => ?_) (fun h => ?_) | refine And.intro ?_ ?_ | (refine Need.mk ?_; first | with_reducible rfl | (show @Eq TC _ _; rfl) | omega | (simp only [adN_zero]; omega)) | exact OutS.whole rfl rfl | (refine OpK.call c1 rfl rfl rfl rfl hE ?_ rfl rfl ?_; focus ((repeat' (first | exact PsA.lit _ | exact PsA.ref rfl rfl | constructor)); all_goals (fail "ps"))) | refine ListO.go gOk hE ?_)
    all_goals first | (exfalso; omega) | (refine Need.mk ?_; simp [hr])
def oTk (xs : List TEvT) (acc : List Int) (e : TEvT) : Bool := decide (e.1 = 2) && (cmt xs e.2.2.1 && !decide (e.2.2.1 ∈ acc))
/-- The serials of the points, each once, of the batches that succeeded. -/
def ordN (xs : List TEvT) : Nat → List Int
  | 0 => []
  | i + 1 => if oTk xs (ordN xs i) (xs.getD i zTEv) then ordN xs i ++ [(xs.getD i zTEv).2.2.1] else ordN xs i
theorem ordN_le (xs : List TEvT) : ∀ i, (ordN xs i).length ≤ i
  | 0 => Nat.le_refl _
  | i + 1 => by have := ordN_le xs i; unfold ordN; split <;> simp <;> omega
theorem ordN_ok (xs : List TEvT) : ∀ i, ∀ s ∈ ordN xs i, 0 ≤ plc xs 3 s
  | 0, s, h => by cases h
  | i + 1, s, h => by
    unfold ordN at h
    split at h
    · rename_i ht
      rcases List.mem_append.1 h with h | h
      · exact ordN_ok xs i s h
      · obtain rfl := List.mem_singleton.1 h
        unfold oTk cmt at ht
        simp only [Bool.and_eq_true, decide_eq_true_eq] at ht
        exact ht.2.1.1
    · exact ordN_ok xs i s h
theorem OrderS_run (e eC eR : Nat) (xs : List TEvT) (hn : xs.length ≤ 1048576) : RunT Try.prog 98 [.one (.c (tTEv e eC eR xs))] [] [.one (tI (ordN xs xs.length))] [] := by
  refine RunT.of_vc gOk Try.func98 rfl rfl (Nat.le_of_ble_eq_true rfl) (by repeat' (first | exact trivial | exact ⟨_, rfl, Nat.le_refl _⟩ | exact Nat.le_of_ble_eq_true rfl | refine And.intro ?_ ?_)) (Nat.le_of_ble_eq_true rfl) rfl (fun F hE => ?_)
  repeat' (first | exact trivial | refine BS.d (fun h => ?_) (fun h => ?_) | refine BS.e (fun h => ?_) (fun h => ?_) | refine BS.ne (fun h => ?_) (fun h => ?_) | refine BS.n ?_ | refine BS.s (fun h => ?_) (fun h => ?_) | refine And.intro ?_ ?_ | (refine Need.mk ?_; first | with_reducible rfl | (show @Eq TC _ _; rfl) | omega | (simp only [adN_zero]; omega)) | exact OutS.whole rfl rfl | refine ListO.go gOk hE ?_)
  refine CodeK.loop gOk hE (fun i : Nat => ⟨[(0, vr 1000000 xs.length), (3, vr 6 (ordN xs i).length), (4, vi i)], [(6, rI .own true (ordN xs i)), (1000000, rTEv .fro false e eC eR xs)]⟩) (fun i => i ≤ xs.length) (fun i => xs.length - i) 0 (by refine leT.of ?_ ?_ rfl <;> repeat' (first | exact trivial | refine And.intro rfl ?_ | refine And.intro (by first | rfl | (simp [ordN]; done)) ?_)) (Nat.zero_le _) ?_
  rintro i hi
  have hl := ordN_le xs i
  have hb := plc_bd xs 3 (xs.getD i zTEv).2.2.1
  have c1 := l8HasT_run (ordN xs i) (xs.getD i zTEv).2.2.1 (by omega)
  have c2 := PlaceOfS_run e eC eR xs 3 (xs.getD i zTEv).2.2.1 hn
  have hN : ordN xs (i + 1) = if oTk xs (ordN xs i) (xs.getD i zTEv) then ordN xs i ++ [(xs.getD i zTEv).2.2.1] else ordN xs i := rfl
  unfold oTk cmt at hN
  generalize plc xs 3 (xs.getD i zTEv).2.2.1 = r at *
  by_cases hr : 0 ≤ r
  · obtain ⟨m, rfl⟩ := Int.eq_ofNat_of_zero_le hr
    rw [show ((m : Nat) : Int).toNat = m from rfl, decide_eq_true hr, Bool.true_and] at hN
    by_cases h1 : (xs.getD i zTEv).1 = 2 <;> by_cases h2 : (xs.getD i zTEv).2.2.1 ∈ ordN xs i <;> by_cases h3 : (xs.getD m zTEv).2.2.2.1 = 0
    all_goals simp only [h1, h2, h3, decide_true, decide_false, Bool.not_true, Bool.not_false, Bool.and_true, Bool.and_false, Bool.true_and, Bool.false_and, if_true, if_false, Bool.false_eq_true] at hN c1
    all_goals (repeat' (first | exact trivial | refine BS.d (fun h => ?_) (fun h => ?_) | refine BS.e (fun h => ?_) (fun h => ?_) | refine BS.ne (fun h => ?_) (fun h => ?_) | refine BS.n ?_ | refine BS.s (fun h => ?_) (fun h => ?_) | refine And.intro ?_ ?_ | (refine Need.mk ?_; first | with_reducible rfl | (show @Eq TC _ _; rfl) | omega | (simp only [adN_zero]; omega)) | exact OutS.whole rfl rfl | (refine OpK.call c1 rfl rfl rfl rfl hE ?_ rfl rfl ?_; focus ((repeat' (first | exact PsA.lit _ | exact PsA.ref rfl rfl | constructor)); all_goals (fail "ps"))) | (refine OpK.call c2 rfl rfl rfl rfl hE ?_ rfl rfl ?_; focus ((repeat' (first | exact PsA.lit _ | exact PsA.ref rfl rfl | constructor)); all_goals (fail "ps"))) | refine ListO.go gOk hE ?_))
    all_goals (try simp only [adN_zero] at *)
    all_goals first
      | (exfalso; first | omega | contradiction)
      | (refine Need.mk ?_; omega)
      | (refine Need.mk ?_; refine ⟨?_, ?_⟩ <;> (try unfold maxLen) <;> omega)
      | (refine OutS.whole rfl ?_; rw [show xs.length = i by omega]; rfl)
      | skip
    all_goals (repeat' (first | exact trivial | refine BS.d (fun h => ?_) (fun h => ?_) | refine BS.e (fun h => ?_) (fun h => ?_) | refine BS.ne (fun h => ?_) (fun h => ?_) | refine BS.n ?_ | refine BS.s (fun h => ?_) (fun h => ?_) | refine And.intro ?_ ?_ | (refine Need.mk ?_; first | with_reducible rfl | (show @Eq TC _ _; rfl) | omega | (simp only [adN_zero]; omega)) | exact OutS.whole rfl rfl | refine ListO.go gOk hE ?_))
    all_goals (refine ⟨i + 1, (by refine leT.of ?_ ?_ rfl <;> repeat' (first | exact trivial | refine And.intro rfl ?_ | refine And.intro (by rw [hN]; first | rfl | (simp; done)) ?_)), ?_⟩; (refine And.intro ?_ ?_) <;> (first | omega | (dsimp only; omega) | trivial))
  · rw [decide_eq_false hr] at hN
    simp only [Bool.false_and, Bool.and_false, Bool.false_eq_true, if_false] at hN
    by_cases h1 : (xs.getD i zTEv).1 = 2 <;> by_cases h2 : (xs.getD i zTEv).2.2.1 ∈ ordN xs i
    all_goals simp only [h2, decide_true, decide_false] at c1
    all_goals (repeat' (first | exact trivial | refine BS.d (fun h => ?_) (fun h => ?_) | refine BS.e (fun h => ?_) (fun h => ?_) | refine BS.ne (fun h => ?_) (fun h => ?_) | refine BS.n ?_ | refine BS.s (fun h => ?_) (fun h => ?_) | refine And.intro ?_ ?_ | (refine Need.mk ?_; first | with_reducible rfl | (show @Eq TC _ _; rfl) | omega | (simp only [adN_zero]; omega)) | exact OutS.whole rfl rfl | (refine OpK.call c1 rfl rfl rfl rfl hE ?_ rfl rfl ?_; focus ((repeat' (first | exact PsA.lit _ | exact PsA.ref rfl rfl | constructor)); all_goals (fail "ps"))) | (refine OpK.call c2 rfl rfl rfl rfl hE ?_ rfl rfl ?_; focus ((repeat' (first | exact PsA.lit _ | exact PsA.ref rfl rfl | constructor)); all_goals (fail "ps"))) | refine ListO.go gOk hE ?_))
    all_goals (try simp only [adN_zero] at *)
    all_goals first
      | (exfalso; first | omega | contradiction)
      | (refine Need.mk ?_; omega)
      | (refine OutS.whole rfl ?_; rw [show xs.length = i by omega]; rfl)
      | skip
    all_goals (refine ⟨i + 1, (by refine leT.of ?_ ?_ rfl <;> repeat' (first | exact trivial | refine And.intro rfl ?_ | refine And.intro (by rw [hN]; first | rfl | (simp; done)) ?_)), ?_⟩; (refine And.intro ?_ ?_) <;> (first | omega | (dsimp only; omega) | trivial))
end Go.Proofs.Ytlnlogflhagocaa
end

section

end

section
/- The capacity of a row, whatever it is. -/
set_option linter.unusedVariables false
set_option linter.unusedSimpArgs false
universe u
namespace Go.Tr
open Go Go.RowKit
section
variable {P : Program} {F : Fm} {N : Nat} {G : Gt} {o : Oper} {ops : Array Oper} {l : List Oper} {σ : TS} {k : TS → Prop}
theorem OpK.cap (hG : GOk P G) {t e ke bs kt κ l0 n : Nat} {z : List ZC} {x : Operand} (hop : o.op = .call { callee := .builtin .cap, args := #[x], argTypes := #[t] }) (hg : o.guard = none) (hd : okD N o.dst = true) (ht : G.T t = some ⟨kt, .sl e ke bs, z⟩) (hx : evS σ x = .a (.ref κ l0 n))
    (h : ∀ c : Nat, n ≤ c → stO o σ (.a (.lit (.int .i64 c))) k) : OpK P F N o σ k := by
  refine ⟨fun ops Q rest kk => ?_⟩
  intro a w hr
  obtain ⟨ω, β, hrel⟩ := hr
  obtain ⟨h1, _⟩ := (hG.T t _ ht).kind
  have hx' := hrel.ev x
  rw [evS_eq, hx] at hx'
  obtain ⟨R1, e1, e2, A, c, e3, e4, e5, e6, e7, e8⟩ := hx'
  have hrun : ∀ w', (execOp a.eval o).run P w' = .ok (.value (.int .i64 c)) w' := fun w' => by
    generalize a.eval = ρ at e3 ⊢
    simp [execOp, hop, go_sem, e3, resolve, invoke, builtin, Builtin.cap_, underlying, h1, goInt]
  have hk := stO_ok hd kk (h c (by omega))
  have hv : VRel σ.er β w (.a (.lit (.int .i64 c))) (.int .i64 c) := VRel.lit rfl
  refine wpList_plain hg fun K hK => ?_
  unfold Oper.wp
  rw [hrun w, Oper.upon_value]
  exact hK _ _ (hk _ _ ⟨ω, β, hrel.putO hd hv⟩)
end
end Go.Tr
end

section
/- What lies beyond a row's length: a capacity that is known, elements that are there whatever they hold, an append of zeros that makes a new row; slices.overlaps of two rows. -/
set_option linter.unusedVariables false
set_option linter.unusedSimpArgs false
universe u
namespace Go.Tr
open Go Go.RowKit
/-- An element, or room for one. -/
def encO {X : Type} (enc : X → Nat → TC) : Option X → Nat → TC
  | some x, r => enc x r
  | none, _ => .any
def decO {X : Type} (dec : List Value → Option X) (l : List Value) : Option (Option X) := (dec l).map some
section
variable {P : Program} {F : Fm} {N : Nat} {σ : St} {a : Act} {w : World} {ω : Om} {β : Nat → Bs}
/-- A row of one element more, of which nothing is known. -/
theorem Rel1.reveal (h : Rel1 F N σ a w ω β) {κ : Nat} {R R' : Root} (hR : σ.rt κ = some R) (hf : R.full = true) (h1 : R'.o = R.o) (he : R'.e = R.e) (h3 : R'.k = R.k) (h4 : R'.n = R.n + 1) (hc : R.n + 1 ≤ (β κ).cap)
    (h5 : ∀ i r, i < R.n → r < R.k → R'.get i r = R.get i r) (h6 : ∀ r, r < R.k → R'.get R.n r = .cl .any) : Rel1 F N (σ.setR κ R') a w ω β := by
  have hrt : ∀ κ', (σ.setR κ R').rt κ' = if κ' = κ then some R' else σ.rt κ' := fun _ => rfl
  have href : ∀ {κ' lo n : Nat} {v : Value}, RefRel σ β κ' lo n v → RefRel (σ.setR κ R') β κ' lo n v := by
    rintro κ' lo n v ⟨R2, hR2, k1⟩
    by_cases e : κ' = κ
    · subst e; rw [hR] at hR2; injection hR2 with hR2; subst hR2; exact ⟨R', by rw [hrt, if_pos rfl], k1.le h3 (by omega)⟩
    · exact ⟨R2, by rw [hrt, if_neg e]; exact hR2, k1⟩
  have hat : ∀ i r g j, AtA R (β κ) i r g j → AtA R' (β κ) i r g j := fun i r g j ⟨o, e1, e2⟩ => ⟨o, e1, by rw [h3]; exact e2⟩
  refine ⟨h.tsz, h.dfr, fun t => VRel.same (fun x u hx => ?_) (fun κ' R2 hR2 => ⟨rfl, ?_⟩) (h.tmps t), fun κ' R2 hR2 => ?_, h.wr, h.fr, h.fz, fun ρ R2 hρ hR2 => ?_⟩
  rotate_left 3
  · by_cases e : 1000000 + ρ = κ
    · exact h.ex ρ R hρ (by rw [e]; exact hR)
    · rw [hrt, if_neg e] at hR2; exact h.ex ρ R2 hρ hR2
  · cases x with
    | any => exact hx
    | lit v => exact hx
    | nil e k => exact hx
    | ref κ' lo n => exact href hx
    | spot κ' i r =>
      obtain ⟨R2, g, j, hR2, hi, hr, hl, ha, hcu⟩ := hx
      by_cases e : κ' = κ
      · subst e; rw [hR] at hR2; injection hR2 with hR2; subst hR2
        exact ⟨R', g, j, by rw [hrt, if_pos rfl], by rw [h4]; omega, by rw [h3]; exact hr, by rw [h5 i r hi hr]; exact hl, hat _ _ _ _ ha, hcu⟩
      · exact ⟨R2, g, j, by rw [hrt, if_neg e]; exact hR2, hi, hr, hl, ha, hcu⟩
  · by_cases e : κ' = κ
    · subst e; rw [hR] at hR2; injection hR2 with hR2; subst hR2; exact ⟨R', by rw [hrt, if_pos rfl], h3⟩
    · exact ⟨R2, by rw [hrt, if_neg e]; exact hR2, rfl⟩
  · by_cases e : κ' = κ
    · subst e
      rw [hrt, if_pos rfl] at hR2; injection hR2 with hR2; subst hR2
      have h0 := h.roots κ' R hR
      obtain ⟨m0, m1, m2, m3, m4⟩ := h0.full hf
      refine ⟨fun i r hi hr hl => ?_, fun _ => ?_⟩
      · rw [h4] at hi; rw [h3] at hr
        by_cases hin : i < R.n
        · rw [h5 i r hin hr] at hl
          obtain ⟨g, j, u, k1, k2, k3, k4, k5⟩ := h0.cells i r hin hr hl
          refine ⟨g, j, u, hat _ _ _ _ k1, k2, by rw [h1]; exact k3, by rw [h1]; exact k4, ?_⟩
          unfold CellRel at k5 ⊢
          rw [h5 i r hin hr, h1]
          cases hg : R.get i r with
          | ref κ2 lo n => rw [hg] at k5; exact href k5
          | cl c => rw [hg] at k5; exact k5
        · obtain rfl : i = R.n := by omega
          rcases m4 with ⟨_, m5⟩ | ⟨g, cur, n1, n2, n3, n4⟩
          · omega
          · have hlt : R.n * R.k + r < (β κ').cap * R.k := lt_cap (i := R.n) (by omega) hr (Nat.le_refl _)
            obtain ⟨o1, u, o2, o3⟩ := n4 _ hlt
            refine ⟨g, R.n * R.k + r, u, ⟨0, n1, by rw [h3, Nat.zero_add]⟩, o2, by rw [h1, m1]; exact o1, fun _ => by simp [World.frozen?, n2], ?_⟩
            unfold CellRel
            rw [h6 r hr]
            exact o3
      · rw [h1, h3, h4, he]
        exact ⟨fun i r hi hr => by
          by_cases hin : i < R.n
          · rw [h5 i r hin hr]; exact m0 i r hin hr
          · rw [show i = R.n by omega, h6 r hr]; rfl, m1, hc, m3, m4⟩
    · rw [hrt, if_neg e] at hR2
      exact (h.roots κ' R2 hR2).upd (fun i r κ2 lo n _ u hu => href hu) rfl (Meta.refl w) (fun b j x hx _ => ⟨hx, rfl⟩)
theorem AC.know {c : Code} {Q : Exit → St → Prop} (ρ : Nat) (hρ : F.nE ≤ ρ) (h : ∀ F' : Fm, F'.nE = ρ + 1 → AC P F' N c Q σ) : AC P F N c Q σ := by
  rintro a w ⟨ω, β, hr⟩
  refine wp_mono (h { F with nE := ρ + 1, E := fun i => if i < F.nE then F.E i else β (1000000 + i) } rfl a w ⟨ω, β, hr.tsz, hr.dfr, hr.tmps, hr.roots, hr.wr, hr.fr, hr.fz, fun i R hi hR => ?_⟩) (fun e a w hq => ?_)
  · show _ = if i < F.nE then F.E i else β (1000000 + i)
    split
    · rename_i hi2; exact hr.ex i R hi2 hR
    · rfl
  · obtain ⟨σ', h1, ω', β', h2⟩ := hq
    refine ⟨σ', h1, ω', β', h2.tsz, h2.dfr, h2.tmps, h2.roots, h2.wr, h2.fr, h2.fz, fun i R hi hR => ?_⟩
    have := h2.ex i R (by show i < ρ + 1; omega) hR
    rw [this]
    show (if i < F.nE then F.E i else _) = _
    rw [if_pos hi]
end
section
variable {P : Program} {F : Fm} {N : Nat} {G : Gt} {o : Oper} {ops : Array Oper} {l : List Oper} {σ : TS} {k : TS → Prop} {Q : Exit → TS → Prop} {c : Code}
/-- The capacity of a row that was handed in becomes a number. -/
theorem CodeK.know (ρ : Nat) (hρ : F.nE ≤ ρ) (h : ∀ F' : Fm, F'.nE = ρ + 1 → CodeK P F' N c σ Q) : CodeK P F N c σ Q :=
  ⟨AC.know ρ hρ (fun F' hF => (h F' hF).h)⟩
theorem OpK.capE (hG : GOk P G) {t e ke bs kt κ n ρ : Nat} {z : List ZC} {x : Operand} (hρ : ρ < F.nE) (hop : o.op = .call { callee := .builtin .cap, args := #[x], argTypes := #[t] }) (hg : o.guard = none) (hd : okD N o.dst = true) (ht : G.T t = some ⟨kt, .sl e ke bs, z⟩) (hx : evS σ x = .a (.ref κ 0 n)) (hκ : κ = 1000000 + ρ)
    (h : stO o σ (.a (.lit (.int .i64 (F.E ρ).cap))) k) : OpK P F N o σ k := by
  refine ⟨fun ops Q rest kk => ?_⟩
  rintro a w ⟨ω, β, hrel⟩
  obtain ⟨h1, _⟩ := (hG.T t _ ht).kind
  have hx' := hrel.ev x
  rw [evS_eq, hx] at hx'
  obtain ⟨R1, e1, e2, A, c, e3, e4, e5, e6, e7, e8⟩ := hx'
  have hc : c = (F.E ρ).cap := by
    rw [(e7 rfl).2, hκ, hrel.ex ρ R1 hρ (by rw [← hκ]; exact e1)]
  subst hc
  have hrun : ∀ w', (execOp a.eval o).run P w' = .ok (.value (.int .i64 (F.E ρ).cap)) w' := fun w' => by
    generalize a.eval = ρ' at e3 ⊢
    simp [execOp, hop, go_sem, e3, resolve, invoke, builtin, Builtin.cap_, underlying, h1, goInt]
  have hk := stO_ok hd kk h
  have hv : VRel σ.er β w (.a (.lit (.int .i64 (F.E ρ).cap))) (.int .i64 (F.E ρ).cap) := VRel.lit rfl
  refine wpList_plain hg fun K hK => ?_
  unfold Oper.wp
  rw [hrun w, Oper.upon_value]
  exact hK _ _ (hk _ _ ⟨ω, β, hrel.putO hd hv⟩)
theorem encO_get {X : Type} {enc : X → Nat → TC} (d : X) (xs : List X) (i r : Nat) (hi : i < xs.length) : encO enc ((xs.map some ++ [none]).getD i none) r = enc (xs.getD i d) r := by
  have h1 : (xs.map some ++ [none]).getD i none = some (xs.getD i d) := by
    simp only [List.getD, List.getElem?_append_left (show i < (xs.map some).length by simp; exact hi), List.getElem?_map, List.getElem?_eq_getElem hi, Option.map_some, Option.getD_some]
  rw [h1]; rfl
/-- There is room for one more: the row is told with it. -/
theorem CodeK.reveal {κ e kw ρ : Nat} {X : Type} {enc : X → Nat → TC} {dec : List Value → Option X} {d : X} {xs : List X} (hρ : ρ < F.nE) (hκ : κ = 1000000 + ρ) (hc : xs.length + 1 ≤ (F.E ρ).cap) (hR : lkR σ.r κ = some (.ty .own true e kw X enc dec d xs))
    (h : fS ⟨σ.t, (κ, .ty .own true e kw (Option X) (encO enc) (decO dec) none (xs.map some ++ [none])) :: erl σ.r κ⟩ fun σ => CodeK P F N c σ Q) : CodeK P F N c σ Q := by
  rw [fS_eq] at h
  refine ⟨?_⟩
  rintro a w ⟨ω, β, hr⟩
  have hb : β κ = F.E ρ := by rw [hκ]; exact hr.ex ρ _ hρ (by rw [← hκ]; exact TS.rt_some hR)
  have h2 := hr.reveal (R' := (TRoot.ty .own true e kw (Option X) (encO enc) (decO dec) none (xs.map some ++ [none])).er) (TS.rt_some hR) rfl rfl rfl rfl (by show (xs.map some ++ [none]).length = xs.length + 1; simp) (by rw [hb]; exact hc)
    (fun i r hi hr' => by rw [ty_get, ty_get]; show Cl.cl ((encO enc _ r).er _) = Cl.cl ((enc _ r).er _); rw [encO_get d xs i r hi])
    (fun r hr' => by
      rw [ty_get]
      show Cl.cl ((encO enc ((xs.map some ++ [none]).getD xs.length none) r).er _) = _
      have h0 : (xs.map some ++ [(none : Option X)]).getD xs.length none = none := by simp [List.getD, List.getElem?_append_right]
      rw [h0]
      rfl)
  refine h.h a w (le_lk (s := σ.er.setR κ (TRoot.ty .own true e kw (Option X) (encO enc) (decO dec) none (xs.map some ++ [none])).er) (fun t' => .inr ?_) (fun κ' => ?_) F N a w ⟨ω, β, h2⟩)
  · exact (TS.tv_er σ t').symm
  · show OSim (if κ' = κ then some _ else σ.er.rt κ') _
    rw [lkR_cons, lkR_erl]
    by_cases e1 : κ' = κ
    · rw [if_pos e1, if_pos e1]; exact OSim.rfl _
    · rw [if_neg e1, if_neg e1, if_neg e1, TS.rt_er]; exact OSim.rfl _
theorem CodeK.revealR {b : Code} {id : Nat} (n : Nat) {κ e kw ρ : Nat} {X : Type} {enc : X → Nat → TC} {dec : List Value → Option X} {d : X} {xs : List X} (hid : id = n) (hρ : ρ < F.nE) (hκ : κ = 1000000 + ρ) (hc : xs.length + 1 ≤ (F.E ρ).cap) (hR : lkR σ.r κ = some (.ty .own true e kw X enc dec d xs))
    (h : fS ⟨σ.t, (κ, .ty .own true e kw (Option X) (encO enc) (decO dec) none (xs.map some ++ [none])) :: erl σ.r κ⟩ fun σ => CodeK P F N (.seq (.region id ops false) b) σ Q) : CodeK P F N (.seq (.region id ops false) b) σ Q := CodeK.reveal hρ hκ hc hR h
/-- All of its elements are known: the row is told as one of elements again. -/
theorem CodeK.retell {κ e kw : Nat} {X : Type} {enc : X → Nat → TC} {decx : List Value → Option (Option X)} (dec : List Value → Option X) (d : X) (ys : List X) (hR : lkR σ.r κ = some (.ty .own true e kw (Option X) (encO enc) decx none (ys.map some)))
    (h : fS ⟨σ.t, (κ, .ty .own true e kw X enc dec d ys) :: erl σ.r κ⟩ fun σ => CodeK P F N c σ Q) : CodeK P F N c σ Q := by
  rw [fS_eq] at h
  refine ⟨AC.le (le_lk (fun t' => .inr ?_) (fun κ' => ?_)) h.h⟩
  · exact (TS.tv_er σ t').symm
  · rw [lkR_cons, lkR_erl, TS.rt_er]
    by_cases e1 : κ' = κ
    · subst e1
      rw [if_pos rfl, hR]
      refine ⟨rfl, fun hf => ⟨hf, rfl⟩, rfl, (by show ys.length = (ys.map some).length; simp), fun i r hi hr' => ?_⟩
      have hi' : i < ys.length := by have : i < (ys.map some).length := hi; simpa using this
      rw [ty_get, ty_get]
      show ClSim (Cl.cl ((encO enc ((ys.map some).getD i none) r).er _)) (Cl.cl ((enc (ys.getD i d) r).er _))
      rw [show (ys.map some).getD i none = some (ys.getD i d) by simp [List.getD, hi']]
      exact CSame.rfl _
    · rw [if_neg e1, if_neg e1]; exact OSim.rfl _
theorem CodeK.retellR {b : Code} {id : Nat} (n : Nat) {κ e kw : Nat} {X : Type} {enc : X → Nat → TC} {decx : List Value → Option (Option X)} (dec : List Value → Option X) (d : X) (ys : List X) (hid : id = n) (hR : lkR σ.r κ = some (.ty .own true e kw (Option X) (encO enc) decx none (ys.map some)))
    (h : fS ⟨σ.t, (κ, .ty .own true e kw X enc dec d ys) :: erl σ.r κ⟩ fun σ => CodeK P F N (.seq (.region id ops false) b) σ Q) : CodeK P F N (.seq (.region id ops false) b) σ Q := CodeK.retell dec d ys hR h
/-- An append of m zeros to the first elements of a row that has no room for them: a new row. -/
theorem OpK.growP (hG : GOk P G) {s x : Operand} {t tn e ke bs kt d' κ i e0 ρ : Nat} {kn : IntKind} {m : Nat} {zt z : List ZC} {kd : TK} {X : Type} {enc : X → Nat → TC} {dec : List Value → Option X} {d : X} {xs : List X} {mi : Int} {full : Bool} (zx : X) (hρ : ρ < F.nE)
    (hop : o.op = .call { callee := .builtin .append, args := #[s, x], argTypes := #[t, tn] }) (hg : o.guard = none) (hdst : o.dst = some d') (hd : okD N o.dst = true)
    (ht : G.T t = some ⟨kt, .sl e ke bs, zt⟩) (he : G.T e = some ⟨ke, kd, z⟩) (htn : P.underlying tn = some (.int kn)) (hs : evS σ s = .a (.ref κ 0 i)) (hR : lkR σ.r κ = some (.ty .own full e0 ke X enc dec d xs)) (hκ : κ = 1000000 + ρ) (hi : i ≤ xs.length)
    (hx : evS σ x = .a (.lit (.int .i64 mi))) (hmi : mi = (m : Int)) (hm : 0 < m) (hcap : (F.E ρ).cap < i + m) (hmx : i + m ≤ maxLen ∧ (i + m) * bs ≤ 140737488355328)
    (hz : ∀ r, r < ke → ∃ v, enc zx r = .lit v ∧ z[r]? = some (.lit v) ∧ scal v = true) (hfl : ∀ j r, j < i → r < ke → ∃ v, enc (xs.getD j d) r = .lit v) (hf : (lkR σ.r d').isNone = true) (hdd : d' < 1000000)
    (h : setK σ d' (.ty .own true e ke X enc dec d (xs.take i ++ List.replicate m zx)) fun σ => putK σ d' (.a (.ref d' 0 (i + m))) k) : OpK P F N o σ k := by
  subst hmi
  refine ⟨fun ops Q rest kk => ?_⟩
  obtain ⟨h1, inf, zv, h2, h3, h4, h5, h6, h7, hzo⟩ := (hG.T t _ ht).kind
  have hF := hG.T e _ he
  obtain ⟨inf', zv', g3, g4, g5, g6⟩ := hF.info
  rw [h2] at g3; injection g3 with g3; subst g3
  rw [h5] at g5; injection g5 with g5; subst g5
  have hlt : (xs.take i).length = i := by rw [List.length_take]; omega
  refine AL.step (σ' := σ.er.setR d' (TRoot.ty .own true e ke X enc dec d (xs.take i ++ List.replicate m zx)).er) (v := .a (.ref d' 0 (i + m))) hg hd (fun a w ω β hr => ?_) ?_
  · have hs' := hr.ev s
    rw [evS_eq, hs] at hs'
    obtain ⟨R1, q1, q2, A, c, q3, q4, q5, q6, q7, q8⟩ := hs'
    rw [TS.rt_some hR] at q1; injection q1 with q1
    have hcE : c = (F.E ρ).cap := by rw [(q7 rfl).2, hκ, hr.ex ρ _ hρ (by rw [← hκ]; exact TS.rt_some hR)]
    subst hcE
    have hAe := (q7 rfl).1
    have hk1 : R1.k = ke := by rw [← q1]; rfl
    obtain ⟨us, u1, u2, u3, u4⟩ := hr.cellsOf (κs := κ) (ls := 0) (m := i) (ke := ke) (A' := A) (TS.rt_some hR) rfl rfl (by show 0 + i ≤ xs.length; omega) (fun hp => by
      obtain ⟨g, o, f1, f2⟩ := q8 hp
      exact ⟨g, o, f1, by rw [f2, hk1]; rfl⟩)
    have hul : ∀ j r, j < i → r < ke → ∃ v, enc (xs.getD j d) r = .lit v ∧ us[j * ke + r]? = some v ∧ scal v = true := by
      intro j r hj hr'
      obtain ⟨v, v1⟩ := hfl j r hj hr'
      obtain ⟨u, k1, k2, k3⟩ := u2 j r hj hr'
      rw [Nat.zero_add] at k2
      change ARel σ.er β w (flatA ((enc (xs.getD j d) r).er _)) u at k2
      rw [v1] at k2
      obtain ⟨k4, k5⟩ := k2
      subst k4
      exact ⟨_, v1, k1, k5⟩
    have hfc : (Builtin.firstCells inf.size i (.slice A i (F.E ρ).cap)).run P w.drew = .ok us.toArray w.drew := by
      cases A with
      | none =>
        have hi0 : i = 0 := by
          rcases Nat.eq_zero_or_pos i with h | h
          · exact h
          · obtain ⟨g, o, _, f2⟩ := q8 h; cases f2
        subst hi0
        have : us = [] := List.eq_nil_of_length_eq_zero (by rw [u1, Nat.zero_mul])
        subst this
        exact run_firstCells_none _ _ _ _ _
      | some x0 =>
        have hl := run_loadCells_list (P := P) w.drew x0 us (fun j v hj => u4 x0 rfl j v hj)
        simp only [Builtin.firstCells]
        rw [h3, ← u1]; exact hl
    have hge := grownCap_ge w (i + m) (F.E ρ).cap e
    have hle := grownCap_le_maxLen w (i + m) (F.E ρ).cap e hmx.1
    have hgs : (us.toArray ++ Builtin.zeroCells zv.cells m ++ Builtin.zeroCells zv.cells (grownCap w (i + m) (F.E ρ).cap e - (i + m))).size = grownCap w (i + m) (F.E ρ).cap e * ke := by
      simp only [Array.size_append, List.size_toArray, size_zeroCells, h6, u1, ← Nat.add_mul]
      congr 1; omega
    have hzc : ∀ q r n, q < n → r < ke → (Builtin.zeroCells zv.cells n)[q * ke + r]? = (z[r]?).map ZC.val := by
      intro q r n hq hr'
      have hlt2 : q * ke + r < n * ke := lt_cap hq hr' (Nat.le_refl _)
      unfold Builtin.zeroCells
      rw [Array.getElem?_map, Array.getElem?_range, h6, if_pos hlt2]
      simp only [Option.map_some, Nat.mul_comm q ke, Nat.mul_add_mod, Nat.mod_eq_of_lt hr']
      have : zv.cells[r]? = (z[r]?).map ZC.val := by rw [← Array.getElem?_toList, g6, List.getElem?_map]
      rw [← this, getElem!_pos zv.cells r (by omega)]
      exact (Array.getElem?_eq_getElem _).symm
    have hr1 := (hr.drew).alloc (okK_lt hdd) (none_of hf) (cs := us.toArray ++ Builtin.zeroCells zv.cells m ++ Builtin.zeroCells zv.cells (grownCap w (i + m) (F.E ρ).cap e - (i + m))) (e := e) (cap := grownCap w (i + m) (F.E ρ).cap e) (R := (TRoot.ty .own true e ke X enc dec d (xs.take i ++ List.replicate m zx)).er) rfl (fun j r hj hr' _ => ?_) (fun _ => ⟨fun _ _ _ _ => rfl, rfl, ?_, hle, hgs, ?_⟩)
    · refine ⟨.slice (some ⟨w.heap.size, 0, none⟩) (i + m) (grownCap w (i + m) (F.E ρ).cap e), _, _, _, ?_, hr1, ?_⟩
      · have e2 : a.eval x = .int .i64 m := ev_lit hr (by rw [evS_eq, hx]; rfl)
        have hrun := Lib.run_append_grow_zeros (P := P) w t tn o.type e inf zv .i64 kn h1 htn h2 h5 A i (F.E ρ).cap us hfc m hm (by rw [h3]; exact h7) hcap (by have := hmx.1; unfold maxLen at this; omega) (by rw [h4]; have := Nat.le_trans (Nat.mul_le_mul_right bs (show m ≤ i + m by omega)) hmx.2; omega) (growslice_fits (by omega) (by rw [h4]; exact hmx.2))
        generalize a.eval = ρ' at q3 e2 ⊢
        simp [execOp, hop, resolve, invoke, builtin, q3, e2, hrun]
      · exact ⟨_, by show (if d' = d' then _ else _) = _; rw [if_pos rfl], by show 0 + (i + m) ≤ (xs.take i ++ List.replicate m zx).length; simp; omega, some ⟨w.heap.size, 0, none⟩, grownCap w (i + m) (F.E ρ).cap e, rfl, hge, hle, (by intro e; cases e), fun _ => by simp, fun _ => ⟨w.heap.size, 0, by simp, by simp⟩⟩
    · change j < (xs.take i ++ List.replicate m zx).length at hj
      change r < ke at hr'
      have hj2 : j < i + m := by rw [List.length_append, hlt, List.length_replicate] at hj; exact hj
      show ∃ u, _[j * ke + r]? = some u ∧ LayAt _ ω β w.drew d' j r (Root.get _ j r) u
      rw [ty_get]
      by_cases h8 : j < i
      · obtain ⟨v, v1, v2, v3⟩ := hul j r h8 hr'
        have hlt3 : j * ke + r < us.length := by rw [u1]; exact lt_cap h8 hr' (Nat.le_refl _)
        refine ⟨v, ?_, ?_⟩
        · rw [← Array.getElem?_toList]
          simp only [Array.toList_append, List.append_assoc]
          rw [List.getElem?_append_left hlt3]; exact v2
        · show LayAt _ ω β w.drew d' j r (.cl ((enc ((xs.take i ++ List.replicate m zx).getD j d) r).er .own)) v
          rw [show (xs.take i ++ List.replicate m zx).getD j d = xs.getD j d by
            simp only [List.getD]; rw [List.getElem?_append_left (by omega), List.getElem?_take, if_pos h8], v1]
          exact ⟨rfl, v3⟩
      · obtain ⟨v, v1, v2, v3⟩ := hz r hr'
        obtain ⟨q, rfl⟩ : ∃ q, j = i + q := ⟨j - i, by omega⟩
        refine ⟨v, ?_, ?_⟩
        · rw [← Array.getElem?_toList]
          simp only [Array.toList_append, List.append_assoc]
          rw [List.getElem?_append_right (by rw [u1, Nat.add_mul]; omega), show (i + q) * ke + r - us.length = q * ke + r by rw [u1, Nat.add_mul]; omega, List.getElem?_append_left (by simp only [Array.length_toList, size_zeroCells, h6]; exact lt_cap (by omega) hr' (Nat.le_refl _)), Array.getElem?_toList, hzc q r m (by omega) hr', v2]
          rfl
        · show LayAt _ ω β w.drew d' (i + q) r (.cl ((enc ((xs.take i ++ List.replicate m zx).getD (i + q) d) r).er .own)) v
          rw [show (xs.take i ++ List.replicate m zx).getD (i + q) d = zx by
            simp only [List.getD]; rw [List.getElem?_append_right (by omega), List.getElem?_replicate, if_pos (by omega)]; rfl, v1]
          exact ⟨rfl, v3⟩
    · show (xs.take i ++ List.replicate m zx).length ≤ _
      rw [List.length_append, hlt, List.length_replicate]; exact hge
    · intro j u hu
      rw [Array.getElem?_append] at hu
      split at hu
      · rw [Array.getElem?_append] at hu
        split at hu
        · exact u3 u (List.mem_of_getElem? (by simpa using hu))
        · exact zo_mod hzo (.inr (by omega)) hu
      · exact zo_mod hzo (.inr (by omega)) hu
  · rw [hdst]
    exact new_ok (v := .a (.ref d' 0 (i + m))) (R := .ty .own true e ke X enc dec d (xs.take i ++ List.replicate m zx)) (RSim.rfl _) kk h
end
end Go.Tr
end

section
/- slices.overlaps of two rows of one's own: false. -/
set_option linter.unusedVariables false
set_option linter.unusedSimpArgs false
universe u
namespace Go.Tr
open Go Go.RowKit
section
variable {P : Program} {F : Fm} {N : Nat} {G : Gt} {o : Oper} {σ : TS} {k : TS → Prop}
theorem run_ovl0 {P : Program} (w : World) (tS tR e : TypeId) (ht : P.underlying tS = some (.slice e)) (size : Nat) (hz : ∀ w, (Go.sizeOf e).run P w = .ok size w) (A B : Option Addr) (la ca lb cb : Nat) (h0 : A = none ∨ B = none ∨ la = 0 ∨ lb = 0) :
    (Extern.SlicesOverlaps.overlaps #[tS, tS] #[tR] #[.slice A la ca, .slice B lb cb]).run P w = .ok (.bool false) w := by
  change Sem.run P (α := Value) (do
    let some t := (#[tS, tS] : Array TypeId)[0]? | stuck "slices.overlaps: no parameter types"
    let .slice elem ← underlying t | stuck "slices.overlaps: slice type expected"
    let size ← sizeOf elem
    match A, B with
    | some a, some b =>
      if la = 0 ∨ lb = 0 ∨ size = 0 then pure (Value.bool false)
      else if a.block != b.block && (← frozen a) && (← frozen b) then unsupported .addressObserved
      else do
        if a.block != b.block then do
          noView a; noView b
          if ← mayBeOne a b then return Value.bool ((← choose (.extern "sameAddr.stringBytes" 2)) == 1)
        pure (Value.bool (a.block == b.block && a.off < b.off + lb * size && b.off < a.off + la * size))
    | _, _ => pure (Value.bool false)) w = _
  cases A with
  | none => simp [run_underlying ht, hz]
  | some a =>
    cases B with
    | none => simp [run_underlying ht, hz]
    | some b =>
      have : la = 0 ∨ lb = 0 := by rcases h0 with h | h | h | h; cases h; cases h; exact .inl h; exact .inr h
      have h3 : la = 0 ∨ lb = 0 ∨ size = 0 := by omega
      simp [run_underlying ht, hz, h3]
theorem OpK.ovl (hG : GOk P G) {f : FuncId} {fn : Func} {ags : Array Operand} {ats : Array TypeId} {fx x y : Operand} {t tR e ke bs kt κ1 κ2 l1 l2 n1 n2 e1 e2 k1 : Nat} {zt : List ZC} {X Y : Type} {enc1 : X → Nat → TC} {dec1 : List Value → Option X} {d1 : X} {xs1 : List X} {enc2 : Y → Nat → TC} {dec2 : List Value → Option Y} {d2 : Y} {xs2 : List Y}
    (hop : o.op = .call ⟨.value fx, ags, ats⟩) (hags : ags = #[x, y]) (hfx : evS σ fx = .a (.lit (.func (.func f) #[] #[]))) (hg : o.guard = none) (hd : okD N o.dst = true)
    (hf : P.funcs[f]? = some fn) (hname : (fn.name == "runtime.NumGoroutine") = false) (hb : fn.body.isNone = true) (hn : Extern.findNext fn = none) (he : Extern.find fn = some (Extern.SlicesOverlaps.overlaps #[t, t] #[tR]))
    (ht : G.T t = some ⟨kt, .sl e ke bs, zt⟩) (hx : evS σ x = .a (.ref κ1 l1 n1)) (hy : evS σ y = .a (.ref κ2 l2 n2)) (hR1 : lkR σ.r κ1 = some (.ty .own true e1 k1 X enc1 dec1 d1 xs1)) (hR2 : lkR σ.r κ2 = some (.ty .own true e2 ke Y enc2 dec2 d2 xs2)) (hk1 : k1 = ke) (hne : Nat.beq κ1 κ2 = false)
    (h : stO o σ (.a (.lit (.bool false))) k) : OpK P F N o σ k := by
  simp only [beq_dec, decide_eq_false_iff_not] at hne
  subst hags hk1
  refine ⟨fun ops Q rest kk => ?_⟩
  rintro a w ⟨ω, β, hr⟩
  obtain ⟨h1, inf, zv, h2, h3, h4, h5, h6, h7, hzo⟩ := (hG.T t _ ht).kind
  have hsz : ∀ w, (Go.sizeOf e).run P w = .ok k1 w := fun w => by simp [sizeOf, typeInfo, h2, h3]
  have hx' := hr.ev x
  rw [evS_eq, hx] at hx'
  obtain ⟨R1, a1, a2, A, c1, a3, a4, a5, a6, a7, a8⟩ := hx'
  rw [TS.rt_some hR1] at a1; injection a1 with a1; subst a1
  have hy' := hr.ev y
  rw [evS_eq, hy] at hy'
  obtain ⟨R2, b1, b2, B, c2, b3, b4, b5, b6, b7, b8⟩ := hy'
  rw [TS.rt_some hR2] at b1; injection b1 with b1; subst b1
  have hov : (Extern.SlicesOverlaps.overlaps #[t, t] #[tR] #[.slice A n1 c1, .slice B n2 c2]).run P w = .ok (.bool false) w := by
    by_cases h0 : n1 = 0 ∨ n2 = 0
    · exact run_ovl0 w t tR e h1 _ hsz A B n1 c1 n2 c2 (by omega)
    · obtain ⟨g1, o1, f1, f2⟩ := a8 (by omega)
      obtain ⟨g2, o2, f3, f4⟩ := b8 (by omega)
      obtain ⟨m0, m1, m2, m3, m4⟩ := (hr.roots κ1 _ (TS.rt_some hR1)).full rfl
      obtain ⟨p0, p1, p2, p3, p4⟩ := (hr.roots κ2 _ (TS.rt_some hR2)).full rfl
      rcases m4 with ⟨m5, _⟩ | ⟨u1, cur1, m5, m6, m7, m8⟩
      · rw [m5] at f1; cases f1
      rcases p4 with ⟨p5, _⟩ | ⟨u2, cur2, p5, p6, p7, p8⟩
      · rw [p5] at f3; cases f3
      rw [m5] at f1; injection f1 with f1; injection f1 with q1 q2 _
      rw [p5] at f3; injection f3 with f3; injection f3 with q3 q4 _
      subst q1 q2 q3 q4
      have w1 : 0 < (β κ1).cap * k1 := by
        have : 0 < (β κ1).cap := by have : l1 + n1 ≤ _ := a2; omega
        exact Nat.mul_pos this h7
      have w2 : 0 < (β κ2).cap * k1 := by
        have : 0 < (β κ2).cap := by have : l2 + n2 ≤ _ := b2; omega
        exact Nat.mul_pos this h7
      have hgg : u1 ≠ u2 := by
        rintro rfl
        have t1 := (m8 0 w1).1
        have t2 := (p8 0 w2).1
        rw [t1] at t2; injection t2 with t2; injection t2 with t2; exact hne t2
      rw [f2, f4]
      refine Lib.run_overlaps_apart w t tR e h1 _ hsz _ _ n1 c1 n2 c2 hgg e1 e2 cur1.size cur2.size ?_ ?_ ?_ ?_ ?_
      · simp [World.shape?, m6]; rfl
      · simp [World.shape?, p6]; rfl
      · change cur2.size = (β κ2).cap * k1 at p7; omega
      · simp [World.frozen?, m6]
      · simp [World.frozen?, m6]
  have hrun : (execOp a.eval o).run P w = .ok (.value (.bool false)) w := by
    have hfv : a.eval fx = .func (.func f) #[] #[] := ev_lit (v := .func (.func f) #[] #[]) hr (by rw [evS_eq, hfx]; rfl)
    have hcf := run_callFunc_extern hf hname hb hn he #[a.eval x, a.eval y] w
    rw [a3, b3, hov] at hcf
    unfold execOp
    simp [hop, resolve, Deferred.ofValue, invoke, hfv, a3, b3, hcf]
  have hk := stO_ok hd kk h
  have hv : VRel σ.er β w (.a (.lit (.bool false))) (.bool false) := VRel.lit rfl
  refine wpList_plain hg fun K hK => ?_
  unfold Oper.wp
  rw [hrun, Oper.upon_value]
  exact hK _ _ (hk _ _ ⟨ω, β, hr.putO hd hv⟩)
theorem OpK.appsK (hG : GOk P G) {s x : Operand} {t κ n κs e e2 ke bs kt d' m : Nat} {z : List ZC} {X : Type} {enc enc2 : X → Nat → TC} {dec dec2 : List Value → Option X} {d d2 : X} {xs ys : List X} {f : Bool} {ro : RO} (hop : o.op = .call { callee := .builtin .append, args := #[s, x], argTypes := #[t, t] }) (hg : o.guard = none) (hdst : o.dst = some d') (hd : okD N o.dst = true)
    (ht : G.T t = some ⟨kt, .sl e ke bs, z⟩) (hs : evS σ s = .a (.ref κ 0 n)) (hR : lkR σ.r κ = some (.ty .own true e ke X enc dec d xs)) (hn : n = xs.length) (hx : evS σ x = .a (.ref κs 0 m)) (hS : lkR σ.r κs = some (.ty ro f e2 ke X enc2 dec2 d2 ys)) (hm : m = ys.length)
    (hfl : ∀ (x : X) (r : Nat), r < ke → ∃ v, enc x r = .lit v ∧ enc2 x r = .lit v) (hkk : okK F κ) (h63 : xs.length + m ≤ maxLen ∧ (xs.length + m) * bs ≤ 140737488355328)
    (h : dropK σ κ fun σ => setK σ κ (.ty .own true e ke X enc dec d (xs ++ ys)) fun σ => putK σ d' (.a (.ref κ 0 (xs ++ ys).length)) k) : OpK P F N o σ k := by
  subst hm
  refine ⟨fun ops Q rest kk => ?_⟩
  rw [dropK, fS_eq, setK_eq, putK_eq] at h
  have hRe := TS.rt_some hR
  have hSe := TS.rt_some hS
  refine AL.appendL hG.T hop hg hd ht (by rw [evS_eq, hs]; rfl) hRe rfl hn rfl rfl rfl (by rw [evS_eq, hx]; rfl) hSe rfl rfl (fun _ _ _ _ => rfl) hkk h63.1 h63.2 ?_
  rw [hdst]
  refine AL.le (le_lk (τ := ⟨(d', .a (.ref κ 0 (xs ++ ys).length)) :: (σ.drop κ).t, (κ, .ty .own true e ke X enc dec d (xs ++ ys)) :: erl (σ.drop κ).r κ⟩) (fun t' => .inr ?_) (fun κ' => ?_)) (kk _ h)
  · rw [lkT_cons]
    show _ = (((σ.er.drop κ).setR κ _).put d' _).tv t'
    rw [St.tv_put]
    by_cases e2 : t' = d'
    · simp [e2, stV, Tr.stA, hn]
    · simp only [e2, if_neg, not_false_eq_true, if_false]
      rw [← TS.tv_er, drop_tv]; rfl
  · rw [lkR_cons, lkR_erl]
    show OSim (if κ' = κ then some _ else (σ.er.drop κ).rt κ') _
    by_cases e2 : κ' = κ
    · rw [if_pos e2, if_pos e2]
      refine ⟨rfl, fun _ => ⟨rfl, rfl⟩, rfl, by show (xs ++ ys).length = xs.length + ys.length; simp, fun i r hi hr => ?_⟩
      change i < xs.length + ys.length at hi; change r < ke at hr
      rw [ty_get]
      show ClSim (.cl (if i < xs.length then (enc (xs.getD i d) r).er .own else flat ((enc2 (ys.getD (0 + (i - xs.length)) d2) r).er (owOf ro)))) _
      by_cases hin : i < xs.length
      · rw [if_pos hin]
        have hgd : (xs ++ ys).getD i d = xs.getD i d := by simp only [List.getD]; rw [List.getElem?_append_left hin]
        rw [hgd]; exact CSame.rfl _
      · rw [if_neg hin, Nat.zero_add]
        have hj : i - xs.length < ys.length := by omega
        have hgd : (xs ++ ys).getD i d = ys.getD (i - xs.length) d2 := by
          simp only [List.getD]; rw [List.getElem?_append_right (by omega), List.getElem?_eq_getElem hj]; rfl
        rw [hgd]
        obtain ⟨v, h1, h2⟩ := hfl (ys.getD (i - xs.length) d2) r hr
        rw [h1, h2]
        exact CSame.rfl _
    · rw [if_neg e2, if_neg e2, if_neg e2]
      rw [← TS.rt_er, drop_rt]; exact OSim.rfl _

theorem RunT.of_ck0 (hG : GOk P G) {f : FuncId} {fn : Func} {c : Code} (hf : P.funcs[f]? = some fn) (hb : fn.body = some c) (hname : (fn.name == "runtime.NumGoroutine") = false) {args : List TAg} {outs : List TAr}
    (hn : args.length ≤ fn.ntmps) (hp : argsOk [] (args.map TAg.er)) (h : ∀ F : Fm, F.nE = 0 → fS (enterE args []) fun σ => CodeK P F fn.ntmps c σ (finT G fn outs [])) : RunT P f args [] outs [] := by
  refine ⟨⟨fn, hf, hname, by rw [hb]; rfl⟩, Run.sim ?_⟩
  refine Run.of_body hG.T hf hb (by simpa using hn) hp [] rfl (fun F hF => ?_)
  have h1 := h F (by rw [hF]; rfl)
  rw [fS_eq] at h1
  refine AC.le (enterE_ok args []) (AC.unle (AC.mono h1.h (fun e s hq => ?_)))
  obtain ⟨τ, hle, hfin⟩ := hq
  obtain ⟨τ', hle', hfin'⟩ := finT_ok hfin
  exact ⟨τ'.er, hle.trans hle', hfin'⟩
theorem ow_finX {κ e ke ld m : Nat} {full : Bool} {X : Type} {enc : X → Nat → TC} {dec : List Value → Option X} {d : X} {xs : List X} {Y : Type} (enc' : Y → Nat → TC) (dec' : List Value → Option Y) (d' : Y) (xs' : List Y) {S : Nat → Nat → C} (hR : lkR σ.r κ = some (.ty .own full e ke X enc dec d xs)) (hl : xs'.length = xs.length)
    (hin : ∀ i r, i < m → r < ke → ∃ v, enc' (xs'.getD (ld + i) d') r = .lit v ∧ flat (S i r) = .lit v) (hout : ∀ q r, q < xs.length → r < ke → ¬ (ld ≤ q ∧ q < ld + m) → enc' (xs'.getD q d') r = enc (xs.getD q d) r) {v : V} (hv : stV v = v) {ops : Array Oper} {Q : Exit → St → Prop} {rest : List Oper} (kk : ∀ τ, k τ → AL P F N ops Q rest τ.er)
    (h : stO o ⟨σ.t, (κ, .ty .own full e ke Y enc' dec' d' xs') :: erl σ.r κ⟩ v k) : AL P F N ops Q rest ((σ.er.ow κ (TRoot.ty .own full e ke X enc dec d xs).er S ld m).putO o.dst v) := by
  have hos : ∀ κ', OSim ((σ.er.ow κ (TRoot.ty .own full e ke X enc dec d xs).er S ld m).rt κ') ((lkR ((κ, .ty .own full e ke Y enc' dec' d' xs') :: erl σ.r κ) κ').map TRoot.er) := by
    intro κ'
    rw [lkR_cons, lkR_erl]
    show OSim (if κ' = κ then some _ else σ.er.rt κ') _
    by_cases e2 : κ' = κ
    · rw [if_pos e2, if_pos e2]
      refine ⟨rfl, fun hf => ⟨hf, rfl⟩, rfl, hl, fun i r hi hr => ?_⟩
      change r < ke at hr
      change i < xs.length at hi
      rw [ty_get]
      show ClSim (.cl (if ld ≤ i ∧ i < ld + m then flat (S (i - ld) r) else (enc (xs.getD i d) r).er .own)) _
      by_cases h2 : ld ≤ i ∧ i < ld + m
      · obtain ⟨v, h3, h4⟩ := hin (i - ld) r (by omega) hr
        rw [show ld + (i - ld) = i by omega] at h3
        rw [if_pos h2, h3, h4]; exact CSame.rfl _
      · rw [if_neg h2, hout i r hi hr h2]; exact CSame.rfl _
    · rw [if_neg e2, if_neg e2, if_neg e2, TS.rt_er]; exact OSim.rfl _
  have htv : ∀ t, (σ.er.ow κ (TRoot.ty .own full e ke X enc dec d xs).er S ld m).tv t = stV (lkT σ.t t) := by
    intro t
    show (look (σ.er.t.map fun p => (p.1, p.2.map (dimA κ) none)) t).getD .any = _
    rw [St.tv_map σ.er _ rfl, TS.tv_er, dim_st]
  unfold stO at h
  cases hd : o.dst with
  | none =>
    rw [hd] at h
    exact AL.le (le_lk (τ := ⟨σ.t, (κ, .ty .own full e ke Y enc' dec' d' xs') :: erl σ.r κ⟩) (fun t => .inr (htv t).symm) hos) (kk _ h)
  | some d9 =>
    rw [hd] at h
    dsimp only at h
    split at h
    · rw [asK_eq] at h
      refine AL.le (le_lk (τ := ⟨(d9, v) :: erl σ.t d9, (κ, .ty .own full e ke Y enc' dec' d' xs') :: erl σ.r κ⟩) (fun t => .inr ?_) hos) (kk _ h)
      rw [lkT_cons]
      show _ = ((σ.er.ow κ (TRoot.ty .own full e ke X enc dec d xs).er S ld m).put d9 v).tv t
      rw [St.tv_put]
      by_cases e2 : t = d9
      · rw [if_pos e2, if_pos e2, hv]
      · rw [if_neg e2, if_neg e2, htv, lkT_erl, if_neg e2]
    · rw [putK_eq] at h
      refine AL.le (le_lk (τ := ⟨(d9, v) :: σ.t, (κ, .ty .own full e ke Y enc' dec' d' xs') :: erl σ.r κ⟩) (fun t => .inr ?_) hos) (kk _ h)
      rw [lkT_cons]
      show _ = ((σ.er.ow κ (TRoot.ty .own full e ke X enc dec d xs).er S ld m).put d9 v).tv t
      rw [St.tv_put]
      by_cases e2 : t = d9
      · rw [if_pos e2, if_pos e2, hv]
      · rw [if_neg e2, if_neg e2, htv]
theorem OpK.copyX (hG : GOk P G) {t e0 e e2 ke bs kt κ κs ld ls nd ns m : Nat} {z : List ZC} {x y : Operand} {full f2 : Bool} {ro : RO} {X Y : Type} {enc : X → Nat → TC} {dec : List Value → Option X} {d : X} {xs : List X} {enc2 : Y → Nat → TC} {dec2 : List Value → Option Y} {d2 : Y} {ys : List Y} {Z : Type} (encZ : Z → Nat → TC) (decZ : List Value → Option Z) (dZ : Z) (xs' : List Z)
    (hop : o.op = .call { callee := .builtin .copy, args := #[x, y], argTypes := #[t, t] }) (hg : o.guard = none) (hd : okD N o.dst = true) (ht : G.T t = some ⟨kt, .sl e ke bs, z⟩) (hx : evS σ x = .a (.ref κ ld nd)) (hR : lkR σ.r κ = some (.ty .own full e0 ke X enc dec d xs))
    (hy : evS σ y = .a (.ref κs ls ns)) (hS : lkR σ.r κs = some (.ty ro f2 e2 ke Y enc2 dec2 d2 ys)) (hm : m = Nat.min ns nd) (hl : xs'.length = xs.length)
    (hin : ∀ i r, i < m → r < ke → ∃ v, encZ (xs'.getD (ld + i) dZ) r = .lit v ∧ enc2 (ys.getD (ls + i) d2) r = .lit v) (hout : ∀ q r, q < xs.length → r < ke → ¬ (ld ≤ q ∧ q < ld + m) → encZ (xs'.getD q dZ) r = enc (xs.getD q d) r)
    (h : setK σ κ (.ty .own full e0 ke Z encZ decZ dZ xs') fun σ => stO o σ (.a (.lit (.int .i64 m))) k) : OpK P F N o σ k :=
  ⟨fun ops Q rest kk => AL.copyO hG.T hop hg hd ht (by rw [evS_eq, hx]; rfl) (TS.rt_some hR) rfl rfl rfl (by rw [evS_eq, hy]; rfl) (TS.rt_some hS) rfl rfl hm
    (ow_finX (v := .a (.lit (.int .i64 m))) encZ decZ dZ xs' hR hl (fun i r hi hr => by
      obtain ⟨v, h1, h2⟩ := hin i r hi hr
      refine ⟨v, h1, ?_⟩
      show flat ((enc2 (ys.getD (ls + i) d2) r).er (owOf ro)) = _
      rw [h2]; rfl) hout rfl kk (by rw [setK_eq] at h; exact h))⟩

theorem map_some_getD {α : Type} (d : α) (xs : List α) (q : Nat) (h : q < xs.length) : (xs.map some).getD q none = some (xs.getD q d) := by simp [List.getD, h]
theorem mapn_getD {α : Type} (d : α) (xs : List α) (q : Nat) (h : q < xs.length) : (xs.map some ++ [none]).getD q none = some (xs.getD q d) := by
  simp only [List.getD, List.getElem?_append_left (show q < (xs.map some).length by simpa using h), List.getElem?_map, List.getElem?_eq_getElem h, Option.map_some, Option.getD_some]
theorem ins1_getD {α : Type} (d : α) (xs : List α) (i q : Nat) (hi : i < xs.length) : (xs.take (i + 1) ++ xs.drop i).getD q d = if q ≤ i then xs.getD q d else xs.getD (q - 1) d := by
  have hl : (xs.take (i + 1)).length = i + 1 := by simp; omega
  simp only [List.getD]
  split
  · rw [List.getElem?_append_left (by omega), List.getElem?_take, if_pos (by omega)]
  · rw [List.getElem?_append_right (by omega), hl, List.getElem?_drop]; congr 2; omega
theorem ins2_getD {α : Type} (d : α) (xs : List α) (i q : Nat) (x : α) (hi : i ≤ xs.length) : (xs.take i ++ x :: xs.drop i).getD q d = if q < i then xs.getD q d else if q = i then x else xs.getD (q - 1) d := by
  have hl : (xs.take i).length = i := by simp; omega
  simp only [List.getD]
  split
  · rw [List.getElem?_append_left (by omega), List.getElem?_take, if_pos (by omega)]
  · rw [List.getElem?_append_right (by omega), hl]
    split
    · subst q; simp
    · obtain ⟨t, rfl⟩ : ∃ t, q = i + 1 + t := ⟨q - i - 1, by omega⟩
      rw [show i + 1 + t - i = t + 1 by omega, List.getElem?_cons_succ, List.getElem?_drop]; congr 2; omega

/-- A literal row of one element is told as a row of elements. -/
theorem OpK.litTy (κ : Nat) {e kw : Nat} {cs : List TCl} {X : Type} (enc : X → Nat → TC) (dec : List Value → Option X) (d x : X) (hR : lkR σ.r κ = some (.litr e kw [cs])) (hl : cs.length = kw) (hx : ∀ r, r < kw → cs[r]? = some (.cl (enc x r)))
    (h : fS ⟨σ.t, (κ, .ty .own true e kw X enc dec d [x]) :: erl σ.r κ⟩ fun σ => OpK P F N o σ k) : OpK P F N o σ k := by
  rw [fS_eq] at h
  refine ⟨fun ops Q rest kk => AL.le (le_lk (fun t' => .inr ?_) (fun κ' => ?_)) (h.h ops Q rest kk)⟩
  · exact (TS.tv_er σ t').symm
  · rw [lkR_cons, lkR_erl, TS.rt_er]
    by_cases e1 : κ' = κ
    · subst e1
      rw [if_pos rfl, hR]
      refine ⟨rfl, fun _ => ⟨rfl, rfl⟩, rfl, rfl, fun i r hi hr' => ?_⟩
      change i < 1 at hi; change r < kw at hr'
      obtain rfl : i = 0 := by omega
      rw [ty_get, litr_get hl hr', hx r hr']
      exact CSame.rfl _
    · rw [if_neg e1, if_neg e1]; exact OSim.rfl _
end
end Go.Tr
end

section
/- What an insertion before the first greater element gives. -/
namespace Go.Proofs.Ytlnlogflhagocaa
open Go Go.Tr
set_option linter.unusedVariables false
set_option linter.unusedSimpArgs false
section
variable {α : Type}
def fiP (P : α → Bool) (z : α) (r : List α) : Option Nat := firstP (fun j => P (r.getD j z)) 0 r.length
def insP (P : α → Bool) (z x : α) (r : List α) : List α := match fiP P z r with
  | some j => r.take j ++ x :: r.drop j
  | none => r
def insE (P : α → Bool) (z x : α) (r : List α) : List α := match fiP P z r with
  | some j => r.take j ++ x :: r.drop j
  | none => r ++ [x]
theorem firstP_congr {p q : Nat → Bool} : ∀ (m i : Nat), (∀ j, i ≤ j → j < i + m → p j = q j) → firstP p i m = firstP q i m
  | 0, i, h => rfl
  | m + 1, i, h => by
    unfold firstP
    rw [h i (Nat.le_refl _) (by omega), firstP_congr m (i + 1) (fun j h1 h2 => h j (by omega) (by omega))]
theorem firstP_snoc {p : Nat → Bool} : ∀ (m i : Nat), firstP p i (m + 1) = match firstP p i m with | some j => some j | none => if p (i + m) then some (i + m) else none
  | 0, i => by simp [firstP]
  | m + 1, i => by
    rw [firstP, firstP_snoc m (i + 1), firstP]
    split
    · rfl
    · rw [show i + 1 + m = i + (m + 1) by omega]
theorem fiP_lt {P : α → Bool} {z : α} {r : List α} {j : Nat} (h : fiP P z r = some j) : j < r.length := by
  unfold fiP at h
  have : ∀ (m i j : Nat) (p : Nat → Bool), firstP p i m = some j → j < i + m := by
    intro m
    induction m with
    | zero => intro i j p h; cases h
    | succ m ih =>
      intro i j p h
      unfold firstP at h
      split at h
      · injection h with h; omega
      · have := ih _ _ _ h; omega
  have := this _ _ _ _ h; omega
theorem fiP_app (P : α → Bool) (z y : α) (r : List α) : fiP P z (r ++ [y]) = match fiP P z r with | some j => some j | none => if P y then some r.length else none := by
  unfold fiP
  rw [List.length_append, List.length_singleton, firstP_snoc]
  have e1 : firstP (fun j => P ((r ++ [y]).getD j z)) 0 r.length = firstP (fun j => P (r.getD j z)) 0 r.length := by
    refine firstP_congr _ _ (fun j _ h2 => ?_)
    have : (r ++ [y]).getD j z = r.getD j z := by simp only [List.getD]; rw [List.getElem?_append_left (by omega)]
    rw [this]
  have e2 : (r ++ [y]).getD (0 + r.length) z = y := by simp [List.getD]
  rw [e1, e2, Nat.zero_add]
theorem insP_app (P : α → Bool) (z x y : α) (r : List α) : insP P z x (r ++ [y]) = if (fiP P z r).isSome then insP P z x r ++ [y] else if P y then r ++ [x] ++ [y] else r ++ [y] := by
  unfold insP
  rw [fiP_app]
  cases h : fiP P z r with
  | some j =>
    have := fiP_lt h
    simp only [Option.isSome_some, if_true]
    rw [List.take_append_of_le_length (by omega), List.drop_append_of_le_length (by omega)]
    simp
  | none =>
    simp only [Option.isSome_none, Bool.false_eq_true, if_false]
    cases P y
    · rfl
    · simp
theorem fiP_app_some (P : α → Bool) (z y : α) (r : List α) : (fiP P z (r ++ [y])).isSome = ((fiP P z r).isSome || P y) := by
  rw [fiP_app]
  cases fiP P z r with
  | some j => rfl
  | none => cases P y <;> rfl
theorem insE_eq (P : α → Bool) (z x : α) (r : List α) : insE P z x r = if (fiP P z r).isSome then insP P z x r else r ++ [x] := by
  unfold insE insP
  cases fiP P z r <;> rfl
theorem insE_len (P : α → Bool) (z x : α) (r : List α) : (insE P z x r).length = r.length + 1 := by
  unfold insE
  cases h : fiP P z r with
  | some j => have := fiP_lt h; simp; omega
  | none => simp
theorem insP_le (P : α → Bool) (z x : α) (r : List α) : (insP P z x r).length ≤ r.length + 1 := by
  unfold insP
  cases h : fiP P z r with
  | some j => have := fiP_lt h; simp; omega
  | none => simp
theorem insP_nil (P : α → Bool) (z x : α) : insP P z x [] = [] := rfl
end
end Go.Proofs.Ytlnlogflhagocaa
end

section

end

section
namespace Go.Proofs.Ytlnlogflhagocaa
open Go Go.Tr
set_option maxRecDepth 100000
set_option maxHeartbeats 4000000
set_option linter.unusedVariables false
set_option linter.unusedSimpArgs false
def plRKV : Option Nat → Int
  | some j => (j : Int)
  | none => -1
theorem IndexKV_run {hc : Hc} {cf : Nat} {caps : Array Value} (p : KVT → Bool) (e : Nat) (xs : List KVT) (hn : xs.length ≤ 4000000) (hcs : ∀ v ∈ caps, scal v = true) (hf : ∀ x : KVT, RunH Try.prog hc cf ([aKV x] ++ capA caps) [] [ob (p x)] []) :
    RunH Try.prog hc 278 [.one (.c (tKV e xs)), .one (.c (.lit (.func (.func cf) #[] caps)))] [] [oi (plRKV (firstP (fun j => p (xs.getD j zKV)) 0 xs.length))] [] := by
  refine RunH.of_vc gOk Try.func278 rfl rfl (Nat.le_of_ble_eq_true rfl) (by repeat' (first | exact trivial | exact ⟨_, rfl, Nat.le_refl _⟩ | exact Nat.le_of_ble_eq_true rfl | refine And.intro ?_ ?_)) (Nat.le_of_ble_eq_true rfl) rfl (fun F hE hA => ?_)
  repeat' (first | exact trivial | refine BS.d (fun h => ?_) (fun h => ?_) | refine BS.e (fun h => ?_) (fun h => ?_) | refine BS.ne (fun h => ?_) (fun h => ?_) | refine BS.n ?_ | refine BS.s (fun h => ?_) (fun h => ?_) | refine And.intro ?_ ?_ | (refine Need.mk ?_; first | with_reducible rfl | (show @Eq TC _ _; rfl) | omega | (simp only [adN_zero]; omega)) | exact OutS.whole rfl rfl | refine ListO.go gOk hE ?_)
  refine CodeK.loop gOk hE (fun i : Nat => ⟨[(0, vr 1000000 xs.length), (1, .a (.lit (.func (.func cf) #[] caps))), (7, vi xs.length), (8, vi i)], [(1000000, rKV .fro false e xs)]⟩) (fun i => i ≤ xs.length ∧ firstP (fun j => p (xs.getD j zKV)) 0 xs.length = firstP (fun j => p (xs.getD j zKV)) i (xs.length - i)) (fun i => xs.length - i) 0 (by refine leT.of ?_ ?_ rfl <;> repeat' (first | exact trivial | refine And.intro rfl ?_ | refine And.intro (by simp) ?_)) ⟨Nat.zero_le _, rfl⟩ ?_
  rintro i ⟨hi, hs⟩
  rcases hp : p (xs.getD i zKV)
  all_goals (have c1 := hf (xs.getD i zKV); rw [hp] at c1)
  all_goals (repeat' (first | exact trivial | refine BS.d (fun h => ?_) (fun h => ?_) | refine BS.e (fun h => ?_) (fun h => ?_) | refine BS.ne (fun h => ?_) (fun h => ?_) | refine BS.n ?_ | refine BS.s (fun h => ?_) (fun h => ?_) | refine And.intro ?_ ?_ | (refine Need.mk ?_; first | with_reducible rfl | (show @Eq TC _ _; rfl) | omega | (simp only [adN_zero]; omega)) | exact OutS.whole rfl rfl | (refine OpK.callC c1 hA hcs rfl rfl rfl rfl hE ?_ rfl rfl ?_; focus ((repeat' (first | exact PsA.lit _ | exact PsA.ref rfl rfl | constructor)); all_goals (fail "ps"))) | refine ListO.go gOk hE ?_))
  all_goals (try simp only [adN_zero] at *)
  all_goals first
    | (exfalso; first | omega | (simp_all; done))
    | (refine Need.mk ?_; omega)
    | (refine Need.mk ?_; rw [hs, firstP_yes (by omega) hp]; rfl)
    | (refine Need.mk ?_; rw [hs, show xs.length - i = 0 by omega]; rfl)
    | (refine ⟨i + 1, (by refine leT.of ?_ ?_ rfl <;> repeat' (first | exact trivial | refine And.intro rfl ?_ | refine And.intro (by simp) ?_)), ⟨by omega, by rw [hs, firstP_no (by omega) hp, show xs.length - i - 1 = xs.length - (i + 1) by omega]⟩, by first | omega | (dsimp only; omega)⟩)
theorem firstP_someKV {p : Nat → Bool} : ∀ {m i j : Nat}, firstP p i m = some j → i ≤ j ∧ j < i + m ∧ p j = true ∧ ∀ t, i ≤ t → t < j → p t = false
  | 0, i, j, h => by cases h
  | m + 1, i, j, h => by
    unfold firstP at h
    split at h
    · injection h with h; subst h; exact ⟨Nat.le_refl _, by omega, by assumption, fun t h1 h2 => by omega⟩
    · rename_i hp
      obtain ⟨h1, h2, h3, h4⟩ := firstP_someKV h
      refine ⟨by omega, by omega, h3, fun t h5 h6 => ?_⟩
      by_cases e : t = i
      · subst e; simpa using hp
      · exact h4 t (by omega) h6
theorem firstP_noneAKV {p : Nat → Bool} : ∀ {m i : Nat}, firstP p i m = none → ∀ j, i ≤ j → j < i + m → p j = false
  | 0, i, h, j, h1, h2 => by omega
  | m + 1, i, h, j, h1, h2 => by
    unfold firstP at h
    split at h
    · cases h
    · rename_i hp
      by_cases e : j = i
      · subst e; simpa using hp
      · exact firstP_noneAKV h j (by omega) (by omega)
def kpKV (p : KVT → Bool) (xs : List KVT) (j : Nat) : List KVT := (xs.take j).filter fun x => !p x
theorem kpKV_succ (p : KVT → Bool) (xs : List KVT) {j : Nat} (h : j < xs.length) : kpKV p xs (j + 1) = if p (xs.getD j zKV) then kpKV p xs j else kpKV p xs j ++ [xs.getD j zKV] := by
  unfold kpKV
  have e : xs.getD j zKV = xs[j] := by simp [List.getD, h]
  rw [List.take_succ_eq_append_getElem h, List.filter_append, e]
  cases hp : p xs[j] <;> simp [hp]
theorem kpKV_le (p : KVT → Bool) (xs : List KVT) (j : Nat) : (kpKV p xs j).length ≤ j := by
  unfold kpKV
  exact Nat.le_trans (List.length_filter_le _ _) (by simp; omega)
theorem kpKV_all (p : KVT → Bool) (xs : List KVT) : ∀ j, (∀ t, t < j → p (xs.getD t zKV) = false) → j ≤ xs.length → kpKV p xs j = xs.take j
  | 0, _, _ => rfl
  | j + 1, h, hj => by
    rw [kpKV_succ p xs (by omega), h j (by omega), kpKV_all p xs j (fun t ht => h t (by omega)) (by omega)]
    rw [List.take_succ_eq_append_getElem (show j < xs.length by omega)]
    simp [List.getD, show j < xs.length by omega]
theorem take_kpKV {ys ks : List KVT} (hk : ks.length ≤ ys.length) (h : ∀ t, t < ks.length → ys.getD t zKV = ks.getD t zKV) : ys.take ks.length = ks := by
  refine List.ext_getElem (by simp; omega) (fun i h1 h2 => ?_)
  have := h i h2
  simp only [List.getD, List.getElem?_eq_getElem h2, List.getElem?_eq_getElem (show i < ys.length by omega), Option.getD_some] at this
  rw [List.getElem_take, this]
theorem padKV_ge (ys : List KVT) (k n : Nat) {q : Nat} (h : k ≤ q) (hk : k ≤ ys.length := by omega) : (ys.take k ++ List.replicate n zKV).getD q zKV = zKV := by
  simp only [List.getD]
  rw [List.getElem?_append_right (by simp; omega), List.getElem?_replicate]
  split <;> rfl
theorem padKV_out {ys : List KVT} {k n q : Nat} (hl : ys.length = n) (hk : k ≤ n) (h : ¬ (k ≤ q ∧ q < k + (n - k))) : (ys.take k ++ List.replicate (n - k) zKV).getD q zKV = ys.getD q zKV := by
  simp only [List.getD]
  by_cases h1 : q < k
  · rw [List.getElem?_append_left (by simp; omega), List.getElem?_take, if_pos h1]
  · rw [List.getElem?_eq_none (by simp; omega), List.getElem?_eq_none (by omega)]
theorem DelKV_run {hc : Hc} {cf : Nat} {caps : Array Value} (p : KVT → Bool) (e : Nat) (xs : List KVT) (hn : xs.length ≤ 4000000) (hcs : ∀ v ∈ caps, scal v = true) (hf : ∀ x : KVT, RunH Try.prog hc cf ([aKV x] ++ capA caps) [] [ob (p x)] []) :
    RunH Try.prog hc 274 [.one (.m (tKV e xs)), .one (.c (.lit (.func (.func cf) #[] caps)))] [] [.one (tKV e (xs.filter fun x => !p x))] [] := by
  have c1 := IndexKV_run p e xs hn hcs hf
  cases hq : firstP (fun j => p (xs.getD j zKV)) 0 xs.length with
  | none =>
    have ha := firstP_noneAKV hq
    have hall := kpKV_all p xs xs.length (fun t ht => ha t (Nat.zero_le _) (by omega)) (Nat.le_refl _)
    unfold kpKV at hall
    rw [List.take_length] at hall
    rw [hall]
    rw [hq] at c1
    refine RunH.of_vc gOk Try.func274 rfl rfl (Nat.le_of_ble_eq_true rfl) (by repeat' (first | exact trivial | exact ⟨_, rfl, Nat.le_refl _⟩ | exact Nat.le_of_ble_eq_true rfl | refine And.intro ?_ ?_)) (Nat.le_of_ble_eq_true rfl) rfl (fun F hE hA => ?_)
    repeat' (first | exact trivial | refine BS.d (fun h => ?_) (fun h => ?_) | refine BS.e (fun h => ?_) (fun h => ?_) | refine BS.ne (fun h => ?_) (fun h => ?_) | refine BS.n ?_ | refine BS.s (fun h => ?_) (fun h => ?_) | refine And.intro ?_ ?_ | (refine Need.mk ?_; first | with_reducible rfl | (show @Eq TC _ _; rfl) | omega | (simp only [adN_zero]; omega)) | exact OutS.whole rfl rfl | (refine OpK.callH c1 hA rfl rfl rfl rfl hE ?_ rfl rfl ?_; focus ((repeat' (first | exact PsA.lit _ | exact PsA.ref rfl rfl | constructor)); all_goals (fail "ps"))) | refine ListO.go gOk hE ?_)
    all_goals first | exact OutS.whole rfl rfl | (exfalso; simp_all; done) | trace_state
  | some i0 =>
    obtain ⟨_, hi0, hp0, hall0⟩ := firstP_someKV hq
    have hk0 : kpKV p xs (i0 + 1) = xs.take i0 := by
      rw [kpKV_succ p xs (by omega), hp0, if_pos rfl]
      exact kpKV_all p xs i0 (fun t ht => hall0 t (Nat.zero_le _) ht) (by omega)
    have hl0 : (kpKV p xs (i0 + 1)).length = i0 := by rw [hk0]; simp; omega
    rw [hq] at c1
    have hfull : kpKV p xs xs.length = xs.filter fun x => !p x := by unfold kpKV; rw [List.take_length]
    refine RunH.of_vc gOk Try.func274 rfl rfl (Nat.le_of_ble_eq_true rfl) (by repeat' (first | exact trivial | exact ⟨_, rfl, Nat.le_refl _⟩ | exact Nat.le_of_ble_eq_true rfl | refine And.intro ?_ ?_)) (Nat.le_of_ble_eq_true rfl) rfl (fun F hE hA => ?_)
    repeat' (first | exact trivial | refine BS.d (fun h => ?_) (fun h => ?_) | refine BS.e (fun h => ?_) (fun h => ?_) | refine BS.ne (fun h => ?_) (fun h => ?_) | refine BS.n ?_ | refine BS.s (fun h => ?_) (fun h => ?_) | refine And.intro ?_ ?_ | (refine Need.mk ?_; first | with_reducible rfl | (show @Eq TC _ _; rfl) | omega | (simp only [adN_zero]; omega)) | exact OutS.whole rfl rfl | (refine OpK.callH c1 hA rfl rfl rfl rfl hE ?_ rfl rfl ?_; focus ((repeat' (first | exact PsA.lit _ | exact PsA.ref rfl rfl | constructor)); all_goals (fail "ps"))) | refine ListO.go gOk hE ?_)
    all_goals first | (exfalso; simp_all [plRKV]; done) | (exfalso; simp only [plRKV] at *; omega) | (refine Need.mk ?_; simp only [plRKV]; omega) | skip
    refine CodeK.loop gOk hE (fun i : Nat × List KVT => ⟨[(0, vr 1000000 xs.length), (1, .a (.lit (.func (.func cf) #[] caps))), (5, vi (kpKV p xs i.1).length), (6, vi i.1)], [(1000000, rKV .own true e i.2)]⟩) (fun i => i.1 ≤ xs.length ∧ i.2.length = xs.length ∧ (∀ t, t < (kpKV p xs i.1).length → i.2.getD t zKV = (kpKV p xs i.1).getD t zKV) ∧ ∀ t, i.1 ≤ t → i.2.getD t zKV = xs.getD t zKV) (fun i => xs.length - i.1) (i0 + 1, xs) (by refine leT.of ?_ ?_ rfl <;> repeat' (first | exact trivial | refine And.intro rfl ?_ | refine And.intro (by first | rfl | (simp [hl0, plRKV] <;> rfl)) ?_)) ⟨by omega, rfl, fun t ht => (by rw [hl0] at ht; dsimp only; rw [hk0]; simp [List.getD, List.getElem?_take, ht]), fun t ht => rfl⟩ ?_
    rintro ⟨j, ys⟩ ⟨hj, hyl, hB, hC⟩
    dsimp only at hj hyl hB hC
    have hkl := kpKV_le p xs j
    by_cases hj2 : j < xs.length
    · have hv := hC j (Nat.le_refl _)
      have hsu := kpKV_succ p xs hj2
      cases hp : p (xs.getD j zKV) with
      | true =>
        have c2 := hf (ys.getD j zKV)
        rw [hv, hp] at c2
        rw [hp, if_pos rfl] at hsu
        repeat' (first | exact trivial | refine BS.d (fun h => ?_) (fun h => ?_) | refine BS.e (fun h => ?_) (fun h => ?_) | refine BS.ne (fun h => ?_) (fun h => ?_) | refine BS.n ?_ | refine BS.s (fun h => ?_) (fun h => ?_) | refine And.intro ?_ ?_ | (refine Need.mk ?_; first | with_reducible rfl | (show @Eq TC _ _; rfl) | omega | (simp only [adN_zero]; omega)) | exact OutS.whole rfl rfl | (refine OpK.callC c2 hA hcs rfl rfl rfl rfl hE ?_ rfl rfl ?_; focus ((repeat' (first | exact PsA.lit _ | exact PsA.ref rfl rfl | constructor)); all_goals (fail "ps"))) | refine ListO.go gOk hE ?_)
        all_goals (try simp only [adN_zero, hv] at *)
        all_goals (try (repeat' (first | exact trivial | refine BS.d (fun h => ?_) (fun h => ?_) | refine BS.e (fun h => ?_) (fun h => ?_) | refine BS.ne (fun h => ?_) (fun h => ?_) | refine BS.n ?_ | refine BS.s (fun h => ?_) (fun h => ?_) | refine And.intro ?_ ?_ | (refine Need.mk ?_; first | with_reducible rfl | (show @Eq TC _ _; rfl) | omega | (simp only [adN_zero]; omega)) | exact OutS.whole rfl rfl | (refine OpK.callC c2 hA hcs rfl rfl rfl rfl hE ?_ rfl rfl ?_; focus ((repeat' (first | exact PsA.lit _ | exact PsA.ref rfl rfl | constructor)); all_goals (fail "ps"))) | refine ListO.go gOk hE ?_)))
        all_goals first
          | (exfalso; first | omega | (simp_all; done))
          | (refine Need.mk ?_; omega)
          | (refine ⟨(j + 1, ys), (by refine leT.of ?_ ?_ rfl <;> repeat' (first | exact trivial | refine And.intro rfl ?_ | refine And.intro (by first | rfl | (rw [hsu]; rfl) | (simp [hsu] <;> rfl)) ?_)), ⟨by omega, hyl, by rw [hsu]; exact hB, fun t ht => hC t (by omega)⟩, by first | omega | (dsimp only; omega)⟩)
          | trace_state
      | false =>
        have c2 := hf (ys.getD j zKV)
        rw [hv, hp] at c2
        rw [hp, if_neg (by simp)] at hsu
        repeat' (first | exact trivial | refine BS.d (fun h => ?_) (fun h => ?_) | refine BS.e (fun h => ?_) (fun h => ?_) | refine BS.ne (fun h => ?_) (fun h => ?_) | refine BS.n ?_ | refine BS.s (fun h => ?_) (fun h => ?_) | refine And.intro ?_ ?_ | (refine Need.mk ?_; first | with_reducible rfl | (show @Eq TC _ _; rfl) | omega | (simp only [adN_zero]; omega)) | exact OutS.whole rfl rfl | (refine OpK.callC c2 hA hcs rfl rfl rfl rfl hE ?_ rfl rfl ?_; focus ((repeat' (first | exact PsA.lit _ | exact PsA.ref rfl rfl | constructor)); all_goals (fail "ps"))) | refine ListO.go gOk hE ?_)
        all_goals (try simp only [adN_zero, hv] at *)
        all_goals (try (repeat' (first | exact trivial | refine BS.d (fun h => ?_) (fun h => ?_) | refine BS.e (fun h => ?_) (fun h => ?_) | refine BS.ne (fun h => ?_) (fun h => ?_) | refine BS.n ?_ | refine BS.s (fun h => ?_) (fun h => ?_) | refine And.intro ?_ ?_ | (refine Need.mk ?_; first | with_reducible rfl | (show @Eq TC _ _; rfl) | omega | (simp only [adN_zero]; omega)) | exact OutS.whole rfl rfl | (refine OpK.callC c2 hA hcs rfl rfl rfl rfl hE ?_ rfl rfl ?_; focus ((repeat' (first | exact PsA.lit _ | exact PsA.ref rfl rfl | constructor)); all_goals (fail "ps"))) | refine ListO.go gOk hE ?_)))
        all_goals first
          | (exfalso; first | omega | (simp_all; done))
          | (refine Need.mk ?_; first | omega | rw [hyl]; omega)
          | (refine ⟨(j + 1, ys.set (kpKV p xs j).length (xs.getD j zKV)), (by refine leT.of ?_ ?_ rfl <;> repeat' (first | exact trivial | refine And.intro rfl ?_ | refine And.intro (by first | rfl | (rw [hsu]; simp; rfl) | (simp [hsu] <;> rfl)) ?_)), ⟨by omega, by simp [hyl], fun t ht => ?_, fun t ht => ?_⟩, by first | omega | (dsimp only; omega)⟩; (rw [hsu] at ht ⊢; rw [List.length_append] at ht; simp only [List.getD] at hB ⊢; by_cases h9 : t = (kpKV p xs j).length; (subst h9; rw [List.getElem?_set_self (by omega), List.getElem?_append_right (by omega)]; simp); (rw [List.getElem?_set_ne (by omega), List.getElem?_append_left (by simp at ht; omega)]; exact hB t (by simp at ht; omega))); (simp only [List.getD] at hC ⊢; rw [List.getElem?_set_ne (by omega)]; exact hC t (by omega)))
          | trace_state
    · obtain rfl : j = xs.length := by omega
      have htk := take_kpKV (by omega) hB
      repeat' (first | exact trivial | refine BS.d (fun h => ?_) (fun h => ?_) | refine BS.e (fun h => ?_) (fun h => ?_) | refine BS.ne (fun h => ?_) (fun h => ?_) | refine BS.n ?_ | refine BS.s (fun h => ?_) (fun h => ?_) | refine And.intro ?_ ?_ | (refine Need.mk ?_; first | with_reducible rfl | (show @Eq TC _ _; rfl) | omega | (simp only [adN_zero]; omega)) | exact OutS.whole rfl rfl | (refine OpK.clearT gOk (ys.take (kpKV p xs xs.length).length ++ List.replicate (xs.length - (kpKV p xs xs.length).length) zKV) rfl rfl rfl rfl rfl rfl rfl rfl (by simp; omega) ?_ ?_ ?_) | refine ListO.go gOk hE ?_)
      all_goals (try simp only [adN_zero, Int.toNat_natCast] at *)
      all_goals first
        | (exfalso; omega)
        | (refine Need.mk ?_; omega)
        | (intro i r hi hr; rw [padKV_ge _ _ _ (by omega)]; match r, hr with
            | 0, _ => exact ⟨_, rfl, rfl⟩
            | 1, _ => exact ⟨_, rfl, rfl⟩)
        | (intro q hq; exact padKV_out hyl hkl hq)
        | (refine OutS.pre (by simp; omega) ?_; rw [List.take_append_of_le_length (by simp; omega), List.take_take, Nat.min_self, htk, hfull]; rfl)
        | trace_state
end Go.Proofs.Ytlnlogflhagocaa
end

section
/- slices.Insert of one element. -/
namespace Go.Proofs.Ytlnlogflhagocaa
open Go Go.Tr
set_option maxRecDepth 100000
set_option maxHeartbeats 4000000
set_option linter.unusedVariables false
set_option linter.unusedSimpArgs false
theorem flatKV (x : KVT) (r : Nat) (hr : r < 2) : ∃ v, encKV x r = .lit v ∧ encKV x r = .lit v := by
  rcases r with _ | _ | r
  · exact ⟨_, rfl, rfl⟩
  · exact ⟨_, rfl, rfl⟩
  · omega
theorem zeroKV (r : Nat) (hr : r < 2) : ∃ v, encKV zKV r = .lit v ∧ ([.lit (.int .i64 0), .lit (.int .i64 0)] : List ZC)[r]? = some (.lit v) ∧ scal v = true := by
  rcases r with _ | _ | r
  · exact ⟨_, rfl, rfl, rfl⟩
  · exact ⟨_, rfl, rfl, rfl⟩
  · omega
theorem InsKV_run (xs : List KVT) (i : Nat) (x : KVT) (hn : xs.length ≤ 1048576) (hi : i ≤ xs.length) : RunT Try.prog 279 [.one (.m (tKV 179 xs)), ti i, .one (.m (tKV 179 [x]))] [] [.one (tKV 179 (xs.take i ++ x :: xs.drop i))] [] := by
  refine RunT.of_ck0 gOk Try.func279 rfl rfl (Nat.le_of_ble_eq_true rfl) (by repeat' (first | exact trivial | exact ⟨_, rfl, Nat.le_refl _⟩ | exact Nat.le_of_ble_eq_true rfl | refine And.intro ?_ ?_)) (fun F hF => ?_)
  have hE : F.nE ≤ 1000000 := by omega
  have hok : okK F 1000000 := fun ρ hρ => by omega
  obtain ⟨vs, hvs⟩ : ∃ vs, vs = [x] := ⟨_, rfl⟩
  have hvl : vs.length = 1 := by rw [hvs]; rfl
  rw [← hvs]
  by_cases hin : i = xs.length
  · have e1 : xs.take i ++ x :: xs.drop i = xs ++ vs := by subst hin hvs; simp
    rw [e1]
    (repeat' (first | exact trivial | refine BS.d (fun h => ?_) (fun h => ?_) | refine BS.e (fun h => ?_) (fun h => ?_) | refine BS.ne (fun h => ?_) (fun h => ?_) | refine BS.n ?_ | refine BS.s (fun h => ?_) (fun h => ?_) | refine And.intro ?_ ?_ | (refine Need.mk ?_; first | with_reducible rfl | (show @Eq TC _ _; rfl) | omega | (simp only [adN_zero]; omega)) | exact OutS.whole rfl rfl | (refine OpK.appsK gOk (by rfl) (by rfl) (by rfl) (by rfl) (by rfl) (by rfl) (by rfl) (by rfl) (by rfl) (by rfl) (by rfl) flatKV hok ?_ ?_) | (refine CodeK.seqL 9999 rfl ?_) | (refine CodeK.seqv gOk hE ?_) | (refine CodeK.vc gOk hE ?_) | (refine ListO.step gOk hE ?_) | (refine ListO.done ?_) | refine ListO.go gOk hE ?_))
    all_goals first
      | (exfalso; omega)
      | (unfold maxLen; omega)
      | omega
      | exact Need.mk rfl
      | exact OutS.whole (by simp) rfl
      | trace_state
  · have hF0 : F.nE ≤ 0 := by omega
    rw [fS_eq]
    refine CodeK.know 0 hF0 (fun F' hF' => CodeK.fsd ?_)
    clear hok hE hF hF0
    have hE : F'.nE ≤ 1000000 := by omega
    have hρ : 0 < F'.nE := by omega
    have hi2 : i < xs.length := by omega
    generalize hcp : (F'.E 0).cap = cp
    have a1 : adN 0 ((i : Int) + (vs.length : Int)) = i + 1 := by rw [show (i : Int) + vs.length = ((i + 1 : Nat) : Int) by omega]; exact adN_zero _
    have a2 : adN 0 (i : Int) = i := adN_zero _
    have a3 : ((i : Int) + (vs.length : Int)).toNat = i + 1 := by omega
    have hv0 : vs.getD 0 zKV = x := by rw [hvs]; rfl
    have l1 : (xs.take (i + 1) ++ xs.drop i).length = xs.length + 1 := by simp; omega
    have l2 : (xs.take i ++ x :: xs.drop i).length = xs.length + 1 := by simp; omega
    have l3 : (xs.take i ++ List.replicate (xs.length + 1 - i) zKV).length = xs.length + 1 := by simp; omega
    have l4 : (xs.take i ++ x :: List.replicate (xs.length - i) zKV).length = xs.length + 1 := by simp; omega
    have g3 : ∀ q, i ≤ q → (xs.take i ++ List.replicate (xs.length + 1 - i) zKV).getD q zKV = zKV := by
      intro q hq
      simp only [List.getD]
      rw [List.getElem?_append_right (by simp; omega), List.getElem?_replicate]; split <;> rfl
    have g3' : ∀ q, q < i → (xs.take i ++ List.replicate (xs.length + 1 - i) zKV).getD q zKV = xs.getD q zKV := by
      intro q hq
      simp only [List.getD]
      rw [List.getElem?_append_left (by simp; omega), List.getElem?_take, if_pos hq]
    have g4 : ∀ q, (xs.take i ++ x :: List.replicate (xs.length - i) zKV).getD q zKV = if q < i then xs.getD q zKV else if q = i then x else zKV := by
      intro q
      have hl : (xs.take i).length = i := by simp; omega
      simp only [List.getD]
      split
      · rw [List.getElem?_append_left (by omega), List.getElem?_take, if_pos (by omega)]
      · rw [List.getElem?_append_right (by omega), hl]
        split
        · subst q; simp
        · obtain ⟨t, rfl⟩ : ∃ t, q = i + 1 + t := ⟨q - i - 1, by omega⟩
          rw [show i + 1 + t - i = t + 1 by omega, List.getElem?_cons_succ, List.getElem?_replicate]; split <;> rfl
    by_cases hc : xs.length + 1 ≤ cp
    · (repeat' (first | exact trivial | refine BS.d (fun h => ?_) (fun h => ?_) | refine BS.e (fun h => ?_) (fun h => ?_) | refine BS.ne (fun h => ?_) (fun h => ?_) | refine BS.n ?_ | refine BS.s (fun h => ?_) (fun h => ?_) | refine And.intro ?_ ?_ | (refine Need.mk ?_; first | with_reducible rfl | (show @Eq TC _ _; rfl) | omega | (simp only [adN_zero]; omega)) | exact OutS.whole rfl rfl | (refine OpK.capE gOk hρ rfl rfl rfl rfl rfl rfl ?_) | (refine OpK.ovl (t := 95) (tR := 4) gOk rfl rfl rfl rfl rfl Try.func280 (by kernel_rfl) (by kernel_rfl) (by kernel_rfl) (by kernel_rfl) rfl rfl rfl rfl rfl rfl rfl ?_) | (refine CodeK.revealR 13 rfl hρ rfl (by rw [hcp]; exact hc) rfl ?_) | (refine ListO.pure rfl rfl (PK.sliceX (h' := xs.length + 1) gOk rfl rfl rfl rfl (.inl ⟨rfl, rfl⟩) rfl ?_ ?_ ?_)) | (refine OpK.copyT (xs := xs.map some ++ [none]) gOk ((xs.take (i + 1) ++ xs.drop i).map some) rfl rfl rfl rfl rfl rfl rfl rfl rfl ?_ ?_ ?_ ?_) | (refine OpK.copyX (xs := (xs.take (i + 1) ++ xs.drop i).map some) gOk encKV decKV zKV (xs.take i ++ x :: xs.drop i) rfl rfl rfl rfl rfl rfl rfl rfl rfl ?_ ?_ ?_ ?_) | (refine CodeK.draw gOk hE rfl (fun _ _ h => h) (.take 0 (.take 1 (.take 2 (.take 3 (.take 4 (.take 5 (.take 6 (.take 7 (.alt 8 .done .stop))))))))) ?_ ?_; focus (decide +kernel)) | (refine CodeK.seqL 13 rfl ?_) | (refine CodeK.seqv gOk hE ?_) | (refine CodeK.vc gOk hE ?_) | (refine ListO.step gOk hE ?_) | (refine ListO.done ?_) | refine ListO.go gOk hE ?_))
      all_goals first
        | (exfalso; omega)
        | omega
        | (simp only [List.length_map, List.length_append, List.length_cons, List.length_nil] at *; omega)
        | (intro q r hq hr; simp only [a1, a2, a3] at *
           have hq' := Nat.lt_of_lt_of_le hq (Nat.min_le_right _ _)
           have hq2 : q + i < xs.length := by omega
           rw [map_some_getD zKV _ _ (by omega), mapn_getD zKV _ _ (by omega), ins1_getD zKV xs i _ hi2, if_neg (by omega), show i + 1 + q - 1 = i + q by omega]
           exact flatKV _ r hr)
        | (intro q hq; simp only [a1, a2, a3] at *
           by_cases hql : q < xs.length + 1
           · by_cases hqi : q ≤ i
             · rw [map_some_getD zKV _ _ (by omega), mapn_getD zKV _ _ (by omega), ins1_getD zKV xs i _ hi2, if_pos hqi]
             · exfalso; refine hq ⟨by omega, ?_⟩
               rw [show Nat.min _ _ = min _ _ from rfl, Nat.min_def]; split <;> omega
           · simp only [List.getD]
             rw [List.getElem?_eq_none (by simp; omega), List.getElem?_eq_none (by simp; omega)])
        | (intro q r hq hr; simp only [a1, a2, a3] at *
           have hq' := Nat.lt_of_lt_of_le hq (Nat.min_le_left _ _)
           obtain rfl : q = 0 := by omega
           rw [Nat.zero_add, hv0, Nat.add_zero, ins2_getD zKV xs i _ x hi, if_neg (by omega), if_pos rfl]
           exact flatKV _ r hr)
        | (intro q r hql hr hq; simp only [a1, a2, a3] at *
           have hql2 : q < xs.length + 1 := by simp only [List.length_map] at hql; omega
           rw [map_some_getD zKV _ _ (by omega), ins1_getD zKV xs i _ hi2, ins2_getD zKV xs i _ x hi]
           show _ = encKV _ r
           by_cases hqi : q < i
           · rw [if_pos hqi, if_pos (by omega)]
           · rw [if_neg hqi]
             by_cases hqe : q = i
             · exfalso; refine hq ⟨by omega, ?_⟩
               rw [show Nat.min _ _ = min _ _ from rfl, Nat.min_def]; split <;> omega
             · rw [if_neg hqe, if_neg (by omega)])
        | exact OutS.whole (by omega) rfl
        | trace_state
    · (repeat' (first | exact trivial | refine BS.d (fun h => ?_) (fun h => ?_) | refine BS.e (fun h => ?_) (fun h => ?_) | refine BS.ne (fun h => ?_) (fun h => ?_) | refine BS.n ?_ | refine BS.s (fun h => ?_) (fun h => ?_) | refine And.intro ?_ ?_ | (refine Need.mk ?_; first | with_reducible rfl | (show @Eq TC _ _; rfl) | omega | (simp only [adN_zero]; omega)) | exact OutS.whole rfl rfl | (refine OpK.capE gOk hρ rfl rfl rfl rfl rfl rfl ?_) | (refine OpK.growP (m := xs.length + 1 - i) (z := [.lit (.int .i64 0), .lit (.int .i64 0)]) gOk zKV hρ (by rfl) (by rfl) (by rfl) (by rfl) (by rfl) (by rfl) Try.underlying3 (by rfl) (by rfl) (by rfl) ?_ (by rfl) ?_ ?_ ?_ ?_ zeroKV ?_ (by rfl) (by decide) ?_) | (refine OpK.copyT (xs := xs.take i ++ List.replicate (xs.length + 1 - i) zKV) gOk (xs.take i ++ x :: List.replicate (xs.length - i) zKV) rfl rfl rfl rfl rfl rfl rfl rfl rfl ?_ ?_ ?_ ?_) | (refine OpK.copyT (xs := xs.take i ++ x :: List.replicate (xs.length - i) zKV) gOk (xs.take i ++ x :: xs.drop i) rfl rfl rfl rfl rfl rfl rfl rfl rfl ?_ ?_ ?_ ?_) | (refine CodeK.draw gOk hE rfl (fun _ _ h => h) (.take 0 (.take 1 (.take 2 (.take 3 (.take 4 (.take 5 (.take 6 (.take 7 (.alt 8 .done .stop))))))))) ?_ ?_; focus (decide +kernel)) | (refine CodeK.seqL 9999 rfl ?_) | (refine CodeK.seqv gOk hE ?_) | (refine CodeK.vc gOk hE ?_) | (refine ListO.step gOk hE ?_) | (refine ListO.done ?_) | refine ListO.go gOk hE ?_))
      all_goals first
        | (exfalso; omega)
        | omega
        | (unfold maxLen; omega)
        | (simp only [List.length_map, List.length_append, List.length_cons, List.length_nil] at *; omega)
        | (intro q r hq hr; exact ⟨_, (flatKV _ r hr).choose_spec.1⟩)
        | (intro q r hq hr; simp only [a1, a2, a3] at *
           have hq' := Nat.lt_of_lt_of_le hq (Nat.min_le_left _ _)
           obtain rfl : q = 0 := by omega
           rw [Nat.zero_add, hv0, Nat.add_zero, g4, if_neg (by omega), if_pos rfl]
           exact flatKV _ r hr)
        | (intro q hq; simp only [a1, a2, a3] at *
           by_cases hqi : q < i
           · rw [g4, if_pos hqi, g3' q hqi]
           · by_cases hqe : q = i
             · exfalso; refine hq ⟨by omega, ?_⟩
               rw [show Nat.min _ _ = min _ _ from rfl, Nat.min_def]; split <;> omega
             · rw [g4, if_neg hqi, if_neg hqe, g3 q (by omega)])
        | (intro q r hq hr; simp only [a1, a2, a3] at *
           have hq' := Nat.lt_of_lt_of_le hq (Nat.min_le_left _ _)
           rw [ins2_getD zKV xs i _ x hi, if_neg (by omega), if_neg (by omega), show i + 1 + q - 1 = i + q by omega]
           exact flatKV _ r hr)
        | (intro q hq; simp only [a1, a2, a3] at *
           rw [g4, ins2_getD zKV xs i _ x hi]
           by_cases hqi : q < i
           · rw [if_pos hqi, if_pos hqi]
           · by_cases hqe : q = i
             · rw [if_neg hqi, if_neg hqi, if_pos hqe, if_pos hqe]
             · rw [if_neg hqi, if_neg hqi, if_neg hqe, if_neg hqe]
               by_cases hql : q < xs.length + 1
               · exfalso; refine hq ⟨by omega, ?_⟩
                 rw [show Nat.min _ _ = min _ _ from rfl, Nat.min_def]; split <;> omega
               · simp only [List.getD]; rw [List.getElem?_eq_none (by omega)]; rfl)
        | exact OutS.whole (by omega) rfl
        | trace_state
end Go.Proofs.Ytlnlogflhagocaa
end

section
/- A box of several cells is told as a row of as many elements. -/
set_option linter.unusedVariables false
set_option linter.unusedSimpArgs false
universe u
namespace Go.Tr
open Go Go.RowKit
/-- The root is not named here. -/
def frA (κ : Nat) : At → Prop
  | .ref d _ _ => d ≠ κ
  | .spot d _ _ => d ≠ κ
  | _ => True
def frV0 (κ : Nat) : V → Prop
  | .a x => frA κ x
  | .agg l => ∀ x ∈ l, frA κ x
  | .ptr d _ _ => d ≠ κ
  | _ => True
def frV (κ : Nat) : V → Prop
  | .tup l => ∀ x ∈ l, frV0 κ x
  | x => frV0 κ x
section
variable {F : Fm} {N : Nat} {σ σ' : St} {a : Act} {w : World} {ω : Om} {β : Nat → Bs}
theorem Rel1.reshape (h : Rel1 F N σ a w ω β) {κ m : Nat} {R R' : Root} (hR : σ.rt κ = some R) (hn : R.n = 1) (hk : R.k = m) (ho : R.o = .own) (ho' : R'.o = .own) (hf' : R'.full = false) (hn' : R'.n = m) (hk' : R'.k = 1)
    (hg : ∀ i, i < m → ∃ v, R.get 0 i = .cl (.lit v) ∧ R'.get i 0 = .cl (.lit v)) (ht : ∀ t, σ'.tv t = .any ∨ (σ'.tv t = σ.tv t ∧ frV κ (σ.tv t)) ∨ (σ'.tv t = .ptr κ 0 0 ∧ σ.tv t = .ptr κ 0 0))
    (hr : ∀ κ', κ' ≠ κ → σ'.rt κ' = σ.rt κ') (hrκ : σ'.rt κ = some R') (hc : ∀ κ' R2 i r d lo n, κ' ≠ κ → σ.rt κ' = some R2 → R2.get i r = .ref d lo n → d ≠ κ) : Rel1 F N σ' a w ω β := by
  have href : ∀ {d lo n : Nat} {v : Value}, d ≠ κ → RefRel σ β d lo n v → RefRel σ' β d lo n v := by
    rintro d lo n v hd ⟨R2, hR2, k1⟩
    exact ⟨R2, by rw [hr d hd]; exact hR2, k1⟩
  have hA : ∀ {x : At} {u : Value}, frA κ x → ARel σ β w x u → ARel σ' β w x u := by
    intro x u hx hh
    cases x with
    | any => exact hh
    | lit v => exact hh
    | nil _ _ => exact hh
    | ref d lo n => exact href hx hh
    | spot d i r =>
      obtain ⟨R2, g, j, h1, h2⟩ := hh
      exact ⟨R2, g, j, by rw [hr d hx]; exact h1, h2⟩
  have hV0 : ∀ {x : V} {u : Value}, frV0 κ x → VRel0 σ β w x u → VRel0 σ' β w x u := by
    intro x u hx hh
    cases x with
    | any => trivial
    | a x => exact hA hx hh
    | agg l =>
      obtain ⟨us, h1, h2, h3⟩ := hh
      exact ⟨us, h1, h2, fun j x hj => by obtain ⟨y, h4, h5⟩ := h3 j x hj; exact ⟨y, h4, hA (hx x (List.mem_of_getElem? hj)) h5⟩⟩
    | ptr d i r =>
      obtain ⟨R2, g, j, h1, h2⟩ := hh
      exact ⟨R2, g, j, by rw [hr d hx]; exact h1, h2⟩
    | tup l => exact hh.elim
  refine ⟨h.tsz, h.dfr, fun t => ?_, fun κ' R2 hR2 => ?_, h.wr, h.fr, h.fz, fun ρ R2 hρ hR2 => ?_⟩
  · have h0 := h.tmps t
    rcases ht t with e | ⟨e, hfr⟩ | ⟨e, e'⟩
    · rw [e]; trivial
    · rw [e]
      generalize σ.tv t = v at h0 hfr
      cases v with
      | tup l =>
        obtain ⟨us, h1, h2, h3⟩ := h0
        exact ⟨us, h1, h2, fun j x hj => by obtain ⟨y, h4, h5⟩ := h3 j x hj; exact ⟨y, h4, hV0 (hfr x (List.mem_of_getElem? hj)) h5⟩⟩
      | any => trivial
      | a x => exact hV0 (x := .a x) hfr h0
      | agg l => exact hV0 (x := .agg l) hfr h0
      | ptr d i r => exact hV0 (x := .ptr d i r) hfr h0
    · rw [e]; rw [e'] at h0
      obtain ⟨R2, g, j, h1, ⟨o, h2, h3⟩, h4⟩ := h0
      exact ⟨R', g, j, hrκ, ⟨o, h2, by rw [h3]; omega⟩, h4⟩
  · by_cases e : κ' = κ
    · subst e
      rw [hrκ] at hR2; injection hR2 with hR2; subst hR2
      refine ⟨fun i r hi hr' _ => ?_, fun hf => by rw [hf'] at hf; cases hf⟩
      have hi' : i < m := by omega
      have hr0 : r = 0 := by omega
      subst hr0
      obtain ⟨v, g1, g2⟩ := hg i hi'
      obtain ⟨g, j, u, ⟨o2, k1, k2⟩, k3, k4, k5, k6⟩ := (h.roots κ' R hR).cells 0 i (by omega) (by omega) (by rw [g1]; rfl)
      refine ⟨g, j, u, ⟨o2, k1, by rw [k2, hk']; omega⟩, k3, by rw [ho'] ; rw [ho] at k4; exact k4, fun _ => k5 ho, ?_⟩
      unfold CellRel at k6 ⊢
      rw [g1] at k6
      rw [g2]
      exact k6
    · rw [hr κ' e] at hR2
      have hh := h.roots κ' R2 hR2
      refine ⟨fun i r hi hr' hl => ?_, hh.full⟩
      obtain ⟨g, j, u, k1, k3, k4, k5, k6⟩ := hh.cells i r hi hr' hl
      refine ⟨g, j, u, k1, k3, k4, k5, ?_⟩
      unfold CellRel at k6 ⊢
      cases hq : R2.get i r with
      | ref d lo n => rw [hq] at k6; exact href (hc κ' R2 i r d lo n e hR2 hq) k6
      | cl c => rw [hq] at k6; exact k6
  · by_cases e : 1000000 + ρ = κ
    · exact h.ex ρ R hρ (by rw [e]; exact hR)
    · exact h.ex ρ R2 hρ (by rw [← hr _ e]; exact hR2)
end
end Go.Tr
end

section
/- A box gets another key, so that where it lies becomes known; a function value that captures it; a call that is handed such a value. -/
set_option linter.unusedVariables false
set_option linter.unusedSimpArgs false
universe u
namespace Go.Tr
open Go Go.RowKit
section
variable {P : Program} {F : Fm} {N : Nat} {σ σ' : St} {a : Act} {w : World} {ω : Om} {β : Nat → Bs}
theorem Rel1.rekey (h : Rel1 F N σ a w ω β) {κ κ' : Nat} {R : Root} (hne : κ ≠ κ') (hR : σ.rt κ = some R) (hn' : σ.rt κ' = none) (ho : R.o = .own) (hok : okK F κ) (hok' : okK F κ')
    (hl : ∀ i r, i < R.n → r < R.k → ∃ v, R.get i r = .cl (.lit v)) (hrow : ∀ d lo n i r, R.get i r ≠ .ref d lo n)
    (ht : ∀ t, σ'.tv t = .any ∨ (σ'.tv t = σ.tv t ∧ frV κ (σ.tv t)) ∨ (∃ i r, σ.tv t = .ptr κ i r ∧ σ'.tv t = .ptr κ' i r)) (hr : ∀ d, d ≠ κ → d ≠ κ' → σ'.rt d = σ.rt d) (hrκ : σ'.rt κ = none) (hrκ' : σ'.rt κ' = some R)
    (hc : ∀ d R2 i r d2 lo n, d ≠ κ → σ.rt d = some R2 → R2.get i r = .ref d2 lo n → d2 ≠ κ) :
    Rel1 F N σ' a w (fun b j => if ω b j = some (.row κ) then some (.row κ') else ω b j) (fun d => if d = κ' then β κ else β d) := by
  have hdn : ∀ d R2, σ.rt d = some R2 → d ≠ κ' := fun d R2 hd e => by rw [e, hn'] at hd; cases hd
  have href : ∀ {d lo n : Nat} {v : Value}, d ≠ κ → RefRel σ β d lo n v → RefRel σ' (fun d => if d = κ' then β κ else β d) d lo n v := by
    rintro d lo n v hd ⟨R2, hR2, k1⟩
    have h1 := hdn d R2 hR2
    exact ⟨R2, by rw [hr d hd h1]; exact hR2, by dsimp only; rw [if_neg h1]; exact k1⟩
  have hA : ∀ {x : At} {u : Value}, frA κ x → ARel σ β w x u → ARel σ' (fun d => if d = κ' then β κ else β d) w x u := by
    intro x u hx hh
    cases x with
    | any => exact hh
    | lit v => exact hh
    | nil _ _ => exact hh
    | ref d lo n => exact href hx hh
    | spot d i r =>
      obtain ⟨R2, g, j, h1, h2, h3, h4, h5, h6⟩ := hh
      have h9 := hdn d R2 h1
      exact ⟨R2, g, j, by rw [hr d hx h9]; exact h1, h2, h3, h4, by dsimp only; rw [if_neg h9]; exact h5, h6⟩
  have hV0 : ∀ {x : V} {u : Value}, frV0 κ x → VRel0 σ β w x u → VRel0 σ' (fun d => if d = κ' then β κ else β d) w x u := by
    intro x u hx hh
    cases x with
    | any => trivial
    | a x => exact hA hx hh
    | agg l =>
      obtain ⟨us, h1, h2, h3⟩ := hh
      exact ⟨us, h1, h2, fun j x hj => by obtain ⟨y, h4, h5⟩ := h3 j x hj; exact ⟨y, h4, hA (hx x (List.mem_of_getElem? hj)) h5⟩⟩
    | ptr d i r =>
      obtain ⟨R2, g, j, h1, h2, h3⟩ := hh
      have h9 := hdn d R2 h1
      exact ⟨R2, g, j, by rw [hr d hx h9]; exact h1, by dsimp only; rw [if_neg h9]; exact h2, h3⟩
    | tup l => exact hh.elim
  refine ⟨h.tsz, h.dfr, fun t => ?_, fun d R2 hR2 => ?_, fun b j x hx => ?_, h.fr, fun b j hx => ?_, fun ρ R2 hρ hR2 => ?_⟩
  · have h0 := h.tmps t
    rcases ht t with e | ⟨e, hfr⟩ | ⟨i, r, e, e'⟩
    · rw [e]; trivial
    · rw [e]
      generalize σ.tv t = v at h0 hfr
      cases v with
      | tup l =>
        obtain ⟨us, h1, h2, h3⟩ := h0
        exact ⟨us, h1, h2, fun j x hj => by obtain ⟨y, h4, h5⟩ := h3 j x hj; exact ⟨y, h4, hV0 (hfr x (List.mem_of_getElem? hj)) h5⟩⟩
      | any => trivial
      | a x => exact hV0 (x := .a x) hfr h0
      | agg l => exact hV0 (x := .agg l) hfr h0
      | ptr d i r => exact hV0 (x := .ptr d i r) hfr h0
    · rw [e']; rw [e] at h0
      obtain ⟨R2, g, j, h1, h2, h3⟩ := h0
      rw [hR] at h1; injection h1 with h1; subst h1
      exact ⟨R, g, j, hrκ', by dsimp only; rw [if_pos rfl]; exact h2, h3⟩
  · by_cases e : d = κ'
    · subst e
      rw [hrκ'] at hR2; injection hR2 with hR2; subst hR2
      have hh := h.roots κ R hR
      refine ⟨fun i r hi hr' hlv => ?_, fun hf => ?_⟩
      · obtain ⟨g, j, u, k1, k2, k3, k4, k5⟩ := hh.cells i r hi hr' hlv
        refine ⟨g, j, u, by rw [if_pos rfl]; exact k1, k2, ?_, k4, ?_⟩
        · rw [ho] at k3 ⊢
          show (if ω g j = some (.row κ) then _ else _) = _
          rw [if_pos (show ω g j = some (.row κ) from k3)]
        · obtain ⟨v, hv⟩ := hl i r hi hr'
          unfold CellRel at k5 ⊢
          rw [hv] at k5 ⊢
          exact k5
      · obtain ⟨m0, m1, m2, m3, m4⟩ := hh.full hf
        rw [if_pos rfl]
        refine ⟨m0, m1, m2, m3, ?_⟩
        rcases m4 with m4 | ⟨g, cur, n1, n2, n3, n4⟩
        · exact .inl m4
        · exact .inr ⟨g, cur, n1, n2, n3, fun j hj => ⟨by show (if ω g j = some (.row κ) then _ else _) = _; rw [if_pos (n4 j hj).1], (n4 j hj).2⟩⟩
    · by_cases e2 : d = κ
      · subst e2; rw [hrκ] at hR2; cases hR2
      · rw [hr d e2 e] at hR2
        refine (h.roots d R2 hR2).upd (fun i r d2 lo n hg u hu => href (hc d R2 i r d2 lo n e2 hR2 hg) hu) (by rw [if_neg e]) (Meta.refl w) (fun b j x hx hm => ⟨?_, rfl⟩)
        show (if ω b j = some (.row κ) then _ else _) = _
        rw [if_neg]; exact hx
        intro h9
        rw [hx] at h9; injection h9 with h9; subst h9
        exact e2 hm.1.symm
  · (try dsimp only at hx)
    split at hx
    · rename_i h9
      injection hx with hx; subst hx
      have := h.wr b j _ h9
      exact ⟨this.1, fun _ => this.2 (by intro e; cases e)⟩
    · exact h.wr b j x hx
  · (try dsimp only at hx)
    split at hx
    · cases hx
    · exact h.fz b j hx
  · have e1 := Ne.symm (hok' ρ hρ)
    have e2 := Ne.symm (hok ρ hρ)
    (try dsimp only)
    rw [if_neg e1]
    exact h.ex ρ R2 hρ (by rw [← hr _ e2 e1]; exact hR2)
end
def rkV (κ κ' : Nat) : V → V
  | .ptr d i r => bif Nat.beq d κ then .ptr κ' i r else .ptr d i r
  | x => x
def nmA (κ : Nat) : At → Bool
  | .ref d _ _ => !Nat.beq d κ
  | .spot d _ _ => !Nat.beq d κ
  | _ => true
def nmV (κ : Nat) : V → Bool
  | .a x => nmA κ x
  | .agg l => l.all (nmA κ)
  | .tup [] => true
  | .tup _ => false
  | _ => true
def nmR (κ : Nat) : TRoot → Bool
  | .ty _ _ _ _ _ _ _ _ _ => true
  | .box _ cs => cs.all fun c => match c with | .ref d _ _ => !Nat.beq d κ | _ => true
  | _ => false
def rkT (κ κ' : Nat) (l : List (Nat × V)) : List (Nat × V) := l.map fun p => (p.1, rkV κ κ' p.2)
theorem lkT_mapV (f : V → V) (hf : f .any = .any) : ∀ (l : List (Nat × V)) (t : Nat), lkT (l.map fun p => (p.1, f p.2)) t = f (lkT l t)
  | [], t => hf.symm
  | p :: l, t => by
    simp only [List.map_cons, lkT]
    cases Nat.beq t p.1
    · exact lkT_mapV f hf l t
    · rfl
theorem lkT_all {q : V → Bool} (hq : q .any = true) : ∀ (l : List (Nat × V)) (t : Nat), (l.all fun p => q p.2) = true → q (lkT l t) = true
  | [], t, _ => hq
  | p :: l, t, h => by
    simp only [List.all_cons, Bool.and_eq_true] at h
    simp only [lkT]
    cases Nat.beq t p.1
    · exact lkT_all hq l t h.2
    · exact h.1
theorem nmA_fr {κ : Nat} {x : At} (h : nmA κ x = true) : frA κ (stA x) := by
  cases x <;> simp_all [nmA, stA, frA, beq_dec]
theorem lkR_all {q : TRoot → Bool} : ∀ (l : List (Nat × TRoot)) (d : Nat) (T : TRoot), (l.all fun p => q p.2) = true → lkR l d = some T → q T = true
  | [], d, T, _, h => by cases h
  | p :: l, d, T, h, h2 => by
    simp only [List.all_cons, Bool.and_eq_true] at h
    simp only [lkR] at h2
    cases hb : Nat.beq d p.1
    · rw [hb] at h2; exact lkR_all l d T h.2 h2
    · rw [hb] at h2; injection h2 with h2; subst h2; exact h.1
theorem box_get_ref {e : Nat} {cs : List TCl} {i r d lo n : Nat} (h : (TRoot.box e cs).er.get i r = .ref d lo n) : TCl.ref d lo n ∈ cs := by
  by_cases hh : i = 0 ∧ r < cs.length
  · obtain ⟨rfl, hr⟩ := hh
    rw [box_get, List.getElem?_eq_getElem hr] at h
    have h2 : (cs[r]).er = .ref d lo n := h
    have h3 : cs[r] = .ref d lo n := by
      cases hq : cs[r] with
      | cl t => rw [hq] at h2; cases h2
      | ref a b c => rw [hq] at h2; injection h2 with e1 e2 e3; subst e1 e2 e3; rfl
    rw [← h3]; exact List.getElem_mem hr
  · exfalso
    have : (TRoot.box e cs).er.get i r = .cl .any := by
      show look2 (mkop 0 0 (cs.map TCl.er)) i r (.cl .any) = _
      have := look2_mkop (i := 0) (i' := i) (c := Cl.cl .any) [] (cs.map TCl.er) 0 r
      rw [List.append_nil] at this
      rw [this]
      split
      · rename_i h9; exact absurd ⟨h9.1, by simpa using h9.2.2⟩ hh
      · rfl
    rw [this] at h; cases h
section
variable {P : Program} {F : Fm} {N : Nat} {G : Gt} {o : Oper} {ops : Array Oper} {σ : TS} {k : TS → Prop} {Q : Exit → TS → Prop} {c : Code}
theorem CodeK.rekey {κ κ' e : Nat} {vs : List Value} (hne : Nat.beq κ κ' = false) (hR : lkR σ.r κ = some (.box e (vs.map fun v => .cl (.lit v)))) (hn' : lkR σ.r κ' = none) (hκ : κ < 1000000) (hok' : okK F κ')
    (ht : (σ.t.all fun p => nmV κ p.2) = true) (hr : ((erl σ.r κ).all fun p => nmR κ p.2) = true) (h : fS ⟨rkT κ κ' σ.t, (κ', .box e (vs.map fun v => .cl (.lit v))) :: erl σ.r κ⟩ fun σ => CodeK P F N c σ Q) : CodeK P F N c σ Q := by
  simp only [beq_dec, decide_eq_false_iff_not] at hne
  rw [fS_eq] at h
  refine ⟨?_⟩
  rintro a w ⟨ω, β, h0⟩
  refine h.h a w ⟨_, _, h0.rekey (κ := κ) (κ' := κ') hne (TS.rt_some hR) (by rw [TS.rt_er, hn']; rfl) rfl (okK_lt hκ) hok' (fun i r hi hr' => ?_) (fun d lo n i r h9 => ?_) (fun t => ?_) (fun d h1 h2 => ?_) ?_ ?_ (fun d R2 i r d2 lo n h1 h2 h3 h4 => ?_)⟩
  · change i < 1 at hi
    obtain rfl : i = 0 := by omega
    have hlt : r < (vs.map fun v => TCl.cl (.lit v)).length := hr'
    rw [box_get, List.getElem?_eq_getElem hlt]
    simp only [List.getElem_map]
    exact ⟨_, rfl⟩
  · have := box_get_ref h9
    obtain ⟨v, _, hv⟩ := List.mem_map.1 this
    cases hv
  · rw [TS.tv_er, TS.tv_er]
    show stV (lkT (rkT κ κ' σ.t) t) = .any ∨ _
    unfold rkT
    rw [lkT_mapV (rkV κ κ') rfl]
    have hnm := lkT_all (q := nmV κ) rfl σ.t t ht
    generalize lkT σ.t t = v at hnm ⊢
    have hl : ∀ l : List At, l.all (nmA κ) = true → ∀ x ∈ l.map stA, frA κ x := fun l hl x hx => by
      obtain ⟨y, hy, rfl⟩ := List.mem_map.1 hx
      exact nmA_fr (List.all_eq_true.1 hl y hy)
    cases v with
    | any => exact .inl rfl
    | a x => exact .inr (.inl ⟨rfl, nmA_fr hnm⟩)
    | agg l => exact .inr (.inl ⟨rfl, hl l hnm⟩)
    | tup l =>
      cases l with
      | nil => exact .inr (.inl ⟨rfl, fun x hx => by cases hx⟩)
      | cons x l => cases hnm
    | ptr d i r =>
      by_cases e1 : d = κ
      · subst e1
        refine .inr (.inr ⟨i, r, rfl, ?_⟩)
        simp only [rkV, beq_self, cond_true]; rfl
      · refine .inr (.inl ⟨?_, e1⟩)
        simp only [rkV, beq_dec, e1, decide_false, cond_false]
  · rw [TS.rt_er, TS.rt_er]
    show (lkR ((κ', _) :: erl σ.r κ) d).map _ = _
    rw [lkR_cons, if_neg h2, lkR_erl, if_neg h1]
  · rw [TS.rt_er]
    show (lkR ((κ', _) :: erl σ.r κ) κ).map _ = _
    rw [lkR_cons, if_neg hne, lkR_erl, if_pos rfl]; rfl
  · rw [TS.rt_er]
    show (lkR ((κ', _) :: erl σ.r κ) κ').map _ = _
    rw [lkR_cons, if_pos rfl]; rfl
  · subst h4
    rw [TS.rt_er] at h2
    cases hq : lkR σ.r d with
    | none => rw [hq] at h2; cases h2
    | some T =>
      rw [hq] at h2; injection h2 with h2; subst h2
      have hT := lkR_all (q := nmR d2) (erl σ.r d2) d T hr (by rw [lkR_erl, if_neg h1]; exact hq)
      cases T with
      | ty o f e k X enc dec dd xs => rw [ty_get] at h3; cases h3
      | box e cs =>
        have hm := box_get_ref h3
        have := List.all_eq_true.1 hT _ hm
        simp [beq_dec] at this
      | litr e k cs => cases hT
      | raw R => cases hT
      | tyo => cases hT
/-- Cells from o on. -/
def tol (g : Nat) : Nat → List Value → List (Nat × Nat × Value)
  | _, [] => []
  | o, v :: l => (g, o, v) :: tol g (o + 1) l
theorem tol_mem {g : Nat} : ∀ {l : List Value} {o : Nat} {c : Nat × Nat × Value}, c ∈ tol g o l → ∃ r, c.1 = g ∧ c.2.1 = o + r ∧ l[r]? = some c.2.2
  | [], o, c, h => by cases h
  | v :: l, o, c, h => by
    rcases List.mem_cons.1 h with rfl | h
    · exact ⟨0, rfl, rfl, rfl⟩
    · obtain ⟨r, h1, h2, h3⟩ := tol_mem h
      exact ⟨r + 1, h1, by omega, by simpa using h3⟩
theorem know_box {ρ e : Nat} {vs : List Value} (hρ : ρ < F.nE) (hR : lkR σ.r (1000000 + ρ) = some (.box e (vs.map fun v => .cl (.lit v)))) (h0 : 0 < vs.length) {a : Act} {w : World} {ω : Om} {β : Nat → Bs} (h : Rel1 F N σ.er a w ω β) : ∃ g o, (F.E ρ).A = some ⟨g, o, none⟩ ∧ β (1000000 + ρ) = F.E ρ ∧
    ∀ r v, vs[r]? = some v → w.cell? ⟨g, o + r, none⟩ = some v ∧ scal v = true ∧ ω g (o + r) = some (.row (1000000 + ρ)) := by
  have hb := h.ex ρ _ hρ (TS.rt_some hR)
  have hcell : ∀ r v, vs[r]? = some v → ∃ g o, (F.E ρ).A = some ⟨g, o, none⟩ ∧ w.cell? ⟨g, o + r, none⟩ = some v ∧ scal v = true ∧ ω g (o + r) = some (.row (1000000 + ρ)) := by
    intro r v hv
    have hlt := (List.getElem?_eq_some_iff.1 hv).1
    obtain ⟨g, j, u, ⟨o, k1, k2⟩, k3, k4, k5, k6⟩ := (h.roots _ _ (TS.rt_some hR)).cells 0 r Nat.zero_lt_one (by show r < (vs.map _).length; simpa using hlt) rfl
    unfold CellRel at k6
    rw [box_get, List.getElem?_map, hv] at k6
    obtain ⟨rfl, hs⟩ := k6
    have hj : j = o + r := by rw [k2]; omega
    subst hj
    exact ⟨g, o, by rw [← hb]; exact k1, k3, hs, k4⟩
  obtain ⟨g, o, e1, _⟩ := hcell 0 _ (List.getElem?_eq_getElem h0)
  refine ⟨g, o, e1, hb, fun r v hv => ?_⟩
  obtain ⟨g2, o2, e2, e3, e4, e5⟩ := hcell r v hv
  rw [e1] at e2; injection e2 with e2; injection e2 with e6 e7 _
  subst e6 e7
  exact ⟨e3, e4, e5⟩
/-- Where the box lies is known from now on. -/
theorem CodeK.where {ρ e : Nat} {vs : List Value} (hρ : ρ < F.nE) (hR : lkR σ.r (1000000 + ρ) = some (.box e (vs.map fun v => .cl (.lit v)))) (h0 : 0 < vs.length) (h : ∀ g o, (F.E ρ).A = some ⟨g, o, none⟩ → CodeK P F N c σ Q) : CodeK P F N c σ Q := by
  refine ⟨?_⟩
  rintro a w ⟨ω, β, hr⟩
  obtain ⟨g, o, e1, _⟩ := know_box hρ hR h0 hr
  exact (h g o e1).h a w ⟨ω, β, hr⟩
theorem PK.mkFuncE {ρ cf g o1 e : Nat} {caps : Array Operand} {x : Operand} {kv : V → Prop} (hρ : ρ < F.nE) (hE : (F.E ρ).A = some ⟨g, o1, none⟩) (hop : o.op = .makeFunc (.func cf) #[] caps) (hcaps : caps = #[x]) (hx : evS σ x = .ptr (1000000 + ρ) 0 0) {cs : List TCl} (hR : lkR σ.r (1000000 + ρ) = some (.box e cs))
    (h : kv (.a (.lit (.func (.func cf) #[] #[.pointer (some ⟨g, o1, none⟩)])))) : PK P F N o σ kv := by
  subst hcaps
  refine ⟨_, h, fun a w ω β hr => ?_⟩
  have hx' := hr.ev x
  rw [evS_eq, hx] at hx'
  obtain ⟨R2, g2, j2, f1, ⟨o2, f2, f3⟩, f4⟩ := hx'
  rw [TS.rt_some hR] at f1; injection f1 with f1; subst f1
  have hb := hr.ex ρ _ hρ (TS.rt_some hR)
  rw [hb, hE] at f2; injection f2 with f2; injection f2 with f5 f6 _
  subst f5 f6
  have hj : j2 = o1 := by rw [f3]; omega
  subst hj
  refine ⟨.func (.func cf) #[] #[.pointer (some ⟨g, j2, none⟩)], fun w' => ?_, VRel.lit rfl⟩
  generalize a.eval = ρ' at f4 ⊢
  simp [execOp, hop, go_sem, Instr.makeFunc, f4]
theorem OpK.ofP (hg : o.guard = none) (hd : okD N o.dst = true) (h : PK P F N o σ fun v => stO o σ v k) : OpK P F N o σ k := ⟨fun ops Q rest kk => by
  obtain ⟨v, hv, hp⟩ := h.ok
  exact AL.pure hg hd hp (stO_ok hd kk hv)⟩
theorem ListK.ofP (hG : GOk P G) (hE : F.nE ≤ 1000000) {l : List Oper} (hg : o.guard = none) (hd : okD N o.dst = true) (h : PK P F N o σ fun v => stO o σ v fun σ => vcL P F N G ops l σ k) : ListK P F N ops (o :: l) σ k := ⟨fun Q kk => by
  obtain ⟨v, hv, hp⟩ := h.ok
  exact AL.pure hg hd hp (stO_ok hd (fun τ hτ => vcL_ok hG hE kk hτ) hv)⟩
/-- A field of a struct whose address is a number. -/
theorem PK.fieldH (hG : GOk P G) {s f off sz g j ks : Nat} {x : Operand} {pl : List (Nat × Nat)} {z : List ZC} {kv : V → Prop} (hop : o.op = .fieldAddr s x f) (hx : evS σ x = .a (.lit (.pointer (some ⟨g, j, none⟩)))) (ht : G.T s = some ⟨ks, .st pl, z⟩) (hf : pl[f]? = some (off, sz))
    (h : kv (.a (.lit (.pointer (some ⟨g, j + off, none⟩))))) : PK P F N o σ kv := by
  refine ⟨_, h, fun a w ω β hr => ?_⟩
  obtain ⟨fs, h1, h2, h3⟩ := (hG.T s _ ht).kind
  obtain ⟨fd, h4', hfd⟩ := mapM_at _ _ _ h2 f _ hf
  have h4 : fs[f]? = some fd := by rw [← Array.getElem?_toList]; exact h4'
  cases h6 : P.info? fd.type with
  | none => rw [h6] at hfd; cases hfd
  | some inf =>
  rw [h6] at hfd
  injection hfd with hfd
  injection hfd with h5 h8
  have h7 : inf.size ≠ 0 := by
    have := List.all_eq_true.1 h3 _ (List.mem_of_getElem? hf)
    simp at this; omega
  have e : a.eval x = .pointer (some ⟨g, j, none⟩) := ev_lit hr (by rw [evS_eq, hx]; rfl)
  refine ⟨.pointer (some ⟨g, j + off, none⟩), fun w' => ?_, VRel.lit rfl⟩
  subst h5
  generalize a.eval = ρ at e ⊢
  by_cases h0 : fd.offset = 0 <;> simp [execOp, hop, go_sem, e, Instr.fieldAt, underlying, h1, h4, Instr.sureAddr, fieldPlace, sizeOf, typeInfo, h6, h7, Addr.add, h0]
/-- A call that is handed a function value which captures a box of one's own. -/
theorem OpK.callK {τ : TS} {hc : Hc} {f : FuncId} {ags : Array Operand} {ats : Array TypeId} {args : List TAg} {outs : List TAr} {fx : Operand} {ρ g o1 e : Nat} {vs : List Value} (ms : List (Nat × Nat × Nat)) (hρ : ρ < F.nE) (hEA : (F.E ρ).A = some ⟨g, o1, none⟩) (hrun : RunH P (hcU (hcL (tol g o1 vs)) hc) f args [] outs []) (hA : AmbF hc F) (hop : o.op = .call ⟨.value fx, ags, ats⟩) (hfx : evS τ fx = .a (.lit (.func (.func f) #[] #[]))) (hg : o.guard = none) (hd : okD N o.dst = true) (hE : F.nE ≤ 1000000)
    (hRκ : lkR τ.r (1000000 + ρ) = some (.box e (vs.map fun v => .cl (.lit v)))) (h0 : 0 < vs.length) (hpn : posOf ms (1000000 + ρ) = none)
    (hms : ∀ m ∈ ms, noVw m.1 τ.r = true) (hps : QsVs τ (τ.dropL (ms.map Prod.fst)) [] ms 0 (ags.toList.map (evS τ)) args)
    (hfree : freeT (keyOf o) (τ.dropL (ms.map Prod.fst)).r = true) (hcnt : Nat.ble (cntT outs) 100 = true) (hk : nextK o outs (τ.dropL (ms.map Prod.fst)) k) : OpK P F N o τ k := by
  obtain ⟨fn, hf, hname, hb0⟩ := hrun.fn
  refine ⟨fun ops Q rest kk => ?_⟩
  intro a w hr
  obtain ⟨ω, β, h⟩ := hr
  have h1 := give_ok h hms
  have hvw : ∀ b ∈ ([] : List Bt), noVw b.κ (τ.dropL (ms.map Prod.fst)).r = true := fun b hb => by cases hb
  have hb : ∀ b ∈ ([] : List Bt), BtOk (τ.dropL (ms.map Prod.fst)) b := fun b hb => by cases hb
  have hnd : (([] : List Bt).map Bt.κ).Nodup := List.nodup_nil
  have hent := hps.ok h h1 (bk_bw hb hvw hnd) (fun κ' R hR => dropL_keep _ τ κ' R hR)
  rw [show (([] : List Bt).map fun b => b.x.er) = (([] : List Bt).map Bt.x).map TX.er from rfl] at hent
  have hentT := gent hA h hent
  refine wpList_plain hg fun K hK => ?_
  unfold Oper.wp
  rw [run_callV hop (ev_lit (v := .func (.func f) #[] #[]) h (by rw [evS_eq, hfx]; rfl)) hf hname hb0, Oper.upon_enter]
  have hargs : ags.map a.eval = (ags.toList.map a.eval).toArray := by apply Array.ext'; rw [Array.toList_map]
  rw [hargs]
  refine (hrun.run w _ _ _ hentT (fun g' j v hm => ?_)).mono fun e w' he => ?_
  · rcases hm with hm | hm
    · obtain ⟨r, m1, m2, m3⟩ := tol_mem hm
      change g' = g at m1; change j = o1 + r at m2; change vs[r]? = some v at m3
      subst m1 m2
      obtain ⟨g3, o3, e1, e2, e3⟩ := know_box hρ hRκ h0 h
      rw [hEA] at e1; injection e1 with e1; injection e1 with e4 e5 _
      subst e4 e5
      obtain ⟨e6, e7, e8⟩ := e3 r v m3
      refine ⟨e6, e7, ?_⟩
      have hrm : rmM ω ms g' (o1 + r) = some (.row (1000000 + ρ)) := by unfold rmM; rw [e8]; dsimp only; rw [hpn]; rfl
      have hq : qM ω ms (qOf (rmM ω ms) β []) g' (o1 + r) = some .fro := by
        unfold qM
        rw [e8]; dsimp only; rw [hpn]; dsimp only
        simp only [qOf, hrm]; rfl
      have hgq := gq1 (bs := []) (ms := ms) hA h g' (o1 + r) _ hrm
      show qT hc (qM ω ms (qOf (rmM ω ms) β [])) g' (o1 + r) = some .fro
      unfold qT
      split
      · rfl
      · exact hq
    · exact hA.now h _ g' j v hm
  · obtain ⟨us, outs0, ext0, q', rfl, ⟨rfl, rfl⟩, hx⟩ := he
    exact hK _ _ (call_kx hb hvw hnd h1 (gq1 hA h) (gq2 h) hd hE hfree hcnt hx hk kk)
end
end Go.Tr
end

section
/- insertBefore over pairs. -/
namespace Go.Proofs.Ytlnlogflhagocaa
open Go Go.Tr
set_option maxRecDepth 100000
set_option maxHeartbeats 4000000
set_option linter.unusedVariables false
set_option linter.unusedSimpArgs false
theorem insBKV_run {hc : Hc} {cf : Nat} {caps : Array Value} (p : KVT → Bool) (xs : List KVT) (x : KVT) (hn : xs.length ≤ 1048576) (hcs : ∀ v ∈ caps, scal v = true) (hf : ∀ x : KVT, RunH Try.prog hc cf ([aKV x] ++ capA caps) [] [ob (p x)] []) :
    RunH Try.prog hc 272 [.one (.m (tKV 179 xs)), aKV x, .one (.c (.lit (.func (.func cf) #[] caps)))] [] [.one (tKV 179 (insE p zKV x xs))] [] := by
  have c1 := IndexKV_run (hc := hc) p 179 xs (by omega) hcs hf
  unfold insE fiP
  cases hfi : firstP (fun j => p (xs.getD j zKV)) 0 xs.length with
  | none =>
    rw [hfi] at c1
    have c2 := (InsKV_run xs xs.length x hn (Nat.le_refl _)).toH hc
    rw [List.take_of_length_le (Nat.le_refl _), List.drop_of_length_le (Nat.le_refl _)] at c2
    simp only [plRKV] at c1
    refine RunH.of_vc gOk Try.func272 rfl rfl (Nat.le_of_ble_eq_true rfl) (by repeat' (first | exact trivial | exact ⟨_, rfl, Nat.le_refl _⟩ | exact Nat.le_of_ble_eq_true rfl | refine And.intro ?_ ?_)) (Nat.le_of_ble_eq_true rfl) rfl (fun F hE hA => ?_)
    repeat' (first | exact trivial | refine BS.d (fun h => ?_) (fun h => ?_) | refine BS.e (fun h => ?_) (fun h => ?_) | refine BS.ne (fun h => ?_) (fun h => ?_) | refine BS.n ?_ | refine BS.s (fun h => ?_) (fun h => ?_) | refine And.intro ?_ ?_ | (refine Need.mk ?_; first | with_reducible rfl | (show @Eq TC _ _; rfl) | omega | (simp only [adN_zero]; omega)) | exact OutS.whole rfl rfl | (refine OpK.callH c1 hA rfl rfl rfl rfl hE ?_ rfl rfl ?_; focus ((repeat' (first | exact PsA.lit _ | exact PsA.ref rfl rfl | constructor)); all_goals (fail "ps"))) | (refine OpK.litTy 18 encKV decKV zKV x rfl rfl (fun r hr => by rcases r with _ | _ | r <;> first | rfl | omega) ?_) | (refine OpK.callG [] [(1000000, 0, 0), (18, 2, 0)] c2 hA rfl rfl rfl rfl hE (List.forall_mem_cons.2 ⟨rfl, List.forall_mem_cons.2 ⟨rfl, fun _ h => nomatch h⟩⟩) (fun _ h => nomatch h) (fun _ h => nomatch h) List.nodup_nil (QsVs.cons (.one (.m rfl rfl (.whole rfl rfl))) (.cons (.one (.c (.lit _) rfl)) (.cons (.one (.m rfl rfl (.whole rfl rfl))) .nil))) rfl rfl ?_) | refine ListO.go gOk hE ?_)
    all_goals first | exact Need.mk rfl | exact OutS.whole rfl rfl | (exfalso; omega) | trace_state
  | some j =>
    rw [hfi] at c1
    have hj : j < xs.length := fiP_lt (P := p) (z := zKV) (r := xs) hfi
    have c2 := (InsKV_run xs j x hn (by omega)).toH hc
    simp only [plRKV] at c1
    (try dsimp only)
    generalize xs.take j ++ x :: xs.drop j = ys at *
    refine RunH.of_vc gOk Try.func272 rfl rfl (Nat.le_of_ble_eq_true rfl) (by repeat' (first | exact trivial | exact ⟨_, rfl, Nat.le_refl _⟩ | exact Nat.le_of_ble_eq_true rfl | refine And.intro ?_ ?_)) (Nat.le_of_ble_eq_true rfl) rfl (fun F hE hA => ?_)
    repeat' (first | exact trivial | refine BS.d (fun h => ?_) (fun h => ?_) | refine BS.e (fun h => ?_) (fun h => ?_) | refine BS.ne (fun h => ?_) (fun h => ?_) | refine BS.n ?_ | refine BS.s (fun h => ?_) (fun h => ?_) | refine And.intro ?_ ?_ | (refine Need.mk ?_; first | with_reducible rfl | (show @Eq TC _ _; rfl) | omega | (simp only [adN_zero]; omega)) | exact OutS.whole rfl rfl | (refine OpK.callH c1 hA rfl rfl rfl rfl hE ?_ rfl rfl ?_; focus ((repeat' (first | exact PsA.lit _ | exact PsA.ref rfl rfl | constructor)); all_goals (fail "ps"))) | (refine OpK.litTy 18 encKV decKV zKV x rfl rfl (fun r hr => by rcases r with _ | _ | r <;> first | rfl | omega) ?_) | (refine OpK.callG [] [(1000000, 0, 0), (18, 2, 0)] c2 hA rfl rfl rfl rfl hE (List.forall_mem_cons.2 ⟨rfl, List.forall_mem_cons.2 ⟨rfl, fun _ h => nomatch h⟩⟩) (fun _ h => nomatch h) (fun _ h => nomatch h) List.nodup_nil (QsVs.cons (.one (.m rfl rfl (.whole rfl rfl))) (.cons (.one (.c (.lit _) rfl)) (.cons (.one (.m rfl rfl (.whole rfl rfl))) .nil))) rfl rfl ?_) | refine ListO.go gOk hE ?_)
    all_goals first | exact Need.mk rfl | exact OutS.whole rfl rfl | (exfalso; omega) | trace_state
end Go.Proofs.Ytlnlogflhagocaa
end

section
namespace Go.Proofs.Ytlnlogflhagocaa
open Go Go.Tr
set_option maxRecDepth 100000
set_option linter.unusedVariables false
set_option linter.unusedSimpArgs false
theorem eqKV_run (x : KVT) : RunT Try.prog 103 [aKV x, aKV x] [] [ob true] [] := by
  refine RunT.of_vc gOk Try.func103 rfl rfl (Nat.le_of_ble_eq_true rfl) (by repeat' (first | exact trivial | exact ⟨_, rfl, Nat.le_refl _⟩ | exact Nat.le_of_ble_eq_true rfl | refine And.intro ?_ ?_)) (Nat.le_of_ble_eq_true rfl) rfl (fun F hE => ?_)
  repeat' (first | exact trivial | refine BS.d (fun h => ?_) (fun h => ?_) | refine BS.e (fun h => ?_) (fun h => ?_) | refine BS.ne (fun h => ?_) (fun h => ?_) | refine BS.n ?_ | refine BS.s (fun h => ?_) (fun h => ?_) | refine And.intro ?_ ?_ | (refine Need.mk ?_; first | with_reducible rfl | (show @Eq TC _ _; rfl) | omega | (simp only [adN_zero]; omega)) | exact OutS.whole rfl rfl | refine ListO.go gOk hE ?_)
  all_goals exact absurd rfl h
theorem eqKVS_run (e : Nat) (xs : List KVT) (hn : xs.length ≤ 4000000) : RunT Try.prog 45 [.one (.c (tKV e xs)), .one (.c (tKV e xs))] [] [ob true] [] := by
  refine RunT.of_vc gOk Try.func45 rfl rfl (Nat.le_of_ble_eq_true rfl) (by repeat' (first | exact trivial | exact ⟨_, rfl, Nat.le_refl _⟩ | exact Nat.le_of_ble_eq_true rfl | refine And.intro ?_ ?_)) (Nat.le_of_ble_eq_true rfl) rfl (fun F hE => ?_)
  repeat' (first | exact trivial | refine BS.d (fun h => ?_) (fun h => ?_) | refine BS.e (fun h => ?_) (fun h => ?_) | refine BS.ne (fun h => ?_) (fun h => ?_) | refine BS.n ?_ | refine BS.s (fun h => ?_) (fun h => ?_) | refine And.intro ?_ ?_ | (refine Need.mk ?_; first | with_reducible rfl | (show @Eq TC _ _; rfl) | omega | (simp only [adN_zero]; omega)) | exact OutS.whole rfl rfl | refine ListO.go gOk hE ?_)
  · refine CodeK.loop gOk hE (fun i : Nat => ⟨[(0, vr 1000000 xs.length), (1, vr 1000001 xs.length), (5, vi i)], [(1000000, rKV .fro false e xs), (1000001, rKV .fro false e xs)]⟩) (fun i => i ≤ xs.length) (fun i => xs.length - i) 0 (by refine leT.of ?_ ?_ rfl <;> repeat' (first | exact trivial | refine And.intro rfl ?_ | refine And.intro (by simp) ?_)) (Nat.zero_le _) ?_
    rintro i hi
    repeat' (first | exact trivial | refine BS.d (fun h => ?_) (fun h => ?_) | refine BS.e (fun h => ?_) (fun h => ?_) | refine BS.ne (fun h => ?_) (fun h => ?_) | refine BS.n ?_ | refine BS.s (fun h => ?_) (fun h => ?_) | refine And.intro ?_ ?_ | (refine Need.mk ?_; first | with_reducible rfl | (show @Eq TC _ _; rfl) | omega | (simp only [adN_zero]; omega)) | exact OutS.whole rfl rfl | refine ListO.go gOk hE ?_)
    · refine CodeK.draw gOk hE rfl (fun _ _ h => h) (.take 0 (.take 1 (.take 2 (.take 4 (.take 5 (.take 6 (.alt 3 (.alt 7 (.alt 8 (.take 9 .done) .stop) .stop) (.alt 7 (.alt 3 (.alt 8 (.take 9 .done) .stop) .stop) .stop)))))))) (by decide +kernel) ?_
      repeat' (first | exact trivial | refine BS.d (fun h => ?_) (fun h => ?_) | refine BS.e (fun h => ?_) (fun h => ?_) | refine BS.ne (fun h => ?_) (fun h => ?_) | refine BS.n ?_ | refine BS.s (fun h => ?_) (fun h => ?_) | refine And.intro ?_ ?_ | (refine Need.mk ?_; first | with_reducible rfl | (show @Eq TC _ _; rfl) | omega | (simp only [adN_zero]; omega)) | exact OutS.whole rfl rfl | refine ListO.go gOk hE ?_)
      all_goals (refine OpK.call (eqKV_run _) rfl rfl rfl rfl hE (by repeat' (first | exact PsA.lit _ | exact PsA.ref rfl rfl | constructor)) rfl rfl ?_)
      all_goals (repeat' (first | exact trivial | refine BS.d (fun h => ?_) (fun h => ?_) | refine BS.e (fun h => ?_) (fun h => ?_) | refine BS.ne (fun h => ?_) (fun h => ?_) | refine BS.n ?_ | refine BS.s (fun h => ?_) (fun h => ?_) | refine And.intro ?_ ?_ | (refine Need.mk ?_; first | with_reducible rfl | (show @Eq TC _ _; rfl) | omega | (simp only [adN_zero]; omega)) | exact OutS.whole rfl rfl | refine ListO.go gOk hE ?_))
      all_goals (refine ⟨i + 1, (by refine leT.of ?_ ?_ rfl <;> repeat' (first | exact trivial | refine And.intro rfl ?_ | refine And.intro (by simp) ?_)), ?_⟩; (refine And.intro ?_ ?_) <;> (first | omega | (dsimp only; omega) | trivial))
theorem KVs_of {e e' n : Nat} {row : Nat → Nat → C} (hn : n ≤ 9223372036854775807) (h : ∀ i r t, i < n → ([Dt.i, Dt.i] : List Dt)[r]? = some t → DtOk t (row i r)) : ∃ xs : List KVT, xs.length = n ∧ (∀ x ∈ xs, (-9223372036854775808 ≤ x.1 ∧ x.1 ≤ 9223372036854775807) ∧ (-9223372036854775808 ≤ x.2 ∧ x.2 ≤ 9223372036854775807)) ∧ CSame (.sl .fro e 2 n row) ((tKV e' xs).er .fro) :=
  list_of decKV zKV 2 (fun f hf => by
    obtain ⟨z0, hz0, w0⟩ := (hf 0 .i rfl).int
    obtain ⟨z1, hz1, w1⟩ := (hf 1 .i rfl).int
    refine ⟨(z0, z1), ⟨w0, w1⟩, fun r hr => ?_⟩
    match r, hr with
    | 0, _ => rw [hz0]; exact rfl
    | 1, _ => rw [hz1]; exact rfl
    ) h
end Go.Proofs.Ytlnlogflhagocaa
end

section
namespace Go.Proofs.Ytlnlogflhagocaa
open Go Go.Tr
set_option maxRecDepth 100000
set_option linter.unusedVariables false
set_option linter.unusedSimpArgs false
set_option maxHeartbeats 4000000
theorem CloneKV_base (e n : Nat) (row : Nat → Nat → C) (hn : n ≤ 1048576) (hfl : ∀ i r, r < 2 → ∃ v, row i r = .lit v) :
    Run Try.prog 229 [.one (.c (.sl .fro e 2 n row))] [] fun outs ext => outs = [.one (.sl .own 179 2 n row)] ∧ ext = [] := by
  refine Run.of_body tyOk Try.func229 (by rfl) (Nat.le_of_ble_eq_true rfl) (by simp [argsOk, aasOk, aaOk]) [] rfl (fun F hF => ?_)
  repeat (first | (first | refine AL.nil ?_ | refine AL.move (.inl (by rfl)) (by rfl) (by rfl) ?_ | refine AL.move (.inr (by rfl)) (by rfl) (by rfl) ?_ | refine AL.fieldAddr tyOk (by rfl) (by rfl) (by rfl) (by rfl) (by rfl) (by rfl) ?_ | refine AL.load1 tyOk (by rfl) (by rfl) (by rfl) (by rfl) (by rfl) (by rfl) (by rfl) (by first | exact Nat.le_of_ble_eq_true rfl | (dsimp only; omega) | omega | assumption | (simp only [openR]; omega) | exact Nat.lt_of_lt_of_le (m := 3) (by omega) (Nat.le_of_ble_eq_true rfl)) (by first | exact Nat.le_of_ble_eq_true rfl | (dsimp only; omega) | omega | assumption | (simp only [openR]; omega) | exact Nat.lt_of_lt_of_le (m := 3) (by omega) (Nat.le_of_ble_eq_true rfl)) (by rfl) ?_ | refine AL.loadAggE tyOk (by rfl) (by rfl) (by rfl) (by rfl) (by rfl) (by rfl) (by rfl) (by first | exact Nat.le_of_ble_eq_true rfl | (dsimp only; omega) | omega | assumption | (simp only [openR]; omega) | exact Nat.lt_of_lt_of_le (m := 3) (by omega) (Nat.le_of_ble_eq_true rfl)) (by first | exact Nat.le_of_ble_eq_true rfl | (dsimp only; omega) | omega | assumption | (simp only [openR]; omega) | exact Nat.lt_of_lt_of_le (m := 3) (by omega) (Nat.le_of_ble_eq_true rfl)) (by rfl) ?_ | refine AL.stor tyOk (by rfl) (by rfl) (by rfl) (by rfl) (by rfl) (by rfl) (by rfl) (by rfl) (by rfl) (by first | exact Nat.le_of_ble_eq_true rfl | (dsimp only; omega) | omega | assumption | (simp only [openR]; omega) | exact Nat.lt_of_lt_of_le (m := 3) (by omega) (Nat.le_of_ble_eq_true rfl)) (by first | exact Nat.le_of_ble_eq_true rfl | (dsimp only; omega) | omega | assumption | (simp only [openR]; omega) | exact Nat.lt_of_lt_of_le (m := 3) (by omega) (Nat.le_of_ble_eq_true rfl)) ?_ | refine AL.len (ty := 0) tyOk (by rfl) (by rfl) (by rfl) (by rfl) (by rfl) ?_ | refine AL.add (by rfl) (by rfl) (by rfl) (by rfl) (by rfl) (by constructor <;> omega) ?_ | refine AL.sub (by rfl) (by rfl) (by rfl) (by rfl) (by rfl) (by constructor <;> omega) ?_ | refine AL.mul (by rfl) (by rfl) (by rfl) (by rfl) (by rfl) (by constructor <;> omega) ?_ | refine AL.int2 (by rfl) (by rfl) (by rfl) (by rfl) (by rfl) (by rfl) (by first | trivial | decide | omega) ?_ | refine AL.bEq (by rfl) (by rfl) (by rfl) (by rfl) (by rfl) Try.underlying4 ?_ | refine AL.bNe (by rfl) (by rfl) (by rfl) (by rfl) (by rfl) Try.underlying4 ?_ | refine AL.not (by rfl) (by rfl) (by rfl) (by rfl) ?_ | refine AL.gOnE (by rfl) (by rfl) (by rfl) (by rfl) (by decide) (by first | rfl | assumption) ?_ | refine AL.gOffE (by rfl) (by rfl) (by rfl) (by rfl) (by rfl) (by decide) (by first | rfl | assumption) ?_ | refine AL.pickE (b' := true) (by rfl) (by rfl) (by rfl) (by rfl) (by first | rfl | assumption) ?_ | refine AL.pickE (b' := false) (by rfl) (by rfl) (by rfl) (by rfl) (by first | rfl | assumption) ?_ | refine AL.extract (by rfl) (by rfl) (by rfl) (by rfl) (by rfl) ?_ | refine AL.boxD tyOk (by rfl) (by rfl) (by rfl) (Nat.le_of_ble_eq_true rfl) (by rfl) (by rfl) (by rfl) (by decide) (by rfl) ?_ | refine AL.allocD tyOk (by rfl) (by rfl) (by rfl) (Nat.le_of_ble_eq_true rfl) (by rfl) (by rfl) (by decide) (by rfl) ?_ | refine AL.indexN tyOk (by rfl) (by rfl) (by rfl) (by rfl) (by rfl) (by rfl) (by rfl) (by rfl) (by first | rfl | exact (Int.toNat_of_nonneg (by omega)).symm) (by omega) ?_ | refine AL.indexSl tyOk (by rfl) (by rfl) (by rfl) (by rfl) (by rfl) (by rfl) (by rfl) (by rfl) (by constructor <;> omega) ?_ | refine AL.indexArr tyOk (by rfl) (by rfl) (by rfl) (by rfl) (by rfl) (by rfl) (by constructor <;> omega) ?_ | refine AL.makeD tyOk _ (by rfl) (by rfl) (by rfl) (Nat.le_of_ble_eq_true rfl) (by rfl) (by rfl) (by rfl) (by rfl) (by rfl) (by rfl) (by rfl) (by omega) (by omega) (by decide) (by rfl) ?_ | refine AL.build (qs := []) tyOk (by rfl) (by rfl) (by rfl) (by rfl) (by rfl) (by exact PartsOk.nil) (by rfl) ?_ | refine AL.build (qs := [(_, _)]) tyOk (by rfl) (by rfl) (by rfl) (by rfl) (by rfl) (by exact PartsOk.cons (by rfl) (by rfl) PartsOk.nil) (by rfl) ?_ | refine AL.build (qs := [(_, _), (_, _)]) tyOk (by rfl) (by rfl) (by rfl) (by rfl) (by rfl) (by exact PartsOk.cons (by rfl) (by rfl) (PartsOk.cons (by rfl) (by rfl) PartsOk.nil)) (by rfl) ?_ | refine AL.nilCheck (by rfl) (by rfl) (by rfl) (by rfl) ?_) | (first | refine AC.region ?_ | refine AC.seq ?_ | refine AC.block ?_ | refine AC.ret ?_ | refine AC.exit ?_ | refine AC.skip ?_))
  refine AL.isNil (by rfl) (by rfl) (by rfl) (by rfl) (by rfl) Try.underlying95 (fun b hb => ?_)
  repeat (first | (first | refine AL.nil ?_ | refine AL.move (.inl (by rfl)) (by rfl) (by rfl) ?_ | refine AL.move (.inr (by rfl)) (by rfl) (by rfl) ?_ | refine AL.fieldAddr tyOk (by rfl) (by rfl) (by rfl) (by rfl) (by rfl) (by rfl) ?_ | refine AL.load1 tyOk (by rfl) (by rfl) (by rfl) (by rfl) (by rfl) (by rfl) (by rfl) (by first | exact Nat.le_of_ble_eq_true rfl | (dsimp only; omega) | omega | assumption | (simp only [openR]; omega) | exact Nat.lt_of_lt_of_le (m := 3) (by omega) (Nat.le_of_ble_eq_true rfl)) (by first | exact Nat.le_of_ble_eq_true rfl | (dsimp only; omega) | omega | assumption | (simp only [openR]; omega) | exact Nat.lt_of_lt_of_le (m := 3) (by omega) (Nat.le_of_ble_eq_true rfl)) (by rfl) ?_ | refine AL.loadAggE tyOk (by rfl) (by rfl) (by rfl) (by rfl) (by rfl) (by rfl) (by rfl) (by first | exact Nat.le_of_ble_eq_true rfl | (dsimp only; omega) | omega | assumption | (simp only [openR]; omega) | exact Nat.lt_of_lt_of_le (m := 3) (by omega) (Nat.le_of_ble_eq_true rfl)) (by first | exact Nat.le_of_ble_eq_true rfl | (dsimp only; omega) | omega | assumption | (simp only [openR]; omega) | exact Nat.lt_of_lt_of_le (m := 3) (by omega) (Nat.le_of_ble_eq_true rfl)) (by rfl) ?_ | refine AL.stor tyOk (by rfl) (by rfl) (by rfl) (by rfl) (by rfl) (by rfl) (by rfl) (by rfl) (by rfl) (by first | exact Nat.le_of_ble_eq_true rfl | (dsimp only; omega) | omega | assumption | (simp only [openR]; omega) | exact Nat.lt_of_lt_of_le (m := 3) (by omega) (Nat.le_of_ble_eq_true rfl)) (by first | exact Nat.le_of_ble_eq_true rfl | (dsimp only; omega) | omega | assumption | (simp only [openR]; omega) | exact Nat.lt_of_lt_of_le (m := 3) (by omega) (Nat.le_of_ble_eq_true rfl)) ?_ | refine AL.len (ty := 0) tyOk (by rfl) (by rfl) (by rfl) (by rfl) (by rfl) ?_ | refine AL.add (by rfl) (by rfl) (by rfl) (by rfl) (by rfl) (by constructor <;> omega) ?_ | refine AL.sub (by rfl) (by rfl) (by rfl) (by rfl) (by rfl) (by constructor <;> omega) ?_ | refine AL.mul (by rfl) (by rfl) (by rfl) (by rfl) (by rfl) (by constructor <;> omega) ?_ | refine AL.int2 (by rfl) (by rfl) (by rfl) (by rfl) (by rfl) (by rfl) (by first | trivial | decide | omega) ?_ | refine AL.bEq (by rfl) (by rfl) (by rfl) (by rfl) (by rfl) Try.underlying4 ?_ | refine AL.bNe (by rfl) (by rfl) (by rfl) (by rfl) (by rfl) Try.underlying4 ?_ | refine AL.not (by rfl) (by rfl) (by rfl) (by rfl) ?_ | refine AL.gOnE (by rfl) (by rfl) (by rfl) (by rfl) (by decide) (by first | rfl | assumption) ?_ | refine AL.gOffE (by rfl) (by rfl) (by rfl) (by rfl) (by rfl) (by decide) (by first | rfl | assumption) ?_ | refine AL.pickE (b' := true) (by rfl) (by rfl) (by rfl) (by rfl) (by first | rfl | assumption) ?_ | refine AL.pickE (b' := false) (by rfl) (by rfl) (by rfl) (by rfl) (by first | rfl | assumption) ?_ | refine AL.extract (by rfl) (by rfl) (by rfl) (by rfl) (by rfl) ?_ | refine AL.boxD tyOk (by rfl) (by rfl) (by rfl) (Nat.le_of_ble_eq_true rfl) (by rfl) (by rfl) (by rfl) (by decide) (by rfl) ?_ | refine AL.allocD tyOk (by rfl) (by rfl) (by rfl) (Nat.le_of_ble_eq_true rfl) (by rfl) (by rfl) (by decide) (by rfl) ?_ | refine AL.indexN tyOk (by rfl) (by rfl) (by rfl) (by rfl) (by rfl) (by rfl) (by rfl) (by rfl) (by first | rfl | exact (Int.toNat_of_nonneg (by omega)).symm) (by omega) ?_ | refine AL.indexSl tyOk (by rfl) (by rfl) (by rfl) (by rfl) (by rfl) (by rfl) (by rfl) (by rfl) (by constructor <;> omega) ?_ | refine AL.indexArr tyOk (by rfl) (by rfl) (by rfl) (by rfl) (by rfl) (by rfl) (by constructor <;> omega) ?_ | refine AL.makeD tyOk _ (by rfl) (by rfl) (by rfl) (Nat.le_of_ble_eq_true rfl) (by rfl) (by rfl) (by rfl) (by rfl) (by rfl) (by rfl) (by rfl) (by omega) (by omega) (by decide) (by rfl) ?_ | refine AL.build (qs := []) tyOk (by rfl) (by rfl) (by rfl) (by rfl) (by rfl) (by exact PartsOk.nil) (by rfl) ?_ | refine AL.build (qs := [(_, _)]) tyOk (by rfl) (by rfl) (by rfl) (by rfl) (by rfl) (by exact PartsOk.cons (by rfl) (by rfl) PartsOk.nil) (by rfl) ?_ | refine AL.build (qs := [(_, _), (_, _)]) tyOk (by rfl) (by rfl) (by rfl) (by rfl) (by rfl) (by exact PartsOk.cons (by rfl) (by rfl) (PartsOk.cons (by rfl) (by rfl) PartsOk.nil)) (by rfl) ?_ | refine AL.nilCheck (by rfl) (by rfl) (by rfl) (by rfl) ?_) | (first | refine AC.region ?_ | refine AC.seq ?_ | refine AC.block ?_ | refine AC.ret ?_ | refine AC.exit ?_ | refine AC.skip ?_))
  refine AC.cond (by rfl) (fun h => ?_) (fun h => ?_)
  · have h0 : n = 0 := hb (by simpa using h)
    subst h0
    repeat (first | (first | (first | refine AL.nil ?_ | refine AL.move (.inl (by rfl)) (by rfl) (by rfl) ?_ | refine AL.move (.inr (by rfl)) (by rfl) (by rfl) ?_ | refine AL.fieldAddr tyOk (by rfl) (by rfl) (by rfl) (by rfl) (by rfl) (by rfl) ?_ | refine AL.load1 tyOk (by rfl) (by rfl) (by rfl) (by rfl) (by rfl) (by rfl) (by rfl) (by first | exact Nat.le_of_ble_eq_true rfl | (dsimp only; omega) | omega | assumption | (simp only [openR]; omega) | exact Nat.lt_of_lt_of_le (m := 3) (by omega) (Nat.le_of_ble_eq_true rfl)) (by first | exact Nat.le_of_ble_eq_true rfl | (dsimp only; omega) | omega | assumption | (simp only [openR]; omega) | exact Nat.lt_of_lt_of_le (m := 3) (by omega) (Nat.le_of_ble_eq_true rfl)) (by rfl) ?_ | refine AL.loadAggE tyOk (by rfl) (by rfl) (by rfl) (by rfl) (by rfl) (by rfl) (by rfl) (by first | exact Nat.le_of_ble_eq_true rfl | (dsimp only; omega) | omega | assumption | (simp only [openR]; omega) | exact Nat.lt_of_lt_of_le (m := 3) (by omega) (Nat.le_of_ble_eq_true rfl)) (by first | exact Nat.le_of_ble_eq_true rfl | (dsimp only; omega) | omega | assumption | (simp only [openR]; omega) | exact Nat.lt_of_lt_of_le (m := 3) (by omega) (Nat.le_of_ble_eq_true rfl)) (by rfl) ?_ | refine AL.stor tyOk (by rfl) (by rfl) (by rfl) (by rfl) (by rfl) (by rfl) (by rfl) (by rfl) (by rfl) (by first | exact Nat.le_of_ble_eq_true rfl | (dsimp only; omega) | omega | assumption | (simp only [openR]; omega) | exact Nat.lt_of_lt_of_le (m := 3) (by omega) (Nat.le_of_ble_eq_true rfl)) (by first | exact Nat.le_of_ble_eq_true rfl | (dsimp only; omega) | omega | assumption | (simp only [openR]; omega) | exact Nat.lt_of_lt_of_le (m := 3) (by omega) (Nat.le_of_ble_eq_true rfl)) ?_ | refine AL.len (ty := 0) tyOk (by rfl) (by rfl) (by rfl) (by rfl) (by rfl) ?_ | refine AL.add (by rfl) (by rfl) (by rfl) (by rfl) (by rfl) (by constructor <;> omega) ?_ | refine AL.sub (by rfl) (by rfl) (by rfl) (by rfl) (by rfl) (by constructor <;> omega) ?_ | refine AL.mul (by rfl) (by rfl) (by rfl) (by rfl) (by rfl) (by constructor <;> omega) ?_ | refine AL.int2 (by rfl) (by rfl) (by rfl) (by rfl) (by rfl) (by rfl) (by first | trivial | decide | omega) ?_ | refine AL.bEq (by rfl) (by rfl) (by rfl) (by rfl) (by rfl) Try.underlying4 ?_ | refine AL.bNe (by rfl) (by rfl) (by rfl) (by rfl) (by rfl) Try.underlying4 ?_ | refine AL.not (by rfl) (by rfl) (by rfl) (by rfl) ?_ | refine AL.gOnE (by rfl) (by rfl) (by rfl) (by rfl) (by decide) (by first | rfl | assumption) ?_ | refine AL.gOffE (by rfl) (by rfl) (by rfl) (by rfl) (by rfl) (by decide) (by first | rfl | assumption) ?_ | refine AL.pickE (b' := true) (by rfl) (by rfl) (by rfl) (by rfl) (by first | rfl | assumption) ?_ | refine AL.pickE (b' := false) (by rfl) (by rfl) (by rfl) (by rfl) (by first | rfl | assumption) ?_ | refine AL.extract (by rfl) (by rfl) (by rfl) (by rfl) (by rfl) ?_ | refine AL.boxD tyOk (by rfl) (by rfl) (by rfl) (Nat.le_of_ble_eq_true rfl) (by rfl) (by rfl) (by rfl) (by decide) (by rfl) ?_ | refine AL.allocD tyOk (by rfl) (by rfl) (by rfl) (Nat.le_of_ble_eq_true rfl) (by rfl) (by rfl) (by decide) (by rfl) ?_ | refine AL.indexN tyOk (by rfl) (by rfl) (by rfl) (by rfl) (by rfl) (by rfl) (by rfl) (by rfl) (by first | rfl | exact (Int.toNat_of_nonneg (by omega)).symm) (by omega) ?_ | refine AL.indexSl tyOk (by rfl) (by rfl) (by rfl) (by rfl) (by rfl) (by rfl) (by rfl) (by rfl) (by constructor <;> omega) ?_ | refine AL.indexArr tyOk (by rfl) (by rfl) (by rfl) (by rfl) (by rfl) (by rfl) (by constructor <;> omega) ?_ | refine AL.makeD tyOk _ (by rfl) (by rfl) (by rfl) (Nat.le_of_ble_eq_true rfl) (by rfl) (by rfl) (by rfl) (by rfl) (by rfl) (by rfl) (by rfl) (by omega) (by omega) (by decide) (by rfl) ?_ | refine AL.build (qs := []) tyOk (by rfl) (by rfl) (by rfl) (by rfl) (by rfl) (by exact PartsOk.nil) (by rfl) ?_ | refine AL.build (qs := [(_, _)]) tyOk (by rfl) (by rfl) (by rfl) (by rfl) (by rfl) (by exact PartsOk.cons (by rfl) (by rfl) PartsOk.nil) (by rfl) ?_ | refine AL.build (qs := [(_, _), (_, _)]) tyOk (by rfl) (by rfl) (by rfl) (by rfl) (by rfl) (by exact PartsOk.cons (by rfl) (by rfl) (PartsOk.cons (by rfl) (by rfl) PartsOk.nil)) (by rfl) ?_ | refine AL.nilCheck (by rfl) (by rfl) (by rfl) (by rfl) ?_) | refine AL.buildSl0D tyOk (by rfl) (by rfl) (by rfl) (by rfl) (Nat.le_of_ble_eq_true rfl) (by rfl) (by decide) (by rfl) ?_ | refine AL.copyN tyOk (by rfl) (by rfl) (by rfl) (by rfl) (by rfl) (by rfl) (by rfl) (by rfl) (by rfl) (by rfl) (by rfl) (by rfl) (by rfl) ?_ | refine AL.append0 tyOk (by rfl) (by rfl) (by rfl) (by rfl) (by rfl) (by rfl) (by rfl) (by rfl) (by rfl) (by rfl) (by rfl) (by rfl) (by rfl) (by rfl) (by rfl) (okK_lt (by decide)) (by first | omega | (dsimp only; omega) | (unfold maxLen; dsimp only; omega)) (by first | omega | (dsimp only; omega) | (unfold maxLen; dsimp only; omega)) ?_ | refine AL.appendL tyOk (by rfl) (by rfl) (by rfl) (by rfl) (by rfl) (by rfl) (by rfl) (by rfl) (by rfl) (by rfl) (by rfl) (by rfl) (by rfl) (by rfl) (by rfl) (fun _ _ _ _ => rfl) (okK_lt (by decide)) (by first | omega | (dsimp only; omega) | (unfold maxLen; dsimp only; omega)) (by first | omega | (dsimp only; omega) | (unfold maxLen; dsimp only; omega)) ?_) | (first | refine AC.region ?_ | refine AC.seq ?_ | refine AC.block ?_ | refine AC.exit ?_ | refine AC.skip ?_))
    refine AC.nilRoot (t := 2) (d := 3) 179 2 (by rfl) (Nat.le_of_ble_eq_true rfl) (by rfl) ?_
    refine AC.le (St.le.sub (σ' := ⟨[(2, .a (.ref 3 0 0))], [(3, ⟨.own, true, 179, 2, 0, row, []⟩)]⟩) (And.intro rfl trivial) (And.intro ⟨_, rfl, ⟨rfl, (fun _ => And.intro rfl rfl), rfl, rfl, fun i r hi hr => absurd hi (Nat.not_lt_zero _)⟩⟩ trivial) (by rfl) (by rfl)) ?_
    refine AC.ret ?_
    refine And.intro (by first | exact .inr rfl | exact .inl rfl) (And.intro (by repeat (first | exact trivial | exact Nat.le_of_ble_eq_true rfl | rfl | exact ⟨_, rfl, rfl, Nat.le_refl _, rfl⟩ | refine And.intro ?_ ?_)) (And.intro (by rfl) (And.intro (by rfl) (And.intro (by repeat (first | exact trivial | exact Nat.le_of_ble_eq_true rfl | rfl | exact ⟨_, rfl, rfl, Nat.le_refl _, rfl⟩ | refine And.intro ?_ ?_)) (And.intro (by repeat (first | exact trivial | exact Nat.le_of_ble_eq_true rfl | rfl | exact ⟨_, rfl, rfl, Nat.le_refl _, rfl⟩ | refine And.intro ?_ ?_)) ?_)))))
    exact And.intro rfl rfl
  · repeat (first | (first | (first | refine AL.nil ?_ | refine AL.move (.inl (by rfl)) (by rfl) (by rfl) ?_ | refine AL.move (.inr (by rfl)) (by rfl) (by rfl) ?_ | refine AL.fieldAddr tyOk (by rfl) (by rfl) (by rfl) (by rfl) (by rfl) (by rfl) ?_ | refine AL.load1 tyOk (by rfl) (by rfl) (by rfl) (by rfl) (by rfl) (by rfl) (by rfl) (by first | exact Nat.le_of_ble_eq_true rfl | (dsimp only; omega) | omega | assumption | (simp only [openR]; omega) | exact Nat.lt_of_lt_of_le (m := 3) (by omega) (Nat.le_of_ble_eq_true rfl)) (by first | exact Nat.le_of_ble_eq_true rfl | (dsimp only; omega) | omega | assumption | (simp only [openR]; omega) | exact Nat.lt_of_lt_of_le (m := 3) (by omega) (Nat.le_of_ble_eq_true rfl)) (by rfl) ?_ | refine AL.loadAggE tyOk (by rfl) (by rfl) (by rfl) (by rfl) (by rfl) (by rfl) (by rfl) (by first | exact Nat.le_of_ble_eq_true rfl | (dsimp only; omega) | omega | assumption | (simp only [openR]; omega) | exact Nat.lt_of_lt_of_le (m := 3) (by omega) (Nat.le_of_ble_eq_true rfl)) (by first | exact Nat.le_of_ble_eq_true rfl | (dsimp only; omega) | omega | assumption | (simp only [openR]; omega) | exact Nat.lt_of_lt_of_le (m := 3) (by omega) (Nat.le_of_ble_eq_true rfl)) (by rfl) ?_ | refine AL.stor tyOk (by rfl) (by rfl) (by rfl) (by rfl) (by rfl) (by rfl) (by rfl) (by rfl) (by rfl) (by first | exact Nat.le_of_ble_eq_true rfl | (dsimp only; omega) | omega | assumption | (simp only [openR]; omega) | exact Nat.lt_of_lt_of_le (m := 3) (by omega) (Nat.le_of_ble_eq_true rfl)) (by first | exact Nat.le_of_ble_eq_true rfl | (dsimp only; omega) | omega | assumption | (simp only [openR]; omega) | exact Nat.lt_of_lt_of_le (m := 3) (by omega) (Nat.le_of_ble_eq_true rfl)) ?_ | refine AL.len (ty := 0) tyOk (by rfl) (by rfl) (by rfl) (by rfl) (by rfl) ?_ | refine AL.add (by rfl) (by rfl) (by rfl) (by rfl) (by rfl) (by constructor <;> omega) ?_ | refine AL.sub (by rfl) (by rfl) (by rfl) (by rfl) (by rfl) (by constructor <;> omega) ?_ | refine AL.mul (by rfl) (by rfl) (by rfl) (by rfl) (by rfl) (by constructor <;> omega) ?_ | refine AL.int2 (by rfl) (by rfl) (by rfl) (by rfl) (by rfl) (by rfl) (by first | trivial | decide | omega) ?_ | refine AL.bEq (by rfl) (by rfl) (by rfl) (by rfl) (by rfl) Try.underlying4 ?_ | refine AL.bNe (by rfl) (by rfl) (by rfl) (by rfl) (by rfl) Try.underlying4 ?_ | refine AL.not (by rfl) (by rfl) (by rfl) (by rfl) ?_ | refine AL.gOnE (by rfl) (by rfl) (by rfl) (by rfl) (by decide) (by first | rfl | assumption) ?_ | refine AL.gOffE (by rfl) (by rfl) (by rfl) (by rfl) (by rfl) (by decide) (by first | rfl | assumption) ?_ | refine AL.pickE (b' := true) (by rfl) (by rfl) (by rfl) (by rfl) (by first | rfl | assumption) ?_ | refine AL.pickE (b' := false) (by rfl) (by rfl) (by rfl) (by rfl) (by first | rfl | assumption) ?_ | refine AL.extract (by rfl) (by rfl) (by rfl) (by rfl) (by rfl) ?_ | refine AL.boxD tyOk (by rfl) (by rfl) (by rfl) (Nat.le_of_ble_eq_true rfl) (by rfl) (by rfl) (by rfl) (by decide) (by rfl) ?_ | refine AL.allocD tyOk (by rfl) (by rfl) (by rfl) (Nat.le_of_ble_eq_true rfl) (by rfl) (by rfl) (by decide) (by rfl) ?_ | refine AL.indexN tyOk (by rfl) (by rfl) (by rfl) (by rfl) (by rfl) (by rfl) (by rfl) (by rfl) (by first | rfl | exact (Int.toNat_of_nonneg (by omega)).symm) (by omega) ?_ | refine AL.indexSl tyOk (by rfl) (by rfl) (by rfl) (by rfl) (by rfl) (by rfl) (by rfl) (by rfl) (by constructor <;> omega) ?_ | refine AL.indexArr tyOk (by rfl) (by rfl) (by rfl) (by rfl) (by rfl) (by rfl) (by constructor <;> omega) ?_ | refine AL.makeD tyOk _ (by rfl) (by rfl) (by rfl) (Nat.le_of_ble_eq_true rfl) (by rfl) (by rfl) (by rfl) (by rfl) (by rfl) (by rfl) (by rfl) (by omega) (by omega) (by decide) (by rfl) ?_ | refine AL.build (qs := []) tyOk (by rfl) (by rfl) (by rfl) (by rfl) (by rfl) (by exact PartsOk.nil) (by rfl) ?_ | refine AL.build (qs := [(_, _)]) tyOk (by rfl) (by rfl) (by rfl) (by rfl) (by rfl) (by exact PartsOk.cons (by rfl) (by rfl) PartsOk.nil) (by rfl) ?_ | refine AL.build (qs := [(_, _), (_, _)]) tyOk (by rfl) (by rfl) (by rfl) (by rfl) (by rfl) (by exact PartsOk.cons (by rfl) (by rfl) (PartsOk.cons (by rfl) (by rfl) PartsOk.nil)) (by rfl) ?_ | refine AL.nilCheck (by rfl) (by rfl) (by rfl) (by rfl) ?_) | refine AL.buildSl0D tyOk (by rfl) (by rfl) (by rfl) (by rfl) (Nat.le_of_ble_eq_true rfl) (by rfl) (by decide) (by rfl) ?_ | refine AL.copyN tyOk (by rfl) (by rfl) (by rfl) (by rfl) (by rfl) (by rfl) (by rfl) (by rfl) (by rfl) (by rfl) (by rfl) (by rfl) (by rfl) ?_ | refine AL.append0 tyOk (by rfl) (by rfl) (by rfl) (by rfl) (by rfl) (by rfl) (by rfl) (by rfl) (by rfl) (by rfl) (by rfl) (by rfl) (by rfl) (by rfl) (by rfl) (okK_lt (by decide)) (by first | omega | (dsimp only; omega) | (unfold maxLen; dsimp only; omega)) (by first | omega | (dsimp only; omega) | (unfold maxLen; dsimp only; omega)) ?_ | refine AL.appendL tyOk (by rfl) (by rfl) (by rfl) (by rfl) (by rfl) (by rfl) (by rfl) (by rfl) (by rfl) (by rfl) (by rfl) (by rfl) (by rfl) (by rfl) (by rfl) (fun _ _ _ _ => rfl) (okK_lt (by decide)) (by first | omega | (dsimp only; omega) | (unfold maxLen; dsimp only; omega)) (by first | omega | (dsimp only; omega) | (unfold maxLen; dsimp only; omega)) ?_) | (first | refine AC.region ?_ | refine AC.seq ?_ | refine AC.block ?_ | refine AC.exit ?_ | refine AC.skip ?_))
    refine AC.le (St.le.sub (σ' := ⟨[(2, .a (.ref 5 0 n))], [(5, ⟨.own, true, 179, 2, n, row, []⟩)]⟩) (And.intro rfl trivial) (And.intro ⟨_, rfl, ⟨rfl, (fun _ => And.intro rfl rfl), rfl, rfl, fun i r hi hr => (by obtain ⟨v, hv⟩ := hfl i r hr; show Cl.cl (row i r) = Cl.cl (flat (row (0 + i) r)); rw [Nat.zero_add, hv]; rfl)⟩⟩ trivial) (by rfl) (by rfl)) ?_
    refine AC.ret ?_
    refine And.intro (by first | exact .inr rfl | exact .inl rfl) (And.intro (by repeat (first | exact trivial | exact Nat.le_of_ble_eq_true rfl | rfl | exact ⟨_, rfl, rfl, Nat.le_refl _, rfl⟩ | refine And.intro ?_ ?_)) (And.intro (by rfl) (And.intro (by rfl) (And.intro (by repeat (first | exact trivial | exact Nat.le_of_ble_eq_true rfl | rfl | exact ⟨_, rfl, rfl, Nat.le_refl _, rfl⟩ | refine And.intro ?_ ?_)) (And.intro (by repeat (first | exact trivial | exact Nat.le_of_ble_eq_true rfl | rfl | exact ⟨_, rfl, rfl, Nat.le_refl _, rfl⟩ | refine And.intro ?_ ?_)) ?_)))))
    exact And.intro rfl rfl
theorem encKV_flat (x : KVT) (r : Nat) : ∃ v, encKV x r = .lit v := by rcases r with _ | _; all_goals exact ⟨_, rfl⟩
theorem CloneKV_run (e : Nat) (xs : List KVT) (hn : xs.length ≤ 1048576) : RunT Try.prog 229 [.one (.c (tKV e xs))] [] [.one (tKV 179 xs)] [] := by
  refine ⟨⟨_, Try.func229, rfl, rfl⟩, fun w q A args he => ?_⟩
  refine (CloneKV_base e xs.length (fun i r => (encKV (xs.getD i zKV) r).er .fro) hn (fun i r _ => by obtain ⟨v, hv⟩ := encKV_flat (xs.getD i zKV) r; exact ⟨v, by rw [hv]; rfl⟩) w q A args he).mono fun e w' hx => ?_
  obtain ⟨us, outs, ext, q', h1, ⟨rfl, rfl⟩, h2⟩ := hx
  have hr : (fun i r => (encKV (xs.getD i zKV) r).er .fro) = fun i r => (encKV (xs.getD i zKV) r).er .own := by
    funext i r; obtain ⟨v, hv⟩ := encKV_flat (xs.getD i zKV) r; rw [hv]; rfl
  rw [hr] at h2
  exact ⟨us, _, _, q', h1, ⟨rfl, rfl⟩, h2⟩
end Go.Proofs.Ytlnlogflhagocaa
end

section
/- MapDel in both packages. -/
namespace Go.Proofs.Ytlnlogflhagocaa
open Go Go.Tr
set_option maxRecDepth 100000
set_option maxHeartbeats 4000000
set_option linter.unusedVariables false
set_option linter.unusedSimpArgs false
def mdel (xs : List KVT) (key : Int) : List KVT := xs.filter fun x => !decide (x.1 = key)
theorem mdel_succ (xs : List KVT) (key : Int) {i : Nat} (h : i < xs.length) : mdel (xs.take (i + 1)) key = if (xs.getD i zKV).1 = key then mdel (xs.take i) key else mdel (xs.take i) key ++ [xs.getD i zKV] := by
  have := kpKV_succ (fun x => decide (x.1 = key)) xs h
  unfold kpKV at this
  unfold mdel
  rw [this]
  by_cases hp : (xs.getD i zKV).1 = key
  · rw [if_pos hp, if_pos (by simpa using hp)]
  · rw [if_neg hp, if_neg (by simpa using hp)]
theorem mdel_le (xs : List KVT) (key : Int) : (mdel xs key).length ≤ xs.length := List.length_filter_le _ _
theorem MapDelS_run (e : Nat) (xs : List KVT) (key : Int) (hn : xs.length ≤ 4000000) : RunT Try.prog 256 [.one (.c (tKV e xs)), ti key] [] [.one (tKV 179 (mdel xs key))] [] := by
  refine RunT.of_vc gOk Try.func256 rfl rfl (Nat.le_of_ble_eq_true rfl) (by repeat' (first | exact trivial | exact ⟨_, rfl, Nat.le_refl _⟩ | exact Nat.le_of_ble_eq_true rfl | refine And.intro ?_ ?_)) (Nat.le_of_ble_eq_true rfl) rfl (fun F hE => ?_)
  repeat' (first | exact trivial | refine BS.d (fun h => ?_) (fun h => ?_) | refine BS.e (fun h => ?_) (fun h => ?_) | refine BS.ne (fun h => ?_) (fun h => ?_) | refine BS.n ?_ | refine BS.s (fun h => ?_) (fun h => ?_) | refine And.intro ?_ ?_ | (refine Need.mk ?_; first | with_reducible rfl | (show @Eq TC _ _; rfl) | omega | (simp only [adN_zero]; omega)) | exact OutS.whole rfl rfl | refine ListO.go gOk hE ?_)
  refine CodeK.loop gOk hE (fun i : Nat => ⟨[(0, vr 1000000 xs.length), (1, vi key), (5, vr 7 (mdel (xs.take i) key).length), (6, vi i)], [(7, rKV .own true 179 (mdel (xs.take i) key)), (1000000, rKV .fro false e xs)]⟩) (fun i => i ≤ xs.length) (fun i => xs.length - i) 0 (by refine leT.of ?_ ?_ rfl <;> repeat' (first | exact trivial | refine And.intro rfl ?_ | refine And.intro (by first | rfl | (simp [mdel] <;> rfl)) ?_)) (Nat.zero_le _) ?_
  rintro i hi
  have hle := mdel_le (xs.take i) key
  rw [List.length_take] at hle
  by_cases hi2 : i < xs.length
  · have hsu := mdel_succ xs key hi2
    by_cases hp : (xs.getD i zKV).1 = key
    · rw [if_pos hp] at hsu
      repeat' (first | exact trivial | refine BS.d (fun h => ?_) (fun h => ?_) | refine BS.e (fun h => ?_) (fun h => ?_) | refine BS.ne (fun h => ?_) (fun h => ?_) | refine BS.n ?_ | refine BS.s (fun h => ?_) (fun h => ?_) | refine And.intro ?_ ?_ | (refine Need.mk ?_; first | with_reducible rfl | (show @Eq TC _ _; rfl) | omega | (simp only [adN_zero]; omega)) | exact OutS.whole rfl rfl | refine ListO.go gOk hE ?_)
      all_goals (try simp only [adN_zero] at *)
      all_goals first
        | (exfalso; first | omega | (simp_all; done))
        | (refine Need.mk ?_; omega)
        | (refine ⟨i + 1, (by refine leT.of ?_ ?_ rfl <;> repeat' (first | exact trivial | refine And.intro rfl ?_ | refine And.intro (by first | rfl | (rw [hsu]; rfl) | (simp [hsu] <;> rfl)) ?_)), by omega, by first | omega | (dsimp only; omega)⟩)
        | trace_state
    · rw [if_neg hp] at hsu
      repeat' (first | exact trivial | refine BS.d (fun h => ?_) (fun h => ?_) | refine BS.e (fun h => ?_) (fun h => ?_) | refine BS.ne (fun h => ?_) (fun h => ?_) | refine BS.n ?_ | refine BS.s (fun h => ?_) (fun h => ?_) | refine And.intro ?_ ?_ | (refine Need.mk ?_; first | with_reducible rfl | (show @Eq TC _ _; rfl) | omega | (simp only [adN_zero]; omega)) | exact OutS.whole rfl rfl | refine ListO.go gOk hE ?_)
      all_goals (try simp only [adN_zero] at *)
      all_goals first
        | (exfalso; first | omega | (simp_all; done))
        | (refine Need.mk ?_; first | omega | (refine ⟨?_, ?_⟩ <;> (try unfold maxLen) <;> omega))
        | (refine ⟨i + 1, (by refine leT.of ?_ ?_ rfl <;> repeat' (first | exact trivial | refine And.intro rfl ?_ | refine And.intro (by first | rfl | (rw [hsu]; rfl) | (simp [hsu] <;> rfl)) ?_)), by omega, by first | omega | (dsimp only; omega)⟩)
        | trace_state
  · repeat' (first | exact trivial | refine BS.d (fun h => ?_) (fun h => ?_) | refine BS.e (fun h => ?_) (fun h => ?_) | refine BS.ne (fun h => ?_) (fun h => ?_) | refine BS.n ?_ | refine BS.s (fun h => ?_) (fun h => ?_) | refine And.intro ?_ ?_ | (refine Need.mk ?_; first | with_reducible rfl | (show @Eq TC _ _; rfl) | omega | (simp only [adN_zero]; omega)) | exact OutS.whole rfl rfl | refine ListO.go gOk hE ?_)
    all_goals first
      | (exfalso; omega)
      | exact OutS.whole rfl (by rw [List.take_of_length_le (by omega)]; rfl)
      | trace_state
theorem MapDel1_run (x : KVT) (key : Int) (g1 j1 : Nat) : RunH Try.prog (hcL [(g1, j1, .int .i64 key)]) 275 [aKV x, .one (.c (.lit (.pointer (some ⟨g1, j1, none⟩))))] [] [ob (decide (x.1 = key))] [] := by
  refine RunH.of_vc gOk Try.func275 rfl rfl (Nat.le_of_ble_eq_true rfl) (by repeat' (first | exact trivial | exact ⟨_, rfl, Nat.le_refl _⟩ | exact Nat.le_of_ble_eq_true rfl | refine And.intro ?_ ?_)) (Nat.le_of_ble_eq_true rfl) rfl (fun F hE hA => ?_)
  repeat' (first | exact trivial | refine BS.d (fun h => ?_) (fun h => ?_) | refine BS.e (fun h => ?_) (fun h => ?_) | refine BS.ne (fun h => ?_) (fun h => ?_) | refine BS.n ?_ | refine BS.s (fun h => ?_) (fun h => ?_) | refine And.intro ?_ ?_ | (refine Need.mk ?_; first | with_reducible rfl | (show @Eq TC _ _; rfl) | omega | (simp only [adN_zero]; omega)) | exact OutS.whole rfl rfl | (first | refine OpK.ldI gOk 0 hA rfl rfl rfl rfl rfl rfl rfl ?_ | refine OpK.ldI gOk 1 hA rfl rfl rfl rfl rfl rfl rfl ?_ | refine OpK.ldI gOk 2 hA rfl rfl rfl rfl rfl rfl rfl ?_) | refine ListO.go gOk hE ?_)
  all_goals (refine Need.mk ?_; simp [Bool.beq_eq_decide_eq])
theorem MapDelI_run (e : Nat) (xs : List KVT) (key : Int) (hn : xs.length ≤ 1048576) : RunT Try.prog 262 [.one (.c (tKV e xs)), ti key] [] [.one (tKV 179 (mdel xs key))] [] := by
  refine RunH.toT ?_
  have c1 := CloneKV_run e xs hn
  have c2 : ∀ ps : List (Nat × Nat), ps.length = 1 → RunH Try.prog (hcU (hcL (hcOf ps [.int .i64 key])) hc0) 274 [.one (.m (tKV 179 xs)), .one (.c (.lit (.func (.func 275) #[] (ptrs ps))))] [] [.one (tKV 179 (mdel xs key))] [] := by
    intro ps hps
    match ps, hps with
    | [(g1, j1)], _ =>
      exact (DelKV_run (caps := ptrs [(g1, j1)]) (fun x => decide (x.1 = key)) _ xs (by omega) (ptrs_scal _) (fun x => MapDel1_run x key g1 j1)).mono (fun g j v hm => .inl hm)
  refine RunH.of_vc gOk Try.func262 rfl rfl (Nat.le_of_ble_eq_true rfl) (by repeat' (first | exact trivial | exact ⟨_, rfl, Nat.le_refl _⟩ | exact Nat.le_of_ble_eq_true rfl | refine And.intro ?_ ?_)) (Nat.le_of_ble_eq_true rfl) rfl (fun F hE hA => ?_)
  repeat' (first | exact trivial | refine BS.d (fun h => ?_) (fun h => ?_) | refine BS.e (fun h => ?_) (fun h => ?_) | refine BS.ne (fun h => ?_) (fun h => ?_) | refine BS.n ?_ | refine BS.s (fun h => ?_) (fun h => ?_) | refine And.intro ?_ ?_ | (refine Need.mk ?_; first | with_reducible rfl | (show @Eq TC _ _; rfl) | omega | (simp only [adN_zero]; omega)) | exact OutS.whole rfl rfl | (refine OpK.call c1 rfl rfl rfl rfl hE ?_ rfl rfl ?_; focus ((repeat' (first | exact PsA.lit _ | exact PsA.ref rfl rfl | constructor)); all_goals (fail "ps"))) | refine ListO.go gOk hE ?_)
  refine ListK.mkCallG (args := fun v => [.one (.m (tKV 179 xs)), .one (.c (.lit v))]) [(2000768, 0, 0)] rfl rfl rfl rfl (.cons rfl rfl .nil) rfl hA c2 rfl rfl rfl rfl hE (List.forall_mem_cons.2 ⟨rfl, fun _ h => nomatch h⟩) (fun v => QsVs.cons (.one (.m rfl rfl (.whole rfl rfl))) (.cons (.one (.c (.lit _) rfl)) .nil)) rfl rfl ?_ gOk
  repeat' (first | exact trivial | refine BS.d (fun h => ?_) (fun h => ?_) | refine BS.e (fun h => ?_) (fun h => ?_) | refine BS.ne (fun h => ?_) (fun h => ?_) | refine BS.n ?_ | refine BS.s (fun h => ?_) (fun h => ?_) | refine And.intro ?_ ?_ | (refine Need.mk ?_; first | with_reducible rfl | (show @Eq TC _ _; rfl) | omega | (simp only [adN_zero]; omega)) | exact OutS.whole rfl rfl | refine ListO.go gOk hE ?_)
  all_goals first | exact OutS.whole rfl rfl | trace_state
end Go.Proofs.Ytlnlogflhagocaa
end

section
/- MapPut in both packages. -/
namespace Go.Proofs.Ytlnlogflhagocaa
open Go Go.Tr
set_option maxRecDepth 100000
set_option maxHeartbeats 4000000
set_option linter.unusedVariables false
set_option linter.unusedSimpArgs false
abbrev gtK (key : Int) (y : KVT) : Bool := decide (key < y.1)
def mput (xs : List KVT) (key val : Int) : List KVT := insE (gtK key) zKV (key, val) (mdel xs key)
theorem mput_le (xs : List KVT) (key val : Int) : (mput xs key val).length ≤ xs.length + 1 := by
  unfold mput; rw [insE_len]; have := mdel_le xs key; omega
abbrev mpR (xs : List KVT) (key val : Int) (i : Nat) : List KVT := insP (gtK key) zKV (key, val) (mdel (xs.take i) key)
abbrev mpD (xs : List KVT) (key : Int) (i : Nat) : Bool := (fiP (gtK key) zKV (mdel (xs.take i) key)).isSome
theorem MapPutS_run (e : Nat) (xs : List KVT) (key val : Int) (hn : xs.length ≤ 4000000) : RunT Try.prog 255 [.one (.c (tKV e xs)), ti key, ti val] [] [.one (tKV 179 (mput xs key val))] [] := by
  have hfin : mput xs key val = if mpD xs key xs.length then mpR xs key val xs.length else mdel xs key ++ [(key, val)] := by
    unfold mput; rw [insE_eq]; unfold mpD mpR; rw [List.take_of_length_le (Nat.le_refl _)]
  have hnil : mdel (xs.take 0) key = [] := rfl
  refine RunT.of_vc gOk Try.func255 rfl rfl (Nat.le_of_ble_eq_true rfl) (by repeat' (first | exact trivial | exact ⟨_, rfl, Nat.le_refl _⟩ | exact Nat.le_of_ble_eq_true rfl | refine And.intro ?_ ?_)) (Nat.le_of_ble_eq_true rfl) rfl (fun F hE => ?_)
  repeat' (first | exact trivial | refine BS.d (fun h => ?_) (fun h => ?_) | refine BS.e (fun h => ?_) (fun h => ?_) | refine BS.ne (fun h => ?_) (fun h => ?_) | refine BS.n ?_ | refine BS.s (fun h => ?_) (fun h => ?_) | refine And.intro ?_ ?_ | (refine Need.mk ?_; first | with_reducible rfl | (show @Eq TC _ _; rfl) | omega | (simp only [adN_zero]; omega)) | exact OutS.whole rfl rfl | refine ListO.go gOk hE ?_)
  refine CodeK.loop gOk hE (fun i : Nat => ⟨[(0, vr 1000000 xs.length), (1, vi key), (2, vi val), (7, vr 10 (mpR xs key val i).length), (8, .a (.lit (.bool (mpD xs key i)))), (9, vi i)], [(10, rKV .own true 179 (mpR xs key val i)), (1000000, rKV .fro false e xs)]⟩) (fun i => i ≤ xs.length) (fun i => xs.length - i) 0 (by refine leT.of ?_ ?_ rfl <;> repeat' (first | exact trivial | refine And.intro rfl ?_ | refine And.intro (by first | rfl | (simp [mpR, mpD, hnil, insP, fiP] <;> rfl)) ?_)) (Nat.zero_le _) ?_
  rintro i hi
  have hle := mdel_le (xs.take i) key
  rw [List.length_take] at hle
  have hle2 : (mpR xs key val i).length ≤ i + 1 := by
    have := insP_le (gtK key) zKV (key, val) (mdel (xs.take i) key)
    unfold mpR; omega
  by_cases hi2 : i < xs.length
  · have hsu := mdel_succ xs key hi2
    by_cases hp : (xs.getD i zKV).1 = key
    · rw [if_pos hp] at hsu
      have hR : mpR xs key val (i + 1) = mpR xs key val i := by unfold mpR; rw [hsu]
      have hD : mpD xs key (i + 1) = mpD xs key i := by unfold mpD; rw [hsu]
      generalize mpD xs key i = dd at *
      generalize mpR xs key val i = rr at *
      repeat' (first | exact trivial | refine BS.d (fun h => ?_) (fun h => ?_) | refine BS.e (fun h => ?_) (fun h => ?_) | refine BS.ne (fun h => ?_) (fun h => ?_) | refine BS.n ?_ | refine BS.s (fun h => ?_) (fun h => ?_) | refine And.intro ?_ ?_ | (refine Need.mk ?_; first | with_reducible rfl | (show @Eq TC _ _; rfl) | omega | (simp only [adN_zero]; omega)) | exact OutS.whole rfl rfl | refine ListO.go gOk hE ?_)
      all_goals (try simp only [adN_zero] at *)
      all_goals first
        | (exfalso; first | omega | (simp_all; done))
        | (refine Need.mk ?_; omega)
        | (refine ⟨i + 1, (by refine leT.of ?_ ?_ rfl <;> repeat' (first | exact trivial | refine And.intro rfl ?_ | refine And.intro (by first | rfl | (rw [hR]; rfl) | (rw [hD]; rfl) | (simp [hR, hD] <;> rfl)) ?_)), by omega, by first | omega | (dsimp only; omega)⟩)
        | trace_state
    · rw [if_neg hp] at hsu
      have hR : mpR xs key val (i + 1) = if mpD xs key i then mpR xs key val i ++ [xs.getD i zKV] else if gtK key (xs.getD i zKV) then mpR xs key val i ++ [(key, val)] ++ [xs.getD i zKV] else mpR xs key val i ++ [xs.getD i zKV] := by
        show insP (gtK key) zKV (key, val) (mdel (xs.take (i + 1)) key) = _
        rw [hsu, insP_app]
        show _ = if (fiP (gtK key) zKV (mdel (xs.take i) key)).isSome then insP (gtK key) zKV (key, val) (mdel (xs.take i) key) ++ [xs.getD i zKV] else if gtK key (xs.getD i zKV) then insP (gtK key) zKV (key, val) (mdel (xs.take i) key) ++ [(key, val)] ++ [xs.getD i zKV] else insP (gtK key) zKV (key, val) (mdel (xs.take i) key) ++ [xs.getD i zKV]
        cases hd : (fiP (gtK key) zKV (mdel (xs.take i) key)).isSome with
        | true => rfl
        | false =>
          have : insP (gtK key) zKV (key, val) (mdel (xs.take i) key) = mdel (xs.take i) key := by
            unfold insP; cases hq : fiP (gtK key) zKV (mdel (xs.take i) key) with
            | none => rfl
            | some j => rw [hq] at hd; cases hd
          rw [this]
      have hD : mpD xs key (i + 1) = (mpD xs key i || gtK key (xs.getD i zKV)) := by unfold mpD; rw [hsu, fiP_app_some]
      generalize mpD xs key i = dd at *
      generalize mpR xs key val i = rr at *
      cases dd with
      | true =>
        simp only [Bool.true_or, if_true] at hR hD
        repeat' (first | exact trivial | refine BS.d (fun h => ?_) (fun h => ?_) | refine BS.e (fun h => ?_) (fun h => ?_) | refine BS.ne (fun h => ?_) (fun h => ?_) | refine BS.n ?_ | refine BS.s (fun h => ?_) (fun h => ?_) | refine And.intro ?_ ?_ | (refine Need.mk ?_; first | with_reducible rfl | (show @Eq TC _ _; rfl) | omega | (simp only [adN_zero]; omega)) | exact OutS.whole rfl rfl | refine ListO.go gOk hE ?_)
        all_goals (try simp only [adN_zero] at *)
        all_goals first
          | (exfalso; first | omega | (simp_all; done))
          | (refine Need.mk ?_; first | omega | (refine ⟨?_, ?_⟩ <;> (try unfold maxLen) <;> omega))
          | (refine ⟨i + 1, (by refine leT.of ?_ ?_ rfl <;> repeat' (first | exact trivial | refine And.intro rfl ?_ | refine And.intro (by first | rfl | (rw [hR]; rfl) | (rw [hD]; rfl) | (simp [hR, hD] <;> rfl)) ?_)), by omega, by first | omega | (dsimp only; omega)⟩)
          | trace_state
      | false =>
        simp only [Bool.false_or, Bool.false_eq_true, if_false] at hR hD
        by_cases hg : key < (xs.getD i zKV).1
        · have hg2 : gtK key (xs.getD i zKV) = true := decide_eq_true hg
          rw [hg2] at hR hD
          simp only [if_true] at hR
          repeat' (first | exact trivial | refine BS.d (fun h => ?_) (fun h => ?_) | refine BS.e (fun h => ?_) (fun h => ?_) | refine BS.ne (fun h => ?_) (fun h => ?_) | refine BS.n ?_ | refine BS.s (fun h => ?_) (fun h => ?_) | refine And.intro ?_ ?_ | (refine Need.mk ?_; first | with_reducible rfl | (show @Eq TC _ _; rfl) | omega | (simp only [adN_zero]; omega)) | exact OutS.whole rfl rfl | refine ListO.go gOk hE ?_)
          all_goals (try simp only [adN_zero] at *)
          all_goals first
            | (exfalso; first | omega | (simp_all; done))
            | (refine Need.mk ?_; first | omega | (simp only [List.length_append, List.length_singleton]; omega) | (refine ⟨?_, ?_⟩ <;> (try unfold maxLen) <;> (try simp only [List.length_append, List.length_singleton]) <;> omega))
            | (refine ⟨i + 1, (by refine leT.of ?_ ?_ rfl <;> repeat' (first | exact trivial | refine And.intro rfl ?_ | refine And.intro (by first | rfl | (rw [hR]; rfl) | (rw [hD]; rfl) | (simp [hR, hD] <;> rfl)) ?_)), by omega, by first | omega | (dsimp only; omega)⟩)
            | trace_state
        · have hg2 : gtK key (xs.getD i zKV) = false := decide_eq_false hg
          rw [hg2] at hR hD
          simp only [Bool.false_eq_true, if_false] at hR
          repeat' (first | exact trivial | refine BS.d (fun h => ?_) (fun h => ?_) | refine BS.e (fun h => ?_) (fun h => ?_) | refine BS.ne (fun h => ?_) (fun h => ?_) | refine BS.n ?_ | refine BS.s (fun h => ?_) (fun h => ?_) | refine And.intro ?_ ?_ | (refine Need.mk ?_; first | with_reducible rfl | (show @Eq TC _ _; rfl) | omega | (simp only [adN_zero]; omega)) | exact OutS.whole rfl rfl | refine ListO.go gOk hE ?_)
          all_goals (try simp only [adN_zero] at *)
          all_goals first
            | (exfalso; first | omega | (simp_all; done))
            | (refine Need.mk ?_; first | omega | (refine ⟨?_, ?_⟩ <;> (try unfold maxLen) <;> omega))
            | (refine ⟨i + 1, (by refine leT.of ?_ ?_ rfl <;> repeat' (first | exact trivial | refine And.intro rfl ?_ | refine And.intro (by first | rfl | (rw [hR]; rfl) | (rw [hD]; rfl) | (simp [hR, hD] <;> rfl)) ?_)), by omega, by first | omega | (dsimp only; omega)⟩)
            | trace_state
  · obtain rfl : i = xs.length := by omega
    have hRn : mpD xs key xs.length = false → mpR xs key val xs.length = mdel xs key := by
      unfold mpD mpR insP
      rw [List.take_of_length_le (Nat.le_refl _)]
      intro h
      cases hq : fiP (gtK key) zKV (mdel xs key) with
      | none => rfl
      | some j => rw [hq] at h; cases h
    generalize mpD xs key xs.length = dd at *
    generalize mpR xs key val xs.length = rr at *
    cases dd with
    | true =>
      simp only [if_true] at hfin
      repeat' (first | exact trivial | refine BS.d (fun h => ?_) (fun h => ?_) | refine BS.e (fun h => ?_) (fun h => ?_) | refine BS.ne (fun h => ?_) (fun h => ?_) | refine BS.n ?_ | refine BS.s (fun h => ?_) (fun h => ?_) | refine And.intro ?_ ?_ | (refine Need.mk ?_; first | with_reducible rfl | (show @Eq TC _ _; rfl) | omega | (simp only [adN_zero]; omega)) | exact OutS.whole rfl rfl | refine ListO.go gOk hE ?_)
      all_goals first
        | (exfalso; omega)
        | exact OutS.whole rfl (by rw [hfin]; rfl)
        | trace_state
    | false =>
      simp only [Bool.false_eq_true, if_false] at hfin
      rw [← hRn rfl] at hfin
      repeat' (first | exact trivial | refine BS.d (fun h => ?_) (fun h => ?_) | refine BS.e (fun h => ?_) (fun h => ?_) | refine BS.ne (fun h => ?_) (fun h => ?_) | refine BS.n ?_ | refine BS.s (fun h => ?_) (fun h => ?_) | refine And.intro ?_ ?_ | (refine Need.mk ?_; first | with_reducible rfl | (show @Eq TC _ _; rfl) | omega | (simp only [adN_zero]; omega)) | exact OutS.whole rfl rfl | refine ListO.go gOk hE ?_)
      all_goals first
        | (exfalso; omega)
        | (refine Need.mk ?_; first | omega | (refine ⟨?_, ?_⟩ <;> (try unfold maxLen) <;> omega))
        | exact OutS.whole (by simp) (by rw [hfin]; rfl)
        | trace_state
end Go.Proofs.Ytlnlogflhagocaa
end

section
/- MapPut of impl. -/
namespace Go.Proofs.Ytlnlogflhagocaa
open Go Go.Tr
set_option maxRecDepth 100000
set_option maxHeartbeats 4000000
set_option linter.unusedVariables false
set_option linter.unusedSimpArgs false
theorem MapPut1_run (x : KVT) (key : Int) (g1 j1 : Nat) : RunH Try.prog (hcL [(g1, j1, .int .i64 key)]) 273 [aKV x, .one (.c (.lit (.pointer (some ⟨g1, j1, none⟩))))] [] [ob (gtK key x)] [] := by
  refine RunH.of_vc gOk Try.func273 rfl rfl (Nat.le_of_ble_eq_true rfl) (by repeat' (first | exact trivial | exact ⟨_, rfl, Nat.le_refl _⟩ | exact Nat.le_of_ble_eq_true rfl | refine And.intro ?_ ?_)) (Nat.le_of_ble_eq_true rfl) rfl (fun F hE hA => ?_)
  repeat' (first | exact trivial | refine BS.d (fun h => ?_) (fun h => ?_) | refine BS.e (fun h => ?_) (fun h => ?_) | refine BS.ne (fun h => ?_) (fun h => ?_) | refine BS.n ?_ | refine BS.s (fun h => ?_) (fun h => ?_) | refine And.intro ?_ ?_ | (refine Need.mk ?_; first | with_reducible rfl | (show @Eq TC _ _; rfl) | omega | (simp only [adN_zero]; omega)) | exact OutS.whole rfl rfl | (first | refine OpK.ldI gOk 0 hA rfl rfl rfl rfl rfl rfl rfl ?_ | refine OpK.ldI gOk 1 hA rfl rfl rfl rfl rfl rfl rfl ?_ | refine OpK.ldI gOk 2 hA rfl rfl rfl rfl rfl rfl rfl ?_) | refine ListO.go gOk hE ?_)
  all_goals (refine Need.mk ?_; simp [gtK])
theorem MapPutI_run (e : Nat) (xs : List KVT) (key val : Int) (hn : xs.length ≤ 1048576) : RunT Try.prog 261 [.one (.c (tKV e xs)), ti key, ti val] [] [.one (tKV 179 (mput xs key val))] [] := by
  have c1 := MapDelI_run e xs key (by omega)
  have hml := mdel_le xs key
  have c2 : ∀ g1 j1, RunH Try.prog (hcU (hcL (tol g1 j1 [.int .i64 key])) hc0) 272 [.one (.m (tKV 179 (mdel xs key))), aKV (key, val), .one (.c (.lit (.func (.func 273) #[] #[.pointer (some ⟨g1, j1, none⟩)])))] [] [.one (tKV 179 (mput xs key val))] [] := fun g1 j1 =>
    (insBKV_run (caps := #[.pointer (some ⟨g1, j1, none⟩)]) (gtK key) (mdel xs key) (key, val) (by omega) (fun v hv => by simp at hv; subst hv; rfl) (fun x => MapPut1_run x key g1 j1)).mono (fun g j v hm => .inl hm)
  generalize mput xs key val = ys at *
  generalize mdel xs key = zs at *
  refine RunT.of_ck0 gOk Try.func261 rfl rfl (Nat.le_of_ble_eq_true rfl) (by repeat' (first | exact trivial | exact ⟨_, rfl, Nat.le_refl _⟩ | exact Nat.le_of_ble_eq_true rfl | refine And.intro ?_ ?_)) (fun F hF => ?_)
  have hE0 : F.nE ≤ 1000000 := by omega
  rw [fS_eq]
  refine CodeK.fsd ?_
  refine CodeK.seqv gOk hE0 ?_
  repeat' (first | exact trivial | refine BS.d (fun h => ?_) (fun h => ?_) | refine BS.e (fun h => ?_) (fun h => ?_) | refine BS.ne (fun h => ?_) (fun h => ?_) | refine BS.n ?_ | refine BS.s (fun h => ?_) (fun h => ?_) | refine And.intro ?_ ?_ | (refine Need.mk ?_; first | with_reducible rfl | (show @Eq TC _ _; rfl) | omega | (simp only [adN_zero]; omega)) | exact OutS.whole rfl rfl | refine ListO.go gOk hE ?_)
  refine CodeK.rekey (κ := 4) (κ' := 1000001) (vs := [.int .i64 key]) rfl rfl rfl (by decide) (fun ρ h1 h2 => by omega) rfl rfl ?_
  rw [fS_eq]
  refine CodeK.know 1 (by omega) (fun F' hF' => ?_)
  have hE : F'.nE ≤ 1000000 := by omega
  have hρ : 1 < F'.nE := by omega
  have hA : AmbF hc0 F' := fun g j v h => h.elim
  refine CodeK.where (ρ := 1) (vs := [.int .i64 key]) hρ rfl Nat.zero_lt_one (fun g1 o1 hgo => CodeK.fsd ?_)
  refine CodeK.seqv gOk hE ?_
  repeat' (first | exact trivial | refine BS.d (fun h => ?_) (fun h => ?_) | refine BS.e (fun h => ?_) (fun h => ?_) | refine BS.ne (fun h => ?_) (fun h => ?_) | refine BS.n ?_ | refine BS.s (fun h => ?_) (fun h => ?_) | refine And.intro ?_ ?_ | (refine Need.mk ?_; first | with_reducible rfl | (show @Eq TC _ _; rfl) | omega | (simp only [adN_zero]; omega)) | exact OutS.whole rfl rfl | (refine CodeK.draw gOk hE rfl (fun _ _ h => h) (.take 0 (.take 4 (.alt 1 (.alt 2 (.alt 3 (.alt 5 (.alt 6 (.alt 7 (.take 8 .done) .stop) .stop) (.alt 6 (.alt 5 (.alt 7 (.take 8 .done) .stop) .stop) .stop)) (.alt 6 (.alt 3 (.alt 5 (.alt 7 (.take 8 .done) .stop) .stop) .stop) .stop)) (.alt 3 (.alt 2 (.alt 5 (.alt 6 (.alt 7 (.take 8 .done) .stop) .stop) (.alt 6 (.alt 5 (.alt 7 (.take 8 .done) .stop) .stop) .stop)) (.alt 5 (.alt 2 (.alt 6 (.alt 7 (.take 8 .done) .stop) .stop) (.alt 6 (.alt 2 (.alt 7 (.take 8 .done) .stop) .stop) .stop)) (.alt 6 (.alt 2 (.alt 5 (.alt 7 (.take 8 .done) .stop) .stop) (.alt 5 (.alt 2 (.alt 7 (.take 8 .done) .stop) .stop) .stop)) .stop))) (.alt 6 (.alt 2 (.alt 3 (.alt 5 (.alt 7 (.take 8 .done) .stop) .stop) .stop) (.alt 3 (.alt 2 (.alt 5 (.alt 7 (.take 8 .done) .stop) .stop) (.alt 5 (.alt 2 (.alt 7 (.take 8 .done) .stop) .stop) .stop)) .stop)) .stop))) (.alt 3 (.alt 1 (.alt 2 (.alt 5 (.alt 6 (.alt 7 (.take 8 .done) .stop) .stop) (.alt 6 (.alt 5 (.alt 7 (.take 8 .done) .stop) .stop) .stop)) (.alt 5 (.alt 2 (.alt 6 (.alt 7 (.take 8 .done) .stop) .stop) (.alt 6 (.alt 2 (.alt 7 (.take 8 .done) .stop) .stop) .stop)) (.alt 6 (.alt 2 (.alt 5 (.alt 7 (.take 8 .done) .stop) .stop) (.alt 5 (.alt 2 (.alt 7 (.take 8 .done) .stop) .stop) .stop)) .stop))) (.alt 5 (.alt 1 (.alt 2 (.alt 6 (.alt 7 (.take 8 .done) .stop) .stop) (.alt 6 (.alt 2 (.alt 7 (.take 8 .done) .stop) .stop) .stop)) (.alt 6 (.alt 1 (.alt 2 (.alt 7 (.take 8 .done) .stop) .stop) .stop) .stop)) (.alt 6 (.alt 1 (.alt 2 (.alt 5 (.alt 7 (.take 8 .done) .stop) .stop) (.alt 5 (.alt 2 (.alt 7 (.take 8 .done) .stop) .stop) .stop)) (.alt 5 (.alt 1 (.alt 2 (.alt 7 (.take 8 .done) .stop) .stop) .stop) .stop)) .stop))) (.alt 6 (.alt 1 (.alt 2 (.alt 3 (.alt 5 (.alt 7 (.take 8 .done) .stop) .stop) .stop) (.alt 3 (.alt 2 (.alt 5 (.alt 7 (.take 8 .done) .stop) .stop) (.alt 5 (.alt 2 (.alt 7 (.take 8 .done) .stop) .stop) .stop)) .stop)) (.alt 3 (.alt 1 (.alt 2 (.alt 5 (.alt 7 (.take 8 .done) .stop) .stop) (.alt 5 (.alt 2 (.alt 7 (.take 8 .done) .stop) .stop) .stop)) (.alt 5 (.alt 1 (.alt 2 (.alt 7 (.take 8 .done) .stop) .stop) .stop) .stop)) .stop)) .stop))))) ?_ ?_; focus (decide +kernel)) | (refine OpK.call c1 rfl rfl rfl rfl hE ?_ rfl rfl ?_; focus ((repeat' (first | exact PsA.lit _ | exact PsA.ref rfl rfl | constructor)); all_goals (fail "ps"))) | (refine OpK.ofP rfl rfl (PK.mkFuncE (ρ := 1) hρ hgo rfl rfl rfl rfl ?_)) | (refine OpK.callK (ρ := 1) (vs := [.int .i64 key]) [(2001152, 0, 0)] hρ hgo (c2 g1 o1) hA rfl rfl rfl rfl hE rfl Nat.zero_lt_one rfl (List.forall_mem_cons.2 ⟨rfl, fun _ h => nomatch h⟩) (QsVs.cons (.one (.m rfl rfl (.whole rfl rfl))) (.cons (.agg (.cons (.c (.lit _) rfl) (.cons (.c (.lit _) rfl) .nil))) (.cons (.one (.c (.lit _) rfl)) .nil))) rfl rfl ?_) | (refine CodeK.vc gOk hE ?_) | refine ListO.go gOk hE ?_)
  all_goals trace_state
end Go.Proofs.Ytlnlogflhagocaa
end

section
namespace Go.Proofs.Ytlnlogflhagocaa
open Go Go.Tr
set_option maxRecDepth 100000
set_option maxHeartbeats 1000000
set_option linter.unusedVariables false
set_option linter.unusedSimpArgs false
theorem keyOk_run (x : Int) : RunT Try.prog 270 [ti x] [] [ob (decide (0 ≤ x ∧ x ≤ 99))] [] := by
  refine RunT.of_vc gOk Try.func270 rfl rfl (Nat.le_of_ble_eq_true rfl) (by repeat' (first | exact trivial | exact ⟨_, rfl, Nat.le_refl _⟩ | exact Nat.le_of_ble_eq_true rfl | refine And.intro ?_ ?_)) (Nat.le_of_ble_eq_true rfl) rfl (fun F hE => ?_)
  repeat' (first | exact trivial | refine BS.d (fun h => ?_) (fun h => ?_) | refine BS.e (fun h => ?_) (fun h => ?_) | refine BS.ne (fun h => ?_) (fun h => ?_) | refine BS.n ?_ | refine BS.s (fun h => ?_) (fun h => ?_) | refine And.intro ?_ ?_ | (refine Need.mk ?_; first | with_reducible rfl | (show @Eq TC _ _; rfl) | omega | (simp only [adN_zero]; omega)) | exact OutS.whole rfl rfl | refine ListO.go gOk hE ?_)
  all_goals (refine Need.mk ?_; first | rfl | (symm; apply decide_eq_true; omega) | (symm; apply decide_eq_false; omega) | (apply decide_eq_decide.2; omega) | (simp only [beq_iff_eq, Bool.beq_eq_decide_eq] at *; apply decide_eq_decide.2; omega) | (simp; omega))
theorem valOk_run (x : Int) : RunT Try.prog 271 [ti x] [] [ob (decide (0 ≤ x ∧ x ≤ 65535))] [] := by
  refine RunT.of_vc gOk Try.func271 rfl rfl (Nat.le_of_ble_eq_true rfl) (by repeat' (first | exact trivial | exact ⟨_, rfl, Nat.le_refl _⟩ | exact Nat.le_of_ble_eq_true rfl | refine And.intro ?_ ?_)) (Nat.le_of_ble_eq_true rfl) rfl (fun F hE => ?_)
  repeat' (first | exact trivial | refine BS.d (fun h => ?_) (fun h => ?_) | refine BS.e (fun h => ?_) (fun h => ?_) | refine BS.ne (fun h => ?_) (fun h => ?_) | refine BS.n ?_ | refine BS.s (fun h => ?_) (fun h => ?_) | refine And.intro ?_ ?_ | (refine Need.mk ?_; first | with_reducible rfl | (show @Eq TC _ _; rfl) | omega | (simp only [adN_zero]; omega)) | exact OutS.whole rfl rfl | refine ListO.go gOk hE ?_)
  all_goals (refine Need.mk ?_; first | rfl | (symm; apply decide_eq_true; omega) | (symm; apply decide_eq_false; omega) | (apply decide_eq_decide.2; omega) | (simp only [beq_iff_eq, Bool.beq_eq_decide_eq] at *; apply decide_eq_decide.2; omega) | (simp; omega))
end Go.Proofs.Ytlnlogflhagocaa
end

section
namespace Go.Proofs.Ytlnlogflhagocaa
open Go Go.Tr
set_option maxRecDepth 100000
set_option linter.unusedVariables false
set_option linter.unusedSimpArgs false
theorem l1In_run (x a b : Int) : RunT Try.prog 194 [ti x, ti a, ti b] [] [ob (decide (a ≤ x ∧ x ≤ b))] [] := by
  refine RunT.of_vc gOk Try.func194 rfl rfl (Nat.le_of_ble_eq_true rfl) (by repeat' (first | exact trivial | exact ⟨_, rfl, Nat.le_refl _⟩ | exact Nat.le_of_ble_eq_true rfl | refine And.intro ?_ ?_)) (Nat.le_of_ble_eq_true rfl) rfl (fun F hE => ?_)
  repeat' (first | exact trivial | refine BS.d (fun h => ?_) (fun h => ?_) | refine BS.e (fun h => ?_) (fun h => ?_) | refine BS.ne (fun h => ?_) (fun h => ?_) | refine BS.n ?_ | refine BS.s (fun h => ?_) (fun h => ?_) | refine And.intro ?_ ?_ | (refine Need.mk ?_; first | with_reducible rfl | (show @Eq TC _ _; rfl) | omega | (simp only [adN_zero]; omega)) | exact OutS.whole rfl rfl | refine ListO.go gOk hE ?_)
  all_goals (refine Need.mk ?_; simp [*])
/-- Is this number a handle? -/
def hOk (h : Int) : Bool := decide (32 ≤ h ∧ h ≤ 223 ∧ h % 32 < 24)
def hSlot (h : Int) : Int := if hOk h then h % 32 else -1
def hSome (h : Int) : Bool := decide (h = 0) || hOk h
end Go.Proofs.Ytlnlogflhagocaa
end

section
namespace Go.Proofs.Ytlnlogflhagocaa
open Go Go.Tr
set_option maxRecDepth 100000
set_option maxHeartbeats 1000000
set_option linter.unusedVariables false
set_option linter.unusedSimpArgs false
/-- Pair j is well formed and its key is greater than the one before. -/
def pmo (xs : List KVT) (j : Nat) : Prop := (0 ≤ (xs.getD j zKV).1 ∧ (xs.getD j zKV).1 ≤ 99) ∧ (0 ≤ (xs.getD j zKV).2 ∧ (xs.getD j zKV).2 ≤ 65535) ∧ (j = 0 ∨ (xs.getD (j - 1) zKV).1 < (xs.getD j zKV).1)
theorem MapOkS_run (e : Nat) (xs : List KVT) (hn : xs.length ≤ 1048576) : RunT Try.prog 253 [.one (.c (tKV e xs))] [] [ob (allP xs.length (pmo xs))] [] := by
  refine RunT.of_vc gOk Try.func253 rfl rfl (Nat.le_of_ble_eq_true rfl) (by repeat' (first | exact trivial | exact ⟨_, rfl, Nat.le_refl _⟩ | exact Nat.le_of_ble_eq_true rfl | refine And.intro ?_ ?_)) (Nat.le_of_ble_eq_true rfl) rfl (fun F hE => ?_)
  repeat' (first | exact trivial | refine BS.d (fun h => ?_) (fun h => ?_) | refine BS.e (fun h => ?_) (fun h => ?_) | refine BS.ne (fun h => ?_) (fun h => ?_) | refine BS.n ?_ | refine BS.s (fun h => ?_) (fun h => ?_) | refine And.intro ?_ ?_ | (refine Need.mk ?_; first | with_reducible rfl | (show @Eq TC _ _; rfl) | omega | (simp only [adN_zero]; omega)) | exact OutS.whole rfl rfl | refine ListO.go gOk hE ?_)
  refine CodeK.loop gOk hE (fun i : Nat => ⟨[(0, vr 1000000 xs.length), (3, vi i)], [(1000000, rKV .fro false e xs)]⟩) (fun i => i ≤ xs.length ∧ ∀ j, j < i → pmo xs j) (fun i => xs.length - i) 0 (by refine leT.of ?_ ?_ rfl <;> repeat' (first | exact trivial | refine And.intro rfl ?_ | refine And.intro (by simp) ?_)) ⟨Nat.zero_le _, fun j hj => absurd hj (Nat.not_lt_zero _)⟩ ?_
  rintro i ⟨hi, hs⟩
  have c1 := l1In_run (xs.getD i zKV).1 0 99
  have c2 := l1In_run (xs.getD i zKV).2 0 65535
  rcases i with _ | i
  · repeat' (first | exact trivial | refine BS.d (fun h => ?_) (fun h => ?_) | refine BS.e (fun h => ?_) (fun h => ?_) | refine BS.ne (fun h => ?_) (fun h => ?_) | refine BS.n ?_ | refine BS.s (fun h => ?_) (fun h => ?_) | refine And.intro ?_ ?_ | (refine Need.mk ?_; first | with_reducible rfl | (show @Eq TC _ _; rfl) | omega | (simp only [adN_zero]; omega)) | exact OutS.whole rfl rfl | (refine CodeK.draw gOk hE rfl (fun _ _ h => h) (.take 0 (.take 1 (.take 2 (.take 3 (.alt 4 (.alt 5 (.take 6 (.take 7 (.take 8 (.take 9 (.take 10 (.take 11 (.alt 12 (.alt 13 (.take 14 (.take 15 (.take 16 (.take 17 (.take 18 (.take 19 (.take 20 (.take 21 (.take 22 (.take 23 (.take 25 (.take 26 (.take 27 (.take 28 (.take 29 (.alt 24 (.alt 30 (.take 31 (.take 32 (.take 33 .done))) .stop) (.alt 30 (.alt 24 (.take 31 (.take 32 (.take 33 .done))) .stop) .stop))))))))))))))))) .stop) .stop))))))) .stop) .stop))))) ?_ ?_; focus (decide +kernel)) | (refine OpK.call c1 rfl rfl rfl rfl hE ?_ rfl rfl ?_; focus ((repeat' (first | exact PsA.lit _ | exact PsA.ref rfl rfl | constructor)); all_goals (fail "ps"))) | (refine OpK.call c2 rfl rfl rfl rfl hE ?_ rfl rfl ?_; focus ((repeat' (first | exact PsA.lit _ | exact PsA.ref rfl rfl | constructor)); all_goals (fail "ps"))) | refine ListO.go gOk hE ?_)
    all_goals (try simp only [Int.natCast_zero, adN_zero] at *)
    (all_goals first
          | (exfalso; omega)
          | (refine Need.mk ?_; omega)
          | (refine Need.mk ?_; refine (allP_false (i := 0) (by omega) (fun hp => ?_)).symm; obtain ⟨p1, p2, p3⟩ := hp; (try simp only [Nat.add_sub_cancel, Nat.zero_sub] at p3); omega)
          | (refine Need.mk ?_; exact (allP_true fun j hj => hs j (by omega)).symm)
          | (have hpm : pmo xs 0 := ?_; rotate_left; (refine ⟨⟨?_, ?_⟩, ⟨?_, ?_⟩, ?_⟩ <;> first | exact Or.inl rfl | ((try simp only [Nat.add_sub_cancel]); omega)); refine ⟨0 + 1, (by refine leT.of ?_ ?_ rfl <;> repeat' (first | exact trivial | refine And.intro rfl ?_ | refine And.intro (by simp) ?_)), ⟨by omega, fun j hj => (Nat.lt_or_ge j 0).elim (hs j) (fun h9 => (show j = 0 by omega) ▸ hpm)⟩, by first | omega | (dsimp only; omega)⟩))
  · repeat' (first | exact trivial | refine BS.d (fun h => ?_) (fun h => ?_) | refine BS.e (fun h => ?_) (fun h => ?_) | refine BS.ne (fun h => ?_) (fun h => ?_) | refine BS.n ?_ | refine BS.s (fun h => ?_) (fun h => ?_) | refine And.intro ?_ ?_ | (refine Need.mk ?_; first | with_reducible rfl | (show @Eq TC _ _; rfl) | omega | (simp only [adN_zero]; omega)) | exact OutS.whole rfl rfl | (refine CodeK.draw gOk hE rfl (fun _ _ h => h) (.take 0 (.take 1 (.take 2 (.take 3 (.alt 4 (.alt 5 (.take 6 (.take 7 (.take 8 (.take 9 (.take 10 (.take 11 (.alt 12 (.alt 13 (.take 14 (.take 15 (.take 16 (.take 17 (.take 18 (.take 19 (.take 20 (.take 21 (.take 22 (.take 23 (.take 25 (.take 26 (.take 27 (.take 28 (.take 29 (.alt 24 (.alt 30 (.take 31 (.take 32 (.take 33 .done))) .stop) (.alt 30 (.alt 24 (.take 31 (.take 32 (.take 33 .done))) .stop) .stop))))))))))))))))) .stop) .stop))))))) .stop) .stop))))) ?_ ?_; focus (decide +kernel)) | (refine OpK.call c1 rfl rfl rfl rfl hE ?_ rfl rfl ?_; focus ((repeat' (first | exact PsA.lit _ | exact PsA.ref rfl rfl | constructor)); all_goals (fail "ps"))) | (refine OpK.call c2 rfl rfl rfl rfl hE ?_ rfl rfl ?_; focus ((repeat' (first | exact PsA.lit _ | exact PsA.ref rfl rfl | constructor)); all_goals (fail "ps"))) | refine ListO.go gOk hE ?_)
    all_goals (try simp only [adN_zero] at *)
    all_goals (try simp only [Int.natCast_add, Int.natCast_one, Int.add_sub_cancel, adN_zero] at *)
    (all_goals first
          | (exfalso; omega)
          | (refine Need.mk ?_; omega)
          | (refine Need.mk ?_; refine (allP_false (i := (i + 1)) (by omega) (fun hp => ?_)).symm; obtain ⟨p1, p2, p3⟩ := hp; (try simp only [Nat.add_sub_cancel, Nat.zero_sub] at p3); omega)
          | (refine Need.mk ?_; exact (allP_true fun j hj => hs j (by omega)).symm)
          | (have hpm : pmo xs (i + 1) := ?_; rotate_left; (refine ⟨⟨?_, ?_⟩, ⟨?_, ?_⟩, ?_⟩ <;> first | exact Or.inl rfl | ((try simp only [Nat.add_sub_cancel]); omega)); refine ⟨(i + 1) + 1, (by refine leT.of ?_ ?_ rfl <;> repeat' (first | exact trivial | refine And.intro rfl ?_ | refine And.intro (by simp) ?_)), ⟨by omega, fun j hj => (Nat.lt_or_ge j (i + 1)).elim (hs j) (fun h9 => (show j = (i + 1) by omega) ▸ hpm)⟩, by first | omega | (dsimp only; omega)⟩))
theorem MapOkI_run (e : Nat) (xs : List KVT) (hn : xs.length ≤ 1048576) : RunT Try.prog 258 [.one (.c (tKV e xs))] [] [ob (allP xs.length (pmo xs))] [] := by
  refine RunT.of_vc gOk Try.func258 rfl rfl (Nat.le_of_ble_eq_true rfl) (by repeat' (first | exact trivial | exact ⟨_, rfl, Nat.le_refl _⟩ | exact Nat.le_of_ble_eq_true rfl | refine And.intro ?_ ?_)) (Nat.le_of_ble_eq_true rfl) rfl (fun F hE => ?_)
  repeat' (first | exact trivial | refine BS.d (fun h => ?_) (fun h => ?_) | refine BS.e (fun h => ?_) (fun h => ?_) | refine BS.ne (fun h => ?_) (fun h => ?_) | refine BS.n ?_ | refine BS.s (fun h => ?_) (fun h => ?_) | refine And.intro ?_ ?_ | (refine Need.mk ?_; first | with_reducible rfl | (show @Eq TC _ _; rfl) | omega | (simp only [adN_zero]; omega)) | exact OutS.whole rfl rfl | refine ListO.go gOk hE ?_)
  refine CodeK.loop gOk hE (fun i : Nat => ⟨[(0, vr 1000000 xs.length), (5, vr 1000000 xs.length), (6, vi xs.length), (7, vi i)], [(1000000, rKV .fro false e xs)]⟩) (fun i => i ≤ xs.length ∧ ∀ j, j < i → pmo xs j) (fun i => xs.length - i) 0 (by refine leT.of ?_ ?_ rfl <;> repeat' (first | exact trivial | refine And.intro rfl ?_ | refine And.intro (by simp) ?_)) ⟨Nat.zero_le _, fun j hj => absurd hj (Nat.not_lt_zero _)⟩ ?_
  rintro i ⟨hi, hs⟩
  have c1 := keyOk_run (xs.getD i zKV).1
  have c2 := valOk_run (xs.getD i zKV).2
  rcases i with _ | i
  · repeat' (first | exact trivial | refine BS.d (fun h => ?_) (fun h => ?_) | refine BS.e (fun h => ?_) (fun h => ?_) | refine BS.ne (fun h => ?_) (fun h => ?_) | refine BS.n ?_ | refine BS.s (fun h => ?_) (fun h => ?_) | refine And.intro ?_ ?_ | (refine Need.mk ?_; first | with_reducible rfl | (show @Eq TC _ _; rfl) | omega | (simp only [adN_zero]; omega)) | exact OutS.whole rfl rfl | (refine CodeK.draw gOk hE rfl (fun _ _ h => h) (.take 0 (.alt 1 (.alt 2 (.take 3 (.take 4 (.take 5 (.alt 6 (.alt 7 (.take 8 (.take 9 (.take 10 (.take 11 (.take 12 (.take 13 (.take 14 (.take 15 (.take 16 (.take 17 (.take 18 (.take 20 (.alt 19 (.alt 21 (.take 22 (.take 23 (.take 24 .done))) .stop) (.alt 21 (.alt 19 (.take 22 (.take 23 (.take 24 .done))) .stop) .stop)))))))))))))) .stop) .stop)))) .stop) .stop)) ?_ ?_; focus (decide +kernel)) | (refine OpK.call c1 rfl rfl rfl rfl hE ?_ rfl rfl ?_; focus ((repeat' (first | exact PsA.lit _ | exact PsA.ref rfl rfl | constructor)); all_goals (fail "ps"))) | (refine OpK.call c2 rfl rfl rfl rfl hE ?_ rfl rfl ?_; focus ((repeat' (first | exact PsA.lit _ | exact PsA.ref rfl rfl | constructor)); all_goals (fail "ps"))) | refine ListO.go gOk hE ?_)
    all_goals (try simp only [Int.natCast_zero, adN_zero] at *)
    (all_goals first
          | (exfalso; omega)
          | (refine Need.mk ?_; omega)
          | (refine Need.mk ?_; refine (allP_false (i := 0) (by omega) (fun hp => ?_)).symm; obtain ⟨p1, p2, p3⟩ := hp; (try simp only [Nat.add_sub_cancel, Nat.zero_sub] at p3); omega)
          | (refine Need.mk ?_; exact (allP_true fun j hj => hs j (by omega)).symm)
          | (have hpm : pmo xs 0 := ?_; rotate_left; (refine ⟨⟨?_, ?_⟩, ⟨?_, ?_⟩, ?_⟩ <;> first | exact Or.inl rfl | ((try simp only [Nat.add_sub_cancel]); omega)); refine ⟨0 + 1, (by refine leT.of ?_ ?_ rfl <;> repeat' (first | exact trivial | refine And.intro rfl ?_ | refine And.intro (by simp) ?_)), ⟨by omega, fun j hj => (Nat.lt_or_ge j 0).elim (hs j) (fun h9 => (show j = 0 by omega) ▸ hpm)⟩, by first | omega | (dsimp only; omega)⟩))
  · repeat' (first | exact trivial | refine BS.d (fun h => ?_) (fun h => ?_) | refine BS.e (fun h => ?_) (fun h => ?_) | refine BS.ne (fun h => ?_) (fun h => ?_) | refine BS.n ?_ | refine BS.s (fun h => ?_) (fun h => ?_) | refine And.intro ?_ ?_ | (refine Need.mk ?_; first | with_reducible rfl | (show @Eq TC _ _; rfl) | omega | (simp only [adN_zero]; omega)) | exact OutS.whole rfl rfl | (refine CodeK.draw gOk hE rfl (fun _ _ h => h) (.take 0 (.alt 1 (.alt 2 (.take 3 (.take 4 (.take 5 (.alt 6 (.alt 7 (.take 8 (.take 9 (.take 10 (.take 11 (.take 12 (.take 13 (.take 14 (.take 15 (.take 16 (.take 17 (.take 18 (.take 20 (.alt 19 (.alt 21 (.take 22 (.take 23 (.take 24 .done))) .stop) (.alt 21 (.alt 19 (.take 22 (.take 23 (.take 24 .done))) .stop) .stop)))))))))))))) .stop) .stop)))) .stop) .stop)) ?_ ?_; focus (decide +kernel)) | (refine OpK.call c1 rfl rfl rfl rfl hE ?_ rfl rfl ?_; focus ((repeat' (first | exact PsA.lit _ | exact PsA.ref rfl rfl | constructor)); all_goals (fail "ps"))) | (refine OpK.call c2 rfl rfl rfl rfl hE ?_ rfl rfl ?_; focus ((repeat' (first | exact PsA.lit _ | exact PsA.ref rfl rfl | constructor)); all_goals (fail "ps"))) | refine ListO.go gOk hE ?_)
    all_goals (try simp only [adN_zero] at *)
    all_goals (try simp only [Int.natCast_add, Int.natCast_one, Int.add_sub_cancel, adN_zero] at *)
    (all_goals first
          | (exfalso; omega)
          | (refine Need.mk ?_; omega)
          | (refine Need.mk ?_; refine (allP_false (i := (i + 1)) (by omega) (fun hp => ?_)).symm; obtain ⟨p1, p2, p3⟩ := hp; (try simp only [Nat.add_sub_cancel, Nat.zero_sub] at p3); omega)
          | (refine Need.mk ?_; exact (allP_true fun j hj => hs j (by omega)).symm)
          | (have hpm : pmo xs (i + 1) := ?_; rotate_left; (refine ⟨⟨?_, ?_⟩, ⟨?_, ?_⟩, ?_⟩ <;> first | exact Or.inl rfl | ((try simp only [Nat.add_sub_cancel]); omega)); refine ⟨(i + 1) + 1, (by refine leT.of ?_ ?_ rfl <;> repeat' (first | exact trivial | refine And.intro rfl ?_ | refine And.intro (by simp) ?_)), ⟨by omega, fun j hj => (Nat.lt_or_ge j (i + 1)).elim (hs j) (fun h9 => (show j = (i + 1) by omega) ▸ hpm)⟩, by first | omega | (dsimp only; omega)⟩))
end Go.Proofs.Ytlnlogflhagocaa
end

section
namespace Go.Proofs.Ytlnlogflhagocaa
open Go Go.Tr
set_option maxRecDepth 100000
set_option linter.unusedVariables false
set_option linter.unusedSimpArgs false
def pk (xs : List KVT) (k : Int) (j : Nat) : Bool := decide ((xs.getD j zKV).1 = k)
def mgR (xs : List KVT) : Option Nat → Int × Bool
  | some j => ((xs.getD j zKV).2, true)
  | none => (0, false)
/-- The value of a key. -/
def mget (xs : List KVT) (k : Int) : Int × Bool := mgR xs (firstP (pk xs k) 0 xs.length)
theorem MapGetS_run (e : Nat) (xs : List KVT) (k : Int) (w : -9223372036854775808 ≤ k ∧ k ≤ 9223372036854775807) (hn : xs.length ≤ 1048576) : RunT Try.prog 254 [.one (.c (tKV e xs)), ti k] [] [oi (mget xs k).1, ob (mget xs k).2] [] := by
  refine RunT.of_vc gOk Try.func254 rfl rfl (Nat.le_of_ble_eq_true rfl) (by repeat' (first | exact trivial | exact ⟨_, rfl, Nat.le_refl _⟩ | exact Nat.le_of_ble_eq_true rfl | refine And.intro ?_ ?_)) (Nat.le_of_ble_eq_true rfl) rfl (fun F hE => ?_)
  refine CodeK.loop gOk hE (fun i : Nat => ⟨[(0, vr 1000000 xs.length), (1, vi k), (6, vi i)], [(1000000, rKV .fro false e xs)]⟩) (fun i => i ≤ xs.length ∧ mget xs k = mgR xs (firstP (pk xs k) i (xs.length - i))) (fun i => xs.length - i) 0 (by refine leT.of ?_ ?_ rfl <;> repeat' (first | exact trivial | refine And.intro rfl ?_ | refine And.intro (by simp) ?_)) ⟨Nat.zero_le _, rfl⟩ ?_
  rintro i ⟨hi, hs⟩
  repeat' (first | exact trivial | refine BS.d (fun h => ?_) (fun h => ?_) | refine BS.e (fun h => ?_) (fun h => ?_) | refine BS.ne (fun h => ?_) (fun h => ?_) | refine BS.n ?_ | refine BS.s (fun h => ?_) (fun h => ?_) | refine And.intro ?_ ?_ | (refine Need.mk ?_; first | with_reducible rfl | (show @Eq TC _ _; rfl) | omega | (simp only [adN_zero]; omega)) | exact OutS.whole rfl rfl | refine ListO.go gOk hE ?_)
  (
      all_goals (try simp only [adN_zero] at *)
      all_goals (first
        | (refine Need.mk ?_; rw [hs, firstP_yes (by omega) (by exact decide_eq_true (by assumption))]; rfl)
        | (refine Need.mk ?_; rw [hs, show xs.length - i = 0 by omega]; rfl)
        | (refine ⟨i + 1, (by refine leT.of ?_ ?_ rfl <;> repeat' (first | exact trivial | refine And.intro rfl ?_ | refine And.intro (by simp) ?_)), ⟨by omega, by rw [hs, firstP_no (by omega) (by exact decide_eq_false (by assumption)), show xs.length - i - 1 = xs.length - (i + 1) by omega]⟩, by first | omega | (dsimp only; omega)⟩)))
theorem MapGetI_run (e : Nat) (xs : List KVT) (k : Int) (w : -9223372036854775808 ≤ k ∧ k ≤ 9223372036854775807) (hn : xs.length ≤ 1048576) : RunT Try.prog 260 [.one (.c (tKV e xs)), ti k] [] [oi (mget xs k).1, ob (mget xs k).2] [] := by
  refine RunT.of_vc gOk Try.func260 rfl rfl (Nat.le_of_ble_eq_true rfl) (by repeat' (first | exact trivial | exact ⟨_, rfl, Nat.le_refl _⟩ | exact Nat.le_of_ble_eq_true rfl | refine And.intro ?_ ?_)) (Nat.le_of_ble_eq_true rfl) rfl (fun F hE => ?_)
  repeat' (first | exact trivial | refine BS.d (fun h => ?_) (fun h => ?_) | refine BS.e (fun h => ?_) (fun h => ?_) | refine BS.ne (fun h => ?_) (fun h => ?_) | refine BS.n ?_ | refine BS.s (fun h => ?_) (fun h => ?_) | refine And.intro ?_ ?_ | (refine Need.mk ?_; first | with_reducible rfl | (show @Eq TC _ _; rfl) | omega | (simp only [adN_zero]; omega)) | exact OutS.whole rfl rfl | refine ListO.go gOk hE ?_)
  refine CodeK.loop gOk hE (fun i : Nat => ⟨[(1, vi k), (8, vr 1000000 xs.length), (9, vi xs.length), (10, vi i)], [(1000000, rKV .fro false e xs)]⟩) (fun i => i ≤ xs.length ∧ mget xs k = mgR xs (firstP (pk xs k) i (xs.length - i))) (fun i => xs.length - i) 0 (by refine leT.of ?_ ?_ rfl <;> repeat' (first | exact trivial | refine And.intro rfl ?_ | refine And.intro (by simp) ?_)) ⟨Nat.zero_le _, rfl⟩ ?_
  rintro i ⟨hi, hs⟩
  repeat' (first | exact trivial | refine BS.d (fun h => ?_) (fun h => ?_) | refine BS.e (fun h => ?_) (fun h => ?_) | refine BS.ne (fun h => ?_) (fun h => ?_) | refine BS.n ?_ | refine BS.s (fun h => ?_) (fun h => ?_) | refine And.intro ?_ ?_ | (refine Need.mk ?_; first | with_reducible rfl | (show @Eq TC _ _; rfl) | omega | (simp only [adN_zero]; omega)) | exact OutS.whole rfl rfl | refine ListO.go gOk hE ?_)
  (
      all_goals (try simp only [adN_zero] at *)
      all_goals (first
        | (refine Need.mk ?_; rw [hs, firstP_yes (by omega) (by exact decide_eq_true (by assumption))]; rfl)
        | (refine Need.mk ?_; rw [hs, show xs.length - i = 0 by omega]; rfl)
        | (refine ⟨i + 1, (by refine leT.of ?_ ?_ rfl <;> repeat' (first | exact trivial | refine And.intro rfl ?_ | refine And.intro (by simp) ?_)), ⟨by omega, by rw [hs, firstP_no (by omega) (by exact decide_eq_false (by assumption)), show xs.length - i - 1 = xs.length - (i + 1) by omega]⟩, by first | omega | (dsimp only; omega)⟩)))
end Go.Proofs.Ytlnlogflhagocaa
end

section

end

section
namespace Go.Proofs.Ytlnlogflhagocaa
open Go Go.Tr
set_option maxRecDepth 100000
set_option maxHeartbeats 1000000
set_option linter.unusedVariables false
set_option linter.unusedSimpArgs false
def cmOk (x : CmdT) : Bool := decide ((0 ≤ x.2.1 ∧ x.2.1 ≤ 99) ∧ (((x.1 = 2 ∨ x.1 = 4) ∧ 0 ≤ x.2.2 ∧ x.2.2 ≤ 65535) ∨ ((x.1 = 1 ∨ x.1 = 3) ∧ x.2.2 = 0)))
theorem CmdOkS_run (x : CmdT) : RunT Try.prog 252 [aCmd x] [] [ob (cmOk x)] [] := by
  unfold cmOk
  refine RunT.of_vc gOk Try.func252 rfl rfl (Nat.le_of_ble_eq_true rfl) (by repeat' (first | exact trivial | exact ⟨_, rfl, Nat.le_refl _⟩ | exact Nat.le_of_ble_eq_true rfl | refine And.intro ?_ ?_)) (Nat.le_of_ble_eq_true rfl) rfl (fun F hE => ?_)
  repeat' (first | exact trivial | refine BS.d (fun h => ?_) (fun h => ?_) | refine BS.e (fun h => ?_) (fun h => ?_) | refine BS.ne (fun h => ?_) (fun h => ?_) | refine BS.n ?_ | refine BS.s (fun h => ?_) (fun h => ?_) | refine And.intro ?_ ?_ | (refine Need.mk ?_; first | with_reducible rfl | (show @Eq TC _ _; rfl) | omega | (simp only [adN_zero]; omega)) | exact OutS.whole rfl rfl | (refine OpK.call (l1In_run ?_ ?_ ?_) rfl rfl rfl rfl hE ?_ rfl rfl ?_; rotate_left 3; focus ((repeat' (first | exact PsA.lit _ | exact PsA.ref rfl rfl | constructor)); all_goals (fail "ps"))) | refine ListO.go gOk hE ?_)
  all_goals (refine Need.mk ?_; first | rfl | (symm; apply decide_eq_true; omega) | (symm; apply decide_eq_false; omega) | (apply decide_eq_decide.2; omega) | (simp only [beq_iff_eq, Bool.beq_eq_decide_eq] at *; apply decide_eq_decide.2; omega) | (simp; omega))
theorem CmdOkI_run (x : CmdT) : RunT Try.prog 259 [aCmd x] [] [ob (cmOk x)] [] := by
  unfold cmOk
  refine RunT.of_vc gOk Try.func259 rfl rfl (Nat.le_of_ble_eq_true rfl) (by repeat' (first | exact trivial | exact ⟨_, rfl, Nat.le_refl _⟩ | exact Nat.le_of_ble_eq_true rfl | refine And.intro ?_ ?_)) (Nat.le_of_ble_eq_true rfl) rfl (fun F hE => ?_)
  repeat' (first | exact trivial | refine BS.d (fun h => ?_) (fun h => ?_) | refine BS.e (fun h => ?_) (fun h => ?_) | refine BS.ne (fun h => ?_) (fun h => ?_) | refine BS.n ?_ | refine BS.s (fun h => ?_) (fun h => ?_) | refine And.intro ?_ ?_ | (refine Need.mk ?_; first | with_reducible rfl | (show @Eq TC _ _; rfl) | omega | (simp only [adN_zero]; omega)) | exact OutS.whole rfl rfl | (refine OpK.call (keyOk_run ?_) rfl rfl rfl rfl hE ?_ rfl rfl ?_; rotate_left 1; focus ((repeat' (first | exact PsA.lit _ | exact PsA.ref rfl rfl | constructor)); all_goals (fail "ps"))) | (refine OpK.call (valOk_run ?_) rfl rfl rfl rfl hE ?_ rfl rfl ?_; rotate_left 1; focus ((repeat' (first | exact PsA.lit _ | exact PsA.ref rfl rfl | constructor)); all_goals (fail "ps"))) | refine ListO.go gOk hE ?_)
  all_goals (refine Need.mk ?_; first | rfl | (symm; apply decide_eq_true; omega) | (symm; apply decide_eq_false; omega) | (apply decide_eq_decide.2; omega) | (simp only [beq_iff_eq, Bool.beq_eq_decide_eq] at *; apply decide_eq_decide.2; omega) | (simp; omega))
end Go.Proofs.Ytlnlogflhagocaa
end

section

end

section
/- CmdDo in both packages. -/
namespace Go.Proofs.Ytlnlogflhagocaa
open Go Go.Tr
set_option maxRecDepth 100000
set_option maxHeartbeats 4000000
set_option linter.unusedVariables false
set_option linter.unusedSimpArgs false
theorem and_mask {x : Int} (h0 : 0 ≤ x) (h1 : x ≤ 9223372036854775807) : wr .i64 ((BitVec.ofInt IntKind.i64.bits x &&& BitVec.ofInt IntKind.i64.bits 65535).toNat) = x % 65536 := by
  obtain ⟨n, rfl⟩ := Int.eq_ofNat_of_zero_le h0
  have e : ((BitVec.ofInt IntKind.i64.bits (n : Int) &&& BitVec.ofInt IntKind.i64.bits 65535).toNat) = n % 65536 := by
    show ((BitVec.ofInt 64 (n : Int) &&& BitVec.ofInt 64 65535).toNat) = n % 65536
    rw [BitVec.toNat_and, BitVec.toNat_ofInt, BitVec.toNat_ofInt]
    have e1 : (((n : Int) % ((2 ^ 64 : Nat) : Int)).toNat) = n := by omega
    have e2 : (((65535 : Int) % ((2 ^ 64 : Nat) : Int)).toNat) = 2 ^ 16 - 1 := by decide
    rw [e1, e2, Nat.and_two_pow_sub_one_eq_mod]
  rw [e, wr_in (by omega)]
  omega
theorem sumOf_run (a b : Int) (ha : 0 ≤ a ∧ a ≤ 65535) (hb : 0 ≤ b ∧ b ≤ 65535) : RunT Try.prog 263 [ti a, ti b] [] [oi ((a + b) % 65536)] [] := by
  refine RunT.of_vc gOk Try.func263 rfl rfl (Nat.le_of_ble_eq_true rfl) (by repeat' (first | exact trivial | exact ⟨_, rfl, Nat.le_refl _⟩ | exact Nat.le_of_ble_eq_true rfl | refine And.intro ?_ ?_)) (Nat.le_of_ble_eq_true rfl) rfl (fun F hE => ?_)
  repeat' (first | exact trivial | refine BS.d (fun h => ?_) (fun h => ?_) | refine BS.e (fun h => ?_) (fun h => ?_) | refine BS.ne (fun h => ?_) (fun h => ?_) | refine BS.n ?_ | refine BS.s (fun h => ?_) (fun h => ?_) | refine And.intro ?_ ?_ | (refine Need.mk ?_; first | with_reducible rfl | (show @Eq TC _ _; rfl) | omega | (simp only [adN_zero]; omega)) | exact OutS.whole rfl rfl | refine ListO.go gOk hE ?_)
  all_goals first
    | exact Need.mk trivial
    | (refine Need.mk ?_; exact and_mask (by omega) (by omega))
    | trace_state
theorem l21Sum_run (a b : Int) (ha : 0 ≤ a ∧ a ≤ 65535) (hb : 0 ≤ b ∧ b ≤ 65535) : RunT Try.prog 257 [ti a, ti b] [] [oi ((a + b) % 65536)] [] := by
  have e1 : a.tmod 65536 = a := by rw [Int.tmod_eq_emod_of_nonneg ha.1]; omega
  have e2 : b.tmod 65536 = b := by rw [Int.tmod_eq_emod_of_nonneg hb.1]; omega
  have e3 : (a + b + 65536).tmod 65536 = (a + b) % 65536 := by rw [Int.tmod_eq_emod_of_nonneg (by omega)]; omega
  refine RunT.of_vc gOk Try.func257 rfl rfl (Nat.le_of_ble_eq_true rfl) (by repeat' (first | exact trivial | exact ⟨_, rfl, Nat.le_refl _⟩ | exact Nat.le_of_ble_eq_true rfl | refine And.intro ?_ ?_)) (Nat.le_of_ble_eq_true rfl) rfl (fun F hE => ?_)
  repeat' (first | exact trivial | refine BS.d (fun h => ?_) (fun h => ?_) | refine BS.e (fun h => ?_) (fun h => ?_) | refine BS.ne (fun h => ?_) (fun h => ?_) | refine BS.n ?_ | refine BS.s (fun h => ?_) (fun h => ?_) | refine And.intro ?_ ?_ | (refine Need.mk ?_; first | with_reducible rfl | (show @Eq TC _ _; rfl) | omega | (simp only [adN_zero]; omega)) | exact OutS.whole rfl rfl | refine ListO.go gOk hE ?_)
  all_goals (rw [e1, e2])
  all_goals first
    | (refine Need.mk ?_; omega)
    | (refine Need.mk ?_; exact e3)
    | trace_state
theorem mget_bd {xs : List KVT} (k : Int) (h : allP xs.length (pmo xs) = true) : 0 ≤ (mget xs k).1 ∧ (mget xs k).1 ≤ 65535 := by
  have hp : ∀ j, j < xs.length → pmo xs j := by
    intro j hj
    refine Classical.byContradiction fun hn => ?_
    rw [allP_false hj hn] at h; cases h
  unfold mget
  cases hq : firstP (pk xs k) 0 xs.length with
  | none => exact ⟨Int.le_refl _, by show (0 : Int) ≤ 65535; decide⟩
  | some j =>
    have hj : j < xs.length := by
      have : ∀ (m i j : Nat) (p : Nat → Bool), firstP p i m = some j → j < i + m := by
        intro m
        induction m with
        | zero => intro i j p h; cases h
        | succ m ih =>
          intro i j p h
          unfold firstP at h
          split at h
          · injection h with h; omega
          · have := ih _ _ _ h; omega
      have := this _ _ _ _ hq; omega
    exact (hp j hj).2.1
noncomputable def cdOk (xs : List KVT) (c : CmdT) : Bool := allP xs.length (pmo xs) && cmOk c
noncomputable def cdM (xs : List KVT) (c : CmdT) : List KVT := if cdOk xs c = true then (if c.1 = 2 then mput xs c.2.1 c.2.2 else if c.1 = 3 then mdel xs c.2.1 else if c.1 = 4 then mput xs c.2.1 (((mget xs c.2.1).1 + c.2.2) % 65536) else xs) else xs
noncomputable def cdR (xs : List KVT) (c : CmdT) : ResT := if cdOk xs c = true then (if c.1 = 2 then (false, 0) else if c.1 = 3 then (false, 0) else if c.1 = 4 then (true, ((mget xs c.2.1).1 + c.2.2) % 65536) else ((mget xs c.2.1).2, (mget xs c.2.1).1)) else (false, 0)
theorem cdM_le (xs : List KVT) (c : CmdT) : (cdM xs c).length ≤ xs.length + 1 := by
  unfold cdM
  have h1 := mput_le xs c.2.1 c.2.2
  have h2 := mput_le xs c.2.1 (((mget xs c.2.1).1 + c.2.2) % 65536)
  have h3 := mdel_le xs c.2.1
  split <;> (try split) <;> (try split) <;> (try split) <;> omega
theorem CmdDoI_run (e : Nat) (xs : List KVT) (c : CmdT) (hn : xs.length ≤ 1048576) : RunT Try.prog 230 [.one (.c (tKV e xs)), aCmd c] [] [.one (tKV 179 (cdM xs c)), oRes (cdR xs c)] [] := by
  have c1 := MapOkI_run e xs hn
  have c2 := CmdOkI_run c
  have c3 := CloneKV_run e xs hn
  unfold cdM cdR cdOk
  cases hm : allP xs.length (pmo xs) with
  | false =>
    rw [hm] at c1
    simp only [Bool.false_and, Bool.false_eq_true, if_false]
    generalize cmOk c = q at *
    refine RunT.of_vc gOk Try.func230 rfl rfl (Nat.le_of_ble_eq_true rfl) (by repeat' (first | exact trivial | exact ⟨_, rfl, Nat.le_refl _⟩ | exact Nat.le_of_ble_eq_true rfl | refine And.intro ?_ ?_)) (Nat.le_of_ble_eq_true rfl) rfl (fun F hE => ?_)
    repeat' (first | exact trivial | refine BS.d (fun h => ?_) (fun h => ?_) | refine BS.e (fun h => ?_) (fun h => ?_) | refine BS.ne (fun h => ?_) (fun h => ?_) | refine BS.n ?_ | refine BS.s (fun h => ?_) (fun h => ?_) | refine And.intro ?_ ?_ | (refine Need.mk ?_; first | with_reducible rfl | (show @Eq TC _ _; rfl) | omega | (simp only [adN_zero]; omega)) | exact OutS.whole rfl rfl | (refine OpK.call c1 rfl rfl rfl rfl hE ?_ rfl rfl ?_; focus ((repeat' (first | exact PsA.lit _ | exact PsA.ref rfl rfl | constructor)); all_goals (fail "ps"))) | (refine OpK.call c2 rfl rfl rfl rfl hE ?_ rfl rfl ?_; focus ((repeat' (first | exact PsA.lit _ | exact PsA.ref rfl rfl | constructor)); all_goals (fail "ps"))) | (refine OpK.call c3 rfl rfl rfl rfl hE ?_ rfl rfl ?_; focus ((repeat' (first | exact PsA.lit _ | exact PsA.ref rfl rfl | constructor)); all_goals (fail "ps"))) | refine ListO.go gOk hE ?_)
    all_goals first | exact Need.mk rfl | exact OutS.whole rfl rfl | (exfalso; simp_all; done) | trace_state
  | true =>
    rw [hm] at c1
    cases hq : cmOk c with
    | false =>
      rw [hq] at c2
      simp only [Bool.and_false, Bool.false_eq_true, if_false]
      refine RunT.of_vc gOk Try.func230 rfl rfl (Nat.le_of_ble_eq_true rfl) (by repeat' (first | exact trivial | exact ⟨_, rfl, Nat.le_refl _⟩ | exact Nat.le_of_ble_eq_true rfl | refine And.intro ?_ ?_)) (Nat.le_of_ble_eq_true rfl) rfl (fun F hE => ?_)
      repeat' (first | exact trivial | refine BS.d (fun h => ?_) (fun h => ?_) | refine BS.e (fun h => ?_) (fun h => ?_) | refine BS.ne (fun h => ?_) (fun h => ?_) | refine BS.n ?_ | refine BS.s (fun h => ?_) (fun h => ?_) | refine And.intro ?_ ?_ | (refine Need.mk ?_; first | with_reducible rfl | (show @Eq TC _ _; rfl) | omega | (simp only [adN_zero]; omega)) | exact OutS.whole rfl rfl | (refine OpK.call c1 rfl rfl rfl rfl hE ?_ rfl rfl ?_; focus ((repeat' (first | exact PsA.lit _ | exact PsA.ref rfl rfl | constructor)); all_goals (fail "ps"))) | (refine OpK.call c2 rfl rfl rfl rfl hE ?_ rfl rfl ?_; focus ((repeat' (first | exact PsA.lit _ | exact PsA.ref rfl rfl | constructor)); all_goals (fail "ps"))) | (refine OpK.call c3 rfl rfl rfl rfl hE ?_ rfl rfl ?_; focus ((repeat' (first | exact PsA.lit _ | exact PsA.ref rfl rfl | constructor)); all_goals (fail "ps"))) | refine ListO.go gOk hE ?_)
      all_goals first | exact Need.mk rfl | exact OutS.whole rfl rfl | (exfalso; simp_all; done) | trace_state
    | true =>
      rw [hq] at c2
      simp only [Bool.and_self, if_true]
      unfold cmOk at hq
      simp only [decide_eq_true_eq] at hq
      have hb := mget_bd c.2.1 hm
      have c4 := MapGetI_run e xs c.2.1 (by omega) hn
      have c5 := MapPutI_run e xs c.2.1 c.2.2 hn
      have c6 := MapDelI_run e xs c.2.1 hn
      have c7 := sumOf_run (mget xs c.2.1).1 c.2.2 hb (by omega)
      have c8 := MapPutI_run e xs c.2.1 (((mget xs c.2.1).1 + c.2.2) % 65536) hn
      generalize mput xs c.2.1 (((mget xs c.2.1).1 + c.2.2) % 65536) = r1 at *
      generalize ((mget xs c.2.1).1 + c.2.2) % 65536 = r2 at *
      generalize mput xs c.2.1 c.2.2 = r3 at *
      generalize mdel xs c.2.1 = r4 at *
      generalize (mget xs c.2.1).1 = r5 at *
      generalize (mget xs c.2.1).2 = r6 at *
      by_cases k2 : c.1 = 2
      · simp only [if_pos k2]
        refine RunT.of_vc gOk Try.func230 rfl rfl (Nat.le_of_ble_eq_true rfl) (by repeat' (first | exact trivial | exact ⟨_, rfl, Nat.le_refl _⟩ | exact Nat.le_of_ble_eq_true rfl | refine And.intro ?_ ?_)) (Nat.le_of_ble_eq_true rfl) rfl (fun F hE => ?_)
        repeat' (first | exact trivial | refine BS.d (fun h => ?_) (fun h => ?_) | refine BS.e (fun h => ?_) (fun h => ?_) | refine BS.ne (fun h => ?_) (fun h => ?_) | refine BS.n ?_ | refine BS.s (fun h => ?_) (fun h => ?_) | refine And.intro ?_ ?_ | (refine Need.mk ?_; first | with_reducible rfl | (show @Eq TC _ _; rfl) | omega | (simp only [adN_zero]; omega)) | exact OutS.whole rfl rfl | (refine OpK.call c1 rfl rfl rfl rfl hE ?_ rfl rfl ?_; focus ((repeat' (first | exact PsA.lit _ | exact PsA.ref rfl rfl | constructor)); all_goals (fail "ps"))) | (refine OpK.call c2 rfl rfl rfl rfl hE ?_ rfl rfl ?_; focus ((repeat' (first | exact PsA.lit _ | exact PsA.ref rfl rfl | constructor)); all_goals (fail "ps"))) | (refine OpK.call c3 rfl rfl rfl rfl hE ?_ rfl rfl ?_; focus ((repeat' (first | exact PsA.lit _ | exact PsA.ref rfl rfl | constructor)); all_goals (fail "ps"))) | (refine OpK.call c4 rfl rfl rfl rfl hE ?_ rfl rfl ?_; focus ((repeat' (first | exact PsA.lit _ | exact PsA.ref rfl rfl | constructor)); all_goals (fail "ps"))) | (refine OpK.call c5 rfl rfl rfl rfl hE ?_ rfl rfl ?_; focus ((repeat' (first | exact PsA.lit _ | exact PsA.ref rfl rfl | constructor)); all_goals (fail "ps"))) | (refine OpK.call c6 rfl rfl rfl rfl hE ?_ rfl rfl ?_; focus ((repeat' (first | exact PsA.lit _ | exact PsA.ref rfl rfl | constructor)); all_goals (fail "ps"))) | refine ListO.go gOk hE ?_)
        all_goals first | (exfalso; omega) | exact Need.mk rfl | exact OutS.whole rfl rfl | trace_state
      · by_cases k3 : c.1 = 3
        · simp only [if_neg k2, if_pos k3]
          refine RunT.of_vc gOk Try.func230 rfl rfl (Nat.le_of_ble_eq_true rfl) (by repeat' (first | exact trivial | exact ⟨_, rfl, Nat.le_refl _⟩ | exact Nat.le_of_ble_eq_true rfl | refine And.intro ?_ ?_)) (Nat.le_of_ble_eq_true rfl) rfl (fun F hE => ?_)
          repeat' (first | exact trivial | refine BS.d (fun h => ?_) (fun h => ?_) | refine BS.e (fun h => ?_) (fun h => ?_) | refine BS.ne (fun h => ?_) (fun h => ?_) | refine BS.n ?_ | refine BS.s (fun h => ?_) (fun h => ?_) | refine And.intro ?_ ?_ | (refine Need.mk ?_; first | with_reducible rfl | (show @Eq TC _ _; rfl) | omega | (simp only [adN_zero]; omega)) | exact OutS.whole rfl rfl | (refine OpK.call c1 rfl rfl rfl rfl hE ?_ rfl rfl ?_; focus ((repeat' (first | exact PsA.lit _ | exact PsA.ref rfl rfl | constructor)); all_goals (fail "ps"))) | (refine OpK.call c2 rfl rfl rfl rfl hE ?_ rfl rfl ?_; focus ((repeat' (first | exact PsA.lit _ | exact PsA.ref rfl rfl | constructor)); all_goals (fail "ps"))) | (refine OpK.call c3 rfl rfl rfl rfl hE ?_ rfl rfl ?_; focus ((repeat' (first | exact PsA.lit _ | exact PsA.ref rfl rfl | constructor)); all_goals (fail "ps"))) | (refine OpK.call c4 rfl rfl rfl rfl hE ?_ rfl rfl ?_; focus ((repeat' (first | exact PsA.lit _ | exact PsA.ref rfl rfl | constructor)); all_goals (fail "ps"))) | (refine OpK.call c5 rfl rfl rfl rfl hE ?_ rfl rfl ?_; focus ((repeat' (first | exact PsA.lit _ | exact PsA.ref rfl rfl | constructor)); all_goals (fail "ps"))) | (refine OpK.call c6 rfl rfl rfl rfl hE ?_ rfl rfl ?_; focus ((repeat' (first | exact PsA.lit _ | exact PsA.ref rfl rfl | constructor)); all_goals (fail "ps"))) | refine ListO.go gOk hE ?_)
          all_goals first | (exfalso; omega) | exact Need.mk rfl | exact OutS.whole rfl rfl | trace_state
        · by_cases k4 : c.1 = 4
          · simp only [if_neg k2, if_neg k3, if_pos k4]
            refine RunT.of_vc gOk Try.func230 rfl rfl (Nat.le_of_ble_eq_true rfl) (by repeat' (first | exact trivial | exact ⟨_, rfl, Nat.le_refl _⟩ | exact Nat.le_of_ble_eq_true rfl | refine And.intro ?_ ?_)) (Nat.le_of_ble_eq_true rfl) rfl (fun F hE => ?_)
            repeat' (first | exact trivial | refine BS.d (fun h => ?_) (fun h => ?_) | refine BS.e (fun h => ?_) (fun h => ?_) | refine BS.ne (fun h => ?_) (fun h => ?_) | refine BS.n ?_ | refine BS.s (fun h => ?_) (fun h => ?_) | refine And.intro ?_ ?_ | (refine Need.mk ?_; first | with_reducible rfl | (show @Eq TC _ _; rfl) | omega | (simp only [adN_zero]; omega)) | exact OutS.whole rfl rfl | (refine OpK.call c1 rfl rfl rfl rfl hE ?_ rfl rfl ?_; focus ((repeat' (first | exact PsA.lit _ | exact PsA.ref rfl rfl | constructor)); all_goals (fail "ps"))) | (refine OpK.call c2 rfl rfl rfl rfl hE ?_ rfl rfl ?_; focus ((repeat' (first | exact PsA.lit _ | exact PsA.ref rfl rfl | constructor)); all_goals (fail "ps"))) | (refine OpK.call c3 rfl rfl rfl rfl hE ?_ rfl rfl ?_; focus ((repeat' (first | exact PsA.lit _ | exact PsA.ref rfl rfl | constructor)); all_goals (fail "ps"))) | (refine OpK.call c4 rfl rfl rfl rfl hE ?_ rfl rfl ?_; focus ((repeat' (first | exact PsA.lit _ | exact PsA.ref rfl rfl | constructor)); all_goals (fail "ps"))) | (refine OpK.call c5 rfl rfl rfl rfl hE ?_ rfl rfl ?_; focus ((repeat' (first | exact PsA.lit _ | exact PsA.ref rfl rfl | constructor)); all_goals (fail "ps"))) | (refine OpK.call c6 rfl rfl rfl rfl hE ?_ rfl rfl ?_; focus ((repeat' (first | exact PsA.lit _ | exact PsA.ref rfl rfl | constructor)); all_goals (fail "ps"))) | (refine OpK.call c7 rfl rfl rfl rfl hE ?_ rfl rfl ?_; focus ((repeat' (first | exact PsA.lit _ | exact PsA.ref rfl rfl | constructor)); all_goals (fail "ps"))) | (refine OpK.call c8 rfl rfl rfl rfl hE ?_ rfl rfl ?_; focus ((repeat' (first | exact PsA.lit _ | exact PsA.ref rfl rfl | constructor)); all_goals (fail "ps"))) | refine ListO.go gOk hE ?_)
            all_goals first | (exfalso; omega) | exact Need.mk rfl | exact OutS.whole rfl rfl | trace_state
          · simp only [if_neg k2, if_neg k3, if_neg k4]
            refine RunT.of_vc gOk Try.func230 rfl rfl (Nat.le_of_ble_eq_true rfl) (by repeat' (first | exact trivial | exact ⟨_, rfl, Nat.le_refl _⟩ | exact Nat.le_of_ble_eq_true rfl | refine And.intro ?_ ?_)) (Nat.le_of_ble_eq_true rfl) rfl (fun F hE => ?_)
            repeat' (first | exact trivial | refine BS.d (fun h => ?_) (fun h => ?_) | refine BS.e (fun h => ?_) (fun h => ?_) | refine BS.ne (fun h => ?_) (fun h => ?_) | refine BS.n ?_ | refine BS.s (fun h => ?_) (fun h => ?_) | refine And.intro ?_ ?_ | (refine Need.mk ?_; first | with_reducible rfl | (show @Eq TC _ _; rfl) | omega | (simp only [adN_zero]; omega)) | exact OutS.whole rfl rfl | (refine OpK.call c1 rfl rfl rfl rfl hE ?_ rfl rfl ?_; focus ((repeat' (first | exact PsA.lit _ | exact PsA.ref rfl rfl | constructor)); all_goals (fail "ps"))) | (refine OpK.call c2 rfl rfl rfl rfl hE ?_ rfl rfl ?_; focus ((repeat' (first | exact PsA.lit _ | exact PsA.ref rfl rfl | constructor)); all_goals (fail "ps"))) | (refine OpK.call c3 rfl rfl rfl rfl hE ?_ rfl rfl ?_; focus ((repeat' (first | exact PsA.lit _ | exact PsA.ref rfl rfl | constructor)); all_goals (fail "ps"))) | (refine OpK.call c4 rfl rfl rfl rfl hE ?_ rfl rfl ?_; focus ((repeat' (first | exact PsA.lit _ | exact PsA.ref rfl rfl | constructor)); all_goals (fail "ps"))) | (refine OpK.call c5 rfl rfl rfl rfl hE ?_ rfl rfl ?_; focus ((repeat' (first | exact PsA.lit _ | exact PsA.ref rfl rfl | constructor)); all_goals (fail "ps"))) | (refine OpK.call c6 rfl rfl rfl rfl hE ?_ rfl rfl ?_; focus ((repeat' (first | exact PsA.lit _ | exact PsA.ref rfl rfl | constructor)); all_goals (fail "ps"))) | (refine OpK.call c7 rfl rfl rfl rfl hE ?_ rfl rfl ?_; focus ((repeat' (first | exact PsA.lit _ | exact PsA.ref rfl rfl | constructor)); all_goals (fail "ps"))) | (refine OpK.call c8 rfl rfl rfl rfl hE ?_ rfl rfl ?_; focus ((repeat' (first | exact PsA.lit _ | exact PsA.ref rfl rfl | constructor)); all_goals (fail "ps"))) | refine ListO.go gOk hE ?_)
            all_goals first | (exfalso; omega) | exact Need.mk rfl | exact OutS.whole rfl rfl | trace_state
end Go.Proofs.Ytlnlogflhagocaa
end
