import Derived.Test.YtbfkdbbgbdihdabDoorVS
import Derived.Test.YtbfkdbbgbdihdabDoorTy
namespace Go.Proofs.YtbfkdbbgbdihdabDoor
open Go Go.Tr
set_option maxRecDepth 100000
set_option linter.unusedVariables false
set_option linter.unusedSimpArgs false
def encI (x : Int) (_ : Nat) : TC := .lit (.int .i64 x)
def decI : List Value → Option Int
  | [.int .i64 x] => some x
  | _ => none
def tI (xs : List Int) : TC := .sl 3 1 Int encI decI 0 xs
def encL (x : List Int) (_ : Nat) : TC := tI x
def decL : List Value → Option (List Int) := fun _ => none
def tSL (e : Nat) (xs : List (List Int)) : TC := .sl e 1 (List Int) encL decL [] xs
abbrev Row := Int × Int
def encR (x : Row) : Nat → TC
  | 0 => .lit (.int .i64 x.1)
  | _ => .lit (.int .i64 x.2)
def decR : List Value → Option Row
  | [.int .i64 x, .int .i64 y] => some (x, y)
  | _ => none
def tR (e : Nat) (xs : List Row) : TC := .sl e 2 Row encR decR (0, 0) xs
def encLL (e : Nat) (x : List Row) (_ : Nat) : TC := tR e x
def decLL : List Value → Option (List Row) := fun _ => none
def tLL (e' e : Nat) (xs : List (List Row)) : TC := .sl e 1 (List Row) (encLL e') decLL [] xs
abbrev rR (o : RO) (f : Bool) (e : Nat) (xs : List Row) : TRoot := .ty o f e 2 Row encR decR (0, 0) xs
abbrev rLL (o : RO) (f : Bool) (e' e : Nat) (xs : List (List Row)) : TRoot := .ty o f e 1 (List Row) (encLL e') decLL [] xs
abbrev PinT := Bool × Int × Bool × Int
def encPin (x : PinT) : Nat → TC
  | 0 => .lit (.bool x.1)
  | 1 => .lit (.int .i64 x.2.1)
  | 2 => .lit (.bool x.2.2.1)
  | _ => .lit (.int .i64 x.2.2.2)
def decPin : List Value → Option PinT
  | [.bool x0, .int .i64 x1, .bool x2, .int .i64 x3] => some (x0, x1, x2, x3)
  | _ => none
abbrev zPin : PinT := (false, 0, false, 0)
def tPin (e : Nat) (xs : List PinT) : TC := .sl e 4 PinT encPin decPin zPin xs
abbrev rPin (o : RO) (f : Bool) (e : Nat) (xs : List PinT) : TRoot := .ty o f e 4 PinT encPin decPin zPin xs
abbrev aPin (x : PinT) : TAg := .agg [.c (.lit (.bool (x.1))), .c (.lit (.int .i64 x.2.1)), .c (.lit (.bool x.2.2.1)), .c (.lit (.int .i64 x.2.2.2))]
abbrev oPin (x : PinT) : TAr := .agg [.lit (.bool (x.1)), .lit (.int .i64 x.2.1), .lit (.bool x.2.2.1), .lit (.int .i64 x.2.2.2)]
abbrev vPin (x : PinT) : List Value := [Value.bool (x.1), Value.int .i64 (x.2.1), Value.bool (x.2.2.1), Value.int .i64 (x.2.2.2)]
def gT : Gt := ⟨tyT, 4, fun e =>
  if e = 3 then some ⟨Int, encI, decI, 0⟩
  else if e = 9999999 then some ⟨List Int, encL, decL, []⟩
  else if e = 9999999 then some ⟨Row, encR, decR, (0, 0)⟩
  else if e = 9999999 then some ⟨List Row, encLL 9999999, decLL, []⟩
  else if e = 9999999 then some ⟨PinT, encPin, decPin, zPin⟩
  else none⟩
theorem gOk : GOk Tryd.prog gT := ⟨tyOk, Tryd.underlying4⟩
def ti (x : Int) : TAg := .one (.c (.lit (.int .i64 x)))
def tb (x : Bool) : TAg := .one (.c (.lit (.bool x)))
def oi (x : Int) : TAr := .one (.lit (.int .i64 x))
def ob (x : Bool) : TAr := .one (.lit (.bool x))
abbrev vi (x : Int) : V := .a (.lit (.int .i64 x))
abbrev vb (x : Bool) : V := .a (.lit (.bool x))
abbrev vr (κ n : Nat) : V := .a (.ref κ 0 n)
abbrev rI (o : RO) (f : Bool) (xs : List Int) : TRoot := .ty o f 3 1 Int encI decI 0 xs
abbrev rSL (o : RO) (f : Bool) (e : Nat) (xs : List (List Int)) : TRoot := .ty o f e 1 (List Int) encL decL [] xs
theorem drop_cons {α : Type} {xs : List α} {i : Nat} (d : α) (h : i < xs.length) : xs.drop i = xs.getD i d :: xs.drop (i + 1) := by
  rw [List.drop_eq_getElem_cons h]; simp [List.getD, h]
end Go.Proofs.YtbfkdbbgbdihdabDoor
