import Derived.Test.YtbfkdbbgbdihdabVN
import Derived.Test.YtbfkdbbgbdihdabTy
namespace Go.Proofs.Ytbfkdbbgbdihdab
open Go Go.Tr
set_option maxRecDepth 100000
set_option linter.unusedVariables false
set_option linter.unusedSimpArgs false
def encI (x : Int) (_ : Nat) : TC := .lit (.int .i64 x)
def decI : List Value → Option Int
  | [.int .i64 x] => some x
  | _ => none
def tI (xs : List Int) : TC := .sl 3 1 Int encI decI 0 xs
def encL (x : List Int) (_ : Nat) : TC := tI x
def decL : List Value → Option (List Int) := fun _ => none
def tSL (e : Nat) (xs : List (List Int)) : TC := .sl e 1 (List Int) encL decL [] xs
def gT : Gt := ⟨tyT, 4, fun e =>
  if e = 3 then some ⟨Int, encI, decI, 0⟩
  else if e = 52 then some ⟨List Int, encL, decL, []⟩
  else none⟩
theorem gOk : GOk Try.prog gT := ⟨tyOk, Try.underlying4⟩
def ti (x : Int) : TAg := .one (.c (.lit (.int .i64 x)))
def tb (x : Bool) : TAg := .one (.c (.lit (.bool x)))
def oi (x : Int) : TAr := .one (.lit (.int .i64 x))
def ob (x : Bool) : TAr := .one (.lit (.bool x))
abbrev vi (x : Int) : V := .a (.lit (.int .i64 x))
abbrev vb (x : Bool) : V := .a (.lit (.bool x))
abbrev vr (κ n : Nat) : V := .a (.ref κ 0 n)
abbrev rI (o : RO) (f : Bool) (xs : List Int) : TRoot := .ty o f 3 1 Int encI decI 0 xs
abbrev rSL (o : RO) (f : Bool) (e : Nat) (xs : List (List Int)) : TRoot := .ty o f e 1 (List Int) encL decL [] xs
theorem drop_cons {α : Type} {xs : List α} {i : Nat} (d : α) (h : i < xs.length) : xs.drop i = xs.getD i d :: xs.drop (i + 1) := by
  rw [List.drop_eq_getElem_cons h]; simp [List.getD, h]
end Go.Proofs.Ytbfkdbbgbdihdab
