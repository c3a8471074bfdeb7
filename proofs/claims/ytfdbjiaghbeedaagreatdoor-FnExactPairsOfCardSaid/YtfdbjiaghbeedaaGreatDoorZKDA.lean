import Derived.Test.YtfdbjiaghbeedaaGreatDoorVS
import Derived.Test.YtfdbjiaghbeedaaGreatDoorTy
import Derived.Test.YtfdbjiaghbeedaaGreatDoorVU
import Derived.Test.YtfdbjiaghbeedaaGreatDoorVQ
import Derived.Test.YtfdbjiaghbeedaaGreatDoorVP
import Derived.Test.YtfdbjiaghbeedaaGreatDoorUP
import Derived.Test.YtfdbjiaghbeedaaGreatDoorVZ
import Derived.Below
import Derived.Test.YtfdbjiaghbeedaaGreatDoorChecked
import Derived.WalkKit
import Derived.BigQuiet
import Derived.Deep.QuietTactic
import Derived.IntWalk
import Derived.Handy
import Derived.Lib.Hide
import Derived.Laws.BytesArg
import Derived.Laws.BitsLemmas
section
namespace Go.Proofs.YtfdbjiaghbeedaaGreatDoor
open Go Go.Tr
set_option maxRecDepth 100000
set_option linter.unusedVariables false
set_option linter.unusedSimpArgs false
def encI (x : Int) (_ : Nat) : TC := .lit (.int .i64 x)
def decI : List Value → Option Int
  | [.int .i64 x] => some x
  | _ => none
def tI (xs : List Int) : TC := .sl 3 1 Int encI decI 0 xs
def encL (x : List Int) (_ : Nat) : TC := tI x
def decL : List Value → Option (List Int) := fun _ => none
def tSL (e : Nat) (xs : List (List Int)) : TC := .sl e 1 (List Int) encL decL [] xs
abbrev Row := Int × Int
def encR (x : Row) : Nat → TC
  | 0 => .lit (.int .i64 x.1)
  | _ => .lit (.int .i64 x.2)
def decR : List Value → Option Row
  | [.int .i64 x, .int .i64 y] => some (x, y)
  | _ => none
def tR (e : Nat) (xs : List Row) : TC := .sl e 2 Row encR decR (0, 0) xs
def encLL (e : Nat) (x : List Row) (_ : Nat) : TC := tR e x
def decLL : List Value → Option (List Row) := fun _ => none
def tLL (e' e : Nat) (xs : List (List Row)) : TC := .sl e 1 (List Row) (encLL e') decLL [] xs
abbrev rR (o : RO) (f : Bool) (e : Nat) (xs : List Row) : TRoot := .ty o f e 2 Row encR decR (0, 0) xs
abbrev rLL (o : RO) (f : Bool) (e' e : Nat) (xs : List (List Row)) : TRoot := .ty o f e 1 (List Row) (encLL e') decLL [] xs
abbrev PinT := Bool × Int × Bool × Int
def encPin (x : PinT) : Nat → TC
  | 0 => .lit (.bool x.1)
  | 1 => .lit (.int .i64 x.2.1)
  | 2 => .lit (.bool x.2.2.1)
  | _ => .lit (.int .i64 x.2.2.2)
def decPin : List Value → Option PinT
  | [.bool x0, .int .i64 x1, .bool x2, .int .i64 x3] => some (x0, x1, x2, x3)
  | _ => none
abbrev zPin : PinT := (false, 0, false, 0)
def tPin (e : Nat) (xs : List PinT) : TC := .sl e 4 PinT encPin decPin zPin xs
abbrev rPin (o : RO) (f : Bool) (e : Nat) (xs : List PinT) : TRoot := .ty o f e 4 PinT encPin decPin zPin xs
abbrev aPin (x : PinT) : TAg := .agg [.c (.lit (.bool (x.1))), .c (.lit (.int .i64 x.2.1)), .c (.lit (.bool x.2.2.1)), .c (.lit (.int .i64 x.2.2.2))]
abbrev oPin (x : PinT) : TAr := .agg [.lit (.bool (x.1)), .lit (.int .i64 x.2.1), .lit (.bool x.2.2.1), .lit (.int .i64 x.2.2.2)]
abbrev vPin (x : PinT) : List Value := [Value.bool (x.1), Value.int .i64 (x.2.1), Value.bool (x.2.2.1), Value.int .i64 (x.2.2.2)]
abbrev OpT := Int × Int × Int × Int
def encOp (x : OpT) : Nat → TC
  | 0 => .lit (.int .i64 x.1)
  | 1 => .lit (.int .i64 x.2.1)
  | 2 => .lit (.int .i64 x.2.2.1)
  | _ => .lit (.int .i64 x.2.2.2)
def decOp : List Value → Option OpT
  | [.int .i64 x0, .int .i64 x1, .int .i64 x2, .int .i64 x3] => some (x0, x1, x2, x3)
  | _ => none
abbrev zOp : OpT := (0, 0, 0, 0)
def tOp (e : Nat) (xs : List OpT) : TC := .sl e 4 OpT encOp decOp zOp xs
abbrev rOp (o : RO) (f : Bool) (e : Nat) (xs : List OpT) : TRoot := .ty o f e 4 OpT encOp decOp zOp xs
abbrev aOp (x : OpT) : TAg := .agg [.c (.lit (.int .i64 x.1)), .c (.lit (.int .i64 x.2.1)), .c (.lit (.int .i64 x.2.2.1)), .c (.lit (.int .i64 x.2.2.2))]
abbrev oOp (x : OpT) : TAr := .agg [.lit (.int .i64 x.1), .lit (.int .i64 x.2.1), .lit (.int .i64 x.2.2.1), .lit (.int .i64 x.2.2.2)]
abbrev SubT := Int × Int × Int × Int × Int × Int × Int × Int × Int × Bool
def encSub (x : SubT) : Nat → TC
  | 0 => .lit (.int .i64 x.1)
  | 1 => .lit (.int .i64 x.2.1)
  | 2 => .lit (.int .i64 x.2.2.1)
  | 3 => .lit (.int .i64 x.2.2.2.1)
  | 4 => .lit (.int .i64 x.2.2.2.2.1)
  | 5 => .lit (.int .i64 x.2.2.2.2.2.1)
  | 6 => .lit (.int .i64 x.2.2.2.2.2.2.1)
  | 7 => .lit (.int .i64 x.2.2.2.2.2.2.2.1)
  | 8 => .lit (.int .i64 x.2.2.2.2.2.2.2.2.1)
  | _ => .lit (.bool x.2.2.2.2.2.2.2.2.2)
def decSub : List Value → Option SubT
  | [.int .i64 x0, .int .i64 x1, .int .i64 x2, .int .i64 x3, .int .i64 x4, .int .i64 x5, .int .i64 x6, .int .i64 x7, .int .i64 x8, .bool x9] => some (x0, x1, x2, x3, x4, x5, x6, x7, x8, x9)
  | _ => none
abbrev zSub : SubT := (0, 0, 0, 0, 0, 0, 0, 0, 0, false)
def tSub (e : Nat) (xs : List SubT) : TC := .sl e 10 SubT encSub decSub zSub xs
abbrev rSub (o : RO) (f : Bool) (e : Nat) (xs : List SubT) : TRoot := .ty o f e 10 SubT encSub decSub zSub xs
abbrev aSub (x : SubT) : TAg := .agg [.c (.lit (.int .i64 x.1)), .c (.lit (.int .i64 x.2.1)), .c (.lit (.int .i64 x.2.2.1)), .c (.lit (.int .i64 x.2.2.2.1)), .c (.lit (.int .i64 x.2.2.2.2.1)), .c (.lit (.int .i64 x.2.2.2.2.2.1)), .c (.lit (.int .i64 x.2.2.2.2.2.2.1)), .c (.lit (.int .i64 x.2.2.2.2.2.2.2.1)), .c (.lit (.int .i64 x.2.2.2.2.2.2.2.2.1)), .c (.lit (.bool x.2.2.2.2.2.2.2.2.2))]
abbrev oSub (x : SubT) : TAr := .agg [.lit (.int .i64 x.1), .lit (.int .i64 x.2.1), .lit (.int .i64 x.2.2.1), .lit (.int .i64 x.2.2.2.1), .lit (.int .i64 x.2.2.2.2.1), .lit (.int .i64 x.2.2.2.2.2.1), .lit (.int .i64 x.2.2.2.2.2.2.1), .lit (.int .i64 x.2.2.2.2.2.2.2.1), .lit (.int .i64 x.2.2.2.2.2.2.2.2.1), .lit (.bool x.2.2.2.2.2.2.2.2.2)]
abbrev JobT := Bool × Int × Int × Int × Int × Int × Int × Int × Int × Int × Int × Int × Int × Int × Int × Int × Bool × Int × Int × Int × Int
def encJob (x : JobT) : Nat → TC
  | 0 => .lit (.bool x.1)
  | 1 => .lit (.int .i64 x.2.1)
  | 2 => .lit (.int .i64 x.2.2.1)
  | 3 => .lit (.int .i64 x.2.2.2.1)
  | 4 => .lit (.int .i64 x.2.2.2.2.1)
  | 5 => .lit (.int .i64 x.2.2.2.2.2.1)
  | 6 => .lit (.int .i64 x.2.2.2.2.2.2.1)
  | 7 => .lit (.int .i64 x.2.2.2.2.2.2.2.1)
  | 8 => .lit (.int .i64 x.2.2.2.2.2.2.2.2.1)
  | 9 => .lit (.int .i64 x.2.2.2.2.2.2.2.2.2.1)
  | 10 => .lit (.int .i64 x.2.2.2.2.2.2.2.2.2.2.1)
  | 11 => .lit (.int .i64 x.2.2.2.2.2.2.2.2.2.2.2.1)
  | 12 => .lit (.int .i64 x.2.2.2.2.2.2.2.2.2.2.2.2.1)
  | 13 => .lit (.int .i64 x.2.2.2.2.2.2.2.2.2.2.2.2.2.1)
  | 14 => .lit (.int .i64 x.2.2.2.2.2.2.2.2.2.2.2.2.2.2.1)
  | 15 => .lit (.int .i64 x.2.2.2.2.2.2.2.2.2.2.2.2.2.2.2.1)
  | 16 => .lit (.bool x.2.2.2.2.2.2.2.2.2.2.2.2.2.2.2.2.1)
  | 17 => .lit (.int .i64 x.2.2.2.2.2.2.2.2.2.2.2.2.2.2.2.2.2.1)
  | 18 => .lit (.int .i64 x.2.2.2.2.2.2.2.2.2.2.2.2.2.2.2.2.2.2.1)
  | 19 => .lit (.int .i64 x.2.2.2.2.2.2.2.2.2.2.2.2.2.2.2.2.2.2.2.1)
  | _ => .lit (.int .i64 x.2.2.2.2.2.2.2.2.2.2.2.2.2.2.2.2.2.2.2.2)
def decJob : List Value → Option JobT
  | [.bool x0, .int .i64 x1, .int .i64 x2, .int .i64 x3, .int .i64 x4, .int .i64 x5, .int .i64 x6, .int .i64 x7, .int .i64 x8, .int .i64 x9, .int .i64 x10, .int .i64 x11, .int .i64 x12, .int .i64 x13, .int .i64 x14, .int .i64 x15, .bool x16, .int .i64 x17, .int .i64 x18, .int .i64 x19, .int .i64 x20] => some (x0, x1, x2, x3, x4, x5, x6, x7, x8, x9, x10, x11, x12, x13, x14, x15, x16, x17, x18, x19, x20)
  | _ => none
abbrev zJob : JobT := (false, 0, 0, 0, 0, 0, 0, 0, 0, 0, 0, 0, 0, 0, 0, 0, false, 0, 0, 0, 0)
def tJob (e : Nat) (xs : List JobT) : TC := .sl e 21 JobT encJob decJob zJob xs
abbrev rJob (o : RO) (f : Bool) (e : Nat) (xs : List JobT) : TRoot := .ty o f e 21 JobT encJob decJob zJob xs
abbrev aJob (x : JobT) : TAg := .agg [.c (.lit (.bool x.1)), .c (.lit (.int .i64 x.2.1)), .c (.lit (.int .i64 x.2.2.1)), .c (.lit (.int .i64 x.2.2.2.1)), .c (.lit (.int .i64 x.2.2.2.2.1)), .c (.lit (.int .i64 x.2.2.2.2.2.1)), .c (.lit (.int .i64 x.2.2.2.2.2.2.1)), .c (.lit (.int .i64 x.2.2.2.2.2.2.2.1)), .c (.lit (.int .i64 x.2.2.2.2.2.2.2.2.1)), .c (.lit (.int .i64 x.2.2.2.2.2.2.2.2.2.1)), .c (.lit (.int .i64 x.2.2.2.2.2.2.2.2.2.2.1)), .c (.lit (.int .i64 x.2.2.2.2.2.2.2.2.2.2.2.1)), .c (.lit (.int .i64 x.2.2.2.2.2.2.2.2.2.2.2.2.1)), .c (.lit (.int .i64 x.2.2.2.2.2.2.2.2.2.2.2.2.2.1)), .c (.lit (.int .i64 x.2.2.2.2.2.2.2.2.2.2.2.2.2.2.1)), .c (.lit (.int .i64 x.2.2.2.2.2.2.2.2.2.2.2.2.2.2.2.1)), .c (.lit (.bool x.2.2.2.2.2.2.2.2.2.2.2.2.2.2.2.2.1)), .c (.lit (.int .i64 x.2.2.2.2.2.2.2.2.2.2.2.2.2.2.2.2.2.1)), .c (.lit (.int .i64 x.2.2.2.2.2.2.2.2.2.2.2.2.2.2.2.2.2.2.1)), .c (.lit (.int .i64 x.2.2.2.2.2.2.2.2.2.2.2.2.2.2.2.2.2.2.2.1)), .c (.lit (.int .i64 x.2.2.2.2.2.2.2.2.2.2.2.2.2.2.2.2.2.2.2.2))]
abbrev oJob (x : JobT) : TAr := .agg [.lit (.bool x.1), .lit (.int .i64 x.2.1), .lit (.int .i64 x.2.2.1), .lit (.int .i64 x.2.2.2.1), .lit (.int .i64 x.2.2.2.2.1), .lit (.int .i64 x.2.2.2.2.2.1), .lit (.int .i64 x.2.2.2.2.2.2.1), .lit (.int .i64 x.2.2.2.2.2.2.2.1), .lit (.int .i64 x.2.2.2.2.2.2.2.2.1), .lit (.int .i64 x.2.2.2.2.2.2.2.2.2.1), .lit (.int .i64 x.2.2.2.2.2.2.2.2.2.2.1), .lit (.int .i64 x.2.2.2.2.2.2.2.2.2.2.2.1), .lit (.int .i64 x.2.2.2.2.2.2.2.2.2.2.2.2.1), .lit (.int .i64 x.2.2.2.2.2.2.2.2.2.2.2.2.2.1), .lit (.int .i64 x.2.2.2.2.2.2.2.2.2.2.2.2.2.2.1), .lit (.int .i64 x.2.2.2.2.2.2.2.2.2.2.2.2.2.2.2.1), .lit (.bool x.2.2.2.2.2.2.2.2.2.2.2.2.2.2.2.2.1), .lit (.int .i64 x.2.2.2.2.2.2.2.2.2.2.2.2.2.2.2.2.2.1), .lit (.int .i64 x.2.2.2.2.2.2.2.2.2.2.2.2.2.2.2.2.2.2.1), .lit (.int .i64 x.2.2.2.2.2.2.2.2.2.2.2.2.2.2.2.2.2.2.2.1), .lit (.int .i64 x.2.2.2.2.2.2.2.2.2.2.2.2.2.2.2.2.2.2.2.2)]
abbrev EvT := Int × Int × Int × Int × Int × Int × Int
def encEv (x : EvT) : Nat → TC
  | 0 => .lit (.int .i64 x.1)
  | 1 => .lit (.int .i64 x.2.1)
  | 2 => .lit (.int .i64 x.2.2.1)
  | 3 => .lit (.int .i64 x.2.2.2.1)
  | 4 => .lit (.int .i64 x.2.2.2.2.1)
  | 5 => .lit (.int .i64 x.2.2.2.2.2.1)
  | _ => .lit (.int .i64 x.2.2.2.2.2.2)
def decEv : List Value → Option EvT
  | [.int .i64 x0, .int .i64 x1, .int .i64 x2, .int .i64 x3, .int .i64 x4, .int .i64 x5, .int .i64 x6] => some (x0, x1, x2, x3, x4, x5, x6)
  | _ => none
abbrev zEv : EvT := (0, 0, 0, 0, 0, 0, 0)
def tEv (e : Nat) (xs : List EvT) : TC := .sl e 7 EvT encEv decEv zEv xs
abbrev rEv (o : RO) (f : Bool) (e : Nat) (xs : List EvT) : TRoot := .ty o f e 7 EvT encEv decEv zEv xs
abbrev aEv (x : EvT) : TAg := .agg [.c (.lit (.int .i64 x.1)), .c (.lit (.int .i64 x.2.1)), .c (.lit (.int .i64 x.2.2.1)), .c (.lit (.int .i64 x.2.2.2.1)), .c (.lit (.int .i64 x.2.2.2.2.1)), .c (.lit (.int .i64 x.2.2.2.2.2.1)), .c (.lit (.int .i64 x.2.2.2.2.2.2))]
abbrev oEv (x : EvT) : TAr := .agg [.lit (.int .i64 x.1), .lit (.int .i64 x.2.1), .lit (.int .i64 x.2.2.1), .lit (.int .i64 x.2.2.2.1), .lit (.int .i64 x.2.2.2.2.1), .lit (.int .i64 x.2.2.2.2.2.1), .lit (.int .i64 x.2.2.2.2.2.2)]
def encQ (e : Nat) (x : List OpT) (_ : Nat) : TC := tOp e x
def decQ : List Value → Option (List OpT) := fun _ => none
def tQ (e' e : Nat) (xs : List (List OpT)) : TC := .sl e 1 (List OpT) (encQ e') decQ [] xs
abbrev rQ (o : RO) (f : Bool) (e' e : Nat) (xs : List (List OpT)) : TRoot := .ty o f e 1 (List OpT) (encQ e') decQ [] xs
def gT : Gt := ⟨tyT, 4, fun e =>
  if e = 3 then some ⟨Int, encI, decI, 0⟩
  else if e = 135 then some ⟨List Int, encL, decL, []⟩
  else if e = 165 then some ⟨Row, encR, decR, (0, 0)⟩
  else if e = 169 then some ⟨List Row, encLL 165, decLL, []⟩
  else if e = 188 then some ⟨PinT, encPin, decPin, zPin⟩
  else if e = 9999999 then some ⟨OpT, encOp, decOp, zOp⟩
  else if e = 9999999 then some ⟨JobT, encJob, decJob, zJob⟩
  else if e = 9999999 then some ⟨EvT, encEv, decEv, zEv⟩
  else if e = 9999999 then some ⟨List OpT, encQ 9999999, decQ, []⟩
  else none⟩
theorem gOk : GOk Tryz.prog gT := ⟨tyOk, Tryz.underlying4⟩
def ti (x : Int) : TAg := .one (.c (.lit (.int .i64 x)))
def tb (x : Bool) : TAg := .one (.c (.lit (.bool x)))
def oi (x : Int) : TAr := .one (.lit (.int .i64 x))
def ob (x : Bool) : TAr := .one (.lit (.bool x))
abbrev vi (x : Int) : V := .a (.lit (.int .i64 x))
abbrev vb (x : Bool) : V := .a (.lit (.bool x))
abbrev vr (κ n : Nat) : V := .a (.ref κ 0 n)
abbrev rI (o : RO) (f : Bool) (xs : List Int) : TRoot := .ty o f 3 1 Int encI decI 0 xs
abbrev rSL (o : RO) (f : Bool) (e : Nat) (xs : List (List Int)) : TRoot := .ty o f e 1 (List Int) encL decL [] xs
theorem drop_cons {α : Type} {xs : List α} {i : Nat} (d : α) (h : i < xs.length) : xs.drop i = xs.getD i d :: xs.drop (i + 1) := by
  rw [List.drop_eq_getElem_cons h]; simp [List.getD, h]
end Go.Proofs.YtfdbjiaghbeedaaGreatDoor
end

section
namespace Go.Proofs.YtfdbjiaghbeedaaGreatDoor
open Go Go.Tr
set_option maxRecDepth 100000
set_option linter.unusedVariables false
set_option linter.unusedSimpArgs false
/-- The first elements are laid down, the rest is as made. -/
theorem eqIntS_run (xs : List Int) (hn : xs.length ≤ 4000000) : RunT Tryz.prog 14 [.one (.c (tI xs)), .one (.c (tI xs))] [] [ob true] [] := by
  refine RunT.of_vc gOk Tryz.func14 rfl rfl (Nat.le_of_ble_eq_true rfl) (by repeat' (first | exact trivial | exact ⟨_, rfl, Nat.le_refl _⟩ | exact Nat.le_of_ble_eq_true rfl | refine And.intro ?_ ?_)) (Nat.le_of_ble_eq_true rfl) rfl (fun F hE => ?_)
  repeat' (first | exact trivial | refine BS.d (fun h => ?_) (fun h => ?_) | refine BS.e (fun h => ?_) (fun h => ?_) | refine BS.ne (fun h => ?_) (fun h => ?_) | refine BS.n ?_ | refine BS.s (fun h => ?_) (fun h => ?_) | refine And.intro ?_ ?_ | (refine Need.mk ?_; first | with_reducible rfl | (show @Eq TC _ _; rfl) | omega | (simp only [adN_zero]; omega)) | exact OutS.whole rfl rfl | refine ListO.go gOk hE ?_)
  · refine CodeK.loop gOk hE (fun i : Nat => ⟨[(0, vr 1000000 xs.length), (1, vr 1000001 xs.length), (5, vi i)], [(1000000, rI .fro false xs), (1000001, rI .fro false xs)]⟩) (fun i => i ≤ xs.length) (fun i => xs.length - i) 0 (by refine leT.of ?_ ?_ rfl <;> repeat' (first | exact trivial | refine And.intro rfl ?_ | refine And.intro (by simp) ?_)) (Nat.zero_le _) ?_
    rintro i hi
    repeat' (first | exact trivial | refine BS.d (fun h => ?_) (fun h => ?_) | refine BS.e (fun h => ?_) (fun h => ?_) | refine BS.ne (fun h => ?_) (fun h => ?_) | refine BS.n ?_ | refine BS.s (fun h => ?_) (fun h => ?_) | refine And.intro ?_ ?_ | (refine Need.mk ?_; first | with_reducible rfl | (show @Eq TC _ _; rfl) | omega | (simp only [adN_zero]; omega)) | exact OutS.whole rfl rfl | refine ListO.go gOk hE ?_)
    · refine CodeK.draw gOk hE rfl (fun _ _ h => h) (.take 0 (.take 1 (.take 2 (.take 4 (.take 5 (.take 6 (.alt 3 (.alt 7 (.take 8 .done) .stop) (.alt 7 (.alt 3 (.take 8 .done) .stop) .stop)))))))) (by decide +kernel) ?_
      repeat' (first | exact trivial | refine BS.d (fun h => ?_) (fun h => ?_) | refine BS.e (fun h => ?_) (fun h => ?_) | refine BS.ne (fun h => ?_) (fun h => ?_) | refine BS.n ?_ | refine BS.s (fun h => ?_) (fun h => ?_) | refine And.intro ?_ ?_ | (refine Need.mk ?_; first | with_reducible rfl | (show @Eq TC _ _; rfl) | omega | (simp only [adN_zero]; omega)) | exact OutS.whole rfl rfl | refine ListO.go gOk hE ?_)
      all_goals (refine ⟨i + 1, (by refine leT.of ?_ ?_ rfl <;> repeat' (first | exact trivial | refine And.intro rfl ?_ | refine And.intro (by simp) ?_)), ?_⟩; (refine And.intro ?_ ?_) <;> (first | omega | (dsimp only; omega) | trivial))
def fl {α : Type} (d : α) (xs : List α) (i : Nat) : List α := xs.take i ++ List.replicate (xs.length - i) d
theorem fl_zero {α : Type} (d : α) (xs : List α) : fl d xs 0 = List.replicate xs.length d := by simp [fl]
theorem fl_len {α : Type} (d : α) (xs : List α) (i : Nat) (h : i ≤ xs.length) : (fl d xs i).length = xs.length := by simp [fl]; omega
theorem fl_full {α : Type} (d : α) (xs : List α) (i : Nat) (h : ¬ i < xs.length) (h' : i ≤ xs.length) : fl d xs i = xs := by
  have : i = xs.length := by omega
  subst this; simp [fl]
theorem fl_set {α : Type} (d : α) (xs : List α) (i : Nat) (h : i < xs.length) : (fl d xs i).set i (xs.getD i d) = fl d xs (i + 1) := by
  apply List.ext_getElem
  · simp [fl]; omega
  · intro j h1 h2
    simp only [List.getElem_set, fl, List.getElem_append, List.length_take, List.getElem_take, List.getElem_replicate]
    by_cases e : i = j
    · subst e; simp [List.getD, h]
      omega
    · simp only [e, if_false]
      by_cases hj : j < i
      · rw [dif_pos (by omega), dif_pos (by omega)]
      · rw [dif_neg (by omega), dif_neg (by omega)]
def szI (xs : List Int) (m : Int) : Int := if m - xs.length < 0 then -1 else m - xs.length
theorem szIntS_run (xs : List Int) (m : Int) (h0 : 0 ≤ m) (h1 : m ≤ 1048576) (hn : xs.length ≤ 9223372036854775807) : RunT Tryz.prog 87 [.one (.c (tI xs)), ti m] [] [oi (szI xs m)] [] := by
  refine RunT.of_vc gOk Tryz.func87 rfl rfl (Nat.le_of_ble_eq_true rfl) (by repeat' (first | exact trivial | exact ⟨_, rfl, Nat.le_refl _⟩ | exact Nat.le_of_ble_eq_true rfl | refine And.intro ?_ ?_)) (Nat.le_of_ble_eq_true rfl) rfl (fun F hE => ?_)
  repeat' (first | exact trivial | refine BS.d (fun h => ?_) (fun h => ?_) | refine BS.e (fun h => ?_) (fun h => ?_) | refine BS.ne (fun h => ?_) (fun h => ?_) | refine BS.n ?_ | refine BS.s (fun h => ?_) (fun h => ?_) | refine And.intro ?_ ?_ | (refine Need.mk ?_; first | with_reducible rfl | (show @Eq TC _ _; rfl) | omega | (simp only [adN_zero]; omega)) | exact OutS.whole rfl rfl | refine ListO.go gOk hE ?_)
  all_goals (refine Need.mk ?_; unfold szI; first | rw [if_pos (by omega)] | rw [if_neg (by omega)])
theorem toIntS_run (xs : List Int) (hn : xs.length ≤ 1048576) : RunT Tryz.prog 94 [.one (.c (tI xs))] [] [.one (tI xs)] [] := by
  refine RunT.of_vc gOk Tryz.func94 rfl rfl (Nat.le_of_ble_eq_true rfl) (by repeat' (first | exact trivial | exact ⟨_, rfl, Nat.le_refl _⟩ | exact Nat.le_of_ble_eq_true rfl | refine And.intro ?_ ?_)) (Nat.le_of_ble_eq_true rfl) rfl (fun F hE => ?_)
  repeat' (first | exact trivial | refine BS.d (fun h => ?_) (fun h => ?_) | refine BS.e (fun h => ?_) (fun h => ?_) | refine BS.ne (fun h => ?_) (fun h => ?_) | refine BS.n ?_ | refine BS.s (fun h => ?_) (fun h => ?_) | refine And.intro ?_ ?_ | (refine Need.mk ?_; first | with_reducible rfl | (show @Eq TC _ _; rfl) | omega | (simp only [adN_zero]; omega)) | exact OutS.whole rfl rfl | refine ListO.go gOk hE ?_)
  refine CodeK.loop gOk hE (fun i : Nat => ⟨[(0, vr 1000000 xs.length), (3, vr 7 xs.length), (4, vi i)], [(7, rI .own true (fl 0 xs i)), (1000000, rI .fro false xs)]⟩) (fun i => i ≤ xs.length) (fun i => xs.length - i) 0 (by refine leT.of ?_ ?_ rfl <;> repeat' (first | exact trivial | refine And.intro rfl ?_ | refine And.intro (by simp [fl_zero] <;> rfl) ?_)) (Nat.zero_le _) ?_
  rintro i hi
  have hl := fl_len 0 xs i hi
  repeat' (first | exact trivial | refine BS.d (fun h => ?_) (fun h => ?_) | refine BS.e (fun h => ?_) (fun h => ?_) | refine BS.ne (fun h => ?_) (fun h => ?_) | refine BS.n ?_ | refine BS.s (fun h => ?_) (fun h => ?_) | refine And.intro ?_ ?_ | (refine Need.mk ?_; first | with_reducible rfl | (show @Eq TC _ _; rfl) | omega | (simp only [adN_zero]; omega)) | exact OutS.whole rfl rfl | refine ListO.go gOk hE ?_)
  · all_goals (refine ⟨i + 1, (by refine leT.of ?_ ?_ rfl <;> repeat' (first | exact trivial | refine And.intro rfl ?_ | refine And.intro (by first | (rw [← fl_set 0 xs i (by omega)]; rfl) | (simp <;> rfl)) ?_)), ?_⟩; (refine And.intro ?_ ?_) <;> (first | omega | (dsimp only; omega) | trivial))
  · exact OutS.whole hl.symm (by rw [fl_full _ _ _ (by omega) hi]; rfl)
theorem szI_le (x : List Int) (m : Int) (h0 : 0 ≤ m) : szI x m ≤ m ∧ -1 ≤ szI x m ∧ (0 ≤ szI x m → x.length ≤ m) := by
  unfold szI; split <;> omega
end Go.Proofs.YtfdbjiaghbeedaaGreatDoor
end

section
/- Copies of rows of numbers. -/
namespace Go.Proofs.YtfdbjiaghbeedaaGreatDoor
open Go Go.Tr
set_option maxRecDepth 100000
set_option maxHeartbeats 4000000
set_option linter.unusedVariables false
set_option linter.unusedSimpArgs false
theorem intFlatK : ∀ (x : Int) (r : Nat), r < 1 → ∃ v, encI x r = .lit v ∧ encI x r = .lit v := fun x r _ => ⟨_, rfl, rfl⟩
theorem l3Copy_run (xs : List Int) (hn : xs.length ≤ 1048576) : RunT Tryz.prog 189 [.one (.c (tI xs))] [] [.one (tI xs)] [] := by
  refine RunT.of_vc gOk Tryz.func189 rfl rfl (Nat.le_of_ble_eq_true rfl) (by repeat' (first | exact trivial | exact ⟨_, rfl, Nat.le_refl _⟩ | exact Nat.le_of_ble_eq_true rfl | refine And.intro ?_ ?_)) (Nat.le_of_ble_eq_true rfl) rfl (fun F hE => ?_)
  repeat' (first | exact trivial | refine BS.d (fun h => ?_) (fun h => ?_) | refine BS.e (fun h => ?_) (fun h => ?_) | refine BS.ne (fun h => ?_) (fun h => ?_) | refine BS.n ?_ | refine BS.s (fun h => ?_) (fun h => ?_) | refine And.intro ?_ ?_ | (refine Need.mk ?_; first | with_reducible rfl | (show @Eq TC _ _; rfl) | omega | (simp only [adN_zero]; omega)) | exact OutS.whole rfl rfl | refine ListO.go gOk hE ?_)
  refine OpK.apps gOk (by rfl) (by rfl) (by rfl) (by rfl) (by rfl) (by rfl) (by rfl) (by rfl) (by rfl) (by rfl) (by first | rfl | simp) (by exact intFlatK) (by rfl) (by refine ⟨?_, ?_⟩ <;> (try unfold maxLen) <;> simp <;> omega) ?_
  repeat' (first | exact trivial | refine BS.d (fun h => ?_) (fun h => ?_) | refine BS.e (fun h => ?_) (fun h => ?_) | refine BS.ne (fun h => ?_) (fun h => ?_) | refine BS.n ?_ | refine BS.s (fun h => ?_) (fun h => ?_) | refine And.intro ?_ ?_ | (refine Need.mk ?_; first | with_reducible rfl | (show @Eq TC _ _; rfl) | omega | (simp only [adN_zero]; omega)) | exact OutS.whole rfl rfl | refine ListO.go gOk hE ?_)
end Go.Proofs.YtfdbjiaghbeedaaGreatDoor
end

section
/- slices.Clone of a row of numbers. -/
namespace Go.Proofs.YtfdbjiaghbeedaaGreatDoor
open Go Go.Tr
set_option maxRecDepth 100000
set_option maxHeartbeats 4000000
set_option linter.unusedVariables false
set_option linter.unusedSimpArgs false
theorem CloneI_base (e n : Nat) (row : Nat → Nat → C) (hn : n ≤ 1048576) (hfl : ∀ i r, r < 1 → ∃ v, row i r = .lit v) :
    Run Tryz.prog 192 [.one (.c (.sl .fro e 1 n row))] [] fun outs ext => outs = [.one (.sl .own 3 1 n row)] ∧ ext = [] := by
  refine Run.of_body tyOk Tryz.func192 (by rfl) (Nat.le_of_ble_eq_true rfl) (by simp [argsOk, aasOk, aaOk]) [] rfl (fun F hF => ?_)
  repeat (first | (first | refine AL.nil ?_ | refine AL.move (.inl (by rfl)) (by rfl) (by rfl) ?_ | refine AL.move (.inr (by rfl)) (by rfl) (by rfl) ?_ | refine AL.fieldAddr tyOk (by rfl) (by rfl) (by rfl) (by rfl) (by rfl) (by rfl) ?_ | refine AL.load1 tyOk (by rfl) (by rfl) (by rfl) (by rfl) (by rfl) (by rfl) (by rfl) (by first | exact Nat.le_of_ble_eq_true rfl | (dsimp only; omega) | omega | assumption | (simp only [openR]; omega) | exact Nat.lt_of_lt_of_le (m := 3) (by omega) (Nat.le_of_ble_eq_true rfl)) (by first | exact Nat.le_of_ble_eq_true rfl | (dsimp only; omega) | omega | assumption | (simp only [openR]; omega) | exact Nat.lt_of_lt_of_le (m := 3) (by omega) (Nat.le_of_ble_eq_true rfl)) (by rfl) ?_ | refine AL.loadAggE tyOk (by rfl) (by rfl) (by rfl) (by rfl) (by rfl) (by rfl) (by rfl) (by first | exact Nat.le_of_ble_eq_true rfl | (dsimp only; omega) | omega | assumption | (simp only [openR]; omega) | exact Nat.lt_of_lt_of_le (m := 3) (by omega) (Nat.le_of_ble_eq_true rfl)) (by first | exact Nat.le_of_ble_eq_true rfl | (dsimp only; omega) | omega | assumption | (simp only [openR]; omega) | exact Nat.lt_of_lt_of_le (m := 3) (by omega) (Nat.le_of_ble_eq_true rfl)) (by rfl) ?_ | refine AL.stor tyOk (by rfl) (by rfl) (by rfl) (by rfl) (by rfl) (by rfl) (by rfl) (by rfl) (by rfl) (by first | exact Nat.le_of_ble_eq_true rfl | (dsimp only; omega) | omega | assumption | (simp only [openR]; omega) | exact Nat.lt_of_lt_of_le (m := 3) (by omega) (Nat.le_of_ble_eq_true rfl)) (by first | exact Nat.le_of_ble_eq_true rfl | (dsimp only; omega) | omega | assumption | (simp only [openR]; omega) | exact Nat.lt_of_lt_of_le (m := 3) (by omega) (Nat.le_of_ble_eq_true rfl)) ?_ | refine AL.len (ty := 0) tyOk (by rfl) (by rfl) (by rfl) (by rfl) (by rfl) ?_ | refine AL.add (by rfl) (by rfl) (by rfl) (by rfl) (by rfl) (by constructor <;> omega) ?_ | refine AL.sub (by rfl) (by rfl) (by rfl) (by rfl) (by rfl) (by constructor <;> omega) ?_ | refine AL.mul (by rfl) (by rfl) (by rfl) (by rfl) (by rfl) (by constructor <;> omega) ?_ | refine AL.int2 (by rfl) (by rfl) (by rfl) (by rfl) (by rfl) (by rfl) (by first | trivial | decide | omega) ?_ | refine AL.bEq (by rfl) (by rfl) (by rfl) (by rfl) (by rfl) Tryz.underlying4 ?_ | refine AL.bNe (by rfl) (by rfl) (by rfl) (by rfl) (by rfl) Tryz.underlying4 ?_ | refine AL.not (by rfl) (by rfl) (by rfl) (by rfl) ?_ | refine AL.gOnE (by rfl) (by rfl) (by rfl) (by rfl) (by decide) (by first | rfl | assumption) ?_ | refine AL.gOffE (by rfl) (by rfl) (by rfl) (by rfl) (by rfl) (by decide) (by first | rfl | assumption) ?_ | refine AL.pickE (b' := true) (by rfl) (by rfl) (by rfl) (by rfl) (by first | rfl | assumption) ?_ | refine AL.pickE (b' := false) (by rfl) (by rfl) (by rfl) (by rfl) (by first | rfl | assumption) ?_ | refine AL.extract (by rfl) (by rfl) (by rfl) (by rfl) (by rfl) ?_ | refine AL.boxD tyOk (by rfl) (by rfl) (by rfl) (Nat.le_of_ble_eq_true rfl) (by rfl) (by rfl) (by rfl) (by decide) (by rfl) ?_ | refine AL.allocD tyOk (by rfl) (by rfl) (by rfl) (Nat.le_of_ble_eq_true rfl) (by rfl) (by rfl) (by decide) (by rfl) ?_ | refine AL.indexN tyOk (by rfl) (by rfl) (by rfl) (by rfl) (by rfl) (by rfl) (by rfl) (by rfl) (by first | rfl | exact (Int.toNat_of_nonneg (by omega)).symm) (by omega) ?_ | refine AL.indexSl tyOk (by rfl) (by rfl) (by rfl) (by rfl) (by rfl) (by rfl) (by rfl) (by rfl) (by constructor <;> omega) ?_ | refine AL.indexArr tyOk (by rfl) (by rfl) (by rfl) (by rfl) (by rfl) (by rfl) (by constructor <;> omega) ?_ | refine AL.makeD tyOk _ (by rfl) (by rfl) (by rfl) (Nat.le_of_ble_eq_true rfl) (by rfl) (by rfl) (by rfl) (by rfl) (by rfl) (by rfl) (by rfl) (by omega) (by omega) (by decide) (by rfl) ?_ | refine AL.build (qs := []) tyOk (by rfl) (by rfl) (by rfl) (by rfl) (by rfl) (by exact PartsOk.nil) (by rfl) ?_ | refine AL.build (qs := [(_, _)]) tyOk (by rfl) (by rfl) (by rfl) (by rfl) (by rfl) (by exact PartsOk.cons (by rfl) (by rfl) PartsOk.nil) (by rfl) ?_ | refine AL.build (qs := [(_, _), (_, _)]) tyOk (by rfl) (by rfl) (by rfl) (by rfl) (by rfl) (by exact PartsOk.cons (by rfl) (by rfl) (PartsOk.cons (by rfl) (by rfl) PartsOk.nil)) (by rfl) ?_ | refine AL.nilCheck (by rfl) (by rfl) (by rfl) (by rfl) ?_) | (first | refine AC.region ?_ | refine AC.seq ?_ | refine AC.block ?_ | refine AC.ret ?_ | refine AC.exit ?_ | refine AC.skip ?_))
  refine AL.isNil (by rfl) (by rfl) (by rfl) (by rfl) (by rfl) Tryz.underlying22 (fun b hb => ?_)
  repeat (first | (first | refine AL.nil ?_ | refine AL.move (.inl (by rfl)) (by rfl) (by rfl) ?_ | refine AL.move (.inr (by rfl)) (by rfl) (by rfl) ?_ | refine AL.fieldAddr tyOk (by rfl) (by rfl) (by rfl) (by rfl) (by rfl) (by rfl) ?_ | refine AL.load1 tyOk (by rfl) (by rfl) (by rfl) (by rfl) (by rfl) (by rfl) (by rfl) (by first | exact Nat.le_of_ble_eq_true rfl | (dsimp only; omega) | omega | assumption | (simp only [openR]; omega) | exact Nat.lt_of_lt_of_le (m := 3) (by omega) (Nat.le_of_ble_eq_true rfl)) (by first | exact Nat.le_of_ble_eq_true rfl | (dsimp only; omega) | omega | assumption | (simp only [openR]; omega) | exact Nat.lt_of_lt_of_le (m := 3) (by omega) (Nat.le_of_ble_eq_true rfl)) (by rfl) ?_ | refine AL.loadAggE tyOk (by rfl) (by rfl) (by rfl) (by rfl) (by rfl) (by rfl) (by rfl) (by first | exact Nat.le_of_ble_eq_true rfl | (dsimp only; omega) | omega | assumption | (simp only [openR]; omega) | exact Nat.lt_of_lt_of_le (m := 3) (by omega) (Nat.le_of_ble_eq_true rfl)) (by first | exact Nat.le_of_ble_eq_true rfl | (dsimp only; omega) | omega | assumption | (simp only [openR]; omega) | exact Nat.lt_of_lt_of_le (m := 3) (by omega) (Nat.le_of_ble_eq_true rfl)) (by rfl) ?_ | refine AL.stor tyOk (by rfl) (by rfl) (by rfl) (by rfl) (by rfl) (by rfl) (by rfl) (by rfl) (by rfl) (by first | exact Nat.le_of_ble_eq_true rfl | (dsimp only; omega) | omega | assumption | (simp only [openR]; omega) | exact Nat.lt_of_lt_of_le (m := 3) (by omega) (Nat.le_of_ble_eq_true rfl)) (by first | exact Nat.le_of_ble_eq_true rfl | (dsimp only; omega) | omega | assumption | (simp only [openR]; omega) | exact Nat.lt_of_lt_of_le (m := 3) (by omega) (Nat.le_of_ble_eq_true rfl)) ?_ | refine AL.len (ty := 0) tyOk (by rfl) (by rfl) (by rfl) (by rfl) (by rfl) ?_ | refine AL.add (by rfl) (by rfl) (by rfl) (by rfl) (by rfl) (by constructor <;> omega) ?_ | refine AL.sub (by rfl) (by rfl) (by rfl) (by rfl) (by rfl) (by constructor <;> omega) ?_ | refine AL.mul (by rfl) (by rfl) (by rfl) (by rfl) (by rfl) (by constructor <;> omega) ?_ | refine AL.int2 (by rfl) (by rfl) (by rfl) (by rfl) (by rfl) (by rfl) (by first | trivial | decide | omega) ?_ | refine AL.bEq (by rfl) (by rfl) (by rfl) (by rfl) (by rfl) Tryz.underlying4 ?_ | refine AL.bNe (by rfl) (by rfl) (by rfl) (by rfl) (by rfl) Tryz.underlying4 ?_ | refine AL.not (by rfl) (by rfl) (by rfl) (by rfl) ?_ | refine AL.gOnE (by rfl) (by rfl) (by rfl) (by rfl) (by decide) (by first | rfl | assumption) ?_ | refine AL.gOffE (by rfl) (by rfl) (by rfl) (by rfl) (by rfl) (by decide) (by first | rfl | assumption) ?_ | refine AL.pickE (b' := true) (by rfl) (by rfl) (by rfl) (by rfl) (by first | rfl | assumption) ?_ | refine AL.pickE (b' := false) (by rfl) (by rfl) (by rfl) (by rfl) (by first | rfl | assumption) ?_ | refine AL.extract (by rfl) (by rfl) (by rfl) (by rfl) (by rfl) ?_ | refine AL.boxD tyOk (by rfl) (by rfl) (by rfl) (Nat.le_of_ble_eq_true rfl) (by rfl) (by rfl) (by rfl) (by decide) (by rfl) ?_ | refine AL.allocD tyOk (by rfl) (by rfl) (by rfl) (Nat.le_of_ble_eq_true rfl) (by rfl) (by rfl) (by decide) (by rfl) ?_ | refine AL.indexN tyOk (by rfl) (by rfl) (by rfl) (by rfl) (by rfl) (by rfl) (by rfl) (by rfl) (by first | rfl | exact (Int.toNat_of_nonneg (by omega)).symm) (by omega) ?_ | refine AL.indexSl tyOk (by rfl) (by rfl) (by rfl) (by rfl) (by rfl) (by rfl) (by rfl) (by rfl) (by constructor <;> omega) ?_ | refine AL.indexArr tyOk (by rfl) (by rfl) (by rfl) (by rfl) (by rfl) (by rfl) (by constructor <;> omega) ?_ | refine AL.makeD tyOk _ (by rfl) (by rfl) (by rfl) (Nat.le_of_ble_eq_true rfl) (by rfl) (by rfl) (by rfl) (by rfl) (by rfl) (by rfl) (by rfl) (by omega) (by omega) (by decide) (by rfl) ?_ | refine AL.build (qs := []) tyOk (by rfl) (by rfl) (by rfl) (by rfl) (by rfl) (by exact PartsOk.nil) (by rfl) ?_ | refine AL.build (qs := [(_, _)]) tyOk (by rfl) (by rfl) (by rfl) (by rfl) (by rfl) (by exact PartsOk.cons (by rfl) (by rfl) PartsOk.nil) (by rfl) ?_ | refine AL.build (qs := [(_, _), (_, _)]) tyOk (by rfl) (by rfl) (by rfl) (by rfl) (by rfl) (by exact PartsOk.cons (by rfl) (by rfl) (PartsOk.cons (by rfl) (by rfl) PartsOk.nil)) (by rfl) ?_ | refine AL.nilCheck (by rfl) (by rfl) (by rfl) (by rfl) ?_) | (first | refine AC.region ?_ | refine AC.seq ?_ | refine AC.block ?_ | refine AC.ret ?_ | refine AC.exit ?_ | refine AC.skip ?_))
  refine AC.cond (by rfl) (fun h => ?_) (fun h => ?_)
  · have h0 : n = 0 := hb (by simpa using h)
    subst h0
    repeat (first | (first | (first | refine AL.nil ?_ | refine AL.move (.inl (by rfl)) (by rfl) (by rfl) ?_ | refine AL.move (.inr (by rfl)) (by rfl) (by rfl) ?_ | refine AL.fieldAddr tyOk (by rfl) (by rfl) (by rfl) (by rfl) (by rfl) (by rfl) ?_ | refine AL.load1 tyOk (by rfl) (by rfl) (by rfl) (by rfl) (by rfl) (by rfl) (by rfl) (by first | exact Nat.le_of_ble_eq_true rfl | (dsimp only; omega) | omega | assumption | (simp only [openR]; omega) | exact Nat.lt_of_lt_of_le (m := 3) (by omega) (Nat.le_of_ble_eq_true rfl)) (by first | exact Nat.le_of_ble_eq_true rfl | (dsimp only; omega) | omega | assumption | (simp only [openR]; omega) | exact Nat.lt_of_lt_of_le (m := 3) (by omega) (Nat.le_of_ble_eq_true rfl)) (by rfl) ?_ | refine AL.loadAggE tyOk (by rfl) (by rfl) (by rfl) (by rfl) (by rfl) (by rfl) (by rfl) (by first | exact Nat.le_of_ble_eq_true rfl | (dsimp only; omega) | omega | assumption | (simp only [openR]; omega) | exact Nat.lt_of_lt_of_le (m := 3) (by omega) (Nat.le_of_ble_eq_true rfl)) (by first | exact Nat.le_of_ble_eq_true rfl | (dsimp only; omega) | omega | assumption | (simp only [openR]; omega) | exact Nat.lt_of_lt_of_le (m := 3) (by omega) (Nat.le_of_ble_eq_true rfl)) (by rfl) ?_ | refine AL.stor tyOk (by rfl) (by rfl) (by rfl) (by rfl) (by rfl) (by rfl) (by rfl) (by rfl) (by rfl) (by first | exact Nat.le_of_ble_eq_true rfl | (dsimp only; omega) | omega | assumption | (simp only [openR]; omega) | exact Nat.lt_of_lt_of_le (m := 3) (by omega) (Nat.le_of_ble_eq_true rfl)) (by first | exact Nat.le_of_ble_eq_true rfl | (dsimp only; omega) | omega | assumption | (simp only [openR]; omega) | exact Nat.lt_of_lt_of_le (m := 3) (by omega) (Nat.le_of_ble_eq_true rfl)) ?_ | refine AL.len (ty := 0) tyOk (by rfl) (by rfl) (by rfl) (by rfl) (by rfl) ?_ | refine AL.add (by rfl) (by rfl) (by rfl) (by rfl) (by rfl) (by constructor <;> omega) ?_ | refine AL.sub (by rfl) (by rfl) (by rfl) (by rfl) (by rfl) (by constructor <;> omega) ?_ | refine AL.mul (by rfl) (by rfl) (by rfl) (by rfl) (by rfl) (by constructor <;> omega) ?_ | refine AL.int2 (by rfl) (by rfl) (by rfl) (by rfl) (by rfl) (by rfl) (by first | trivial | decide | omega) ?_ | refine AL.bEq (by rfl) (by rfl) (by rfl) (by rfl) (by rfl) Tryz.underlying4 ?_ | refine AL.bNe (by rfl) (by rfl) (by rfl) (by rfl) (by rfl) Tryz.underlying4 ?_ | refine AL.not (by rfl) (by rfl) (by rfl) (by rfl) ?_ | refine AL.gOnE (by rfl) (by rfl) (by rfl) (by rfl) (by decide) (by first | rfl | assumption) ?_ | refine AL.gOffE (by rfl) (by rfl) (by rfl) (by rfl) (by rfl) (by decide) (by first | rfl | assumption) ?_ | refine AL.pickE (b' := true) (by rfl) (by rfl) (by rfl) (by rfl) (by first | rfl | assumption) ?_ | refine AL.pickE (b' := false) (by rfl) (by rfl) (by rfl) (by rfl) (by first | rfl | assumption) ?_ | refine AL.extract (by rfl) (by rfl) (by rfl) (by rfl) (by rfl) ?_ | refine AL.boxD tyOk (by rfl) (by rfl) (by rfl) (Nat.le_of_ble_eq_true rfl) (by rfl) (by rfl) (by rfl) (by decide) (by rfl) ?_ | refine AL.allocD tyOk (by rfl) (by rfl) (by rfl) (Nat.le_of_ble_eq_true rfl) (by rfl) (by rfl) (by decide) (by rfl) ?_ | refine AL.indexN tyOk (by rfl) (by rfl) (by rfl) (by rfl) (by rfl) (by rfl) (by rfl) (by rfl) (by first | rfl | exact (Int.toNat_of_nonneg (by omega)).symm) (by omega) ?_ | refine AL.indexSl tyOk (by rfl) (by rfl) (by rfl) (by rfl) (by rfl) (by rfl) (by rfl) (by rfl) (by constructor <;> omega) ?_ | refine AL.indexArr tyOk (by rfl) (by rfl) (by rfl) (by rfl) (by rfl) (by rfl) (by constructor <;> omega) ?_ | refine AL.makeD tyOk _ (by rfl) (by rfl) (by rfl) (Nat.le_of_ble_eq_true rfl) (by rfl) (by rfl) (by rfl) (by rfl) (by rfl) (by rfl) (by rfl) (by omega) (by omega) (by decide) (by rfl) ?_ | refine AL.build (qs := []) tyOk (by rfl) (by rfl) (by rfl) (by rfl) (by rfl) (by exact PartsOk.nil) (by rfl) ?_ | refine AL.build (qs := [(_, _)]) tyOk (by rfl) (by rfl) (by rfl) (by rfl) (by rfl) (by exact PartsOk.cons (by rfl) (by rfl) PartsOk.nil) (by rfl) ?_ | refine AL.build (qs := [(_, _), (_, _)]) tyOk (by rfl) (by rfl) (by rfl) (by rfl) (by rfl) (by exact PartsOk.cons (by rfl) (by rfl) (PartsOk.cons (by rfl) (by rfl) PartsOk.nil)) (by rfl) ?_ | refine AL.nilCheck (by rfl) (by rfl) (by rfl) (by rfl) ?_) | refine AL.buildSl0D tyOk (by rfl) (by rfl) (by rfl) (by rfl) (Nat.le_of_ble_eq_true rfl) (by rfl) (by decide) (by rfl) ?_ | refine AL.copyN tyOk (by rfl) (by rfl) (by rfl) (by rfl) (by rfl) (by rfl) (by rfl) (by rfl) (by rfl) (by rfl) (by rfl) (by rfl) (by rfl) ?_ | refine AL.append0 tyOk (by rfl) (by rfl) (by rfl) (by rfl) (by rfl) (by rfl) (by rfl) (by rfl) (by rfl) (by rfl) (by rfl) (by rfl) (by rfl) (by rfl) (by rfl) (okK_lt (by decide)) (by first | omega | (dsimp only; omega) | (unfold maxLen; dsimp only; omega)) (by first | omega | (dsimp only; omega) | (unfold maxLen; dsimp only; omega)) ?_ | refine AL.appendL tyOk (by rfl) (by rfl) (by rfl) (by rfl) (by rfl) (by rfl) (by rfl) (by rfl) (by rfl) (by rfl) (by rfl) (by rfl) (by rfl) (by rfl) (by rfl) (fun _ _ _ _ => rfl) (okK_lt (by decide)) (by first | omega | (dsimp only; omega) | (unfold maxLen; dsimp only; omega)) (by first | omega | (dsimp only; omega) | (unfold maxLen; dsimp only; omega)) ?_) | (first | refine AC.region ?_ | refine AC.seq ?_ | refine AC.block ?_ | refine AC.exit ?_ | refine AC.skip ?_))
    refine AC.nilRoot (t := 2) (d := 3) 3 1 (by rfl) (Nat.le_of_ble_eq_true rfl) (by rfl) ?_
    refine AC.le (St.le.sub (σ' := ⟨[(2, .a (.ref 3 0 0))], [(3, ⟨.own, true, 3, 1, 0, row, []⟩)]⟩) (And.intro rfl trivial) (And.intro ⟨_, rfl, ⟨rfl, (fun _ => And.intro rfl rfl), rfl, rfl, fun i r hi hr => absurd hi (Nat.not_lt_zero _)⟩⟩ trivial) (by rfl) (by rfl)) ?_
    refine AC.ret ?_
    refine And.intro (by first | exact .inr rfl | exact .inl rfl) (And.intro (by repeat (first | exact trivial | exact Nat.le_of_ble_eq_true rfl | rfl | exact ⟨_, rfl, rfl, Nat.le_refl _, rfl⟩ | refine And.intro ?_ ?_)) (And.intro (by rfl) (And.intro (by rfl) (And.intro (by repeat (first | exact trivial | exact Nat.le_of_ble_eq_true rfl | rfl | exact ⟨_, rfl, rfl, Nat.le_refl _, rfl⟩ | refine And.intro ?_ ?_)) (And.intro (by repeat (first | exact trivial | exact Nat.le_of_ble_eq_true rfl | rfl | exact ⟨_, rfl, rfl, Nat.le_refl _, rfl⟩ | refine And.intro ?_ ?_)) ?_)))))
    exact And.intro rfl rfl
  · repeat (first | (first | (first | refine AL.nil ?_ | refine AL.move (.inl (by rfl)) (by rfl) (by rfl) ?_ | refine AL.move (.inr (by rfl)) (by rfl) (by rfl) ?_ | refine AL.fieldAddr tyOk (by rfl) (by rfl) (by rfl) (by rfl) (by rfl) (by rfl) ?_ | refine AL.load1 tyOk (by rfl) (by rfl) (by rfl) (by rfl) (by rfl) (by rfl) (by rfl) (by first | exact Nat.le_of_ble_eq_true rfl | (dsimp only; omega) | omega | assumption | (simp only [openR]; omega) | exact Nat.lt_of_lt_of_le (m := 3) (by omega) (Nat.le_of_ble_eq_true rfl)) (by first | exact Nat.le_of_ble_eq_true rfl | (dsimp only; omega) | omega | assumption | (simp only [openR]; omega) | exact Nat.lt_of_lt_of_le (m := 3) (by omega) (Nat.le_of_ble_eq_true rfl)) (by rfl) ?_ | refine AL.loadAggE tyOk (by rfl) (by rfl) (by rfl) (by rfl) (by rfl) (by rfl) (by rfl) (by first | exact Nat.le_of_ble_eq_true rfl | (dsimp only; omega) | omega | assumption | (simp only [openR]; omega) | exact Nat.lt_of_lt_of_le (m := 3) (by omega) (Nat.le_of_ble_eq_true rfl)) (by first | exact Nat.le_of_ble_eq_true rfl | (dsimp only; omega) | omega | assumption | (simp only [openR]; omega) | exact Nat.lt_of_lt_of_le (m := 3) (by omega) (Nat.le_of_ble_eq_true rfl)) (by rfl) ?_ | refine AL.stor tyOk (by rfl) (by rfl) (by rfl) (by rfl) (by rfl) (by rfl) (by rfl) (by rfl) (by rfl) (by first | exact Nat.le_of_ble_eq_true rfl | (dsimp only; omega) | omega | assumption | (simp only [openR]; omega) | exact Nat.lt_of_lt_of_le (m := 3) (by omega) (Nat.le_of_ble_eq_true rfl)) (by first | exact Nat.le_of_ble_eq_true rfl | (dsimp only; omega) | omega | assumption | (simp only [openR]; omega) | exact Nat.lt_of_lt_of_le (m := 3) (by omega) (Nat.le_of_ble_eq_true rfl)) ?_ | refine AL.len (ty := 0) tyOk (by rfl) (by rfl) (by rfl) (by rfl) (by rfl) ?_ | refine AL.add (by rfl) (by rfl) (by rfl) (by rfl) (by rfl) (by constructor <;> omega) ?_ | refine AL.sub (by rfl) (by rfl) (by rfl) (by rfl) (by rfl) (by constructor <;> omega) ?_ | refine AL.mul (by rfl) (by rfl) (by rfl) (by rfl) (by rfl) (by constructor <;> omega) ?_ | refine AL.int2 (by rfl) (by rfl) (by rfl) (by rfl) (by rfl) (by rfl) (by first | trivial | decide | omega) ?_ | refine AL.bEq (by rfl) (by rfl) (by rfl) (by rfl) (by rfl) Tryz.underlying4 ?_ | refine AL.bNe (by rfl) (by rfl) (by rfl) (by rfl) (by rfl) Tryz.underlying4 ?_ | refine AL.not (by rfl) (by rfl) (by rfl) (by rfl) ?_ | refine AL.gOnE (by rfl) (by rfl) (by rfl) (by rfl) (by decide) (by first | rfl | assumption) ?_ | refine AL.gOffE (by rfl) (by rfl) (by rfl) (by rfl) (by rfl) (by decide) (by first | rfl | assumption) ?_ | refine AL.pickE (b' := true) (by rfl) (by rfl) (by rfl) (by rfl) (by first | rfl | assumption) ?_ | refine AL.pickE (b' := false) (by rfl) (by rfl) (by rfl) (by rfl) (by first | rfl | assumption) ?_ | refine AL.extract (by rfl) (by rfl) (by rfl) (by rfl) (by rfl) ?_ | refine AL.boxD tyOk (by rfl) (by rfl) (by rfl) (Nat.le_of_ble_eq_true rfl) (by rfl) (by rfl) (by rfl) (by decide) (by rfl) ?_ | refine AL.allocD tyOk (by rfl) (by rfl) (by rfl) (Nat.le_of_ble_eq_true rfl) (by rfl) (by rfl) (by decide) (by rfl) ?_ | refine AL.indexN tyOk (by rfl) (by rfl) (by rfl) (by rfl) (by rfl) (by rfl) (by rfl) (by rfl) (by first | rfl | exact (Int.toNat_of_nonneg (by omega)).symm) (by omega) ?_ | refine AL.indexSl tyOk (by rfl) (by rfl) (by rfl) (by rfl) (by rfl) (by rfl) (by rfl) (by rfl) (by constructor <;> omega) ?_ | refine AL.indexArr tyOk (by rfl) (by rfl) (by rfl) (by rfl) (by rfl) (by rfl) (by constructor <;> omega) ?_ | refine AL.makeD tyOk _ (by rfl) (by rfl) (by rfl) (Nat.le_of_ble_eq_true rfl) (by rfl) (by rfl) (by rfl) (by rfl) (by rfl) (by rfl) (by rfl) (by omega) (by omega) (by decide) (by rfl) ?_ | refine AL.build (qs := []) tyOk (by rfl) (by rfl) (by rfl) (by rfl) (by rfl) (by exact PartsOk.nil) (by rfl) ?_ | refine AL.build (qs := [(_, _)]) tyOk (by rfl) (by rfl) (by rfl) (by rfl) (by rfl) (by exact PartsOk.cons (by rfl) (by rfl) PartsOk.nil) (by rfl) ?_ | refine AL.build (qs := [(_, _), (_, _)]) tyOk (by rfl) (by rfl) (by rfl) (by rfl) (by rfl) (by exact PartsOk.cons (by rfl) (by rfl) (PartsOk.cons (by rfl) (by rfl) PartsOk.nil)) (by rfl) ?_ | refine AL.nilCheck (by rfl) (by rfl) (by rfl) (by rfl) ?_) | refine AL.buildSl0D tyOk (by rfl) (by rfl) (by rfl) (by rfl) (Nat.le_of_ble_eq_true rfl) (by rfl) (by decide) (by rfl) ?_ | refine AL.copyN tyOk (by rfl) (by rfl) (by rfl) (by rfl) (by rfl) (by rfl) (by rfl) (by rfl) (by rfl) (by rfl) (by rfl) (by rfl) (by rfl) ?_ | refine AL.append0 tyOk (by rfl) (by rfl) (by rfl) (by rfl) (by rfl) (by rfl) (by rfl) (by rfl) (by rfl) (by rfl) (by rfl) (by rfl) (by rfl) (by rfl) (by rfl) (okK_lt (by decide)) (by first | omega | (dsimp only; omega) | (unfold maxLen; dsimp only; omega)) (by first | omega | (dsimp only; omega) | (unfold maxLen; dsimp only; omega)) ?_ | refine AL.appendL tyOk (by rfl) (by rfl) (by rfl) (by rfl) (by rfl) (by rfl) (by rfl) (by rfl) (by rfl) (by rfl) (by rfl) (by rfl) (by rfl) (by rfl) (by rfl) (fun _ _ _ _ => rfl) (okK_lt (by decide)) (by first | omega | (dsimp only; omega) | (unfold maxLen; dsimp only; omega)) (by first | omega | (dsimp only; omega) | (unfold maxLen; dsimp only; omega)) ?_) | (first | refine AC.region ?_ | refine AC.seq ?_ | refine AC.block ?_ | refine AC.exit ?_ | refine AC.skip ?_))
    refine AC.le (St.le.sub (σ' := ⟨[(2, .a (.ref 5 0 n))], [(5, ⟨.own, true, 3, 1, n, row, []⟩)]⟩) (And.intro rfl trivial) (And.intro ⟨_, rfl, ⟨rfl, (fun _ => And.intro rfl rfl), rfl, rfl, fun i r hi hr => (by obtain ⟨v, hv⟩ := hfl i r hr; show Cl.cl (row i r) = Cl.cl (flat (row (0 + i) r)); rw [Nat.zero_add, hv]; rfl)⟩⟩ trivial) (by rfl) (by rfl)) ?_
    refine AC.ret ?_
    refine And.intro (by first | exact .inr rfl | exact .inl rfl) (And.intro (by repeat (first | exact trivial | exact Nat.le_of_ble_eq_true rfl | rfl | exact ⟨_, rfl, rfl, Nat.le_refl _, rfl⟩ | refine And.intro ?_ ?_)) (And.intro (by rfl) (And.intro (by rfl) (And.intro (by repeat (first | exact trivial | exact Nat.le_of_ble_eq_true rfl | rfl | exact ⟨_, rfl, rfl, Nat.le_refl _, rfl⟩ | refine And.intro ?_ ?_)) (And.intro (by repeat (first | exact trivial | exact Nat.le_of_ble_eq_true rfl | rfl | exact ⟨_, rfl, rfl, Nat.le_refl _, rfl⟩ | refine And.intro ?_ ?_)) ?_)))))
    exact And.intro rfl rfl
theorem CloneI_run (xs : List Int) (hn : xs.length ≤ 1048576) : RunT Tryz.prog 192 [.one (.c (tI xs))] [] [.one (tI xs)] [] := by
  refine ⟨⟨_, Tryz.func192, rfl, rfl⟩, fun w q A args he => ?_⟩
  refine (CloneI_base 3 xs.length (fun i r => (encI (xs.getD i 0) r).er .fro) hn (fun i r _ => ⟨_, rfl⟩) w q A args he).mono fun e w' hx => ?_
  obtain ⟨us, outs, ext, q', h1, ⟨rfl, rfl⟩, h2⟩ := hx
  exact ⟨us, _, _, q', h1, ⟨rfl, rfl⟩, h2⟩
end Go.Proofs.YtfdbjiaghbeedaaGreatDoor
end

section
namespace Go.Proofs.YtfdbjiaghbeedaaGreatDoor
open Go Go.Tr
set_option maxRecDepth 100000
set_option linter.unusedVariables false
set_option linter.unusedSimpArgs false
theorem ints_of {e n : Nat} {row : Nat → Nat → C} (hn : n ≤ 9223372036854775807) (h : ∀ i r t, i < n → ([Dt.i] : List Dt)[r]? = some t → DtOk t (row i r)) : ∃ xs : List Int, xs.length = n ∧ (∀ x ∈ xs, -9223372036854775808 ≤ x ∧ x ≤ 9223372036854775807) ∧ CSame (.sl .fro e 1 n row) ((tI xs).er .fro) :=
  list_of decI 0 1 (fun f hf => by
    obtain ⟨z, hz, h1, h2⟩ := (hf 0 .i rfl).int
    refine ⟨z, ⟨h1, h2⟩, fun r hr => ?_⟩
    obtain rfl : r = 0 := by omega
    rw [hz]; exact rfl) h
end Go.Proofs.YtfdbjiaghbeedaaGreatDoor
end

section
namespace Go.Proofs.YtfdbjiaghbeedaaGreatDoor
open Go Go.Tr
set_option maxRecDepth 100000
set_option maxHeartbeats 4000000
set_option linter.unusedVariables false
set_option linter.unusedSimpArgs false
abbrev aHp (b c : List Int) : TAg := .agg [.c (tI b), .c (tI c)]
def szH (b c : List Int) (m : Int) : Int := if szI b m < 0 then -1 else szI c (szI b m)
theorem szH_le (b c : List Int) (m : Int) (h : 0 ≤ m) : szH b c m ≤ m ∧ -1 ≤ szH b c m ∧ (0 ≤ szH b c m → b.length ≤ m ∧ c.length ≤ m) := by
  unfold szH
  have h1 := szI_le b m h
  split
  · omega
  · have h2 := szI_le c (szI b m) (by omega)
    omega
theorem szHeap_run (b c : List Int) (m : Int) (h0 : 0 ≤ m) (h1 : m ≤ 1048576) (hb : b.length ≤ 9223372036854775807) (hc : c.length ≤ 9223372036854775807) : RunT Tryz.prog 44 [aHp b c, ti m] [] [oi (szH b c m)] [] := by
  have q1 := szI_le b m h0
  have c1 := szIntS_run b m h0 h1 hb
  refine RunT.of_vc gOk Tryz.func44 rfl rfl (Nat.le_of_ble_eq_true rfl) (by repeat' (first | exact trivial | exact ⟨_, rfl, Nat.le_refl _⟩ | exact Nat.le_of_ble_eq_true rfl | refine And.intro ?_ ?_)) (Nat.le_of_ble_eq_true rfl) rfl (fun F hE => ?_)
  repeat' (first | exact trivial | refine BS.d (fun h => ?_) (fun h => ?_) | refine BS.e (fun h => ?_) (fun h => ?_) | refine BS.ne (fun h => ?_) (fun h => ?_) | refine BS.n ?_ | refine BS.s (fun h => ?_) (fun h => ?_) | refine And.intro ?_ ?_ | (refine Need.mk ?_; first | with_reducible rfl | (show @Eq TC _ _; rfl) | omega | (simp only [adN_zero]; omega)) | exact OutS.whole rfl rfl | (refine OpK.call c1 rfl rfl rfl rfl hE ?_ rfl rfl ?_; focus ((repeat' (first | exact PsA.lit _ | exact PsA.ref rfl rfl | constructor)); all_goals (fail "ps"))) | refine ListO.go gOk hE ?_)
  all_goals first | (refine Need.mk ?_; unfold szH; rw [if_pos (by assumption)]) | skip
  all_goals have c2 := szIntS_run c (szI b m) (by omega) (by omega) hc
  all_goals (repeat' (first | exact trivial | refine BS.d (fun h => ?_) (fun h => ?_) | refine BS.e (fun h => ?_) (fun h => ?_) | refine BS.ne (fun h => ?_) (fun h => ?_) | refine BS.n ?_ | refine BS.s (fun h => ?_) (fun h => ?_) | refine And.intro ?_ ?_ | (refine Need.mk ?_; first | with_reducible rfl | (show @Eq TC _ _; rfl) | omega | (simp only [adN_zero]; omega)) | exact OutS.whole rfl rfl | (refine OpK.call c2 rfl rfl rfl rfl hE ?_ rfl rfl ?_; focus ((repeat' (first | exact PsA.lit _ | exact PsA.ref rfl rfl | constructor)); all_goals (fail "ps"))) | refine ListO.go gOk hE ?_))
  all_goals (refine Need.mk ?_; unfold szH; rw [if_neg (by assumption)])
  all_goals (have q2 := szI_le c (szI b m) (by omega); omega)
theorem toHeap_run (b c : List Int) (hb : b.length ≤ 1048576) (hc : c.length ≤ 1048576) : RunT Tryz.prog 48 [aHp b c] [] [.agg [tI b, tI c]] [] := by
  have c1 := toIntS_run b hb
  have c2 := toIntS_run c hc
  refine RunT.of_vc gOk Tryz.func48 rfl rfl (Nat.le_of_ble_eq_true rfl) (by repeat' (first | exact trivial | exact ⟨_, rfl, Nat.le_refl _⟩ | exact Nat.le_of_ble_eq_true rfl | refine And.intro ?_ ?_)) (Nat.le_of_ble_eq_true rfl) rfl (fun F hE => ?_)
  repeat' (first | exact trivial | refine BS.d (fun h => ?_) (fun h => ?_) | refine BS.e (fun h => ?_) (fun h => ?_) | refine BS.ne (fun h => ?_) (fun h => ?_) | refine BS.n ?_ | refine BS.s (fun h => ?_) (fun h => ?_) | refine And.intro ?_ ?_ | (refine Need.mk ?_; first | with_reducible rfl | (show @Eq TC _ _; rfl) | omega | (simp only [adN_zero]; omega)) | exact OutS.whole rfl rfl | (refine OpK.call c1 rfl rfl rfl rfl hE ?_ rfl rfl ?_; focus ((repeat' (first | exact PsA.lit _ | exact PsA.ref rfl rfl | constructor)); all_goals (fail "ps"))) | (refine OpK.call c2 rfl rfl rfl rfl hE ?_ rfl rfl ?_; focus ((repeat' (first | exact PsA.lit _ | exact PsA.ref rfl rfl | constructor)); all_goals (fail "ps"))) | refine ListO.go gOk hE ?_)
theorem eqHeap_run (b c : List Int) (hb : b.length ≤ 4000000) (hc : c.length ≤ 4000000) : RunT Tryz.prog 52 [aHp b c, aHp b c] [] [ob true] [] := by
  have c1 := eqIntS_run b hb
  have c2 := eqIntS_run c hc
  refine RunT.of_vc gOk Tryz.func52 rfl rfl (Nat.le_of_ble_eq_true rfl) (by repeat' (first | exact trivial | exact ⟨_, rfl, Nat.le_refl _⟩ | exact Nat.le_of_ble_eq_true rfl | refine And.intro ?_ ?_)) (Nat.le_of_ble_eq_true rfl) rfl (fun F hE => ?_)
  repeat' (first | exact trivial | refine BS.d (fun h => ?_) (fun h => ?_) | refine BS.e (fun h => ?_) (fun h => ?_) | refine BS.ne (fun h => ?_) (fun h => ?_) | refine BS.n ?_ | refine BS.s (fun h => ?_) (fun h => ?_) | refine And.intro ?_ ?_ | (refine Need.mk ?_; first | with_reducible rfl | (show @Eq TC _ _; rfl) | omega | (simp only [adN_zero]; omega)) | exact OutS.whole rfl rfl | (refine OpK.call c1 rfl rfl rfl rfl hE ?_ rfl rfl ?_; focus ((repeat' (first | exact PsA.lit _ | exact PsA.ref rfl rfl | constructor)); all_goals (fail "ps"))) | (refine OpK.call c2 rfl rfl rfl rfl hE ?_ rfl rfl ?_; focus ((repeat' (first | exact PsA.lit _ | exact PsA.ref rfl rfl | constructor)); all_goals (fail "ps"))) | refine ListO.go gOk hE ?_)
end Go.Proofs.YtfdbjiaghbeedaaGreatDoor
end

section
/- Copies of a heap. -/
namespace Go.Proofs.YtfdbjiaghbeedaaGreatDoor
open Go Go.Tr
set_option maxRecDepth 100000
set_option maxHeartbeats 4000000
set_option linter.unusedVariables false
set_option linter.unusedSimpArgs false
theorem copyHeap_run (b c : List Int) (hb : b.length ≤ 1048576) (hc : c.length ≤ 1048576) : RunT Tryz.prog 126 [aHp b c] [] [.agg [tI b, tI c]] [] := by
  have c1 := CloneI_run b hb
  have c2 := CloneI_run c hc
  refine RunT.of_vc gOk Tryz.func126 rfl rfl (Nat.le_of_ble_eq_true rfl) (by repeat' (first | exact trivial | exact ⟨_, rfl, Nat.le_refl _⟩ | exact Nat.le_of_ble_eq_true rfl | refine And.intro ?_ ?_)) (Nat.le_of_ble_eq_true rfl) rfl (fun F hE => ?_)
  repeat' (first | exact trivial | refine BS.d (fun h => ?_) (fun h => ?_) | refine BS.e (fun h => ?_) (fun h => ?_) | refine BS.ne (fun h => ?_) (fun h => ?_) | refine BS.n ?_ | refine BS.s (fun h => ?_) (fun h => ?_) | refine And.intro ?_ ?_ | (refine Need.mk ?_; first | with_reducible rfl | (show @Eq TC _ _; rfl) | omega | (simp only [adN_zero]; omega)) | exact OutS.whole rfl rfl | (refine OpK.call c1 rfl rfl rfl rfl hE ?_ rfl rfl ?_; focus ((repeat' (first | exact PsA.lit _ | exact PsA.ref rfl rfl | constructor)); all_goals (fail "ps"))) | (refine OpK.call c2 rfl rfl rfl rfl hE ?_ rfl rfl ?_; focus ((repeat' (first | exact PsA.lit _ | exact PsA.ref rfl rfl | constructor)); all_goals (fail "ps"))) | (refine CodeK.draw gOk hE rfl (fun _ _ h => h) (.take 0 (.take 3 (.alt 1 (.alt 2 (.alt 4 (.alt 5 (.alt 6 (.alt 7 .done .stop) .stop) .stop) .stop) (.alt 4 (.alt 2 (.alt 5 (.alt 6 (.alt 7 .done .stop) .stop) .stop) .stop) .stop)) (.alt 4 (.alt 1 (.alt 2 (.alt 5 (.alt 6 (.alt 7 .done .stop) .stop) .stop) .stop) .stop) .stop)))) ?_ ?_; focus (decide +kernel)) | refine ListO.go gOk hE ?_)
theorem l7Copy_run (b c : List Int) (hb : b.length ≤ 1048576) (hc : c.length ≤ 1048576) : RunT Tryz.prog 122 [aHp b c] [] [.agg [tI b, tI c]] [] := by
  have c1 := l3Copy_run b hb
  have c2 := l3Copy_run c hc
  refine RunT.of_vc gOk Tryz.func122 rfl rfl (Nat.le_of_ble_eq_true rfl) (by repeat' (first | exact trivial | exact ⟨_, rfl, Nat.le_refl _⟩ | exact Nat.le_of_ble_eq_true rfl | refine And.intro ?_ ?_)) (Nat.le_of_ble_eq_true rfl) rfl (fun F hE => ?_)
  repeat' (first | exact trivial | refine BS.d (fun h => ?_) (fun h => ?_) | refine BS.e (fun h => ?_) (fun h => ?_) | refine BS.ne (fun h => ?_) (fun h => ?_) | refine BS.n ?_ | refine BS.s (fun h => ?_) (fun h => ?_) | refine And.intro ?_ ?_ | (refine Need.mk ?_; first | with_reducible rfl | (show @Eq TC _ _; rfl) | omega | (simp only [adN_zero]; omega)) | exact OutS.whole rfl rfl | (refine OpK.call c1 rfl rfl rfl rfl hE ?_ rfl rfl ?_; focus ((repeat' (first | exact PsA.lit _ | exact PsA.ref rfl rfl | constructor)); all_goals (fail "ps"))) | (refine OpK.call c2 rfl rfl rfl rfl hE ?_ rfl rfl ?_; focus ((repeat' (first | exact PsA.lit _ | exact PsA.ref rfl rfl | constructor)); all_goals (fail "ps"))) | (refine CodeK.draw gOk hE rfl (fun _ _ h => h) (.take 0 (.take 3 (.alt 1 (.alt 2 (.alt 4 (.alt 5 (.alt 6 (.alt 7 .done .stop) .stop) .stop) .stop) (.alt 4 (.alt 2 (.alt 5 (.alt 6 (.alt 7 .done .stop) .stop) .stop) .stop) .stop)) (.alt 4 (.alt 1 (.alt 2 (.alt 5 (.alt 6 (.alt 7 .done .stop) .stop) .stop) .stop) .stop) .stop)))) ?_ ?_; focus (decide +kernel)) | refine ListO.go gOk hE ?_)
end Go.Proofs.YtfdbjiaghbeedaaGreatDoor
end

section
namespace Go.Proofs.YtfdbjiaghbeedaaGreatDoor
open Go Go.Tr
set_option maxRecDepth 100000
set_option linter.unusedVariables false
set_option linter.unusedSimpArgs false
theorem eqSList_run (x : List Int) (hn : x.length ≤ 4000000) : RunT Tryz.prog 188 [.agg [.c (tI x)], .agg [.c (tI x)]] [] [ob true] [] := by
  refine RunT.of_vc gOk Tryz.func188 rfl rfl (Nat.le_of_ble_eq_true rfl) (by repeat' (first | exact trivial | exact ⟨_, rfl, Nat.le_refl _⟩ | exact Nat.le_of_ble_eq_true rfl | refine And.intro ?_ ?_)) (Nat.le_of_ble_eq_true rfl) rfl (fun F hE => ?_)
  repeat' (first | exact trivial | refine BS.d (fun h => ?_) (fun h => ?_) | refine BS.e (fun h => ?_) (fun h => ?_) | refine BS.ne (fun h => ?_) (fun h => ?_) | refine BS.n ?_ | refine BS.s (fun h => ?_) (fun h => ?_) | refine And.intro ?_ ?_ | (refine Need.mk ?_; first | with_reducible rfl | (show @Eq TC _ _; rfl) | omega | (simp only [adN_zero]; omega)) | exact OutS.whole rfl rfl | refine ListO.go gOk hE ?_)
  refine OpK.call (eqIntS_run x hn) rfl rfl rfl rfl hE (by repeat' (first | exact PsA.lit _ | exact PsA.ref rfl rfl | constructor)) rfl rfl ?_
  repeat' (first | exact trivial | refine BS.d (fun h => ?_) (fun h => ?_) | refine BS.e (fun h => ?_) (fun h => ?_) | refine BS.ne (fun h => ?_) (fun h => ?_) | refine BS.n ?_ | refine BS.s (fun h => ?_) (fun h => ?_) | refine And.intro ?_ ?_ | (refine Need.mk ?_; first | with_reducible rfl | (show @Eq TC _ _; rfl) | omega | (simp only [adN_zero]; omega)) | exact OutS.whole rfl rfl | refine ListO.go gOk hE ?_)
theorem eqSListS_run (e : Nat) (xs : List (List Int)) (hn : xs.length ≤ 4000000) (hx : ∀ i, (xs.getD i []).length ≤ 4000000) : RunT Tryz.prog 117 [.one (.c (tSL e xs)), .one (.c (tSL e xs))] [] [ob true] [] := by
  refine RunT.of_vc gOk Tryz.func117 rfl rfl (Nat.le_of_ble_eq_true rfl) (by repeat' (first | exact trivial | exact ⟨_, rfl, Nat.le_refl _⟩ | exact Nat.le_of_ble_eq_true rfl | refine And.intro ?_ ?_)) (Nat.le_of_ble_eq_true rfl) rfl (fun F hE => ?_)
  repeat' (first | exact trivial | refine BS.d (fun h => ?_) (fun h => ?_) | refine BS.e (fun h => ?_) (fun h => ?_) | refine BS.ne (fun h => ?_) (fun h => ?_) | refine BS.n ?_ | refine BS.s (fun h => ?_) (fun h => ?_) | refine And.intro ?_ ?_ | (refine Need.mk ?_; first | with_reducible rfl | (show @Eq TC _ _; rfl) | omega | (simp only [adN_zero]; omega)) | exact OutS.whole rfl rfl | refine ListO.go gOk hE ?_)
  · refine CodeK.loop gOk hE (fun i : Nat => ⟨[(0, vr 1000000 xs.length), (1, vr 1000001 xs.length), (5, vi i)], [(1000000, rSL .fro false e xs), (1000001, rSL .fro false e xs)]⟩) (fun i => i ≤ xs.length) (fun i => xs.length - i) 0 (by refine leT.of ?_ ?_ rfl <;> repeat' (first | exact trivial | refine And.intro rfl ?_ | refine And.intro (by simp) ?_)) (Nat.zero_le _) ?_
    rintro i hi
    repeat' (first | exact trivial | refine BS.d (fun h => ?_) (fun h => ?_) | refine BS.e (fun h => ?_) (fun h => ?_) | refine BS.ne (fun h => ?_) (fun h => ?_) | refine BS.n ?_ | refine BS.s (fun h => ?_) (fun h => ?_) | refine And.intro ?_ ?_ | (refine Need.mk ?_; first | with_reducible rfl | (show @Eq TC _ _; rfl) | omega | (simp only [adN_zero]; omega)) | exact OutS.whole rfl rfl | refine ListO.go gOk hE ?_)
    · refine CodeK.draw gOk hE rfl (fun _ _ h => h) (.take 0 (.take 1 (.take 2 (.take 4 (.take 5 (.take 6 (.alt 3 (.alt 7 (.alt 8 (.take 9 .done) .stop) .stop) (.alt 7 (.alt 3 (.alt 8 (.take 9 .done) .stop) .stop) .stop)))))))) (by decide +kernel) ?_
      repeat' (first | exact trivial | refine BS.d (fun h => ?_) (fun h => ?_) | refine BS.e (fun h => ?_) (fun h => ?_) | refine BS.ne (fun h => ?_) (fun h => ?_) | refine BS.n ?_ | refine BS.s (fun h => ?_) (fun h => ?_) | refine And.intro ?_ ?_ | (refine Need.mk ?_; first | with_reducible rfl | (show @Eq TC _ _; rfl) | omega | (simp only [adN_zero]; omega)) | exact OutS.whole rfl rfl | refine ListO.go gOk hE ?_)
      all_goals (refine OpK.call (eqSList_run _ (hx _)) rfl rfl rfl rfl hE (by repeat' (first | exact PsA.lit _ | exact PsA.ref rfl rfl | constructor)) rfl rfl ?_)
      all_goals (repeat' (first | exact trivial | refine BS.d (fun h => ?_) (fun h => ?_) | refine BS.e (fun h => ?_) (fun h => ?_) | refine BS.ne (fun h => ?_) (fun h => ?_) | refine BS.n ?_ | refine BS.s (fun h => ?_) (fun h => ?_) | refine And.intro ?_ ?_ | (refine Need.mk ?_; first | with_reducible rfl | (show @Eq TC _ _; rfl) | omega | (simp only [adN_zero]; omega)) | exact OutS.whole rfl rfl | refine ListO.go gOk hE ?_))
      all_goals (refine ⟨i + 1, (by refine leT.of ?_ ?_ rfl <;> repeat' (first | exact trivial | refine And.intro rfl ?_ | refine And.intro (by simp) ?_)), ?_⟩; (refine And.intro ?_ ?_) <;> (first | omega | (dsimp only; omega) | trivial))
theorem eqLists_run (e : Nat) (g o : List (List Int)) (hg : g.length ≤ 4000000) (hg' : ∀ i, (g.getD i []).length ≤ 4000000) (ho : o.length ≤ 4000000) (ho' : ∀ i, (o.getD i []).length ≤ 4000000) : RunT Tryz.prog 53 [.agg [.c (tSL e g), .c (tSL e o)], .agg [.c (tSL e g), .c (tSL e o)]] [] [ob true] [] := by
  refine RunT.of_vc gOk Tryz.func53 rfl rfl (Nat.le_of_ble_eq_true rfl) (by repeat' (first | exact trivial | exact ⟨_, rfl, Nat.le_refl _⟩ | exact Nat.le_of_ble_eq_true rfl | refine And.intro ?_ ?_)) (Nat.le_of_ble_eq_true rfl) rfl (fun F hE => ?_)
  repeat' (first | exact trivial | refine BS.d (fun h => ?_) (fun h => ?_) | refine BS.e (fun h => ?_) (fun h => ?_) | refine BS.ne (fun h => ?_) (fun h => ?_) | refine BS.n ?_ | refine BS.s (fun h => ?_) (fun h => ?_) | refine And.intro ?_ ?_ | (refine Need.mk ?_; first | with_reducible rfl | (show @Eq TC _ _; rfl) | omega | (simp only [adN_zero]; omega)) | exact OutS.whole rfl rfl | refine ListO.go gOk hE ?_)
  refine OpK.call (eqSListS_run e g hg hg') rfl rfl rfl rfl hE (by repeat' (first | exact PsA.lit _ | exact PsA.ref rfl rfl | constructor)) rfl rfl ?_
  repeat' (first | exact trivial | refine BS.d (fun h => ?_) (fun h => ?_) | refine BS.e (fun h => ?_) (fun h => ?_) | refine BS.ne (fun h => ?_) (fun h => ?_) | refine BS.n ?_ | refine BS.s (fun h => ?_) (fun h => ?_) | refine And.intro ?_ ?_ | (refine Need.mk ?_; first | with_reducible rfl | (show @Eq TC _ _; rfl) | omega | (simp only [adN_zero]; omega)) | exact OutS.whole rfl rfl | refine ListO.go gOk hE ?_)
  refine OpK.call (eqSListS_run e o ho ho') rfl rfl rfl rfl hE (by repeat' (first | exact PsA.lit _ | exact PsA.ref rfl rfl | constructor)) rfl rfl ?_
  repeat' (first | exact trivial | refine BS.d (fun h => ?_) (fun h => ?_) | refine BS.e (fun h => ?_) (fun h => ?_) | refine BS.ne (fun h => ?_) (fun h => ?_) | refine BS.n ?_ | refine BS.s (fun h => ?_) (fun h => ?_) | refine And.intro ?_ ?_ | (refine Need.mk ?_; first | with_reducible rfl | (show @Eq TC _ _; rfl) | omega | (simp only [adN_zero]; omega)) | exact OutS.whole rfl rfl | refine ListO.go gOk hE ?_)
end Go.Proofs.YtfdbjiaghbeedaaGreatDoor
end

section
namespace Go.Proofs.YtfdbjiaghbeedaaGreatDoor
open Go Go.Tr
set_option maxRecDepth 100000
set_option linter.unusedVariables false
set_option linter.unusedSimpArgs false
/-- The first elements are laid down, the rest is as made. -/
theorem toSList_run (x : List Int) (hn : x.length ≤ 1048576) (e : Nat) : RunT Tryz.prog 180 [.agg [.c (tI x)]] [] [.agg [tI x]] [] := by
  refine RunT.of_vc gOk Tryz.func180 rfl rfl (Nat.le_of_ble_eq_true rfl) (by repeat' (first | exact trivial | exact ⟨_, rfl, Nat.le_refl _⟩ | exact Nat.le_of_ble_eq_true rfl | refine And.intro ?_ ?_)) (Nat.le_of_ble_eq_true rfl) rfl (fun F hE => ?_)
  repeat' (first | exact trivial | refine BS.d (fun h => ?_) (fun h => ?_) | refine BS.e (fun h => ?_) (fun h => ?_) | refine BS.ne (fun h => ?_) (fun h => ?_) | refine BS.n ?_ | refine BS.s (fun h => ?_) (fun h => ?_) | refine And.intro ?_ ?_ | (refine Need.mk ?_; first | with_reducible rfl | (show @Eq TC _ _; rfl) | omega | (simp only [adN_zero]; omega)) | exact OutS.whole rfl rfl | refine ListO.go gOk hE ?_)
  refine OpK.call (toIntS_run x hn) rfl rfl rfl rfl hE (by repeat' (first | exact PsA.lit _ | exact PsA.ref rfl rfl | constructor)) rfl rfl ?_
  repeat' (first | exact trivial | refine BS.d (fun h => ?_) (fun h => ?_) | refine BS.e (fun h => ?_) (fun h => ?_) | refine BS.ne (fun h => ?_) (fun h => ?_) | refine BS.n ?_ | refine BS.s (fun h => ?_) (fun h => ?_) | refine And.intro ?_ ?_ | (refine Need.mk ?_; first | with_reducible rfl | (show @Eq TC _ _; rfl) | omega | (simp only [adN_zero]; omega)) | exact OutS.whole rfl rfl | refine ListO.go gOk hE ?_)
theorem toSListS_run (e : Nat) (xs : List (List Int)) (hn : xs.length ≤ 1048576) (hx : ∀ i, (xs.getD i []).length ≤ 1048576) : RunT Tryz.prog 112 [.one (.c (tSL e xs))] [] [.one (tSL 135 xs)] [] := by
  refine RunT.of_vc gOk Tryz.func112 rfl rfl (Nat.le_of_ble_eq_true rfl) (by repeat' (first | exact trivial | exact ⟨_, rfl, Nat.le_refl _⟩ | exact Nat.le_of_ble_eq_true rfl | refine And.intro ?_ ?_)) (Nat.le_of_ble_eq_true rfl) rfl (fun F hE => ?_)
  repeat' (first | exact trivial | refine BS.d (fun h => ?_) (fun h => ?_) | refine BS.e (fun h => ?_) (fun h => ?_) | refine BS.ne (fun h => ?_) (fun h => ?_) | refine BS.n ?_ | refine BS.s (fun h => ?_) (fun h => ?_) | refine And.intro ?_ ?_ | (refine Need.mk ?_; first | with_reducible rfl | (show @Eq TC _ _; rfl) | omega | (simp only [adN_zero]; omega)) | exact OutS.whole rfl rfl | refine ListO.go gOk hE ?_)
  refine CodeK.loop gOk hE (fun i : Nat => ⟨[(0, vr 1000000 xs.length), (3, vr 7 xs.length), (4, vi i)], [(7, rSL .own true 135 (fl [] xs i)), (1000000, rSL .fro false e xs)]⟩) (fun i => i ≤ xs.length) (fun i => xs.length - i) 0 (by refine leT.of ?_ ?_ rfl <;> repeat' (first | exact trivial | refine And.intro rfl ?_ | refine And.intro (by simp [fl_zero] <;> rfl) ?_)) (Nat.zero_le _) ?_
  rintro i hi
  have hl := fl_len [] xs i hi
  repeat' (first | exact trivial | refine BS.d (fun h => ?_) (fun h => ?_) | refine BS.e (fun h => ?_) (fun h => ?_) | refine BS.ne (fun h => ?_) (fun h => ?_) | refine BS.n ?_ | refine BS.s (fun h => ?_) (fun h => ?_) | refine And.intro ?_ ?_ | (refine Need.mk ?_; first | with_reducible rfl | (show @Eq TC _ _; rfl) | omega | (simp only [adN_zero]; omega)) | exact OutS.whole rfl rfl | refine ListO.go gOk hE ?_)
  · refine OpK.call (toSList_run _ (hx i) 0) rfl rfl rfl rfl hE (by repeat' (first | exact PsA.lit _ | exact PsA.ref rfl rfl | constructor)) rfl rfl ?_
    repeat' (first | exact trivial | refine BS.d (fun h => ?_) (fun h => ?_) | refine BS.e (fun h => ?_) (fun h => ?_) | refine BS.ne (fun h => ?_) (fun h => ?_) | refine BS.n ?_ | refine BS.s (fun h => ?_) (fun h => ?_) | refine And.intro ?_ ?_ | (refine Need.mk ?_; first | with_reducible rfl | (show @Eq TC _ _; rfl) | omega | (simp only [adN_zero]; omega)) | exact OutS.whole rfl rfl | refine ListO.go gOk hE ?_)
    refine OpK.stN gOk (xs.getD i []) rfl rfl rfl rfl rfl rfl rfl rfl rfl (by first | omega | (simp only [adN_zero]; omega)) (by first | exact (StN.ref (by rfl) (by first | rfl | simp) (by rfl) (by rfl) (by rfl) StN.nil) | exact (StN.emp (by rfl) StN.nil)) ?_
    repeat' (first | exact trivial | refine BS.d (fun h => ?_) (fun h => ?_) | refine BS.e (fun h => ?_) (fun h => ?_) | refine BS.ne (fun h => ?_) (fun h => ?_) | refine BS.n ?_ | refine BS.s (fun h => ?_) (fun h => ?_) | refine And.intro ?_ ?_ | (refine Need.mk ?_; first | with_reducible rfl | (show @Eq TC _ _; rfl) | omega | (simp only [adN_zero]; omega)) | exact OutS.whole rfl rfl | refine ListO.go gOk hE ?_)
    all_goals (refine ⟨i + 1, (by refine leT.of ?_ ?_ rfl <;> repeat' (first | exact trivial | refine And.intro rfl ?_ | refine And.intro (by first | (rw [← fl_set [] xs i (by omega)]; rfl) | (simp <;> rfl)) ?_)), ?_⟩; (refine And.intro ?_ ?_) <;> (first | omega | (dsimp only; omega) | trivial))
  · exact OutS.whole hl.symm (by rw [fl_full _ _ _ (by omega) hi]; rfl)
theorem toLists_run (e : Nat) (g o : List (List Int)) (hg : g.length ≤ 1048576) (hg' : ∀ i, (g.getD i []).length ≤ 1048576) (ho : o.length ≤ 1048576) (ho' : ∀ i, (o.getD i []).length ≤ 1048576) : RunT Tryz.prog 49 [.agg [.c (tSL e g), .c (tSL e o)]] [] [.agg [tSL 135 g, tSL 135 o]] [] := by
  refine RunT.of_vc gOk Tryz.func49 rfl rfl (Nat.le_of_ble_eq_true rfl) (by repeat' (first | exact trivial | exact ⟨_, rfl, Nat.le_refl _⟩ | exact Nat.le_of_ble_eq_true rfl | refine And.intro ?_ ?_)) (Nat.le_of_ble_eq_true rfl) rfl (fun F hE => ?_)
  repeat' (first | exact trivial | refine BS.d (fun h => ?_) (fun h => ?_) | refine BS.e (fun h => ?_) (fun h => ?_) | refine BS.ne (fun h => ?_) (fun h => ?_) | refine BS.n ?_ | refine BS.s (fun h => ?_) (fun h => ?_) | refine And.intro ?_ ?_ | (refine Need.mk ?_; first | with_reducible rfl | (show @Eq TC _ _; rfl) | omega | (simp only [adN_zero]; omega)) | exact OutS.whole rfl rfl | refine ListO.go gOk hE ?_)
  refine OpK.call (toSListS_run e g hg hg') rfl rfl rfl rfl hE (by repeat' (first | exact PsA.lit _ | exact PsA.ref rfl rfl | constructor)) rfl rfl ?_
  repeat' (first | exact trivial | refine BS.d (fun h => ?_) (fun h => ?_) | refine BS.e (fun h => ?_) (fun h => ?_) | refine BS.ne (fun h => ?_) (fun h => ?_) | refine BS.n ?_ | refine BS.s (fun h => ?_) (fun h => ?_) | refine And.intro ?_ ?_ | (refine Need.mk ?_; first | with_reducible rfl | (show @Eq TC _ _; rfl) | omega | (simp only [adN_zero]; omega)) | exact OutS.whole rfl rfl | refine ListO.go gOk hE ?_)
  refine OpK.call (toSListS_run e o ho ho') rfl rfl rfl rfl hE (by repeat' (first | exact PsA.lit _ | exact PsA.ref rfl rfl | constructor)) rfl rfl ?_
  repeat' (first | exact trivial | refine BS.d (fun h => ?_) (fun h => ?_) | refine BS.e (fun h => ?_) (fun h => ?_) | refine BS.ne (fun h => ?_) (fun h => ?_) | refine BS.n ?_ | refine BS.s (fun h => ?_) (fun h => ?_) | refine And.intro ?_ ?_ | (refine Need.mk ?_; first | with_reducible rfl | (show @Eq TC _ _; rfl) | omega | (simp only [adN_zero]; omega)) | exact OutS.whole rfl rfl | refine ListO.go gOk hE ?_)
/-- What is left of a budget. -/
def szSL : List (List Int) → Int → Int
  | [], m => m
  | x :: l, m => if szI x m < 0 then -1 else szSL l (szI x m)
def szSLs (xs : List (List Int)) (m : Int) : Int := if m - xs.length < 0 then -1 else szSL xs (m - xs.length)
theorem szSList_run (x : List Int) (m : Int) (h0 : 0 ≤ m) (h1 : m ≤ 1048576) (hn : x.length ≤ 9223372036854775807) : RunT Tryz.prog 172 [.agg [.c (tI x)], ti m] [] [oi (szI x m)] [] := by
  refine RunT.of_vc gOk Tryz.func172 rfl rfl (Nat.le_of_ble_eq_true rfl) (by repeat' (first | exact trivial | exact ⟨_, rfl, Nat.le_refl _⟩ | exact Nat.le_of_ble_eq_true rfl | refine And.intro ?_ ?_)) (Nat.le_of_ble_eq_true rfl) rfl (fun F hE => ?_)
  repeat' (first | exact trivial | refine BS.d (fun h => ?_) (fun h => ?_) | refine BS.e (fun h => ?_) (fun h => ?_) | refine BS.ne (fun h => ?_) (fun h => ?_) | refine BS.n ?_ | refine BS.s (fun h => ?_) (fun h => ?_) | refine And.intro ?_ ?_ | (refine Need.mk ?_; first | with_reducible rfl | (show @Eq TC _ _; rfl) | omega | (simp only [adN_zero]; omega)) | exact OutS.whole rfl rfl | refine ListO.go gOk hE ?_)
  refine OpK.call (szIntS_run x m h0 h1 hn) rfl rfl rfl rfl hE (by repeat' (first | exact PsA.lit _ | exact PsA.ref rfl rfl | constructor)) rfl rfl ?_
  repeat' (first | exact trivial | refine BS.d (fun h => ?_) (fun h => ?_) | refine BS.e (fun h => ?_) (fun h => ?_) | refine BS.ne (fun h => ?_) (fun h => ?_) | refine BS.n ?_ | refine BS.s (fun h => ?_) (fun h => ?_) | refine And.intro ?_ ?_ | (refine Need.mk ?_; first | with_reducible rfl | (show @Eq TC _ _; rfl) | omega | (simp only [adN_zero]; omega)) | exact OutS.whole rfl rfl | refine ListO.go gOk hE ?_)
  refine Need.mk ?_
  unfold szI at *
  split <;> simp_all <;> omega
theorem szSL_le : ∀ (l : List (List Int)) (m : Int), 0 ≤ m → szSL l m ≤ m ∧ -1 ≤ szSL l m ∧ (0 ≤ szSL l m → ∀ x ∈ l, x.length ≤ m)
  | [], m, h => ⟨Int.le_refl _, by simp [szSL]; omega, fun _ x hx => by simp at hx⟩
  | x :: l, m, h => by
    obtain ⟨h1, h2, h3⟩ := szI_le x m h
    unfold szSL
    split
    · exact ⟨by omega, by omega, fun h => by omega⟩
    · obtain ⟨k1, k2, k3⟩ := szSL_le l (szI x m) (by omega)
      refine ⟨by omega, by omega, fun h4 y hy => ?_⟩
      rcases List.mem_cons.1 hy with rfl | hy
      · exact h3 (by omega)
      · have := k3 h4 y hy; omega
theorem szSLs_le (l : List (List Int)) (m : Int) (h : 0 ≤ m) : szSLs l m ≤ m ∧ -1 ≤ szSLs l m ∧ (0 ≤ szSLs l m → l.length ≤ m ∧ ∀ x ∈ l, x.length ≤ m) := by
  unfold szSLs
  split
  · omega
  · obtain ⟨k1, k2, k3⟩ := szSL_le l (m - l.length) (by omega)
    exact ⟨by omega, k2, fun h4 => ⟨by omega, fun x hx => by have := k3 h4 x hx; omega⟩⟩
theorem szSListS_run (e : Nat) (xs : List (List Int)) (m : Int) (h0 : 0 ≤ m) (h1 : m ≤ 1048576) (hn : xs.length ≤ 9223372036854775807) (hx : ∀ i, (xs.getD i []).length ≤ 9223372036854775807) : RunT Tryz.prog 104 [.one (.c (tSL e xs)), ti m] [] [oi (szSLs xs m)] [] := by
  refine RunT.of_vc gOk Tryz.func104 rfl rfl (Nat.le_of_ble_eq_true rfl) (by repeat' (first | exact trivial | exact ⟨_, rfl, Nat.le_refl _⟩ | exact Nat.le_of_ble_eq_true rfl | refine And.intro ?_ ?_)) (Nat.le_of_ble_eq_true rfl) rfl (fun F hE => ?_)
  repeat' (first | exact trivial | refine BS.d (fun h => ?_) (fun h => ?_) | refine BS.e (fun h => ?_) (fun h => ?_) | refine BS.ne (fun h => ?_) (fun h => ?_) | refine BS.n ?_ | refine BS.s (fun h => ?_) (fun h => ?_) | refine And.intro ?_ ?_ | (refine Need.mk ?_; first | with_reducible rfl | (show @Eq TC _ _; rfl) | omega | (simp only [adN_zero]; omega)) | exact OutS.whole rfl rfl | refine ListO.go gOk hE ?_)
  · refine Need.mk ?_
    unfold szSLs; rw [if_pos (by omega)]
  · refine CodeK.loop gOk hE (fun i : Nat × Int => ⟨[(0, vr 1000000 xs.length), (1, vi i.2), (5, vi i.1)], [(1000000, rSL .fro false e xs)]⟩) (fun i => i.1 ≤ xs.length ∧ 0 ≤ i.2 ∧ i.2 ≤ 1048576 ∧ szSLs xs m = szSL (xs.drop i.1) i.2) (fun i => xs.length - i.1) (0, m - xs.length) (by refine leT.of ?_ ?_ rfl <;> repeat' (first | exact trivial | refine And.intro rfl ?_ | refine And.intro (by simp) ?_)) ⟨Nat.zero_le _, by omega, by omega, by unfold szSLs; rw [if_neg (by omega)]; rfl⟩ ?_
    rintro ⟨i, b⟩ ⟨hi, hb, hb1, hs⟩
    dsimp only at hi hb hb1 hs
    repeat' (first | exact trivial | refine BS.d (fun h => ?_) (fun h => ?_) | refine BS.e (fun h => ?_) (fun h => ?_) | refine BS.ne (fun h => ?_) (fun h => ?_) | refine BS.n ?_ | refine BS.s (fun h => ?_) (fun h => ?_) | refine And.intro ?_ ?_ | (refine Need.mk ?_; first | with_reducible rfl | (show @Eq TC _ _; rfl) | omega | (simp only [adN_zero]; omega)) | exact OutS.whole rfl rfl | refine ListO.go gOk hE ?_)
    · have hc := drop_cons [] (xs := xs) (i := i) (by omega)
      refine OpK.call (szSList_run _ _ hb hb1 (hx i)) rfl rfl rfl rfl hE (by repeat' (first | exact PsA.lit _ | exact PsA.ref rfl rfl | constructor)) rfl rfl ?_
      repeat' (first | exact trivial | refine BS.d (fun h => ?_) (fun h => ?_) | refine BS.e (fun h => ?_) (fun h => ?_) | refine BS.ne (fun h => ?_) (fun h => ?_) | refine BS.n ?_ | refine BS.s (fun h => ?_) (fun h => ?_) | refine And.intro ?_ ?_ | (refine Need.mk ?_; first | with_reducible rfl | (show @Eq TC _ _; rfl) | omega | (simp only [adN_zero]; omega)) | exact OutS.whole rfl rfl | refine ListO.go gOk hE ?_)
      · rename_i h
        refine Need.mk ?_
        rw [hs, hc, szSL, if_pos h]
      · rename_i h
        refine ⟨(i + 1, szI (xs.getD i []) b), (by refine leT.of ?_ ?_ rfl <;> repeat' (first | exact trivial | refine And.intro rfl ?_ | refine And.intro (by simp) ?_)), ⟨?_, ?_, ?_, ?_⟩, ?_⟩
        · dsimp only; omega
        · dsimp only; omega
        · dsimp only; unfold szI at h ⊢; split at h <;> split <;> omega
        · dsimp only; rw [hs, hc, szSL, if_neg h]
        · dsimp only; omega
    · refine Need.mk ?_
      rw [hs, List.drop_eq_nil_of_le (by omega)]; rfl
theorem szLists_run (e : Nat) (g o : List (List Int)) (m : Int) (h0 : 0 ≤ m) (h1 : m ≤ 1048576) (hg : g.length ≤ 9223372036854775807) (hg' : ∀ i, (g.getD i []).length ≤ 9223372036854775807) (ho : o.length ≤ 9223372036854775807) (ho' : ∀ i, (o.getD i []).length ≤ 9223372036854775807) : RunT Tryz.prog 45 [.agg [.c (tSL e g), .c (tSL e o)], ti m] [] [oi (if szSLs g m < 0 then -1 else szSLs o (szSLs g m))] [] := by
  refine RunT.of_vc gOk Tryz.func45 rfl rfl (Nat.le_of_ble_eq_true rfl) (by repeat' (first | exact trivial | exact ⟨_, rfl, Nat.le_refl _⟩ | exact Nat.le_of_ble_eq_true rfl | refine And.intro ?_ ?_)) (Nat.le_of_ble_eq_true rfl) rfl (fun F hE => ?_)
  repeat' (first | exact trivial | refine BS.d (fun h => ?_) (fun h => ?_) | refine BS.e (fun h => ?_) (fun h => ?_) | refine BS.ne (fun h => ?_) (fun h => ?_) | refine BS.n ?_ | refine BS.s (fun h => ?_) (fun h => ?_) | refine And.intro ?_ ?_ | (refine Need.mk ?_; first | with_reducible rfl | (show @Eq TC _ _; rfl) | omega | (simp only [adN_zero]; omega)) | exact OutS.whole rfl rfl | refine ListO.go gOk hE ?_)
  refine OpK.call (szSListS_run e g m h0 h1 hg hg') rfl rfl rfl rfl hE (by repeat' (first | exact PsA.lit _ | exact PsA.ref rfl rfl | constructor)) rfl rfl ?_
  repeat' (first | exact trivial | refine BS.d (fun h => ?_) (fun h => ?_) | refine BS.e (fun h => ?_) (fun h => ?_) | refine BS.ne (fun h => ?_) (fun h => ?_) | refine BS.n ?_ | refine BS.s (fun h => ?_) (fun h => ?_) | refine And.intro ?_ ?_ | (refine Need.mk ?_; first | with_reducible rfl | (show @Eq TC _ _; rfl) | omega | (simp only [adN_zero]; omega)) | exact OutS.whole rfl rfl | refine ListO.go gOk hE ?_)
  have := szSLs_le g m h0
  refine OpK.call (szSListS_run e o (szSLs g m) (by omega) (by omega) ho ho') rfl rfl rfl rfl hE (by repeat' (first | exact PsA.lit _ | exact PsA.ref rfl rfl | constructor)) rfl rfl ?_
  repeat' (first | exact trivial | refine BS.d (fun h => ?_) (fun h => ?_) | refine BS.e (fun h => ?_) (fun h => ?_) | refine BS.ne (fun h => ?_) (fun h => ?_) | refine BS.n ?_ | refine BS.s (fun h => ?_) (fun h => ?_) | refine And.intro ?_ ?_ | (refine Need.mk ?_; first | with_reducible rfl | (show @Eq TC _ _; rfl) | omega | (simp only [adN_zero]; omega)) | exact OutS.whole rfl rfl | refine ListO.go gOk hE ?_)
  all_goals (refine Need.mk ?_; have := szSLs_le o (szSLs g m) (by omega); rw [if_neg ‹¬ szSLs g m < 0›])
  omega
end Go.Proofs.YtfdbjiaghbeedaaGreatDoor
end

section
namespace Go.Proofs.YtfdbjiaghbeedaaGreatDoor
open Go Go.Tr
set_option maxRecDepth 100000
set_option linter.unusedVariables false
set_option linter.unusedSimpArgs false
theorem lists_of {e e' n : Nat} {row : Nat → Nat → C} (hn : n ≤ 9223372036854775807) (h : ∀ i r t, i < n → ([Dt.sl [.i]] : List Dt)[r]? = some t → DtOk t (row i r)) : ∃ xs : List (List Int), xs.length = n ∧ (∀ x ∈ xs, x.length ≤ 9223372036854775807 ∧ ∀ z ∈ x, -9223372036854775808 ≤ z ∧ z ≤ 9223372036854775807) ∧ CSame (.sl .fro e 1 n row) ((tSL e' xs).er .fro) :=
  list_of decL [] 1 (fun f hf => by
    obtain ⟨e2, n2, row2, hz, h1, h2⟩ := (hf 0 (.sl [.i]) rfl).slice
    obtain ⟨xs, k1, k2, k3⟩ := ints_of (e := e2) h1 h2
    refine ⟨xs, ⟨by omega, k2⟩, fun r hr => ?_⟩
    obtain rfl : r = 0 := by omega
    rw [hz]; exact k3) h
theorem getD_le {xs : List (List Int)} {m : Nat} (h : ∀ x ∈ xs, x.length ≤ m) (i : Nat) : (xs.getD i []).length ≤ m := by
  by_cases hi : i < xs.length
  · have : xs.getD i [] = xs[i] := by simp [List.getD, hi]
    rw [this]; exact h _ (List.getElem_mem hi)
  · simp [List.getD, hi]
end Go.Proofs.YtfdbjiaghbeedaaGreatDoor
end

section
namespace Go.Proofs.YtfdbjiaghbeedaaGreatDoor
open Go Go.Tr
set_option maxRecDepth 100000
set_option maxHeartbeats 4000000
set_option linter.unusedVariables false
set_option linter.unusedSimpArgs false
def szG (g o : List (List Int)) (m : Int) : Int := if szSLs g m < 0 then -1 else szSLs o (szSLs g m)
def szM (b c : List Int) (g o : List (List Int)) (m : Int) : Int := if szH b c m < 0 then -1 else szG g o (szH b c m)
theorem szG_le (g o : List (List Int)) (m : Int) (h : 0 ≤ m) : szG g o m ≤ m ∧ -1 ≤ szG g o m ∧ (0 ≤ szG g o m → (g.length ≤ m ∧ ∀ x ∈ g, x.length ≤ m) ∧ (o.length ≤ m ∧ ∀ x ∈ o, x.length ≤ m)) := by
  unfold szG
  obtain ⟨a1, a2, a3⟩ := szSLs_le g m h
  split
  · exact ⟨by omega, by omega, fun h => by omega⟩
  · obtain ⟨b1, b2, b3⟩ := szSLs_le o (szSLs g m) (by omega)
    refine ⟨by omega, b2, fun h9 => ⟨a3 (by omega), ?_⟩⟩
    obtain ⟨c1, c2⟩ := b3 h9
    exact ⟨by omega, fun x hx => by have := c2 x hx; omega⟩
theorem szM_le (b c : List Int) (g o : List (List Int)) (m : Int) (h : 0 ≤ m) : szM b c g o m ≤ m ∧ -1 ≤ szM b c g o m ∧ (0 ≤ szM b c g o m → (b.length ≤ m ∧ c.length ≤ m) ∧ (g.length ≤ m ∧ ∀ x ∈ g, x.length ≤ m) ∧ (o.length ≤ m ∧ ∀ x ∈ o, x.length ≤ m)) := by
  unfold szM
  obtain ⟨a1, a2, a3⟩ := szH_le b c m h
  split
  · exact ⟨by omega, by omega, fun h => by omega⟩
  · obtain ⟨b1, b2, b3⟩ := szG_le g o (szH b c m) (by omega)
    refine ⟨by omega, b2, fun h9 => ⟨a3 (by omega), ?_⟩⟩
    obtain ⟨⟨c1, c2⟩, c3, c4⟩ := b3 h9
    exact ⟨⟨by omega, fun x hx => by have := c2 x hx; omega⟩, by omega, fun x hx => by have := c4 x hx; omega⟩
theorem szMem_run (e e' : Nat) (b c : List Int) (g o : List (List Int)) (m : Int) (h0 : 0 ≤ m) (h1 : m ≤ 1048576) (hb : b.length ≤ 9223372036854775807) (hc : c.length ≤ 9223372036854775807) (hg : g.length ≤ 9223372036854775807) (hg' : ∀ i, (g.getD i []).length ≤ 9223372036854775807) (ho : o.length ≤ 9223372036854775807) (ho' : ∀ i, (o.getD i []).length ≤ 9223372036854775807) :
    RunT Tryz.prog 10 [.agg [.c (tI b), .c (tI c), .c (tSL e g), .c (tSL e o)], ti m] [] [oi (szM b c g o m)] [] := by
  have q1 := szH_le b c m h0
  have c1 := szHeap_run b c m h0 h1 hb hc
  refine RunT.of_vc gOk Tryz.func10 rfl rfl (Nat.le_of_ble_eq_true rfl) (by repeat' (first | exact trivial | exact ⟨_, rfl, Nat.le_refl _⟩ | exact Nat.le_of_ble_eq_true rfl | refine And.intro ?_ ?_)) (Nat.le_of_ble_eq_true rfl) rfl (fun F hE => ?_)
  repeat' (first | exact trivial | refine BS.d (fun h => ?_) (fun h => ?_) | refine BS.e (fun h => ?_) (fun h => ?_) | refine BS.ne (fun h => ?_) (fun h => ?_) | refine BS.n ?_ | refine BS.s (fun h => ?_) (fun h => ?_) | refine And.intro ?_ ?_ | (refine Need.mk ?_; first | with_reducible rfl | (show @Eq TC _ _; rfl) | omega | (simp only [adN_zero]; omega)) | exact OutS.whole rfl rfl | (refine OpK.call c1 rfl rfl rfl rfl hE ?_ rfl rfl ?_; focus ((repeat' (first | exact PsA.lit _ | exact PsA.ref rfl rfl | constructor)); all_goals (fail "ps"))) | refine ListO.go gOk hE ?_)
  all_goals first | (refine Need.mk ?_; unfold szM; rw [if_pos (by assumption)]) | skip
  all_goals have c2 : RunT Tryz.prog 45 [.agg [.c (tSL e g), .c (tSL e o)], ti (szH b c m)] [] [oi (szG g o (szH b c m))] [] := szLists_run e g o (szH b c m) (by omega) (by omega) hg hg' ho ho'
  all_goals (repeat' (first | exact trivial | refine BS.d (fun h => ?_) (fun h => ?_) | refine BS.e (fun h => ?_) (fun h => ?_) | refine BS.ne (fun h => ?_) (fun h => ?_) | refine BS.n ?_ | refine BS.s (fun h => ?_) (fun h => ?_) | refine And.intro ?_ ?_ | (refine Need.mk ?_; first | with_reducible rfl | (show @Eq TC _ _; rfl) | omega | (simp only [adN_zero]; omega)) | exact OutS.whole rfl rfl | (refine OpK.call c2 rfl rfl rfl rfl hE ?_ rfl rfl ?_; focus ((repeat' (first | exact PsA.lit _ | exact PsA.ref rfl rfl | constructor)); all_goals (fail "ps"))) | refine ListO.go gOk hE ?_))
  all_goals have q2 := szG_le g o (szH b c m) (by omega)
  all_goals have q3 : szM b c g o m = szG g o (szH b c m) := (if_neg (by assumption))
  all_goals (refine Need.mk ?_; rw [q3]; try omega)
theorem toMem_run (e : Nat) (b c : List Int) (g o : List (List Int)) (hb : b.length ≤ 1048576) (hc : c.length ≤ 1048576) (hg : g.length ≤ 1048576) (hg' : ∀ i, (g.getD i []).length ≤ 1048576) (ho : o.length ≤ 1048576) (ho' : ∀ i, (o.getD i []).length ≤ 1048576) :
    RunT Tryz.prog 12 [.agg [.c (tI b), .c (tI c), .c (tSL e g), .c (tSL e o)]] [] [.agg [tI b, tI c, tSL 135 g, tSL 135 o]] [] := by
  have c1 := toHeap_run b c hb hc
  have c2 := toLists_run e g o hg hg' ho ho'
  refine RunT.of_vc gOk Tryz.func12 rfl rfl (Nat.le_of_ble_eq_true rfl) (by repeat' (first | exact trivial | exact ⟨_, rfl, Nat.le_refl _⟩ | exact Nat.le_of_ble_eq_true rfl | refine And.intro ?_ ?_)) (Nat.le_of_ble_eq_true rfl) rfl (fun F hE => ?_)
  repeat' (first | exact trivial | refine BS.d (fun h => ?_) (fun h => ?_) | refine BS.e (fun h => ?_) (fun h => ?_) | refine BS.ne (fun h => ?_) (fun h => ?_) | refine BS.n ?_ | refine BS.s (fun h => ?_) (fun h => ?_) | refine And.intro ?_ ?_ | (refine Need.mk ?_; first | with_reducible rfl | (show @Eq TC _ _; rfl) | omega | (simp only [adN_zero]; omega)) | exact OutS.whole rfl rfl | (refine OpK.call c1 rfl rfl rfl rfl hE ?_ rfl rfl ?_; focus ((repeat' (first | exact PsA.lit _ | exact PsA.ref rfl rfl | constructor)); all_goals (fail "ps"))) | (refine OpK.call c2 rfl rfl rfl rfl hE ?_ rfl rfl ?_; focus ((repeat' (first | exact PsA.lit _ | exact PsA.ref rfl rfl | constructor)); all_goals (fail "ps"))) | refine ListO.go gOk hE ?_)
theorem eqMem_run (e : Nat) (b c : List Int) (g o : List (List Int)) (hb : b.length ≤ 4000000) (hc : c.length ≤ 4000000) (hg : g.length ≤ 4000000) (hg' : ∀ i, (g.getD i []).length ≤ 4000000) (ho : o.length ≤ 4000000) (ho' : ∀ i, (o.getD i []).length ≤ 4000000) :
    RunT Tryz.prog 15 [.agg [.c (tI b), .c (tI c), .c (tSL e g), .c (tSL e o)], .agg [.c (tI b), .c (tI c), .c (tSL e g), .c (tSL e o)]] [] [ob true] [] := by
  have c1 := eqHeap_run b c hb hc
  have c2 := eqLists_run e g o hg hg' ho ho'
  refine RunT.of_vc gOk Tryz.func15 rfl rfl (Nat.le_of_ble_eq_true rfl) (by repeat' (first | exact trivial | exact ⟨_, rfl, Nat.le_refl _⟩ | exact Nat.le_of_ble_eq_true rfl | refine And.intro ?_ ?_)) (Nat.le_of_ble_eq_true rfl) rfl (fun F hE => ?_)
  repeat' (first | exact trivial | refine BS.d (fun h => ?_) (fun h => ?_) | refine BS.e (fun h => ?_) (fun h => ?_) | refine BS.ne (fun h => ?_) (fun h => ?_) | refine BS.n ?_ | refine BS.s (fun h => ?_) (fun h => ?_) | refine And.intro ?_ ?_ | (refine Need.mk ?_; first | with_reducible rfl | (show @Eq TC _ _; rfl) | omega | (simp only [adN_zero]; omega)) | exact OutS.whole rfl rfl | (refine OpK.call c1 rfl rfl rfl rfl hE ?_ rfl rfl ?_; focus ((repeat' (first | exact PsA.lit _ | exact PsA.ref rfl rfl | constructor)); all_goals (fail "ps"))) | (refine OpK.call c2 rfl rfl rfl rfl hE ?_ rfl rfl ?_; focus ((repeat' (first | exact PsA.lit _ | exact PsA.ref rfl rfl | constructor)); all_goals (fail "ps"))) | refine ListO.go gOk hE ?_)
abbrev aMm (e : Nat) (b c : List Int) (g o : List (List Int)) : TAg := .agg [.c (tI b), .c (tI c), .c (tSL e g), .c (tSL e o)]
/-- Lists and their elements are no longer than m. -/
structure MmOk (m : Nat) (b c : List Int) (g o : List (List Int)) : Prop where
  hb : b.length ≤ m
  hc : c.length ≤ m
  hg : g.length ≤ m
  ho : o.length ≤ m
  hg' : ∀ i, (g.getD i []).length ≤ m
  ho' : ∀ i, (o.getD i []).length ≤ m
theorem MmOk.le {m m' : Nat} {b c : List Int} {g o : List (List Int)} (h : MmOk m b c g o) (hm : m ≤ m') : MmOk m' b c g o :=
  ⟨Nat.le_trans h.hb hm, Nat.le_trans h.hc hm, Nat.le_trans h.hg hm, Nat.le_trans h.ho hm, fun i => Nat.le_trans (h.hg' i) hm, fun i => Nat.le_trans (h.ho' i) hm⟩
theorem MmOk.of_sz {m : Int} {b c : List Int} {g o : List (List Int)} (h0 : 0 ≤ m) (h1 : m ≤ 1048576) (h : ¬ szM b c g o m < 0) : MmOk 1048576 b c g o := by
  obtain ⟨k1, k2, k3⟩ := szM_le b c g o m h0
  obtain ⟨⟨a1, a2⟩, ⟨a3, a4⟩, a5, a6⟩ := k3 (by omega)
  exact ⟨by omega, by omega, by omega, by omega, getD_le fun x hx => (by have := a4 x hx; omega), getD_le fun x hx => (by have := a6 x hx; omega)⟩
end Go.Proofs.YtfdbjiaghbeedaaGreatDoor
end

section
/- Lists and a memory are copied. -/
namespace Go.Proofs.YtfdbjiaghbeedaaGreatDoor
open Go Go.Tr
set_option maxRecDepth 100000
set_option maxHeartbeats 4000000
set_option linter.unusedVariables false
set_option linter.unusedSimpArgs false
theorem copySLists_run (e : Nat) (xs : List (List Int)) (hn : xs.length ≤ 1048576) (hx : ∀ i, (xs.getD i []).length ≤ 1048576) : RunT Tryz.prog 193 [.one (.c (tSL e xs))] [] [.one (tSL 135 xs)] [] := by
  refine RunT.of_vc gOk Tryz.func193 rfl rfl (Nat.le_of_ble_eq_true rfl) (by repeat' (first | exact trivial | exact ⟨_, rfl, Nat.le_refl _⟩ | exact Nat.le_of_ble_eq_true rfl | refine And.intro ?_ ?_)) (Nat.le_of_ble_eq_true rfl) rfl (fun F hE => ?_)
  repeat' (first | exact trivial | refine BS.d (fun h => ?_) (fun h => ?_) | refine BS.e (fun h => ?_) (fun h => ?_) | refine BS.ne (fun h => ?_) (fun h => ?_) | refine BS.n ?_ | refine BS.s (fun h => ?_) (fun h => ?_) | refine And.intro ?_ ?_ | (refine Need.mk ?_; first | with_reducible rfl | (show @Eq TC _ _; rfl) | omega | (simp only [adN_zero]; omega)) | exact OutS.whole rfl rfl | refine ListO.go gOk hE ?_)
  refine CodeK.loop gOk hE (fun i : Nat => ⟨[(3, vr 8 xs.length), (9, vr 1000000 xs.length), (10, vi xs.length), (11, vi i)], [(8, rSL .own true 135 (fl [] xs i)), (1000000, rSL .fro false e xs)]⟩) (fun i => i ≤ xs.length) (fun i => xs.length - i) 0 (by refine leT.of ?_ ?_ rfl <;> repeat' (first | exact trivial | refine And.intro rfl ?_ | refine And.intro (by simp [fl_zero] <;> rfl) ?_)) (Nat.zero_le _) ?_
  rintro i hi
  have hl := fl_len [] xs i hi
  have c1 := CloneI_run (xs.getD i []) (hx i)
  by_cases hi2 : i < xs.length
  · have hfs := fl_set [] xs i hi2
    repeat' (first | exact trivial | refine BS.d (fun h => ?_) (fun h => ?_) | refine BS.e (fun h => ?_) (fun h => ?_) | refine BS.ne (fun h => ?_) (fun h => ?_) | refine BS.n ?_ | refine BS.s (fun h => ?_) (fun h => ?_) | refine And.intro ?_ ?_ | (refine Need.mk ?_; first | with_reducible rfl | (show @Eq TC _ _; rfl) | omega | (simp only [adN_zero]; omega)) | exact OutS.whole rfl rfl | (refine OpK.call c1 rfl rfl rfl rfl hE ?_ rfl rfl ?_; focus ((repeat' (first | exact PsA.lit _ | exact PsA.ref rfl rfl | constructor)); all_goals (fail "ps"))) | (refine OpK.stN gOk (xs.getD i []) rfl rfl rfl rfl rfl rfl rfl rfl rfl (by (try simp only [adN_zero]); omega) (StN.ref rfl rfl rfl rfl rfl StN.nil) ?_) | refine ListO.go gOk hE ?_)
    all_goals (try simp only [adN_zero] at *)
    all_goals first
      | (exfalso; omega)
      | (refine Need.mk ?_; omega)
      | (refine ⟨i + 1, (by refine leT.of ?_ ?_ rfl <;> repeat' (first | exact trivial | refine And.intro rfl ?_ | refine And.intro (by first | rfl | (rw [← hfs]; rfl) | (simp <;> rfl)) ?_)), by omega, by first | omega | (dsimp only; omega)⟩)
      | trace_state
  · repeat' (first | exact trivial | refine BS.d (fun h => ?_) (fun h => ?_) | refine BS.e (fun h => ?_) (fun h => ?_) | refine BS.ne (fun h => ?_) (fun h => ?_) | refine BS.n ?_ | refine BS.s (fun h => ?_) (fun h => ?_) | refine And.intro ?_ ?_ | (refine Need.mk ?_; first | with_reducible rfl | (show @Eq TC _ _; rfl) | omega | (simp only [adN_zero]; omega)) | exact OutS.whole rfl rfl | refine ListO.go gOk hE ?_)
    all_goals first
      | (exfalso; omega)
      | exact OutS.whole hl.symm (by rw [fl_full _ _ _ (by omega) hi]; rfl)
      | trace_state
theorem l8Rows_run (e : Nat) (xs : List (List Int)) (hn : xs.length ≤ 1048576) (hx : ∀ i, (xs.getD i []).length ≤ 1048576) : RunT Tryz.prog 190 [.one (.c (tSL e xs))] [] [.one (tSL 135 xs)] [] := by
  refine RunT.of_vc gOk Tryz.func190 rfl rfl (Nat.le_of_ble_eq_true rfl) (by repeat' (first | exact trivial | exact ⟨_, rfl, Nat.le_refl _⟩ | exact Nat.le_of_ble_eq_true rfl | refine And.intro ?_ ?_)) (Nat.le_of_ble_eq_true rfl) rfl (fun F hE => ?_)
  repeat' (first | exact trivial | refine BS.d (fun h => ?_) (fun h => ?_) | refine BS.e (fun h => ?_) (fun h => ?_) | refine BS.ne (fun h => ?_) (fun h => ?_) | refine BS.n ?_ | refine BS.s (fun h => ?_) (fun h => ?_) | refine And.intro ?_ ?_ | (refine Need.mk ?_; first | with_reducible rfl | (show @Eq TC _ _; rfl) | omega | (simp only [adN_zero]; omega)) | exact OutS.whole rfl rfl | refine ListO.go gOk hE ?_)
  refine CodeK.loop gOk hE (fun i : Nat => ⟨[(0, vr 1000000 xs.length), (3, vr 5 (xs.take i).length), (4, vi i)], [(5, rSL .own true 135 (xs.take i)), (1000000, rSL .fro false e xs)]⟩) (fun i => i ≤ xs.length) (fun i => xs.length - i) 0 (by refine leT.of ?_ ?_ rfl <;> repeat' (first | exact trivial | refine And.intro rfl ?_ | refine And.intro (by first | rfl | (simp <;> rfl)) ?_)) (Nat.zero_le _) ?_
  rintro i hi
  have hxi := hx i
  have c1 := l3Copy_run (xs.getD i []) (hx i)
  by_cases hi2 : i < xs.length
  · have htk : xs.take (i + 1) = xs.take i ++ [xs.getD i []] := by
      rw [List.take_succ_eq_append_getElem hi2]; simp [List.getD, hi2]
    have hlt : (xs.take i).length ≤ 1048576 := by rw [List.length_take]; omega
    repeat' (first | exact trivial | refine BS.d (fun h => ?_) (fun h => ?_) | refine BS.e (fun h => ?_) (fun h => ?_) | refine BS.ne (fun h => ?_) (fun h => ?_) | refine BS.n ?_ | refine BS.s (fun h => ?_) (fun h => ?_) | refine And.intro ?_ ?_ | (refine Need.mk ?_; first | with_reducible rfl | (show @Eq TC _ _; rfl) | omega | (simp only [adN_zero]; omega)) | exact OutS.whole rfl rfl | (refine OpK.call c1 rfl rfl rfl rfl hE ?_ rfl rfl ?_; focus ((repeat' (first | exact PsA.lit _ | exact PsA.ref rfl rfl | constructor)); all_goals (fail "ps"))) | (refine OpK.app1N (l := [.ref 2002304 0 (xs.getD i []).length]) gOk (xs.getD i []) (by rfl) (by rfl) (by rfl) (by rfl) (by rfl) (by rfl) (by rfl) (by rfl) (by rfl) (by rfl) (by rfl) (by refine ⟨?_, ?_⟩ <;> (try unfold maxLen) <;> omega) (by rfl) (by rfl) (StN.ref (by rfl) (by rfl) (by rfl) (by rfl) (by rfl) StN.nil) ?_) | refine ListO.go gOk hE ?_)
    all_goals (try simp only [adN_zero] at *)
    all_goals first
      | (exfalso; omega)
      | (refine Need.mk ?_; omega)
      | (refine ⟨i + 1, (by refine leT.of ?_ ?_ rfl <;> repeat' (first | exact trivial | refine And.intro rfl ?_ | refine And.intro (by first | rfl | (rw [htk]; first | rfl | (simp; done)) | (simp [htk] <;> rfl)) ?_)), by omega, by first | omega | (dsimp only; omega)⟩)
      | trace_state
  · repeat' (first | exact trivial | refine BS.d (fun h => ?_) (fun h => ?_) | refine BS.e (fun h => ?_) (fun h => ?_) | refine BS.ne (fun h => ?_) (fun h => ?_) | refine BS.n ?_ | refine BS.s (fun h => ?_) (fun h => ?_) | refine And.intro ?_ ?_ | (refine Need.mk ?_; first | with_reducible rfl | (show @Eq TC _ _; rfl) | omega | (simp only [adN_zero]; omega)) | exact OutS.whole rfl rfl | refine ListO.go gOk hE ?_)
    all_goals first
      | (exfalso; omega)
      | exact OutS.whole rfl (by rw [List.take_of_length_le (by omega)]; rfl)
      | trace_state
abbrev oMm (b c : List Int) (g o : List (List Int)) : TAr := .agg [tI b, tI c, tSL 135 g, tSL 135 o]
theorem copyMem_run (e : Nat) (b c : List Int) (g o : List (List Int)) (h : MmOk 1048576 b c g o) : RunT Tryz.prog 66 [aMm e b c g o] [] [oMm b c g o] [] := by
  have c1 := copyHeap_run b c h.hb h.hc
  have c2 := copySLists_run e g h.hg h.hg'
  have c3 := copySLists_run e o h.ho h.ho'
  have c4 : RunT Tryz.prog 127 [.agg [.c (tSL e g), .c (tSL e o)]] [] [.agg [tSL 135 g, tSL 135 o]] [] := by
    refine RunT.of_vc gOk Tryz.func127 rfl rfl (Nat.le_of_ble_eq_true rfl) (by repeat' (first | exact trivial | exact ⟨_, rfl, Nat.le_refl _⟩ | exact Nat.le_of_ble_eq_true rfl | refine And.intro ?_ ?_)) (Nat.le_of_ble_eq_true rfl) rfl (fun F hE => ?_)
    repeat' (first | exact trivial | refine BS.d (fun h => ?_) (fun h => ?_) | refine BS.e (fun h => ?_) (fun h => ?_) | refine BS.ne (fun h => ?_) (fun h => ?_) | refine BS.n ?_ | refine BS.s (fun h => ?_) (fun h => ?_) | refine And.intro ?_ ?_ | (refine Need.mk ?_; first | with_reducible rfl | (show @Eq TC _ _; rfl) | omega | (simp only [adN_zero]; omega)) | exact OutS.whole rfl rfl | (refine OpK.call c2 rfl rfl rfl rfl hE ?_ rfl rfl ?_; focus ((repeat' (first | exact PsA.lit _ | exact PsA.ref rfl rfl | constructor)); all_goals (fail "ps"))) | (refine OpK.call c3 rfl rfl rfl rfl hE ?_ rfl rfl ?_; focus ((repeat' (first | exact PsA.lit _ | exact PsA.ref rfl rfl | constructor)); all_goals (fail "ps"))) | (refine CodeK.draw gOk hE rfl (fun _ _ h => h) (.take 0 (.take 3 (.alt 1 (.alt 2 (.alt 4 (.alt 5 (.alt 6 (.alt 7 .done .stop) .stop) .stop) .stop) (.alt 4 (.alt 2 (.alt 5 (.alt 6 (.alt 7 .done .stop) .stop) .stop) .stop) .stop)) (.alt 4 (.alt 1 (.alt 2 (.alt 5 (.alt 6 (.alt 7 .done .stop) .stop) .stop) .stop) .stop) .stop)))) ?_ ?_; focus (decide +kernel)) | refine ListO.go gOk hE ?_)
    all_goals trace_state
  refine RunT.of_vc gOk Tryz.func66 rfl rfl (Nat.le_of_ble_eq_true rfl) (by repeat' (first | exact trivial | exact ⟨_, rfl, Nat.le_refl _⟩ | exact Nat.le_of_ble_eq_true rfl | refine And.intro ?_ ?_)) (Nat.le_of_ble_eq_true rfl) rfl (fun F hE => ?_)
  repeat' (first | exact trivial | refine BS.d (fun h => ?_) (fun h => ?_) | refine BS.e (fun h => ?_) (fun h => ?_) | refine BS.ne (fun h => ?_) (fun h => ?_) | refine BS.n ?_ | refine BS.s (fun h => ?_) (fun h => ?_) | refine And.intro ?_ ?_ | (refine Need.mk ?_; first | with_reducible rfl | (show @Eq TC _ _; rfl) | omega | (simp only [adN_zero]; omega)) | exact OutS.whole rfl rfl | (refine OpK.call c1 rfl rfl rfl rfl hE ?_ rfl rfl ?_; focus ((repeat' (first | exact PsA.lit _ | exact PsA.ref rfl rfl | constructor)); all_goals (fail "ps"))) | (refine OpK.call c4 rfl rfl rfl rfl hE ?_ rfl rfl ?_; focus ((repeat' (first | exact PsA.lit _ | exact PsA.ref rfl rfl | constructor)); all_goals (fail "ps"))) | (refine CodeK.draw gOk hE rfl (fun _ _ h => h) (.take 0 (.take 3 (.alt 1 (.alt 2 (.alt 4 (.alt 5 (.alt 6 (.alt 7 .done .stop) .stop) .stop) .stop) (.alt 4 (.alt 2 (.alt 5 (.alt 6 (.alt 7 .done .stop) .stop) .stop) .stop) .stop)) (.alt 4 (.alt 1 (.alt 2 (.alt 5 (.alt 6 (.alt 7 .done .stop) .stop) .stop) .stop) .stop) .stop)))) ?_ ?_; focus (decide +kernel)) | refine ListO.go gOk hE ?_)
  all_goals trace_state
theorem l9Copy_run (e : Nat) (b c : List Int) (g o : List (List Int)) (h : MmOk 1048576 b c g o) : RunT Tryz.prog 61 [aMm e b c g o] [] [oMm b c g o] [] := by
  have c1 := l7Copy_run b c h.hb h.hc
  have c2 := l8Rows_run e g h.hg h.hg'
  have c3 := l8Rows_run e o h.ho h.ho'
  have c4 : RunT Tryz.prog 123 [.agg [.c (tSL e g), .c (tSL e o)]] [] [.agg [tSL 135 g, tSL 135 o]] [] := by
    refine RunT.of_vc gOk Tryz.func123 rfl rfl (Nat.le_of_ble_eq_true rfl) (by repeat' (first | exact trivial | exact ⟨_, rfl, Nat.le_refl _⟩ | exact Nat.le_of_ble_eq_true rfl | refine And.intro ?_ ?_)) (Nat.le_of_ble_eq_true rfl) rfl (fun F hE => ?_)
    repeat' (first | exact trivial | refine BS.d (fun h => ?_) (fun h => ?_) | refine BS.e (fun h => ?_) (fun h => ?_) | refine BS.ne (fun h => ?_) (fun h => ?_) | refine BS.n ?_ | refine BS.s (fun h => ?_) (fun h => ?_) | refine And.intro ?_ ?_ | (refine Need.mk ?_; first | with_reducible rfl | (show @Eq TC _ _; rfl) | omega | (simp only [adN_zero]; omega)) | exact OutS.whole rfl rfl | (refine OpK.call c2 rfl rfl rfl rfl hE ?_ rfl rfl ?_; focus ((repeat' (first | exact PsA.lit _ | exact PsA.ref rfl rfl | constructor)); all_goals (fail "ps"))) | (refine OpK.call c3 rfl rfl rfl rfl hE ?_ rfl rfl ?_; focus ((repeat' (first | exact PsA.lit _ | exact PsA.ref rfl rfl | constructor)); all_goals (fail "ps"))) | (refine CodeK.draw gOk hE rfl (fun _ _ h => h) (.take 0 (.take 3 (.alt 1 (.alt 2 (.alt 4 (.alt 5 (.alt 6 (.alt 7 .done .stop) .stop) .stop) .stop) (.alt 4 (.alt 2 (.alt 5 (.alt 6 (.alt 7 .done .stop) .stop) .stop) .stop) .stop)) (.alt 4 (.alt 1 (.alt 2 (.alt 5 (.alt 6 (.alt 7 .done .stop) .stop) .stop) .stop) .stop) .stop)))) ?_ ?_; focus (decide +kernel)) | refine ListO.go gOk hE ?_)
    all_goals trace_state
  refine RunT.of_vc gOk Tryz.func61 rfl rfl (Nat.le_of_ble_eq_true rfl) (by repeat' (first | exact trivial | exact ⟨_, rfl, Nat.le_refl _⟩ | exact Nat.le_of_ble_eq_true rfl | refine And.intro ?_ ?_)) (Nat.le_of_ble_eq_true rfl) rfl (fun F hE => ?_)
  repeat' (first | exact trivial | refine BS.d (fun h => ?_) (fun h => ?_) | refine BS.e (fun h => ?_) (fun h => ?_) | refine BS.ne (fun h => ?_) (fun h => ?_) | refine BS.n ?_ | refine BS.s (fun h => ?_) (fun h => ?_) | refine And.intro ?_ ?_ | (refine Need.mk ?_; first | with_reducible rfl | (show @Eq TC _ _; rfl) | omega | (simp only [adN_zero]; omega)) | exact OutS.whole rfl rfl | (refine OpK.call c1 rfl rfl rfl rfl hE ?_ rfl rfl ?_; focus ((repeat' (first | exact PsA.lit _ | exact PsA.ref rfl rfl | constructor)); all_goals (fail "ps"))) | (refine OpK.call c4 rfl rfl rfl rfl hE ?_ rfl rfl ?_; focus ((repeat' (first | exact PsA.lit _ | exact PsA.ref rfl rfl | constructor)); all_goals (fail "ps"))) | (refine CodeK.draw gOk hE rfl (fun _ _ h => h) (.take 0 (.take 3 (.alt 1 (.alt 2 (.alt 4 (.alt 5 (.alt 6 (.alt 7 .done .stop) .stop) .stop) .stop) (.alt 4 (.alt 2 (.alt 5 (.alt 6 (.alt 7 .done .stop) .stop) .stop) .stop) .stop)) (.alt 4 (.alt 1 (.alt 2 (.alt 5 (.alt 6 (.alt 7 .done .stop) .stop) .stop) .stop) .stop) .stop)))) ?_ ?_; focus (decide +kernel)) | refine ListO.go gOk hE ?_)
  all_goals trace_state
end Go.Proofs.YtfdbjiaghbeedaaGreatDoor
end

section
/- Strings as literals: length, index, comparison; a byte as a number; a contract of the old form over numbers and strings. -/
set_option linter.unusedVariables false
set_option linter.unusedSimpArgs false
universe u
namespace Go.Tr
open Go Go.RowKit
section
variable {P : Program} {F : Fm} {N : Nat} {G : Gt} {o : Oper} {σ : TS} {k : TS → Prop}
theorem PK.lenS {x : Operand} {t : Nat} {s : ByteArray} {kv : V → Prop} (hop : o.op = .call { callee := .builtin .len, args := #[x], argTypes := #[t] }) (hx : evS σ x = .a (.lit (.string s))) (ht : P.underlying t = some .string) (h : kv (.a (.lit (.int .i64 s.size)))) : PK P F N o σ kv := by
  refine ⟨_, h, fun a w ω β hr => ?_⟩
  have ex : a.eval x = .string s := ev_lit hr (by rw [evS_eq, hx]; rfl)
  refine ⟨.int .i64 s.size, fun w' => ?_, VRel.lit rfl⟩
  generalize a.eval = ρ at ex ⊢
  simp [execOp, hop, go_sem, ex, resolve, invoke, builtin, Builtin.len_, underlying, ht, goInt]
theorem OpK.ixS {t : Nat} {x ix : Operand} {ki : IntKind} {s : ByteArray} {i : Int} (hop : o.op = .index t x ix) (hg : o.guard = none) (hd : okD N o.dst = true) (ht : P.underlying t = some .string) (hx : evS σ x = .a (.lit (.string s))) (hi : evS σ ix = .a (.lit (.int ki i))) {b8 : UInt8} (h0 : 0 ≤ i) (hb : s[i.toNat]? = some b8)
    (h : stO o σ (.a (.lit (.int .u8 b8.toNat))) k) : OpK P F N o σ k :=
  ⟨fun ops Q rest kk => AL.val hg hd (fun a w ω β hr => by
    have ex : a.eval x = .string s := ev_lit hr (by rw [evS_eq, hx]; rfl)
    have ei : a.eval ix = .int ki i := ev_lit hr (by rw [evS_eq, hi]; rfl)
    refine ⟨.int .u8 b8.toNat, ?_, VRel.lit rfl⟩
    generalize a.eval = ρ at ex ei ⊢
    have hi2 : (Instr.index t (.string s) (.int ki i)).run P w = .ok (.int .u8 b8.toNat) w := by
      unfold Instr.index
      simp [asIntOf, go_sem, underlying, ht, h0]
      rw [hb]
      simp [go_sem]
    simp [execOp, hop, go_sem, ex, ei, hi2]) (stO_ok hd kk h)⟩
theorem OpK.cv8 {t u : Nat} {x : Operand} {z : Int} (hop : o.op = .convert t u x) (hg : o.guard = none) (hd : okD N o.dst = true) (ht : P.underlying t = some (.int .u8)) (hu : P.underlying u = some (.int .i64)) (hx : evS σ x = .a (.lit (.int .u8 z))) (hz : 0 ≤ z ∧ z ≤ 255)
    (h : stO o σ (.a (.lit (.int .i64 z))) k) : OpK P F N o σ k :=
  ⟨fun ops Q rest kk => AL.val hg hd (fun a w ω β hr => by
    have ex : a.eval x = .int .u8 z := ev_lit hr (by rw [evS_eq, hx]; rfl)
    refine ⟨.int .i64 z, ?_, VRel.lit rfl⟩
    have hw : IntKind.i64.wrap z = z := IntWalk.i64_in _ (by omega)
    generalize a.eval = ρ at ex ⊢
    simp [execOp, hop, go_sem, ex, convert, underlying, ht, hu, hw]) (stO_ok hd kk h)⟩
theorem PK.neS {t u : Nat} {x y : Operand} {s r : ByteArray} {kv : V → Prop} (bb : Bool) (hop : o.op = .binOp .neq t x y u) (hx : evS σ x = .a (.lit (.string s))) (hy : evS σ y = .a (.lit (.string r))) (ht : P.underlying t = some .string) (hb : (s.toList == r.toList) = bb) (h : kv (.a (.lit (.bool (!bb))))) : PK P F N o σ kv := by
  refine ⟨_, h, fun a w ω β hr => ?_⟩
  have ex : a.eval x = .string s := ev_lit hr (by rw [evS_eq, hx]; rfl)
  have ey : a.eval y = .string r := ev_lit hr (by rw [evS_eq, hy]; rfl)
  refine ⟨.bool (!bb), fun w' => ?_, VRel.lit rfl⟩
  generalize a.eval = ρ at ex ey ⊢
  refine run_bin ρ w' hop (by rw [ex, ey]; rfl) ?_
  rw [ex, ey]
  show (Op.stringOp .neq s r).run P w' = _
  unfold Op.stringOp
  rw [hb]
  rfl
/-- A contract of the old form, over scalars. -/
theorem RunT.of_below {f : FuncId} {vs : List Value} {out : Value} (hfn : CallF P f) (hs : scal out = true) (h : ∀ w, Calls P f vs.toArray w fun e w' => e = .returned out ∧ Below w.heap.size w w') : RunT P f (vs.map fun v => .one (.c (.lit v))) [] [.one (.lit out)] [] := by
  refine ⟨hfn, fun w q A cargs hent => ?_⟩
  have hc : cargs = vs.toArray := by
    apply Array.ext'
    apply List.ext_getElem?
    intro i
    have hsz := hent.size
    simp only [List.length_map] at hsz
    by_cases hi : i < vs.length
    · obtain ⟨u, h1, h2⟩ := hent.args i (.one (.c (.lit vs[i]))) (by simp [hi]; rfl)
      obtain ⟨h2, _⟩ := h2
      rw [Array.getElem?_toList, h1, h2]
      simp [hi]
    · rw [Array.getElem?_toList, Array.getElem?_eq_none (by omega)]
      simp; omega
  subst hc
  refine (h w).mono fun e w' ⟨he, hb⟩ => ?_
  refine ⟨[out], _, _, q, he, ⟨rfl, rfl⟩, ⟨rfl, fun i x hi => ?_, fun ρ x hx => by simp at hx, fun b j x hx => ⟨Nat.lt_of_lt_of_le (hent.lt b j x hx) hb.size, fun hne => .inl ⟨x, hx, hne⟩, fun e => e ▸ hx⟩, ⟨hb.os, hb.tape, hb.output, ⟨hb.size, fun b cur e fz hh => ⟨cur, ?_, rfl⟩⟩, fun b j hlt _ => ?_, fun b hlt _ => hb.block b hlt⟩⟩⟩
  · cases i with
    | zero => injection hi with hi; subst hi; exact ⟨out, rfl, rfl, hs⟩
    | succ i => simp at hi
  · rw [hb.block b (Array.getElem?_eq_some_iff.1 hh).1]; exact hh
  · unfold World.cell?
    simp only [hb.block b hlt]
end
end Go.Tr
end

section
/- Plain mathematics of chapter 1: big-endian numbers, LEB128, hexadecimal digits. -/
set_option linter.unusedVariables false
set_option linter.unusedSimpArgs false
namespace Go.Proofs.YtfdbjiaghbeedaaGreatDoor

def inB (n lo hi : Int) : Bool := decide (lo ≤ n ∧ n ≤ hi)

theorem inB_iff {n lo hi : Int} : inB n lo hi = true ↔ lo ≤ n ∧ n ≤ hi := by simp [inB]
theorem inB_no {n lo hi : Int} : inB n lo hi = false ↔ ¬ (lo ≤ n ∧ n ≤ hi) := by simp [inB]

/-- The number that bytes stand for, most significant first. -/
def be (l : List UInt8) : Int := l.foldl (fun n c => n * 256 + (c.toNat : Int)) 0

theorem be_snoc (l : List UInt8) (c : UInt8) : be (l ++ [c]) = be l * 256 + (c.toNat : Int) := by
  simp [be, List.foldl_append]

theorem u8_le (c : UInt8) : 0 ≤ (c.toNat : Int) ∧ (c.toNat : Int) ≤ 255 := by
  have := c.toNat_lt; omega

theorem be_bd : ∀ (k : Nat) (l : List UInt8), l.length = k → 0 ≤ be l ∧ be l < 256 ^ k
  | 0, l, h => by
    have : l = [] := List.length_eq_zero_iff.1 h
    subst this; simp [be]
  | k + 1, l, h => by
    have hn : l ≠ [] := by intro e; simp [e] at h
    have e := List.dropLast_concat_getLast hn
    have hl : (l.dropLast).length = k := by simp [h]
    have ih := be_bd k _ hl
    rw [← e, be_snoc]
    have := u8_le (l.getLast hn)
    rw [Int.pow_succ]
    omega

theorem pow_up (k : Nat) : ∀ d : Nat, (256 : Int) ^ k ≤ 256 ^ (k + d) ∧ 0 < (256 : Int) ^ k
  | 0 => ⟨Int.le_refl _, Int.pow_pos (by omega)⟩
  | d + 1 => by
    have ⟨a, b⟩ := pow_up k d
    refine ⟨?_, b⟩
    rw [← Nat.add_assoc, Int.pow_succ]; omega

theorem pow_le {k n : Nat} (h : k ≤ n) : (256 : Int) ^ k ≤ 256 ^ n := by
  have := (pow_up k (n - k)).1
  rwa [Nat.add_sub_cancel' h] at this

theorem be_bd6 (l : List UInt8) (h : l.length ≤ 6) : 0 ≤ be l ∧ be l ≤ 281474976710655 := by
  have := be_bd l.length l rfl
  have h2 : (256 : Int) ^ l.length ≤ 256 ^ 6 := pow_le h
  omega

theorem be_bd7 (l : List UInt8) (h : l.length ≤ 7) : 0 ≤ be l ∧ be l ≤ 72057594037927935 := by
  have := be_bd l.length l rfl
  have h2 : (256 : Int) ^ l.length ≤ 256 ^ 7 := pow_le h
  omega

theorem take_snoc (s : ByteArray) (k : Nat) (h : k < s.size) : s.data.toList.take (k + 1) = s.data.toList.take k ++ [s[k]] := by
  rw [List.take_succ_eq_append_getElem (by simpa using h)]; rfl

theorem be_take_succ (s : ByteArray) (k : Nat) (h : k < s.size) :
    be (s.data.toList.take (k + 1)) = be (s.data.toList.take k) * 256 + (s[k].toNat : Int) := by
  rw [take_snoc s k h, be_snoc]
end Go.Proofs.YtfdbjiaghbeedaaGreatDoor
end

section
/- Contract of l1In. -/
set_option linter.unusedVariables false
set_option linter.unusedSimpArgs false
namespace Go.Proofs.YtfdbjiaghbeedaaGreatDoor
open Go Go.RowKit

theorem l1In_any (n lo hi : Int) (w : World) :
    Calls Tryz.prog 73 #[.int .i64 n, .int .i64 lo, .int .i64 hi] w fun e w' => e = .returned (.bool (inB n lo hi)) ∧ w = w' := by
  go_enter Tryz.func73, Tryz.ntmps73
  go_wp2
  all_goals (go_ret; exact ⟨by simp [inB] <;> omega, rfl⟩)
end Go.Proofs.YtfdbjiaghbeedaaGreatDoor
end

section
/- Equal values make equal endings. -/
namespace Go.Proofs.YtfdbjiaghbeedaaGreatDoor
open Go
theorem ret_str {a b : ByteArray} (h : a = b) : Ending.returned (.string a) = .returned (.string b) := by rw [h]
theorem ret_int {k : IntKind} {a b : Int} (h : a = b) : Ending.returned (.int k a) = .returned (.int k b) := by rw [h]
theorem ret_bool {a b : Bool} (h : a = b) : Ending.returned (.bool a) = .returned (.bool b) := by rw [h]
theorem ret_ii {a b c d : Int} (h : a = c) (h' : b = d) : Ending.returned (.tuple #[.int .i64 a, .int .i64 b]) = .returned (.tuple #[.int .i64 c, .int .i64 d]) := by rw [h, h']
theorem ret_ib {a b : Int} {c d : Bool} (h : a = b) (h' : c = d) : Ending.returned (.tuple #[.int .i64 a, .bool c]) = .returned (.tuple #[.int .i64 b, .bool d]) := by rw [h, h']
theorem ret_vb {v : Value} {c d : Bool} (h' : c = d) : Ending.returned (.tuple #[v, .bool c]) = .returned (.tuple #[v, .bool d]) := by rw [h']
end Go.Proofs.YtfdbjiaghbeedaaGreatDoor
end

section
/- impl.Fixed, the old walk, alone. -/
set_option linter.unusedVariables false
set_option linter.unusedSimpArgs false
namespace Go.Proofs.YtfdbjiaghbeedaaGreatDoor
open Go Go.RowKit
set_option maxRecDepth 100000
/-- The k low bytes of n, most significant first. -/
def fxd : Nat → Int → List UInt8
  | 0, _ => []
  | k + 1, n => fxd k (n / 256) ++ [UInt8.ofNat (n % 256).toNat]

theorem fxd_len : ∀ (k : Nat) (n : Int), (fxd k n).length = k
  | 0, _ => rfl
  | k + 1, n => by simp [fxd, fxd_len k]

theorem conv_one (W : World) (z : Int) : (convert 201 9 (.slice (some ⟨W.heap.size, 0, none⟩) 1 1)).run Tryz.prog (W.alloc (.cells #[.int .u8 z] 5)) =
    .ok (.string ⟨[UInt8.ofNat z.toNat].toArray⟩) (W.alloc (.cells #[.int .u8 z] 5)) := by
  refine run_convert_bytes_arg _ _ 5 Tryz.underlying201 Tryz.underlying5 W.heap.size 0 1 1 [z] rfl (fun i hi => ?_) _ Tryz.underlying9
  obtain rfl : i = 0 := by omega
  simp [go_sem]

theorem cat_one (z : UInt8) (l : List UInt8) : (ByteArray.mk [z].toArray ++ ByteArray.mk l.toArray) = ByteArray.mk (z :: l).toArray := by
  simpa using ByteArray.mk_append_mk [z] l

theorem div_step (n : Int) (j : Nat) : n / 256 ^ j / 256 = n / 256 ^ (j + 1) := by
  rw [Int.ediv_ediv_of_nonneg (Int.pow_nonneg (by omega)), Int.pow_succ]
theorem div_pos_iff (n : Int) (m : Nat) (h : 0 ≤ n) : 0 < n / 256 ^ m ↔ (256 : Int) ^ m ≤ n := by
  have hp : (0 : Int) < 256 ^ m := Int.pow_pos (by omega)
  constructor
  · intro h'
    have := (Int.le_ediv_iff_mul_le hp (a := 1) (b := n)).1 (by omega)
    omega
  · intro h'
    have := (Int.le_ediv_iff_mul_le hp (a := 1) (b := n)).2 (by omega)
    omega


/-- What Fixed gives. -/
def fxOk (n k : Int) : Bool := decide (1 ≤ k ∧ k ≤ 7 ∧ 0 ≤ n ∧ n < 256 ^ k.toNat)
def fxS (n k : Int) : ByteArray := if fxOk n k then ⟨(fxd k.toNat n).toArray⟩ else ⟨#[]⟩


theorem widthOk_any (n : Int) (w : World) :
    Calls Tryz.prog 219 #[.int .i64 n] w fun e w' => e = .returned (.bool (inB n 1 7)) ∧ w = w' := by
  go_enter Tryz.func219, Tryz.ntmps219
  go_wp2
  all_goals (go_ret; exact ⟨by simp [inB] <;> omega, rfl⟩)
theorem A_info5 : (Tryz.prog.info? 5).map (fun i => (i.zero, i.size, i.bytes)) = some (some (.int .u8 0), 1, 1) := by kernel_rfl

theorem pow28 (m : Nat) : (2 : Int) ^ (8 * m) = 256 ^ m := by
  rw [Int.pow_mul]; rfl

theorem set_mid (k : Nat) (L : List Int) (v : Int) : (List.replicate (k + 1) (0 : Int) ++ L).set k v = List.replicate k 0 ++ v :: L := by
  rw [List.replicate_succ', List.append_assoc, List.set_append_right _ _ (by simp)]
  simp

theorem ofNat_mod (y : Int) (h : 0 ≤ y) : UInt8.ofNat (y % 256).toNat = UInt8.ofNat y.toNat := by
  apply UInt8.toNat_inj.1
  simp
  omega

set_option maxHeartbeats 400000 in
theorem iFixed_over (n : Int) (k : Int) (w : World) (h1 : 1 ≤ k) (h2 : k ≤ 7) (h3 : 0 ≤ n) (h5 : 256 ^ k.toNat ≤ n) :
    Calls Tryz.prog 194 #[.int .i64 n, .int .i64 k] w fun e w' => e = .returned (.string ⟨#[]⟩) ∧ w = w' := by
  obtain ⟨m, rfl⟩ : ∃ m : Nat, k = m := ⟨k.toNat, by omega⟩
  have hb : inB (m : Int) 1 7 = true := by simp [inB]; omega
  have hd : (n / 2 ^ (8 * m) != 0) = true := by
    have := (div_pos_iff n m h3).2 (by simpa using h5)
    rw [pow28]; simp; omega
  clear h5
  go_enter Tryz.func194, Tryz.ntmps194
  go_wp2_with (go_at_call 219; refine (widthOk_any _ _).mono ?_; rintro e w' ⟨rfl, rfl⟩)
  go_ret
  exact ⟨rfl, rfl⟩

set_option maxHeartbeats 400000 in
theorem iFixed_in (n : Int) (k : Int) (w : World) (h1 : 1 ≤ k) (h2 : k ≤ 7) (h3 : 0 ≤ n) (h4 : n ≤ 9223372036854775807) (h5 : n < 256 ^ k.toNat) :
    Calls Tryz.prog 194 #[.int .i64 n, .int .i64 k] w fun e w' => e = .returned (.string ⟨(fxd k.toNat n).toArray⟩) ∧ Below w.heap.size w w' := by
  obtain ⟨m, rfl⟩ : ∃ m : Nat, k = m := ⟨k.toNat, by omega⟩
  have hb : inB (m : Int) 1 7 = true := by simp [inB]; omega
  have hd : (n / 2 ^ (8 * m) != 0) = false := by
    have := (mt (div_pos_iff n m h3).1 (by simpa using h5))
    have := Int.ediv_nonneg h3 (show (0 : Int) ≤ 256 ^ m from Int.pow_nonneg (by omega))
    rw [pow28]; simp; omega
  clear h5
  obtain ⟨i0, hi, hz0, hz1, hz2⟩ := info_parts A_info5
  go_enter Tryz.func194, Tryz.ntmps194
  go_wp2_with (first
    | (go_at_call 219; refine (widthOk_any _ _).mono ?_; rintro e w' ⟨rfl, rfl⟩)
    | (at_make; refine wpList_make_full _ rfl _ _ 201 rfl w.heap.size 5 i0 (.int .u8 0) 1 Tryz.underlying201 hi hz0 hz1 .i64 .i64 _ _ m rfl rfl rfl rfl (by rw [hz2]; omega) (by unfold maxLen; omega) (Nat.le_refl _) ?_; intro w1 hown1 hgrow1))
  go_loopw [0, 6] (fun x i wr => ∃ (q : Nat) (z y : Int) (l : List UInt8), z + 1 = q ∧ i = .int .i64 z ∧ x = .int .i64 y ∧ 0 ≤ y ∧ y ≤ 9223372036854775807 ∧ l.length + q = m ∧ fxd m n = fxd q y ++ l ∧ Below w.heap.size w wr ∧ wr.ownsRow w.heap.size 5 1 (.slice (some ⟨w.heap.size, 0, none⟩) m m) m ((List.replicate q (0 : Int) ++ l.map (fun c => (c.toNat : Int))).map (Value.int .u8))) (fun _ i _ => (intOf i + 1).toNat)
  case atStart => exact ⟨m, (m : Int) - 1, n, [], by omega, rfl, rfl, h3, h4, by simp, by simp, (Below.refl _ _).grown hgrow1 (Nat.le_refl _) (by intro k hk; cases hk), by simpa [Value.cells, toList_madeCells_one] using hown1⟩
  case round =>
    obtain ⟨q, z, y, l, hz, rfl, rfl, hy0, hy1, hl, hf, hbel, hown⟩ := hrel
    have HF := Lib.hid hf; clear hf
    clear hown1
    by_cases hlt : 0 < q
    · obtain ⟨p, rfl⟩ : ∃ p, q = p + 1 := ⟨q - 1, by omega⟩
      obtain rfl : z = (p : Int) := by omega
      have hpm : p < m := by omega
      have HL := Lib.hid hl; clear hl
      have hc : wr.cell? ⟨w.heap.size, p, none⟩ = some (.int .u8 0) := by
        rw [hown.cellAt p (by omega)]
        simp [List.getElem?_append]
      have hzz := hown.frozenAt p
      have HS := Lib.hid (hown.stored p (.int .u8 (y % 256)))
      have HO := Lib.hid hown; clear hown
      clear hz
      go_wp2
      go_roundw
      case rel =>
        obtain ⟨ho, hg⟩ := HS.out
        refine ⟨p, (p : Int) - 1, y / 256, UInt8.ofNat (y % 256).toNat :: l, by omega, rfl, rfl, by omega, by omega, by have := HL.out; simp; omega, ?_, hbel.grown hg hbel.size (by rintro k ⟨⟩; exact Nat.le_refl _), ?_⟩
        · rw [HF.out, fxd]; simp
        · rw [List.map_append] at ho
          have e := set_mid p (l.map (fun c => (c.toNat : Int))) (y % 256)
          have e2 : (((UInt8.ofNat (y % 256).toNat).toNat : Nat) : Int) = y % 256 := by simp; omega
          rw [← List.map_append, ← List.map_set, e] at ho
          have e3 : (UInt8.ofNat (y % 256).toNat :: l).map (fun c => (c.toNat : Int)) = y % 256 :: l.map (fun c => (c.toNat : Int)) := by rw [List.map_cons, e2]
          rw [e3]; exact ho
      case measure => simp [intOf]
    · obtain rfl : q = 0 := by omega
      obtain rfl : z = -1 := by omega
      have hm : l.length = m := by omega
      have hcv := run_convert_bytes_arg (P := Tryz.prog) wr 201 5 Tryz.underlying201 Tryz.underlying5 w.heap.size 0 m m (l.map (fun c => (c.toNat : Int))) (by simpa using hm) (fun i hi => by
        have := hown.cellAt i (by omega)
        rw [Nat.zero_add, this]
        simp [List.getD, hm, hi]) 9 Tryz.underlying9
      have HS := Lib.hid (show strOfNums (l.map (fun c => (c.toNat : Int))) = ⟨l.toArray⟩ by simp [strOfNums, Function.comp_def])
      have HM := Lib.hid hm; clear hm
      clear hz hl hown
      go_wp2
      go_ret
      exact ⟨ret_str (by rw [HS.out]; simp [HF.out, fxd]), hbel⟩

theorem iFixed_any (n : Int) (k : Int) (w : World) (h4 : n ≤ 9223372036854775807) :
    Calls Tryz.prog 194 #[.int .i64 n, .int .i64 k] w fun e w' => e = .returned (.string (fxS n k)) ∧ Below w.heap.size w w' := by
  by_cases h : 1 ≤ k ∧ k ≤ 7 ∧ 0 ≤ n
  · by_cases h5 : n < 256 ^ k.toNat
    · rw [fxS, if_pos (by simp [fxOk]; omega)]
      exact iFixed_in n k w h.1 h.2.1 h.2.2 h4 h5
    · rw [fxS, if_neg (by simp [fxOk]; omega)]
      exact (iFixed_over n k w h.1 h.2.1 h.2.2 (by omega)).mono fun e w' ⟨a, b⟩ => ⟨a, by subst b; exact Below.refl _ _⟩
  · have HX := Lib.hid (show fxOk n k = false by simp [fxOk]; omega)
    by_cases hb : inB k 1 7 = true
    · have h3 : n < 0 := by simp [inB] at hb; omega
      go_enter Tryz.func194, Tryz.ntmps194
      go_wp2_with (go_at_call 219; refine (widthOk_any _ _).mono ?_; rintro e w' ⟨rfl, rfl⟩)
      go_ret
      exact ⟨by simp [fxS, HX.out], Below.refl _ _⟩
    · have hb : inB k 1 7 = false := by simpa using hb
      go_enter Tryz.func194, Tryz.ntmps194
      go_wp2_with (go_at_call 219; refine (widthOk_any _ _).mono ?_; rintro e w' ⟨rfl, rfl⟩)
      go_ret
      exact ⟨by simp [fxS, HX.out], Below.refl _ _⟩
end Go.Proofs.YtfdbjiaghbeedaaGreatDoor
end

section
/- Classes, places: contracts over the table of slot sizes. -/
namespace Go.Proofs.YtfdbjiaghbeedaaGreatDoor
open Go Go.Tr
set_option maxRecDepth 100000
set_option maxHeartbeats 4000000
set_option linter.unusedVariables false
set_option linter.unusedSimpArgs false
def szC (c : Int) : Int := if c = 0 then 8 else if c = 1 then 16 else if c = 2 then 40 else 0
def strC (c : Int) : Int := if c = 0 then 12 else if c = 1 then 20 else if c = 2 then 44 else 0
def perC (c : Int) : Int := if c = 0 then 4 else if c = 1 then 2 else if c = 2 then 1 else 0
def pgS (s : Int) : Int := if 0 ≤ s ∧ s < 24 then s / 4 else -1
def ixS (s : Int) : Int := if 0 ≤ s ∧ s < 24 then s % 4 else -1
def slA (p i : Int) : Int := if (0 ≤ p ∧ p < 6) ∧ 0 ≤ i ∧ i < 4 then p * 4 + i else -1
def genA (s c : Int) : Int := if (0 ≤ s ∧ s < 24) ∧ s % 4 < perC c then s / 4 * 64 + 8 + s % 4 * strC c else -1
theorem cls4 (c : Int) : (c = 0 ∧ szC c = 8 ∧ strC c = 12 ∧ perC c = 4) ∨ (c = 1 ∧ szC c = 16 ∧ strC c = 20 ∧ perC c = 2) ∨ (c = 2 ∧ szC c = 40 ∧ strC c = 44 ∧ perC c = 1) ∨ ((c < 0 ∨ 2 < c) ∧ szC c = 0 ∧ strC c = 0 ∧ perC c = 0) := by
  by_cases h0 : c = 0
  · subst h0; exact .inl ⟨rfl, rfl, rfl, rfl⟩
  by_cases h1 : c = 1
  · subst h1; exact .inr (.inl ⟨rfl, rfl, rfl, rfl⟩)
  by_cases h2 : c = 2
  · subst h2; exact .inr (.inr (.inl ⟨rfl, rfl, rfl, rfl⟩))
  · refine .inr (.inr (.inr ⟨by omega, ?_, ?_, ?_⟩)) <;> simp [szC, strC, perC, h0, h1, h2]
/-- The table of slot sizes. -/
abbrev hT : Hc := hcL [(0, 0, .int .i64 8), (0, 1, .int .i64 16), (0, 2, .int .i64 40)]
theorem inH_run (x a b : Int) : RunT Tryz.prog 73 [ti x, ti a, ti b] [] [ob (decide (a ≤ x ∧ x ≤ b))] [] := by
  refine RunT.of_vc gOk Tryz.func73 rfl rfl (Nat.le_of_ble_eq_true rfl) (by repeat' (first | exact trivial | exact ⟨_, rfl, Nat.le_refl _⟩ | exact Nat.le_of_ble_eq_true rfl | refine And.intro ?_ ?_)) (Nat.le_of_ble_eq_true rfl) rfl (fun F hE => ?_)
  repeat' (first | exact trivial | refine BS.d (fun h => ?_) (fun h => ?_) | refine BS.e (fun h => ?_) (fun h => ?_) | refine BS.ne (fun h => ?_) (fun h => ?_) | refine BS.n ?_ | refine BS.s (fun h => ?_) (fun h => ?_) | refine And.intro ?_ ?_ | (refine Need.mk ?_; first | with_reducible rfl | (show @Eq TC _ _; rfl) | omega | (simp only [adN_zero]; omega)) | exact OutS.whole rfl rfl | refine ListO.go gOk hE ?_)
  all_goals (refine Need.mk ?_; simp [*])
theorem slotH_run (x : Int) : RunT Tryz.prog 142 [ti x] [] [ob (decide (0 ≤ x ∧ x < 24))] [] := by
  refine RunT.of_vc gOk Tryz.func142 rfl rfl (Nat.le_of_ble_eq_true rfl) (by repeat' (first | exact trivial | exact ⟨_, rfl, Nat.le_refl _⟩ | exact Nat.le_of_ble_eq_true rfl | refine And.intro ?_ ?_)) (Nat.le_of_ble_eq_true rfl) rfl (fun F hE => ?_)
  repeat' (first | exact trivial | refine BS.d (fun h => ?_) (fun h => ?_) | refine BS.e (fun h => ?_) (fun h => ?_) | refine BS.ne (fun h => ?_) (fun h => ?_) | refine BS.n ?_ | refine BS.s (fun h => ?_) (fun h => ?_) | refine And.intro ?_ ?_ | (refine Need.mk ?_; first | with_reducible rfl | (show @Eq TC _ _; rfl) | omega | (simp only [adN_zero]; omega)) | exact OutS.whole rfl rfl | refine ListO.go gOk hE ?_)
  all_goals (refine Need.mk ?_; first | rfl | (symm; apply decide_eq_true; omega) | (symm; apply decide_eq_false; omega) | (apply decide_eq_decide.2; omega) | (simp only [beq_iff_eq, Bool.beq_eq_decide_eq] at *; apply decide_eq_decide.2; omega) | (simp; omega))
theorem clsH_run (x : Int) : RunT Tryz.prog 140 [ti x] [] [ob (decide (0 ≤ x ∧ x < 3))] [] := by
  refine RunT.of_vc gOk Tryz.func140 rfl rfl (Nat.le_of_ble_eq_true rfl) (by repeat' (first | exact trivial | exact ⟨_, rfl, Nat.le_refl _⟩ | exact Nat.le_of_ble_eq_true rfl | refine And.intro ?_ ?_)) (Nat.le_of_ble_eq_true rfl) rfl (fun F hE => ?_)
  repeat' (first | exact trivial | refine BS.d (fun h => ?_) (fun h => ?_) | refine BS.e (fun h => ?_) (fun h => ?_) | refine BS.ne (fun h => ?_) (fun h => ?_) | refine BS.n ?_ | refine BS.s (fun h => ?_) (fun h => ?_) | refine And.intro ?_ ?_ | (refine Need.mk ?_; first | with_reducible rfl | (show @Eq TC _ _; rfl) | omega | (simp only [adN_zero]; omega)) | exact OutS.whole rfl rfl | refine ListO.go gOk hE ?_)
  all_goals (refine Need.mk ?_; first | rfl | (symm; apply decide_eq_true; omega) | (symm; apply decide_eq_false; omega) | (apply decide_eq_decide.2; omega) | (simp only [beq_iff_eq, Bool.beq_eq_decide_eq] at *; apply decide_eq_decide.2; omega) | (simp; omega))
theorem SizeOfS_run (c : Int) : RunT Tryz.prog 133 [ti c] [] [oi (szC c)] [] := by
  rcases cls4 c with ⟨h, e, -, -⟩ | ⟨h, e, -, -⟩ | ⟨h, e, -, -⟩ | ⟨h, e, -, -⟩ <;> rw [e] <;> try subst h
  all_goals (refine RunT.of_vc gOk Tryz.func133 rfl rfl (Nat.le_of_ble_eq_true rfl) (by repeat' (first | exact trivial | exact ⟨_, rfl, Nat.le_refl _⟩ | exact Nat.le_of_ble_eq_true rfl | refine And.intro ?_ ?_)) (Nat.le_of_ble_eq_true rfl) rfl (fun F hE => ?_))
  all_goals (repeat' (first | exact trivial | refine BS.d (fun h => ?_) (fun h => ?_) | refine BS.e (fun h => ?_) (fun h => ?_) | refine BS.ne (fun h => ?_) (fun h => ?_) | refine BS.n ?_ | refine BS.s (fun h => ?_) (fun h => ?_) | refine And.intro ?_ ?_ | (refine Need.mk ?_; first | with_reducible rfl | (show @Eq TC _ _; rfl) | omega | (simp only [adN_zero]; omega)) | exact OutS.whole rfl rfl | refine ListO.go gOk hE ?_))
  all_goals first | (exfalso; omega) | exact Need.mk rfl | trace_state
theorem SizeOfI_run (c : Int) : RunH Tryz.prog hT 166 [ti c] [] [oi (szC c)] [] := by
  have c1 := clsH_run c
  rcases cls4 c with ⟨h, e, -, -⟩ | ⟨h, e, -, -⟩ | ⟨h, e, -, -⟩ | ⟨h, e, -, -⟩ <;> rw [e] <;> try subst h
  · refine RunH.of_vc gOk Tryz.func166 rfl rfl (Nat.le_of_ble_eq_true rfl) (by repeat' (first | exact trivial | exact ⟨_, rfl, Nat.le_refl _⟩ | exact Nat.le_of_ble_eq_true rfl | refine And.intro ?_ ?_)) (Nat.le_of_ble_eq_true rfl) rfl (fun F hE hA => ?_)
    repeat' (first | exact trivial | refine BS.d (fun h => ?_) (fun h => ?_) | refine BS.e (fun h => ?_) (fun h => ?_) | refine BS.ne (fun h => ?_) (fun h => ?_) | refine BS.n ?_ | refine BS.s (fun h => ?_) (fun h => ?_) | refine And.intro ?_ ?_ | (refine Need.mk ?_; first | with_reducible rfl | (show @Eq TC _ _; rfl) | omega | (simp only [adN_zero]; omega)) | exact OutS.whole rfl rfl | (refine OpK.call c1 rfl rfl rfl rfl hE ?_ rfl rfl ?_; focus ((repeat' (first | exact PsA.lit _ | exact PsA.ref rfl rfl | constructor)); all_goals (fail "ps"))) | (refine PK.ixH gOk rfl rfl rfl rfl (by decide) ?_) | (refine OpK.ldI gOk 0 hA rfl rfl rfl rfl rfl rfl rfl ?_) | refine ListO.go gOk hE ?_)
    all_goals first | (exfalso; omega) | exact Need.mk rfl | trace_state
  · refine RunH.of_vc gOk Tryz.func166 rfl rfl (Nat.le_of_ble_eq_true rfl) (by repeat' (first | exact trivial | exact ⟨_, rfl, Nat.le_refl _⟩ | exact Nat.le_of_ble_eq_true rfl | refine And.intro ?_ ?_)) (Nat.le_of_ble_eq_true rfl) rfl (fun F hE hA => ?_)
    repeat' (first | exact trivial | refine BS.d (fun h => ?_) (fun h => ?_) | refine BS.e (fun h => ?_) (fun h => ?_) | refine BS.ne (fun h => ?_) (fun h => ?_) | refine BS.n ?_ | refine BS.s (fun h => ?_) (fun h => ?_) | refine And.intro ?_ ?_ | (refine Need.mk ?_; first | with_reducible rfl | (show @Eq TC _ _; rfl) | omega | (simp only [adN_zero]; omega)) | exact OutS.whole rfl rfl | (refine OpK.call c1 rfl rfl rfl rfl hE ?_ rfl rfl ?_; focus ((repeat' (first | exact PsA.lit _ | exact PsA.ref rfl rfl | constructor)); all_goals (fail "ps"))) | (refine PK.ixH gOk rfl rfl rfl rfl (by decide) ?_) | (refine OpK.ldI gOk 1 hA rfl rfl rfl rfl rfl rfl rfl ?_) | refine ListO.go gOk hE ?_)
    all_goals first | (exfalso; omega) | exact Need.mk rfl | trace_state
  · refine RunH.of_vc gOk Tryz.func166 rfl rfl (Nat.le_of_ble_eq_true rfl) (by repeat' (first | exact trivial | exact ⟨_, rfl, Nat.le_refl _⟩ | exact Nat.le_of_ble_eq_true rfl | refine And.intro ?_ ?_)) (Nat.le_of_ble_eq_true rfl) rfl (fun F hE hA => ?_)
    repeat' (first | exact trivial | refine BS.d (fun h => ?_) (fun h => ?_) | refine BS.e (fun h => ?_) (fun h => ?_) | refine BS.ne (fun h => ?_) (fun h => ?_) | refine BS.n ?_ | refine BS.s (fun h => ?_) (fun h => ?_) | refine And.intro ?_ ?_ | (refine Need.mk ?_; first | with_reducible rfl | (show @Eq TC _ _; rfl) | omega | (simp only [adN_zero]; omega)) | exact OutS.whole rfl rfl | (refine OpK.call c1 rfl rfl rfl rfl hE ?_ rfl rfl ?_; focus ((repeat' (first | exact PsA.lit _ | exact PsA.ref rfl rfl | constructor)); all_goals (fail "ps"))) | (refine PK.ixH gOk rfl rfl rfl rfl (by decide) ?_) | (refine OpK.ldI gOk 2 hA rfl rfl rfl rfl rfl rfl rfl ?_) | refine ListO.go gOk hE ?_)
    all_goals first | (exfalso; omega) | exact Need.mk rfl | trace_state
  · rw [decide_eq_false (by omega)] at c1
    refine RunH.of_vc gOk Tryz.func166 rfl rfl (Nat.le_of_ble_eq_true rfl) (by repeat' (first | exact trivial | exact ⟨_, rfl, Nat.le_refl _⟩ | exact Nat.le_of_ble_eq_true rfl | refine And.intro ?_ ?_)) (Nat.le_of_ble_eq_true rfl) rfl (fun F hE hA => ?_)
    repeat' (first | exact trivial | refine BS.d (fun h => ?_) (fun h => ?_) | refine BS.e (fun h => ?_) (fun h => ?_) | refine BS.ne (fun h => ?_) (fun h => ?_) | refine BS.n ?_ | refine BS.s (fun h => ?_) (fun h => ?_) | refine And.intro ?_ ?_ | (refine Need.mk ?_; first | with_reducible rfl | (show @Eq TC _ _; rfl) | omega | (simp only [adN_zero]; omega)) | exact OutS.whole rfl rfl | (refine OpK.call c1 rfl rfl rfl rfl hE ?_ rfl rfl ?_; focus ((repeat' (first | exact PsA.lit _ | exact PsA.ref rfl rfl | constructor)); all_goals (fail "ps"))) | refine ListO.go gOk hE ?_)
    all_goals first | (exfalso; omega) | exact Need.mk rfl | trace_state
end Go.Proofs.YtfdbjiaghbeedaaGreatDoor
end

section
namespace Go.Proofs.YtfdbjiaghbeedaaGreatDoor
open Go Go.Tr
set_option maxRecDepth 100000
set_option maxHeartbeats 4000000
set_option linter.unusedVariables false
set_option linter.unusedSimpArgs false
theorem StrideOfS_run (c : Int) : RunT Tryz.prog 203 [ti c] [] [oi (strC c)] [] := by
  have c1 := inH_run c 0 2
  have c2 := SizeOfS_run c
  rcases cls4 c with ⟨h, e, e1, -⟩ | ⟨h, e, e1, -⟩ | ⟨h, e, e1, -⟩ | ⟨h, e, e1, -⟩ <;> rw [e1] <;> rw [e] at c2 <;> try subst h
  all_goals first | rw [decide_eq_true (by omega)] at c1 | rw [decide_eq_false (by omega)] at c1
  all_goals (refine RunT.of_vc gOk Tryz.func203 rfl rfl (Nat.le_of_ble_eq_true rfl) (by repeat' (first | exact trivial | exact ⟨_, rfl, Nat.le_refl _⟩ | exact Nat.le_of_ble_eq_true rfl | refine And.intro ?_ ?_)) (Nat.le_of_ble_eq_true rfl) rfl (fun F hE => ?_))
  all_goals (repeat' (first | exact trivial | refine BS.d (fun h => ?_) (fun h => ?_) | refine BS.e (fun h => ?_) (fun h => ?_) | refine BS.ne (fun h => ?_) (fun h => ?_) | refine BS.n ?_ | refine BS.s (fun h => ?_) (fun h => ?_) | refine And.intro ?_ ?_ | (refine Need.mk ?_; first | with_reducible rfl | (show @Eq TC _ _; rfl) | omega | (simp only [adN_zero]; omega)) | exact OutS.whole rfl rfl | (refine OpK.call c1 rfl rfl rfl rfl hE ?_ rfl rfl ?_; focus ((repeat' (first | exact PsA.lit _ | exact PsA.ref rfl rfl | constructor)); all_goals (fail "ps"))) | (refine OpK.call c2 rfl rfl rfl rfl hE ?_ rfl rfl ?_; focus ((repeat' (first | exact PsA.lit _ | exact PsA.ref rfl rfl | constructor)); all_goals (fail "ps"))) | refine ListO.go gOk hE ?_))
  all_goals first | (exfalso; omega) | exact Need.mk rfl | (refine Need.mk ?_; rw [wr_in (by decide)]; rfl) | (exfalso; simp_all; done) | trace_state
theorem StrideOfI_run (c : Int) : RunH Tryz.prog hT 200 [ti c] [] [oi (strC c)] [] := by
  have c1 := clsH_run c
  have c2 := SizeOfI_run c
  rcases cls4 c with ⟨h, e, e1, -⟩ | ⟨h, e, e1, -⟩ | ⟨h, e, e1, -⟩ | ⟨h, e, e1, -⟩ <;> rw [e1] <;> rw [e] at c2 <;> try subst h
  all_goals first | rw [decide_eq_true (by omega)] at c1 | rw [decide_eq_false (by omega)] at c1
  all_goals (refine RunH.of_vc gOk Tryz.func200 rfl rfl (Nat.le_of_ble_eq_true rfl) (by repeat' (first | exact trivial | exact ⟨_, rfl, Nat.le_refl _⟩ | exact Nat.le_of_ble_eq_true rfl | refine And.intro ?_ ?_)) (Nat.le_of_ble_eq_true rfl) rfl (fun F hE hA => ?_))
  all_goals (repeat' (first | exact trivial | refine BS.d (fun h => ?_) (fun h => ?_) | refine BS.e (fun h => ?_) (fun h => ?_) | refine BS.ne (fun h => ?_) (fun h => ?_) | refine BS.n ?_ | refine BS.s (fun h => ?_) (fun h => ?_) | refine And.intro ?_ ?_ | (refine Need.mk ?_; first | with_reducible rfl | (show @Eq TC _ _; rfl) | omega | (simp only [adN_zero]; omega)) | exact OutS.whole rfl rfl | (refine OpK.call c1 rfl rfl rfl rfl hE ?_ rfl rfl ?_; focus ((repeat' (first | exact PsA.lit _ | exact PsA.ref rfl rfl | constructor)); all_goals (fail "ps"))) | (refine OpK.callH c2 hA rfl rfl rfl rfl hE ?_ rfl rfl ?_; focus ((repeat' (first | exact PsA.lit _ | exact PsA.ref rfl rfl | constructor)); all_goals (fail "ps"))) | refine ListO.go gOk hE ?_))
  all_goals first | (exfalso; omega) | exact Need.mk rfl | (refine Need.mk ?_; rw [wr_in (by decide)]; rfl) | (exfalso; simp_all; done) | trace_state
theorem PerPageS_run (c : Int) : RunT Tryz.prog 156 [ti c] [] [oi (perC c)] [] := by
  have c1 := inH_run c 0 2
  have c2 := StrideOfS_run c
  rcases cls4 c with ⟨h, -, e, e1⟩ | ⟨h, -, e, e1⟩ | ⟨h, -, e, e1⟩ | ⟨h, -, e, e1⟩ <;> rw [e1] <;> rw [e] at c2 <;> try subst h
  all_goals first | rw [decide_eq_true (by omega)] at c1 | rw [decide_eq_false (by omega)] at c1
  all_goals (refine RunT.of_vc gOk Tryz.func156 rfl rfl (Nat.le_of_ble_eq_true rfl) (by repeat' (first | exact trivial | exact ⟨_, rfl, Nat.le_refl _⟩ | exact Nat.le_of_ble_eq_true rfl | refine And.intro ?_ ?_)) (Nat.le_of_ble_eq_true rfl) rfl (fun F hE => ?_))
  all_goals (repeat' (first | exact trivial | refine BS.d (fun h => ?_) (fun h => ?_) | refine BS.e (fun h => ?_) (fun h => ?_) | refine BS.ne (fun h => ?_) (fun h => ?_) | refine BS.n ?_ | refine BS.s (fun h => ?_) (fun h => ?_) | refine And.intro ?_ ?_ | (refine Need.mk ?_; first | with_reducible rfl | (show @Eq TC _ _; rfl) | omega | (simp only [adN_zero]; omega)) | exact OutS.whole rfl rfl | (refine OpK.call c1 rfl rfl rfl rfl hE ?_ rfl rfl ?_; focus ((repeat' (first | exact PsA.lit _ | exact PsA.ref rfl rfl | constructor)); all_goals (fail "ps"))) | (refine OpK.call c2 rfl rfl rfl rfl hE ?_ rfl rfl ?_; focus ((repeat' (first | exact PsA.lit _ | exact PsA.ref rfl rfl | constructor)); all_goals (fail "ps"))) | refine ListO.go gOk hE ?_))
  all_goals first | (exfalso; omega) | exact Need.mk rfl | (refine Need.mk ?_; rw [wr_in (by decide)]; rfl) | (exfalso; simp_all; done) | trace_state
theorem PerPageI_run (c : Int) : RunH Tryz.prog hT 197 [ti c] [] [oi (perC c)] [] := by
  have c1 := clsH_run c
  have c2 := StrideOfI_run c
  rcases cls4 c with ⟨h, -, e, e1⟩ | ⟨h, -, e, e1⟩ | ⟨h, -, e, e1⟩ | ⟨h, -, e, e1⟩ <;> rw [e1] <;> rw [e] at c2 <;> try subst h
  all_goals first | rw [decide_eq_true (by omega)] at c1 | rw [decide_eq_false (by omega)] at c1
  all_goals (refine RunH.of_vc gOk Tryz.func197 rfl rfl (Nat.le_of_ble_eq_true rfl) (by repeat' (first | exact trivial | exact ⟨_, rfl, Nat.le_refl _⟩ | exact Nat.le_of_ble_eq_true rfl | refine And.intro ?_ ?_)) (Nat.le_of_ble_eq_true rfl) rfl (fun F hE hA => ?_))
  all_goals (repeat' (first | exact trivial | refine BS.d (fun h => ?_) (fun h => ?_) | refine BS.e (fun h => ?_) (fun h => ?_) | refine BS.ne (fun h => ?_) (fun h => ?_) | refine BS.n ?_ | refine BS.s (fun h => ?_) (fun h => ?_) | refine And.intro ?_ ?_ | (refine Need.mk ?_; first | with_reducible rfl | (show @Eq TC _ _; rfl) | omega | (simp only [adN_zero]; omega)) | exact OutS.whole rfl rfl | (refine OpK.call c1 rfl rfl rfl rfl hE ?_ rfl rfl ?_; focus ((repeat' (first | exact PsA.lit _ | exact PsA.ref rfl rfl | constructor)); all_goals (fail "ps"))) | (refine OpK.callH c2 hA rfl rfl rfl rfl hE ?_ rfl rfl ?_; focus ((repeat' (first | exact PsA.lit _ | exact PsA.ref rfl rfl | constructor)); all_goals (fail "ps"))) | refine ListO.go gOk hE ?_))
  all_goals first | (exfalso; omega) | exact Need.mk rfl | (refine Need.mk ?_; rw [wr_in (by decide)]; rfl) | (exfalso; simp_all; done) | trace_state
theorem PageOfS_run (s : Int) : RunT Tryz.prog 154 [ti s] [] [oi (pgS s)] [] := by
  have c1 := inH_run s 0 23
  unfold pgS
  refine RunT.of_vc gOk Tryz.func154 rfl rfl (Nat.le_of_ble_eq_true rfl) (by repeat' (first | exact trivial | exact ⟨_, rfl, Nat.le_refl _⟩ | exact Nat.le_of_ble_eq_true rfl | refine And.intro ?_ ?_)) (Nat.le_of_ble_eq_true rfl) rfl (fun F hE => ?_)
  repeat' (first | exact trivial | refine BS.d (fun h => ?_) (fun h => ?_) | refine BS.e (fun h => ?_) (fun h => ?_) | refine BS.ne (fun h => ?_) (fun h => ?_) | refine BS.n ?_ | refine BS.s (fun h => ?_) (fun h => ?_) | refine And.intro ?_ ?_ | (refine Need.mk ?_; first | with_reducible rfl | (show @Eq TC _ _; rfl) | omega | (simp only [adN_zero]; omega)) | exact OutS.whole rfl rfl | (refine OpK.call c1 rfl rfl rfl rfl hE ?_ rfl rfl ?_; focus ((repeat' (first | exact PsA.lit _ | exact PsA.ref rfl rfl | constructor)); all_goals (fail "ps"))) | refine ListO.go gOk hE ?_)
  all_goals first | (refine Need.mk ?_; first | (rw [if_pos (by omega), Int.tdiv_eq_ediv_of_nonneg (by omega), wr_in (by omega)]; done) | (rw [if_neg (by omega)]; done)) | trace_state
theorem PageOfI_run (s : Int) : RunT Tryz.prog 167 [ti s] [] [oi (pgS s)] [] := by
  have c1 := slotH_run s
  unfold pgS
  refine RunT.of_vc gOk Tryz.func167 rfl rfl (Nat.le_of_ble_eq_true rfl) (by repeat' (first | exact trivial | exact ⟨_, rfl, Nat.le_refl _⟩ | exact Nat.le_of_ble_eq_true rfl | refine And.intro ?_ ?_)) (Nat.le_of_ble_eq_true rfl) rfl (fun F hE => ?_)
  repeat' (first | exact trivial | refine BS.d (fun h => ?_) (fun h => ?_) | refine BS.e (fun h => ?_) (fun h => ?_) | refine BS.ne (fun h => ?_) (fun h => ?_) | refine BS.n ?_ | refine BS.s (fun h => ?_) (fun h => ?_) | refine And.intro ?_ ?_ | (refine Need.mk ?_; first | with_reducible rfl | (show @Eq TC _ _; rfl) | omega | (simp only [adN_zero]; omega)) | exact OutS.whole rfl rfl | (refine OpK.call c1 rfl rfl rfl rfl hE ?_ rfl rfl ?_; focus ((repeat' (first | exact PsA.lit _ | exact PsA.ref rfl rfl | constructor)); all_goals (fail "ps"))) | refine ListO.go gOk hE ?_)
  all_goals first | (refine Need.mk ?_; first | (rw [if_pos (by omega), Int.tdiv_eq_ediv_of_nonneg (by omega), wr_in (by omega)]; done) | (rw [if_neg (by omega)]; done)) | trace_state
theorem IndexOfS_run (s : Int) : RunT Tryz.prog 155 [ti s] [] [oi (ixS s)] [] := by
  have c1 := inH_run s 0 23
  unfold ixS
  refine RunT.of_vc gOk Tryz.func155 rfl rfl (Nat.le_of_ble_eq_true rfl) (by repeat' (first | exact trivial | exact ⟨_, rfl, Nat.le_refl _⟩ | exact Nat.le_of_ble_eq_true rfl | refine And.intro ?_ ?_)) (Nat.le_of_ble_eq_true rfl) rfl (fun F hE => ?_)
  repeat' (first | exact trivial | refine BS.d (fun h => ?_) (fun h => ?_) | refine BS.e (fun h => ?_) (fun h => ?_) | refine BS.ne (fun h => ?_) (fun h => ?_) | refine BS.n ?_ | refine BS.s (fun h => ?_) (fun h => ?_) | refine And.intro ?_ ?_ | (refine Need.mk ?_; first | with_reducible rfl | (show @Eq TC _ _; rfl) | omega | (simp only [adN_zero]; omega)) | exact OutS.whole rfl rfl | (refine OpK.call c1 rfl rfl rfl rfl hE ?_ rfl rfl ?_; focus ((repeat' (first | exact PsA.lit _ | exact PsA.ref rfl rfl | constructor)); all_goals (fail "ps"))) | refine ListO.go gOk hE ?_)
  all_goals first | (refine Need.mk ?_; first | (rw [if_pos (by omega), Int.tmod_eq_emod_of_nonneg (by omega)]; done) | (rw [if_neg (by omega)]; done)) | trace_state
theorem IndexOfI_run (s : Int) : RunT Tryz.prog 199 [ti s] [] [oi (ixS s)] [] := by
  have c1 := slotH_run s
  unfold ixS
  refine RunT.of_vc gOk Tryz.func199 rfl rfl (Nat.le_of_ble_eq_true rfl) (by repeat' (first | exact trivial | exact ⟨_, rfl, Nat.le_refl _⟩ | exact Nat.le_of_ble_eq_true rfl | refine And.intro ?_ ?_)) (Nat.le_of_ble_eq_true rfl) rfl (fun F hE => ?_)
  repeat' (first | exact trivial | refine BS.d (fun h => ?_) (fun h => ?_) | refine BS.e (fun h => ?_) (fun h => ?_) | refine BS.ne (fun h => ?_) (fun h => ?_) | refine BS.n ?_ | refine BS.s (fun h => ?_) (fun h => ?_) | refine And.intro ?_ ?_ | (refine Need.mk ?_; first | with_reducible rfl | (show @Eq TC _ _; rfl) | omega | (simp only [adN_zero]; omega)) | exact OutS.whole rfl rfl | (refine OpK.call c1 rfl rfl rfl rfl hE ?_ rfl rfl ?_; focus ((repeat' (first | exact PsA.lit _ | exact PsA.ref rfl rfl | constructor)); all_goals (fail "ps"))) | refine ListO.go gOk hE ?_)
  all_goals first | (refine Need.mk ?_; first | (rw [if_pos (by omega), Int.tmod_eq_emod_of_nonneg (by omega)]; done) | (rw [if_neg (by omega)]; done)) | trace_state
theorem SlotAtS_run (p i : Int) : RunT Tryz.prog 196 [ti p, ti i] [] [oi (slA p i)] [] := by
  have c1 := inH_run p 0 5
  have c2 := inH_run i 0 3
  unfold slA
  refine RunT.of_vc gOk Tryz.func196 rfl rfl (Nat.le_of_ble_eq_true rfl) (by repeat' (first | exact trivial | exact ⟨_, rfl, Nat.le_refl _⟩ | exact Nat.le_of_ble_eq_true rfl | refine And.intro ?_ ?_)) (Nat.le_of_ble_eq_true rfl) rfl (fun F hE => ?_)
  repeat' (first | exact trivial | refine BS.d (fun h => ?_) (fun h => ?_) | refine BS.e (fun h => ?_) (fun h => ?_) | refine BS.ne (fun h => ?_) (fun h => ?_) | refine BS.n ?_ | refine BS.s (fun h => ?_) (fun h => ?_) | refine And.intro ?_ ?_ | (refine Need.mk ?_; first | with_reducible rfl | (show @Eq TC _ _; rfl) | omega | (simp only [adN_zero]; omega)) | exact OutS.whole rfl rfl | (refine OpK.call c1 rfl rfl rfl rfl hE ?_ rfl rfl ?_; focus ((repeat' (first | exact PsA.lit _ | exact PsA.ref rfl rfl | constructor)); all_goals (fail "ps"))) | (refine OpK.call c2 rfl rfl rfl rfl hE ?_ rfl rfl ?_; focus ((repeat' (first | exact PsA.lit _ | exact PsA.ref rfl rfl | constructor)); all_goals (fail "ps"))) | refine ListO.go gOk hE ?_)
  all_goals first | (refine Need.mk ?_; first | (rw [if_pos (by omega)]; done) | (rw [if_neg (by omega)]; done)) | trace_state
theorem SlotAtI_run (p i : Int) : RunT Tryz.prog 198 [ti p, ti i] [] [oi (slA p i)] [] := by
  unfold slA
  refine RunT.of_vc gOk Tryz.func198 rfl rfl (Nat.le_of_ble_eq_true rfl) (by repeat' (first | exact trivial | exact ⟨_, rfl, Nat.le_refl _⟩ | exact Nat.le_of_ble_eq_true rfl | refine And.intro ?_ ?_)) (Nat.le_of_ble_eq_true rfl) rfl (fun F hE => ?_)
  repeat' (first | exact trivial | refine BS.d (fun h => ?_) (fun h => ?_) | refine BS.e (fun h => ?_) (fun h => ?_) | refine BS.ne (fun h => ?_) (fun h => ?_) | refine BS.n ?_ | refine BS.s (fun h => ?_) (fun h => ?_) | refine And.intro ?_ ?_ | (refine Need.mk ?_; first | with_reducible rfl | (show @Eq TC _ _; rfl) | omega | (simp only [adN_zero]; omega)) | exact OutS.whole rfl rfl | refine ListO.go gOk hE ?_)
  all_goals first | (exfalso; omega) | (refine Need.mk ?_; first | (rw [if_pos (by omega)]; done) | (rw [if_neg (by omega)]; done)) | trace_state
end Go.Proofs.YtfdbjiaghbeedaaGreatDoor
end

section
namespace Go.Proofs.YtfdbjiaghbeedaaGreatDoor
open Go Go.Tr
set_option maxRecDepth 100000
set_option maxHeartbeats 4000000
set_option linter.unusedVariables false
set_option linter.unusedSimpArgs false
theorem genA_yes {s c : Int} (hs : 0 ≤ s ∧ s < 24) (h : s % 4 < perC c) : genA s c = s / 4 * 64 + 8 + s % 4 * strC c := if_pos ⟨hs, h⟩
theorem genA_no {s c : Int} (h : ¬ ((0 ≤ s ∧ s < 24) ∧ s % 4 < perC c)) : genA s c = -1 := if_neg h
theorem pg_yes {s : Int} (h : 0 ≤ s ∧ s < 24) : pgS s = s / 4 := if_pos h
theorem pg_no {s : Int} (h : ¬ (0 ≤ s ∧ s < 24)) : pgS s = -1 := if_neg h
theorem ix_yes {s : Int} (h : 0 ≤ s ∧ s < 24) : ixS s = s % 4 := if_pos h
theorem ix_no {s : Int} (h : ¬ (0 ≤ s ∧ s < 24)) : ixS s = -1 := if_neg h
theorem GenAtS_run (s c : Int) : RunT Tryz.prog 195 [ti s, ti c] [] [oi (genA s c)] [] := by
  have c1 := PageOfS_run s
  have c2 := IndexOfS_run s
  have c3 := PerPageS_run c
  have c4 := StrideOfS_run c
  by_cases hs : 0 ≤ s ∧ s < 24
  · rw [pg_yes hs] at c1
    rw [ix_yes hs] at c2
    have h9 : genA s c = if s % 4 < perC c then s / 4 * 64 + 8 + s % 4 * strC c else -1 := by
      by_cases h : s % 4 < perC c
      · rw [genA_yes hs h, if_pos h]
      · rw [genA_no (fun hh => h hh.2), if_neg h]
    rw [h9]
    rcases cls4 c with ⟨h, -, e, e1⟩ | ⟨h, -, e, e1⟩ | ⟨h, -, e, e1⟩ | ⟨h, -, e, e1⟩ <;> rw [e1] <;> rw [e] <;> rw [e1] at c3 <;> rw [e] at c4
    all_goals (refine RunT.of_vc gOk Tryz.func195 rfl rfl (Nat.le_of_ble_eq_true rfl) (by repeat' (first | exact trivial | exact ⟨_, rfl, Nat.le_refl _⟩ | exact Nat.le_of_ble_eq_true rfl | refine And.intro ?_ ?_)) (Nat.le_of_ble_eq_true rfl) rfl (fun F hE => ?_))
    all_goals (repeat' (first | exact trivial | refine BS.d (fun h => ?_) (fun h => ?_) | refine BS.e (fun h => ?_) (fun h => ?_) | refine BS.ne (fun h => ?_) (fun h => ?_) | refine BS.n ?_ | refine BS.s (fun h => ?_) (fun h => ?_) | refine And.intro ?_ ?_ | (refine Need.mk ?_; first | with_reducible rfl | (show @Eq TC _ _; rfl) | omega | (simp only [adN_zero]; omega)) | exact OutS.whole rfl rfl | (refine OpK.call c1 rfl rfl rfl rfl hE ?_ rfl rfl ?_; focus ((repeat' (first | exact PsA.lit _ | exact PsA.ref rfl rfl | constructor)); all_goals (fail "ps"))) | (refine OpK.call c2 rfl rfl rfl rfl hE ?_ rfl rfl ?_; focus ((repeat' (first | exact PsA.lit _ | exact PsA.ref rfl rfl | constructor)); all_goals (fail "ps"))) | (refine OpK.call c3 rfl rfl rfl rfl hE ?_ rfl rfl ?_; focus ((repeat' (first | exact PsA.lit _ | exact PsA.ref rfl rfl | constructor)); all_goals (fail "ps"))) | (refine OpK.call c4 rfl rfl rfl rfl hE ?_ rfl rfl ?_; focus ((repeat' (first | exact PsA.lit _ | exact PsA.ref rfl rfl | constructor)); all_goals (fail "ps"))) | (refine OpK.call (inH_run ?_ ?_ ?_) rfl rfl rfl rfl hE ?_ rfl rfl ?_; rotate_left 3; focus ((repeat' (first | exact PsA.lit _ | exact PsA.ref rfl rfl | constructor)); all_goals (fail "ps"))) | refine ListO.go gOk hE ?_))
    all_goals first | (exfalso; omega) | (refine Need.mk ?_; first | omega | (rw [if_pos (by omega)]; done) | (rw [if_neg (by omega)]; done)) | trace_state
  · rw [pg_no hs] at c1
    rw [genA_no (fun hh => hs hh.1)]
    refine RunT.of_vc gOk Tryz.func195 rfl rfl (Nat.le_of_ble_eq_true rfl) (by repeat' (first | exact trivial | exact ⟨_, rfl, Nat.le_refl _⟩ | exact Nat.le_of_ble_eq_true rfl | refine And.intro ?_ ?_)) (Nat.le_of_ble_eq_true rfl) rfl (fun F hE => ?_)
    repeat' (first | exact trivial | refine BS.d (fun h => ?_) (fun h => ?_) | refine BS.e (fun h => ?_) (fun h => ?_) | refine BS.ne (fun h => ?_) (fun h => ?_) | refine BS.n ?_ | refine BS.s (fun h => ?_) (fun h => ?_) | refine And.intro ?_ ?_ | (refine Need.mk ?_; first | with_reducible rfl | (show @Eq TC _ _; rfl) | omega | (simp only [adN_zero]; omega)) | exact OutS.whole rfl rfl | (refine OpK.call c1 rfl rfl rfl rfl hE ?_ rfl rfl ?_; focus ((repeat' (first | exact PsA.lit _ | exact PsA.ref rfl rfl | constructor)); all_goals (fail "ps"))) | refine ListO.go gOk hE ?_)
    all_goals first | exact Need.mk rfl | (exfalso; omega) | trace_state
theorem GenAtI_run (s c : Int) : RunH Tryz.prog hT 144 [ti s, ti c] [] [oi (genA s c)] [] := by
  have c0 := slotH_run s
  have c1 := PageOfI_run s
  have c2 := IndexOfI_run s
  have c3 := PerPageI_run c
  have c4 := StrideOfI_run c
  by_cases hs : 0 ≤ s ∧ s < 24
  · rw [pg_yes hs] at c1
    rw [ix_yes hs] at c2
    rw [decide_eq_true hs] at c0
    have h9 : genA s c = if s % 4 < perC c then s / 4 * 64 + 8 + s % 4 * strC c else -1 := by
      by_cases h : s % 4 < perC c
      · rw [genA_yes hs h, if_pos h]
      · rw [genA_no (fun hh => h hh.2), if_neg h]
    rw [h9]
    rcases cls4 c with ⟨h, -, e, e1⟩ | ⟨h, -, e, e1⟩ | ⟨h, -, e, e1⟩ | ⟨h, -, e, e1⟩ <;> rw [e1] <;> rw [e] <;> rw [e1] at c3 <;> rw [e] at c4
    all_goals (refine RunH.of_vc gOk Tryz.func144 rfl rfl (Nat.le_of_ble_eq_true rfl) (by repeat' (first | exact trivial | exact ⟨_, rfl, Nat.le_refl _⟩ | exact Nat.le_of_ble_eq_true rfl | refine And.intro ?_ ?_)) (Nat.le_of_ble_eq_true rfl) rfl (fun F hE hA => ?_))
    all_goals (repeat' (first | exact trivial | refine BS.d (fun h => ?_) (fun h => ?_) | refine BS.e (fun h => ?_) (fun h => ?_) | refine BS.ne (fun h => ?_) (fun h => ?_) | refine BS.n ?_ | refine BS.s (fun h => ?_) (fun h => ?_) | refine And.intro ?_ ?_ | (refine Need.mk ?_; first | with_reducible rfl | (show @Eq TC _ _; rfl) | omega | (simp only [adN_zero]; omega)) | exact OutS.whole rfl rfl | (refine OpK.call c0 rfl rfl rfl rfl hE ?_ rfl rfl ?_; focus ((repeat' (first | exact PsA.lit _ | exact PsA.ref rfl rfl | constructor)); all_goals (fail "ps"))) | (refine OpK.call c1 rfl rfl rfl rfl hE ?_ rfl rfl ?_; focus ((repeat' (first | exact PsA.lit _ | exact PsA.ref rfl rfl | constructor)); all_goals (fail "ps"))) | (refine OpK.call c2 rfl rfl rfl rfl hE ?_ rfl rfl ?_; focus ((repeat' (first | exact PsA.lit _ | exact PsA.ref rfl rfl | constructor)); all_goals (fail "ps"))) | (refine OpK.callH c3 hA rfl rfl rfl rfl hE ?_ rfl rfl ?_; focus ((repeat' (first | exact PsA.lit _ | exact PsA.ref rfl rfl | constructor)); all_goals (fail "ps"))) | (refine OpK.callH c4 hA rfl rfl rfl rfl hE ?_ rfl rfl ?_; focus ((repeat' (first | exact PsA.lit _ | exact PsA.ref rfl rfl | constructor)); all_goals (fail "ps"))) | refine ListO.go gOk hE ?_))
    all_goals first | (exfalso; omega) | (refine Need.mk ?_; first | omega | (rw [if_pos (by omega)]; done) | (rw [if_neg (by omega)]; done)) | trace_state
  · rw [decide_eq_false hs] at c0
    rw [genA_no (fun hh => hs hh.1)]
    refine RunH.of_vc gOk Tryz.func144 rfl rfl (Nat.le_of_ble_eq_true rfl) (by repeat' (first | exact trivial | exact ⟨_, rfl, Nat.le_refl _⟩ | exact Nat.le_of_ble_eq_true rfl | refine And.intro ?_ ?_)) (Nat.le_of_ble_eq_true rfl) rfl (fun F hE hA => ?_)
    repeat' (first | exact trivial | refine BS.d (fun h => ?_) (fun h => ?_) | refine BS.e (fun h => ?_) (fun h => ?_) | refine BS.ne (fun h => ?_) (fun h => ?_) | refine BS.n ?_ | refine BS.s (fun h => ?_) (fun h => ?_) | refine And.intro ?_ ?_ | (refine Need.mk ?_; first | with_reducible rfl | (show @Eq TC _ _; rfl) | omega | (simp only [adN_zero]; omega)) | exact OutS.whole rfl rfl | (refine OpK.call c0 rfl rfl rfl rfl hE ?_ rfl rfl ?_; focus ((repeat' (first | exact PsA.lit _ | exact PsA.ref rfl rfl | constructor)); all_goals (fail "ps"))) | refine ListO.go gOk hE ?_)
    all_goals first | exact Need.mk rfl | (exfalso; omega) | trace_state
end Go.Proofs.YtfdbjiaghbeedaaGreatDoor
end

section
/- Shifts by a constant. -/
set_option linter.unusedVariables false
set_option linter.unusedSimpArgs false
universe u
namespace Go.Tr
open Go Go.RowKit
section
variable {P : Program} {F : Fm} {N : Nat} {G : Gt} {o : Oper} {τ σ : TS} {k : TS → Prop}
theorem PK.shl8 {t u : Nat} {x y : Operand} {k' : IntKind} {i : Int} {kv : V → Prop} (hop : o.op = .binOp .shl t x y u) (hx : evS σ x = .a (.lit (.int .i64 i))) (hy : evS σ y = .a (.lit (.int k' 8))) (hb : -36028797018963968 ≤ i ∧ i ≤ 36028797018963967)
    (h : kv (.a (.lit (.int .i64 (i * 256))))) : PK P F N o σ kv := by
  refine ⟨_, h, fun a w ω β hr => ?_⟩
  have ex : a.eval x = .int .i64 i := ev_lit hr (by rw [evS_eq, hx]; rfl)
  have ey : a.eval y = .int k' 8 := ev_lit hr (by rw [evS_eq, hy]; rfl)
  refine ⟨.int .i64 (i * 256), fun w' => ?_, rfl, rfl⟩
  generalize a.eval = ρ at ex ey ⊢
  refine run_bin ρ w' hop (by rw [ex, ey]; exact run_guard_int w' _ _ _ _ _ _ _ _) ?_
  rw [ex, ey]
  show (Op.shift .shl .i64 i k' 8).run P w' = _
  unfold Op.shift
  rw [if_neg (by omega)]
  show Result.ok (Value.int .i64 (IntKind.i64.wrap (i * 2 ^ 8))) w' = _
  rw [show i * 2 ^ 8 = i * 256 by omega, IntWalk.i64_in _ (by omega)]
theorem or8 (x y : Int) (h0 : 0 ≤ x) (h1 : x ≤ 281474976710655) (h2 : 0 ≤ y) (h3 : y ≤ 255) : wr .i64 ((BitVec.ofInt IntKind.i64.bits (x * 256) ||| BitVec.ofInt IntKind.i64.bits y).toNat) = x * 256 + y := by
  rw [wr_eq]
  exact bits_join .i64 63 (by decide) (fun n h₀ h₁ => by rw [IntKind.wrap_i64]; omega) 8 (x * 256) y (by omega) (by omega) (by omega) h2 (by omega) (by omega)
end
end Go.Tr
end
