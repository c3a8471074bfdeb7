import Derived.Test.YtpmhkpmkmbkjbaaGreatDoorVS
import Derived.Test.YtpmhkpmkmbkjbaaGreatDoorTy
import Derived.Test.YtpmhkpmkmbkjbaaGreatDoorVP
section
namespace Go.Proofs.YtpmhkpmkmbkjbaaGreatDoor
open Go Go.Tr
set_option maxRecDepth 100000
set_option linter.unusedVariables false
set_option linter.unusedSimpArgs false
def encI (x : Int) (_ : Nat) : TC := .lit (.int .i64 x)
def decI : List Value → Option Int
  | [.int .i64 x] => some x
  | _ => none
def tI (xs : List Int) : TC := .sl 3 1 Int encI decI 0 xs
def encL (x : List Int) (_ : Nat) : TC := tI x
def decL : List Value → Option (List Int) := fun _ => none
def tSL (e : Nat) (xs : List (List Int)) : TC := .sl e 1 (List Int) encL decL [] xs
abbrev Row := Int × Int
def encR (x : Row) : Nat → TC
  | 0 => .lit (.int .i64 x.1)
  | _ => .lit (.int .i64 x.2)
def decR : List Value → Option Row
  | [.int .i64 x, .int .i64 y] => some (x, y)
  | _ => none
def tR (e : Nat) (xs : List Row) : TC := .sl e 2 Row encR decR (0, 0) xs
def encLL (e : Nat) (x : List Row) (_ : Nat) : TC := tR e x
def decLL : List Value → Option (List Row) := fun _ => none
def tLL (e' e : Nat) (xs : List (List Row)) : TC := .sl e 1 (List Row) (encLL e') decLL [] xs
abbrev rR (o : RO) (f : Bool) (e : Nat) (xs : List Row) : TRoot := .ty o f e 2 Row encR decR (0, 0) xs
abbrev rLL (o : RO) (f : Bool) (e' e : Nat) (xs : List (List Row)) : TRoot := .ty o f e 1 (List Row) (encLL e') decLL [] xs
abbrev PinT := Bool × Int × Bool × Int
def encPin (x : PinT) : Nat → TC
  | 0 => .lit (.bool x.1)
  | 1 => .lit (.int .i64 x.2.1)
  | 2 => .lit (.bool x.2.2.1)
  | _ => .lit (.int .i64 x.2.2.2)
def decPin : List Value → Option PinT
  | [.bool x0, .int .i64 x1, .bool x2, .int .i64 x3] => some (x0, x1, x2, x3)
  | _ => none
abbrev zPin : PinT := (false, 0, false, 0)
def tPin (e : Nat) (xs : List PinT) : TC := .sl e 4 PinT encPin decPin zPin xs
abbrev rPin (o : RO) (f : Bool) (e : Nat) (xs : List PinT) : TRoot := .ty o f e 4 PinT encPin decPin zPin xs
abbrev aPin (x : PinT) : TAg := .agg [.c (.lit (.bool (x.1))), .c (.lit (.int .i64 x.2.1)), .c (.lit (.bool x.2.2.1)), .c (.lit (.int .i64 x.2.2.2))]
abbrev oPin (x : PinT) : TAr := .agg [.lit (.bool (x.1)), .lit (.int .i64 x.2.1), .lit (.bool x.2.2.1), .lit (.int .i64 x.2.2.2)]
abbrev vPin (x : PinT) : List Value := [Value.bool (x.1), Value.int .i64 (x.2.1), Value.bool (x.2.2.1), Value.int .i64 (x.2.2.2)]
def gT : Gt := ⟨tyT, 4, fun e =>
  if e = 3 then some ⟨Int, encI, decI, 0⟩
  else if e = 136 then some ⟨List Int, encL, decL, []⟩
  else if e = 103 then some ⟨Row, encR, decR, (0, 0)⟩
  else if e = 147 then some ⟨List Row, encLL 103, decLL, []⟩
  else if e = 144 then some ⟨PinT, encPin, decPin, zPin⟩
  else none⟩
theorem gOk : GOk Tryz.prog gT := ⟨tyOk, Tryz.underlying4⟩
def ti (x : Int) : TAg := .one (.c (.lit (.int .i64 x)))
def tb (x : Bool) : TAg := .one (.c (.lit (.bool x)))
def oi (x : Int) : TAr := .one (.lit (.int .i64 x))
def ob (x : Bool) : TAr := .one (.lit (.bool x))
abbrev vi (x : Int) : V := .a (.lit (.int .i64 x))
abbrev vb (x : Bool) : V := .a (.lit (.bool x))
abbrev vr (κ n : Nat) : V := .a (.ref κ 0 n)
abbrev rI (o : RO) (f : Bool) (xs : List Int) : TRoot := .ty o f 3 1 Int encI decI 0 xs
abbrev rSL (o : RO) (f : Bool) (e : Nat) (xs : List (List Int)) : TRoot := .ty o f e 1 (List Int) encL decL [] xs
theorem drop_cons {α : Type} {xs : List α} {i : Nat} (d : α) (h : i < xs.length) : xs.drop i = xs.getD i d :: xs.drop (i + 1) := by
  rw [List.drop_eq_getElem_cons h]; simp [List.getD, h]
end Go.Proofs.YtpmhkpmkmbkjbaaGreatDoor
end

section
namespace Go.Proofs.YtpmhkpmkmbkjbaaGreatDoor
open Go Go.Tr
set_option maxRecDepth 100000
set_option linter.unusedVariables false
set_option linter.unusedSimpArgs false
/-- The first elements are laid down, the rest is as made. -/
theorem eqIntS_run (xs : List Int) (hn : xs.length ≤ 4000000) : RunT Tryz.prog 32 [.one (.c (tI xs)), .one (.c (tI xs))] [] [ob true] [] := by
  refine RunT.of_vc gOk Tryz.func32 rfl rfl (Nat.le_of_ble_eq_true rfl) (by repeat' (first | exact trivial | exact ⟨_, rfl, Nat.le_refl _⟩ | exact Nat.le_of_ble_eq_true rfl | refine And.intro ?_ ?_)) (Nat.le_of_ble_eq_true rfl) rfl (fun F hE => ?_)
  repeat' (first | exact trivial | refine BS.d (fun h => ?_) (fun h => ?_) | refine BS.e (fun h => ?_) (fun h => ?_) | refine BS.ne (fun h => ?_) (fun h => ?_) | refine BS.n ?_ | refine BS.s (fun h => ?_) (fun h => ?_) | refine And.intro ?_ ?_ | (refine Need.mk ?_; first | with_reducible rfl | (show @Eq TC _ _; rfl) | omega | (simp only [adN_zero]; omega)) | exact OutS.whole rfl rfl | refine ListO.go gOk hE ?_)
  · refine CodeK.loop gOk hE (fun i : Nat => ⟨[(0, vr 1000000 xs.length), (1, vr 1000001 xs.length), (5, vi i)], [(1000000, rI .fro false xs), (1000001, rI .fro false xs)]⟩) (fun i => i ≤ xs.length) (fun i => xs.length - i) 0 (by refine leT.of ?_ ?_ rfl <;> repeat' (first | exact trivial | refine And.intro rfl ?_ | refine And.intro (by simp) ?_)) (Nat.zero_le _) ?_
    rintro i hi
    repeat' (first | exact trivial | refine BS.d (fun h => ?_) (fun h => ?_) | refine BS.e (fun h => ?_) (fun h => ?_) | refine BS.ne (fun h => ?_) (fun h => ?_) | refine BS.n ?_ | refine BS.s (fun h => ?_) (fun h => ?_) | refine And.intro ?_ ?_ | (refine Need.mk ?_; first | with_reducible rfl | (show @Eq TC _ _; rfl) | omega | (simp only [adN_zero]; omega)) | exact OutS.whole rfl rfl | refine ListO.go gOk hE ?_)
    · refine CodeK.draw gOk hE rfl (fun _ _ h => h) (.take 0 (.take 1 (.take 2 (.take 4 (.take 5 (.take 6 (.alt 3 (.alt 7 (.take 8 .done) .stop) (.alt 7 (.alt 3 (.take 8 .done) .stop) .stop)))))))) (by decide +kernel) ?_
      repeat' (first | exact trivial | refine BS.d (fun h => ?_) (fun h => ?_) | refine BS.e (fun h => ?_) (fun h => ?_) | refine BS.ne (fun h => ?_) (fun h => ?_) | refine BS.n ?_ | refine BS.s (fun h => ?_) (fun h => ?_) | refine And.intro ?_ ?_ | (refine Need.mk ?_; first | with_reducible rfl | (show @Eq TC _ _; rfl) | omega | (simp only [adN_zero]; omega)) | exact OutS.whole rfl rfl | refine ListO.go gOk hE ?_)
      all_goals (refine ⟨i + 1, (by refine leT.of ?_ ?_ rfl <;> repeat' (first | exact trivial | refine And.intro rfl ?_ | refine And.intro (by simp) ?_)), ?_⟩; (refine And.intro ?_ ?_) <;> (first | omega | (dsimp only; omega) | trivial))
def fl {α : Type} (d : α) (xs : List α) (i : Nat) : List α := xs.take i ++ List.replicate (xs.length - i) d
theorem fl_zero {α : Type} (d : α) (xs : List α) : fl d xs 0 = List.replicate xs.length d := by simp [fl]
theorem fl_len {α : Type} (d : α) (xs : List α) (i : Nat) (h : i ≤ xs.length) : (fl d xs i).length = xs.length := by simp [fl]; omega
theorem fl_full {α : Type} (d : α) (xs : List α) (i : Nat) (h : ¬ i < xs.length) (h' : i ≤ xs.length) : fl d xs i = xs := by
  have : i = xs.length := by omega
  subst this; simp [fl]
theorem fl_set {α : Type} (d : α) (xs : List α) (i : Nat) (h : i < xs.length) : (fl d xs i).set i (xs.getD i d) = fl d xs (i + 1) := by
  apply List.ext_getElem
  · simp [fl]; omega
  · intro j h1 h2
    simp only [List.getElem_set, fl, List.getElem_append, List.length_take, List.getElem_take, List.getElem_replicate]
    by_cases e : i = j
    · subst e; simp [List.getD, h]
      omega
    · simp only [e, if_false]
      by_cases hj : j < i
      · rw [dif_pos (by omega), dif_pos (by omega)]
      · rw [dif_neg (by omega), dif_neg (by omega)]
def szI (xs : List Int) (m : Int) : Int := if m - xs.length < 0 then -1 else m - xs.length
theorem szIntS_run (xs : List Int) (m : Int) (h0 : 0 ≤ m) (h1 : m ≤ 1048576) (hn : xs.length ≤ 9223372036854775807) : RunT Tryz.prog 69 [.one (.c (tI xs)), ti m] [] [oi (szI xs m)] [] := by
  refine RunT.of_vc gOk Tryz.func69 rfl rfl (Nat.le_of_ble_eq_true rfl) (by repeat' (first | exact trivial | exact ⟨_, rfl, Nat.le_refl _⟩ | exact Nat.le_of_ble_eq_true rfl | refine And.intro ?_ ?_)) (Nat.le_of_ble_eq_true rfl) rfl (fun F hE => ?_)
  repeat' (first | exact trivial | refine BS.d (fun h => ?_) (fun h => ?_) | refine BS.e (fun h => ?_) (fun h => ?_) | refine BS.ne (fun h => ?_) (fun h => ?_) | refine BS.n ?_ | refine BS.s (fun h => ?_) (fun h => ?_) | refine And.intro ?_ ?_ | (refine Need.mk ?_; first | with_reducible rfl | (show @Eq TC _ _; rfl) | omega | (simp only [adN_zero]; omega)) | exact OutS.whole rfl rfl | refine ListO.go gOk hE ?_)
  all_goals (refine Need.mk ?_; unfold szI; first | rw [if_pos (by omega)] | rw [if_neg (by omega)])
theorem toIntS_run (xs : List Int) (hn : xs.length ≤ 1048576) : RunT Tryz.prog 76 [.one (.c (tI xs))] [] [.one (tI xs)] [] := by
  refine RunT.of_vc gOk Tryz.func76 rfl rfl (Nat.le_of_ble_eq_true rfl) (by repeat' (first | exact trivial | exact ⟨_, rfl, Nat.le_refl _⟩ | exact Nat.le_of_ble_eq_true rfl | refine And.intro ?_ ?_)) (Nat.le_of_ble_eq_true rfl) rfl (fun F hE => ?_)
  repeat' (first | exact trivial | refine BS.d (fun h => ?_) (fun h => ?_) | refine BS.e (fun h => ?_) (fun h => ?_) | refine BS.ne (fun h => ?_) (fun h => ?_) | refine BS.n ?_ | refine BS.s (fun h => ?_) (fun h => ?_) | refine And.intro ?_ ?_ | (refine Need.mk ?_; first | with_reducible rfl | (show @Eq TC _ _; rfl) | omega | (simp only [adN_zero]; omega)) | exact OutS.whole rfl rfl | refine ListO.go gOk hE ?_)
  refine CodeK.loop gOk hE (fun i : Nat => ⟨[(0, vr 1000000 xs.length), (3, vr 7 xs.length), (4, vi i)], [(7, rI .own true (fl 0 xs i)), (1000000, rI .fro false xs)]⟩) (fun i => i ≤ xs.length) (fun i => xs.length - i) 0 (by refine leT.of ?_ ?_ rfl <;> repeat' (first | exact trivial | refine And.intro rfl ?_ | refine And.intro (by simp [fl_zero] <;> rfl) ?_)) (Nat.zero_le _) ?_
  rintro i hi
  have hl := fl_len 0 xs i hi
  repeat' (first | exact trivial | refine BS.d (fun h => ?_) (fun h => ?_) | refine BS.e (fun h => ?_) (fun h => ?_) | refine BS.ne (fun h => ?_) (fun h => ?_) | refine BS.n ?_ | refine BS.s (fun h => ?_) (fun h => ?_) | refine And.intro ?_ ?_ | (refine Need.mk ?_; first | with_reducible rfl | (show @Eq TC _ _; rfl) | omega | (simp only [adN_zero]; omega)) | exact OutS.whole rfl rfl | refine ListO.go gOk hE ?_)
  · all_goals (refine ⟨i + 1, (by refine leT.of ?_ ?_ rfl <;> repeat' (first | exact trivial | refine And.intro rfl ?_ | refine And.intro (by first | (rw [← fl_set 0 xs i (by omega)]; rfl) | (simp <;> rfl)) ?_)), ?_⟩; (refine And.intro ?_ ?_) <;> (first | omega | (dsimp only; omega) | trivial))
  · exact OutS.whole hl.symm (by rw [fl_full _ _ _ (by omega) hi]; rfl)
theorem szI_le (x : List Int) (m : Int) (h0 : 0 ≤ m) : szI x m ≤ m ∧ -1 ≤ szI x m ∧ (0 ≤ szI x m → x.length ≤ m) := by
  unfold szI; split <;> omega
end Go.Proofs.YtpmhkpmkmbkjbaaGreatDoor
end

section
namespace Go.Proofs.YtpmhkpmkmbkjbaaGreatDoor
open Go Go.Tr
set_option maxRecDepth 100000
set_option linter.unusedVariables false
set_option linter.unusedSimpArgs false
theorem eqSList_run (x : List Int) (hn : x.length ≤ 4000000) : RunT Tryz.prog 182 [.agg [.c (tI x)], .agg [.c (tI x)]] [] [ob true] [] := by
  refine RunT.of_vc gOk Tryz.func182 rfl rfl (Nat.le_of_ble_eq_true rfl) (by repeat' (first | exact trivial | exact ⟨_, rfl, Nat.le_refl _⟩ | exact Nat.le_of_ble_eq_true rfl | refine And.intro ?_ ?_)) (Nat.le_of_ble_eq_true rfl) rfl (fun F hE => ?_)
  repeat' (first | exact trivial | refine BS.d (fun h => ?_) (fun h => ?_) | refine BS.e (fun h => ?_) (fun h => ?_) | refine BS.ne (fun h => ?_) (fun h => ?_) | refine BS.n ?_ | refine BS.s (fun h => ?_) (fun h => ?_) | refine And.intro ?_ ?_ | (refine Need.mk ?_; first | with_reducible rfl | (show @Eq TC _ _; rfl) | omega | (simp only [adN_zero]; omega)) | exact OutS.whole rfl rfl | refine ListO.go gOk hE ?_)
  refine OpK.call (eqIntS_run x hn) rfl rfl rfl rfl hE (by repeat' (first | exact PsA.lit _ | exact PsA.ref rfl rfl | constructor)) rfl rfl ?_
  repeat' (first | exact trivial | refine BS.d (fun h => ?_) (fun h => ?_) | refine BS.e (fun h => ?_) (fun h => ?_) | refine BS.ne (fun h => ?_) (fun h => ?_) | refine BS.n ?_ | refine BS.s (fun h => ?_) (fun h => ?_) | refine And.intro ?_ ?_ | (refine Need.mk ?_; first | with_reducible rfl | (show @Eq TC _ _; rfl) | omega | (simp only [adN_zero]; omega)) | exact OutS.whole rfl rfl | refine ListO.go gOk hE ?_)
theorem eqSListS_run (e : Nat) (xs : List (List Int)) (hn : xs.length ≤ 4000000) (hx : ∀ i, (xs.getD i []).length ≤ 4000000) : RunT Tryz.prog 122 [.one (.c (tSL e xs)), .one (.c (tSL e xs))] [] [ob true] [] := by
  refine RunT.of_vc gOk Tryz.func122 rfl rfl (Nat.le_of_ble_eq_true rfl) (by repeat' (first | exact trivial | exact ⟨_, rfl, Nat.le_refl _⟩ | exact Nat.le_of_ble_eq_true rfl | refine And.intro ?_ ?_)) (Nat.le_of_ble_eq_true rfl) rfl (fun F hE => ?_)
  repeat' (first | exact trivial | refine BS.d (fun h => ?_) (fun h => ?_) | refine BS.e (fun h => ?_) (fun h => ?_) | refine BS.ne (fun h => ?_) (fun h => ?_) | refine BS.n ?_ | refine BS.s (fun h => ?_) (fun h => ?_) | refine And.intro ?_ ?_ | (refine Need.mk ?_; first | with_reducible rfl | (show @Eq TC _ _; rfl) | omega | (simp only [adN_zero]; omega)) | exact OutS.whole rfl rfl | refine ListO.go gOk hE ?_)
  · refine CodeK.loop gOk hE (fun i : Nat => ⟨[(0, vr 1000000 xs.length), (1, vr 1000001 xs.length), (5, vi i)], [(1000000, rSL .fro false e xs), (1000001, rSL .fro false e xs)]⟩) (fun i => i ≤ xs.length) (fun i => xs.length - i) 0 (by refine leT.of ?_ ?_ rfl <;> repeat' (first | exact trivial | refine And.intro rfl ?_ | refine And.intro (by simp) ?_)) (Nat.zero_le _) ?_
    rintro i hi
    repeat' (first | exact trivial | refine BS.d (fun h => ?_) (fun h => ?_) | refine BS.e (fun h => ?_) (fun h => ?_) | refine BS.ne (fun h => ?_) (fun h => ?_) | refine BS.n ?_ | refine BS.s (fun h => ?_) (fun h => ?_) | refine And.intro ?_ ?_ | (refine Need.mk ?_; first | with_reducible rfl | (show @Eq TC _ _; rfl) | omega | (simp only [adN_zero]; omega)) | exact OutS.whole rfl rfl | refine ListO.go gOk hE ?_)
    · refine CodeK.draw gOk hE rfl (fun _ _ h => h) (.take 0 (.take 1 (.take 2 (.take 4 (.take 5 (.take 6 (.alt 3 (.alt 7 (.alt 8 (.take 9 .done) .stop) .stop) (.alt 7 (.alt 3 (.alt 8 (.take 9 .done) .stop) .stop) .stop)))))))) (by decide +kernel) ?_
      repeat' (first | exact trivial | refine BS.d (fun h => ?_) (fun h => ?_) | refine BS.e (fun h => ?_) (fun h => ?_) | refine BS.ne (fun h => ?_) (fun h => ?_) | refine BS.n ?_ | refine BS.s (fun h => ?_) (fun h => ?_) | refine And.intro ?_ ?_ | (refine Need.mk ?_; first | with_reducible rfl | (show @Eq TC _ _; rfl) | omega | (simp only [adN_zero]; omega)) | exact OutS.whole rfl rfl | refine ListO.go gOk hE ?_)
      all_goals (refine OpK.call (eqSList_run _ (hx _)) rfl rfl rfl rfl hE (by repeat' (first | exact PsA.lit _ | exact PsA.ref rfl rfl | constructor)) rfl rfl ?_)
      all_goals (repeat' (first | exact trivial | refine BS.d (fun h => ?_) (fun h => ?_) | refine BS.e (fun h => ?_) (fun h => ?_) | refine BS.ne (fun h => ?_) (fun h => ?_) | refine BS.n ?_ | refine BS.s (fun h => ?_) (fun h => ?_) | refine And.intro ?_ ?_ | (refine Need.mk ?_; first | with_reducible rfl | (show @Eq TC _ _; rfl) | omega | (simp only [adN_zero]; omega)) | exact OutS.whole rfl rfl | refine ListO.go gOk hE ?_))
      all_goals (refine ⟨i + 1, (by refine leT.of ?_ ?_ rfl <;> repeat' (first | exact trivial | refine And.intro rfl ?_ | refine And.intro (by simp) ?_)), ?_⟩; (refine And.intro ?_ ?_) <;> (first | omega | (dsimp only; omega) | trivial))
theorem eqLists_run (e : Nat) (g o : List (List Int)) (hg : g.length ≤ 4000000) (hg' : ∀ i, (g.getD i []).length ≤ 4000000) (ho : o.length ≤ 4000000) (ho' : ∀ i, (o.getD i []).length ≤ 4000000) : RunT Tryz.prog 52 [.agg [.c (tSL e g), .c (tSL e o)], .agg [.c (tSL e g), .c (tSL e o)]] [] [ob true] [] := by
  refine RunT.of_vc gOk Tryz.func52 rfl rfl (Nat.le_of_ble_eq_true rfl) (by repeat' (first | exact trivial | exact ⟨_, rfl, Nat.le_refl _⟩ | exact Nat.le_of_ble_eq_true rfl | refine And.intro ?_ ?_)) (Nat.le_of_ble_eq_true rfl) rfl (fun F hE => ?_)
  repeat' (first | exact trivial | refine BS.d (fun h => ?_) (fun h => ?_) | refine BS.e (fun h => ?_) (fun h => ?_) | refine BS.ne (fun h => ?_) (fun h => ?_) | refine BS.n ?_ | refine BS.s (fun h => ?_) (fun h => ?_) | refine And.intro ?_ ?_ | (refine Need.mk ?_; first | with_reducible rfl | (show @Eq TC _ _; rfl) | omega | (simp only [adN_zero]; omega)) | exact OutS.whole rfl rfl | refine ListO.go gOk hE ?_)
  refine OpK.call (eqSListS_run e g hg hg') rfl rfl rfl rfl hE (by repeat' (first | exact PsA.lit _ | exact PsA.ref rfl rfl | constructor)) rfl rfl ?_
  repeat' (first | exact trivial | refine BS.d (fun h => ?_) (fun h => ?_) | refine BS.e (fun h => ?_) (fun h => ?_) | refine BS.ne (fun h => ?_) (fun h => ?_) | refine BS.n ?_ | refine BS.s (fun h => ?_) (fun h => ?_) | refine And.intro ?_ ?_ | (refine Need.mk ?_; first | with_reducible rfl | (show @Eq TC _ _; rfl) | omega | (simp only [adN_zero]; omega)) | exact OutS.whole rfl rfl | refine ListO.go gOk hE ?_)
  refine OpK.call (eqSListS_run e o ho ho') rfl rfl rfl rfl hE (by repeat' (first | exact PsA.lit _ | exact PsA.ref rfl rfl | constructor)) rfl rfl ?_
  repeat' (first | exact trivial | refine BS.d (fun h => ?_) (fun h => ?_) | refine BS.e (fun h => ?_) (fun h => ?_) | refine BS.ne (fun h => ?_) (fun h => ?_) | refine BS.n ?_ | refine BS.s (fun h => ?_) (fun h => ?_) | refine And.intro ?_ ?_ | (refine Need.mk ?_; first | with_reducible rfl | (show @Eq TC _ _; rfl) | omega | (simp only [adN_zero]; omega)) | exact OutS.whole rfl rfl | refine ListO.go gOk hE ?_)
end Go.Proofs.YtpmhkpmkmbkjbaaGreatDoor
end

section
namespace Go.Proofs.YtpmhkpmkmbkjbaaGreatDoor
open Go Go.Tr
set_option maxRecDepth 100000
set_option linter.unusedVariables false
set_option linter.unusedSimpArgs false
/-- The first elements are laid down, the rest is as made. -/
theorem toSList_run (x : List Int) (hn : x.length ≤ 1048576) (e : Nat) : RunT Tryz.prog 179 [.agg [.c (tI x)]] [] [.agg [tI x]] [] := by
  refine RunT.of_vc gOk Tryz.func179 rfl rfl (Nat.le_of_ble_eq_true rfl) (by repeat' (first | exact trivial | exact ⟨_, rfl, Nat.le_refl _⟩ | exact Nat.le_of_ble_eq_true rfl | refine And.intro ?_ ?_)) (Nat.le_of_ble_eq_true rfl) rfl (fun F hE => ?_)
  repeat' (first | exact trivial | refine BS.d (fun h => ?_) (fun h => ?_) | refine BS.e (fun h => ?_) (fun h => ?_) | refine BS.ne (fun h => ?_) (fun h => ?_) | refine BS.n ?_ | refine BS.s (fun h => ?_) (fun h => ?_) | refine And.intro ?_ ?_ | (refine Need.mk ?_; first | with_reducible rfl | (show @Eq TC _ _; rfl) | omega | (simp only [adN_zero]; omega)) | exact OutS.whole rfl rfl | refine ListO.go gOk hE ?_)
  refine OpK.call (toIntS_run x hn) rfl rfl rfl rfl hE (by repeat' (first | exact PsA.lit _ | exact PsA.ref rfl rfl | constructor)) rfl rfl ?_
  repeat' (first | exact trivial | refine BS.d (fun h => ?_) (fun h => ?_) | refine BS.e (fun h => ?_) (fun h => ?_) | refine BS.ne (fun h => ?_) (fun h => ?_) | refine BS.n ?_ | refine BS.s (fun h => ?_) (fun h => ?_) | refine And.intro ?_ ?_ | (refine Need.mk ?_; first | with_reducible rfl | (show @Eq TC _ _; rfl) | omega | (simp only [adN_zero]; omega)) | exact OutS.whole rfl rfl | refine ListO.go gOk hE ?_)
theorem toSListS_run (e : Nat) (xs : List (List Int)) (hn : xs.length ≤ 1048576) (hx : ∀ i, (xs.getD i []).length ≤ 1048576) : RunT Tryz.prog 114 [.one (.c (tSL e xs))] [] [.one (tSL 136 xs)] [] := by
  refine RunT.of_vc gOk Tryz.func114 rfl rfl (Nat.le_of_ble_eq_true rfl) (by repeat' (first | exact trivial | exact ⟨_, rfl, Nat.le_refl _⟩ | exact Nat.le_of_ble_eq_true rfl | refine And.intro ?_ ?_)) (Nat.le_of_ble_eq_true rfl) rfl (fun F hE => ?_)
  repeat' (first | exact trivial | refine BS.d (fun h => ?_) (fun h => ?_) | refine BS.e (fun h => ?_) (fun h => ?_) | refine BS.ne (fun h => ?_) (fun h => ?_) | refine BS.n ?_ | refine BS.s (fun h => ?_) (fun h => ?_) | refine And.intro ?_ ?_ | (refine Need.mk ?_; first | with_reducible rfl | (show @Eq TC _ _; rfl) | omega | (simp only [adN_zero]; omega)) | exact OutS.whole rfl rfl | refine ListO.go gOk hE ?_)
  refine CodeK.loop gOk hE (fun i : Nat => ⟨[(0, vr 1000000 xs.length), (3, vr 7 xs.length), (4, vi i)], [(7, rSL .own true 136 (fl [] xs i)), (1000000, rSL .fro false e xs)]⟩) (fun i => i ≤ xs.length) (fun i => xs.length - i) 0 (by refine leT.of ?_ ?_ rfl <;> repeat' (first | exact trivial | refine And.intro rfl ?_ | refine And.intro (by simp [fl_zero] <;> rfl) ?_)) (Nat.zero_le _) ?_
  rintro i hi
  have hl := fl_len [] xs i hi
  repeat' (first | exact trivial | refine BS.d (fun h => ?_) (fun h => ?_) | refine BS.e (fun h => ?_) (fun h => ?_) | refine BS.ne (fun h => ?_) (fun h => ?_) | refine BS.n ?_ | refine BS.s (fun h => ?_) (fun h => ?_) | refine And.intro ?_ ?_ | (refine Need.mk ?_; first | with_reducible rfl | (show @Eq TC _ _; rfl) | omega | (simp only [adN_zero]; omega)) | exact OutS.whole rfl rfl | refine ListO.go gOk hE ?_)
  · refine OpK.call (toSList_run _ (hx i) 0) rfl rfl rfl rfl hE (by repeat' (first | exact PsA.lit _ | exact PsA.ref rfl rfl | constructor)) rfl rfl ?_
    repeat' (first | exact trivial | refine BS.d (fun h => ?_) (fun h => ?_) | refine BS.e (fun h => ?_) (fun h => ?_) | refine BS.ne (fun h => ?_) (fun h => ?_) | refine BS.n ?_ | refine BS.s (fun h => ?_) (fun h => ?_) | refine And.intro ?_ ?_ | (refine Need.mk ?_; first | with_reducible rfl | (show @Eq TC _ _; rfl) | omega | (simp only [adN_zero]; omega)) | exact OutS.whole rfl rfl | refine ListO.go gOk hE ?_)
    refine OpK.stN gOk (xs.getD i []) rfl rfl rfl rfl rfl rfl rfl rfl rfl (by first | omega | (simp only [adN_zero]; omega)) (by first | exact (StN.ref (by rfl) (by first | rfl | simp) (by rfl) (by rfl) (by rfl) StN.nil) | exact (StN.emp (by rfl) StN.nil)) ?_
    repeat' (first | exact trivial | refine BS.d (fun h => ?_) (fun h => ?_) | refine BS.e (fun h => ?_) (fun h => ?_) | refine BS.ne (fun h => ?_) (fun h => ?_) | refine BS.n ?_ | refine BS.s (fun h => ?_) (fun h => ?_) | refine And.intro ?_ ?_ | (refine Need.mk ?_; first | with_reducible rfl | (show @Eq TC _ _; rfl) | omega | (simp only [adN_zero]; omega)) | exact OutS.whole rfl rfl | refine ListO.go gOk hE ?_)
    all_goals (refine ⟨i + 1, (by refine leT.of ?_ ?_ rfl <;> repeat' (first | exact trivial | refine And.intro rfl ?_ | refine And.intro (by first | (rw [← fl_set [] xs i (by omega)]; rfl) | (simp <;> rfl)) ?_)), ?_⟩; (refine And.intro ?_ ?_) <;> (first | omega | (dsimp only; omega) | trivial))
  · exact OutS.whole hl.symm (by rw [fl_full _ _ _ (by omega) hi]; rfl)
theorem toLists_run (e : Nat) (g o : List (List Int)) (hg : g.length ≤ 1048576) (hg' : ∀ i, (g.getD i []).length ≤ 1048576) (ho : o.length ≤ 1048576) (ho' : ∀ i, (o.getD i []).length ≤ 1048576) : RunT Tryz.prog 47 [.agg [.c (tSL e g), .c (tSL e o)]] [] [.agg [tSL 136 g, tSL 136 o]] [] := by
  refine RunT.of_vc gOk Tryz.func47 rfl rfl (Nat.le_of_ble_eq_true rfl) (by repeat' (first | exact trivial | exact ⟨_, rfl, Nat.le_refl _⟩ | exact Nat.le_of_ble_eq_true rfl | refine And.intro ?_ ?_)) (Nat.le_of_ble_eq_true rfl) rfl (fun F hE => ?_)
  repeat' (first | exact trivial | refine BS.d (fun h => ?_) (fun h => ?_) | refine BS.e (fun h => ?_) (fun h => ?_) | refine BS.ne (fun h => ?_) (fun h => ?_) | refine BS.n ?_ | refine BS.s (fun h => ?_) (fun h => ?_) | refine And.intro ?_ ?_ | (refine Need.mk ?_; first | with_reducible rfl | (show @Eq TC _ _; rfl) | omega | (simp only [adN_zero]; omega)) | exact OutS.whole rfl rfl | refine ListO.go gOk hE ?_)
  refine OpK.call (toSListS_run e g hg hg') rfl rfl rfl rfl hE (by repeat' (first | exact PsA.lit _ | exact PsA.ref rfl rfl | constructor)) rfl rfl ?_
  repeat' (first | exact trivial | refine BS.d (fun h => ?_) (fun h => ?_) | refine BS.e (fun h => ?_) (fun h => ?_) | refine BS.ne (fun h => ?_) (fun h => ?_) | refine BS.n ?_ | refine BS.s (fun h => ?_) (fun h => ?_) | refine And.intro ?_ ?_ | (refine Need.mk ?_; first | with_reducible rfl | (show @Eq TC _ _; rfl) | omega | (simp only [adN_zero]; omega)) | exact OutS.whole rfl rfl | refine ListO.go gOk hE ?_)
  refine OpK.call (toSListS_run e o ho ho') rfl rfl rfl rfl hE (by repeat' (first | exact PsA.lit _ | exact PsA.ref rfl rfl | constructor)) rfl rfl ?_
  repeat' (first | exact trivial | refine BS.d (fun h => ?_) (fun h => ?_) | refine BS.e (fun h => ?_) (fun h => ?_) | refine BS.ne (fun h => ?_) (fun h => ?_) | refine BS.n ?_ | refine BS.s (fun h => ?_) (fun h => ?_) | refine And.intro ?_ ?_ | (refine Need.mk ?_; first | with_reducible rfl | (show @Eq TC _ _; rfl) | omega | (simp only [adN_zero]; omega)) | exact OutS.whole rfl rfl | refine ListO.go gOk hE ?_)
/-- What is left of a budget. -/
def szSL : List (List Int) → Int → Int
  | [], m => m
  | x :: l, m => if szI x m < 0 then -1 else szSL l (szI x m)
def szSLs (xs : List (List Int)) (m : Int) : Int := if m - xs.length < 0 then -1 else szSL xs (m - xs.length)
theorem szSList_run (x : List Int) (m : Int) (h0 : 0 ≤ m) (h1 : m ≤ 1048576) (hn : x.length ≤ 9223372036854775807) : RunT Tryz.prog 173 [.agg [.c (tI x)], ti m] [] [oi (szI x m)] [] := by
  refine RunT.of_vc gOk Tryz.func173 rfl rfl (Nat.le_of_ble_eq_true rfl) (by repeat' (first | exact trivial | exact ⟨_, rfl, Nat.le_refl _⟩ | exact Nat.le_of_ble_eq_true rfl | refine And.intro ?_ ?_)) (Nat.le_of_ble_eq_true rfl) rfl (fun F hE => ?_)
  repeat' (first | exact trivial | refine BS.d (fun h => ?_) (fun h => ?_) | refine BS.e (fun h => ?_) (fun h => ?_) | refine BS.ne (fun h => ?_) (fun h => ?_) | refine BS.n ?_ | refine BS.s (fun h => ?_) (fun h => ?_) | refine And.intro ?_ ?_ | (refine Need.mk ?_; first | with_reducible rfl | (show @Eq TC _ _; rfl) | omega | (simp only [adN_zero]; omega)) | exact OutS.whole rfl rfl | refine ListO.go gOk hE ?_)
  refine OpK.call (szIntS_run x m h0 h1 hn) rfl rfl rfl rfl hE (by repeat' (first | exact PsA.lit _ | exact PsA.ref rfl rfl | constructor)) rfl rfl ?_
  repeat' (first | exact trivial | refine BS.d (fun h => ?_) (fun h => ?_) | refine BS.e (fun h => ?_) (fun h => ?_) | refine BS.ne (fun h => ?_) (fun h => ?_) | refine BS.n ?_ | refine BS.s (fun h => ?_) (fun h => ?_) | refine And.intro ?_ ?_ | (refine Need.mk ?_; first | with_reducible rfl | (show @Eq TC _ _; rfl) | omega | (simp only [adN_zero]; omega)) | exact OutS.whole rfl rfl | refine ListO.go gOk hE ?_)
  refine Need.mk ?_
  unfold szI at *
  split <;> simp_all <;> omega
theorem szSL_le : ∀ (l : List (List Int)) (m : Int), 0 ≤ m → szSL l m ≤ m ∧ -1 ≤ szSL l m ∧ (0 ≤ szSL l m → ∀ x ∈ l, x.length ≤ m)
  | [], m, h => ⟨Int.le_refl _, by simp [szSL]; omega, fun _ x hx => by simp at hx⟩
  | x :: l, m, h => by
    obtain ⟨h1, h2, h3⟩ := szI_le x m h
    unfold szSL
    split
    · exact ⟨by omega, by omega, fun h => by omega⟩
    · obtain ⟨k1, k2, k3⟩ := szSL_le l (szI x m) (by omega)
      refine ⟨by omega, by omega, fun h4 y hy => ?_⟩
      rcases List.mem_cons.1 hy with rfl | hy
      · exact h3 (by omega)
      · have := k3 h4 y hy; omega
theorem szSLs_le (l : List (List Int)) (m : Int) (h : 0 ≤ m) : szSLs l m ≤ m ∧ -1 ≤ szSLs l m ∧ (0 ≤ szSLs l m → l.length ≤ m ∧ ∀ x ∈ l, x.length ≤ m) := by
  unfold szSLs
  split
  · omega
  · obtain ⟨k1, k2, k3⟩ := szSL_le l (m - l.length) (by omega)
    exact ⟨by omega, k2, fun h4 => ⟨by omega, fun x hx => by have := k3 h4 x hx; omega⟩⟩
theorem szSListS_run (e : Nat) (xs : List (List Int)) (m : Int) (h0 : 0 ≤ m) (h1 : m ≤ 1048576) (hn : xs.length ≤ 9223372036854775807) (hx : ∀ i, (xs.getD i []).length ≤ 9223372036854775807) : RunT Tryz.prog 108 [.one (.c (tSL e xs)), ti m] [] [oi (szSLs xs m)] [] := by
  refine RunT.of_vc gOk Tryz.func108 rfl rfl (Nat.le_of_ble_eq_true rfl) (by repeat' (first | exact trivial | exact ⟨_, rfl, Nat.le_refl _⟩ | exact Nat.le_of_ble_eq_true rfl | refine And.intro ?_ ?_)) (Nat.le_of_ble_eq_true rfl) rfl (fun F hE => ?_)
  repeat' (first | exact trivial | refine BS.d (fun h => ?_) (fun h => ?_) | refine BS.e (fun h => ?_) (fun h => ?_) | refine BS.ne (fun h => ?_) (fun h => ?_) | refine BS.n ?_ | refine BS.s (fun h => ?_) (fun h => ?_) | refine And.intro ?_ ?_ | (refine Need.mk ?_; first | with_reducible rfl | (show @Eq TC _ _; rfl) | omega | (simp only [adN_zero]; omega)) | exact OutS.whole rfl rfl | refine ListO.go gOk hE ?_)
  · refine Need.mk ?_
    unfold szSLs; rw [if_pos (by omega)]
  · refine CodeK.loop gOk hE (fun i : Nat × Int => ⟨[(0, vr 1000000 xs.length), (1, vi i.2), (5, vi i.1)], [(1000000, rSL .fro false e xs)]⟩) (fun i => i.1 ≤ xs.length ∧ 0 ≤ i.2 ∧ i.2 ≤ 1048576 ∧ szSLs xs m = szSL (xs.drop i.1) i.2) (fun i => xs.length - i.1) (0, m - xs.length) (by refine leT.of ?_ ?_ rfl <;> repeat' (first | exact trivial | refine And.intro rfl ?_ | refine And.intro (by simp) ?_)) ⟨Nat.zero_le _, by omega, by omega, by unfold szSLs; rw [if_neg (by omega)]; rfl⟩ ?_
    rintro ⟨i, b⟩ ⟨hi, hb, hb1, hs⟩
    dsimp only at hi hb hb1 hs
    repeat' (first | exact trivial | refine BS.d (fun h => ?_) (fun h => ?_) | refine BS.e (fun h => ?_) (fun h => ?_) | refine BS.ne (fun h => ?_) (fun h => ?_) | refine BS.n ?_ | refine BS.s (fun h => ?_) (fun h => ?_) | refine And.intro ?_ ?_ | (refine Need.mk ?_; first | with_reducible rfl | (show @Eq TC _ _; rfl) | omega | (simp only [adN_zero]; omega)) | exact OutS.whole rfl rfl | refine ListO.go gOk hE ?_)
    · have hc := drop_cons [] (xs := xs) (i := i) (by omega)
      refine OpK.call (szSList_run _ _ hb hb1 (hx i)) rfl rfl rfl rfl hE (by repeat' (first | exact PsA.lit _ | exact PsA.ref rfl rfl | constructor)) rfl rfl ?_
      repeat' (first | exact trivial | refine BS.d (fun h => ?_) (fun h => ?_) | refine BS.e (fun h => ?_) (fun h => ?_) | refine BS.ne (fun h => ?_) (fun h => ?_) | refine BS.n ?_ | refine BS.s (fun h => ?_) (fun h => ?_) | refine And.intro ?_ ?_ | (refine Need.mk ?_; first | with_reducible rfl | (show @Eq TC _ _; rfl) | omega | (simp only [adN_zero]; omega)) | exact OutS.whole rfl rfl | refine ListO.go gOk hE ?_)
      · rename_i h
        refine Need.mk ?_
        rw [hs, hc, szSL, if_pos h]
      · rename_i h
        refine ⟨(i + 1, szI (xs.getD i []) b), (by refine leT.of ?_ ?_ rfl <;> repeat' (first | exact trivial | refine And.intro rfl ?_ | refine And.intro (by simp) ?_)), ⟨?_, ?_, ?_, ?_⟩, ?_⟩
        · dsimp only; omega
        · dsimp only; omega
        · dsimp only; unfold szI at h ⊢; split at h <;> split <;> omega
        · dsimp only; rw [hs, hc, szSL, if_neg h]
        · dsimp only; omega
    · refine Need.mk ?_
      rw [hs, List.drop_eq_nil_of_le (by omega)]; rfl
theorem szLists_run (e : Nat) (g o : List (List Int)) (m : Int) (h0 : 0 ≤ m) (h1 : m ≤ 1048576) (hg : g.length ≤ 9223372036854775807) (hg' : ∀ i, (g.getD i []).length ≤ 9223372036854775807) (ho : o.length ≤ 9223372036854775807) (ho' : ∀ i, (o.getD i []).length ≤ 9223372036854775807) : RunT Tryz.prog 41 [.agg [.c (tSL e g), .c (tSL e o)], ti m] [] [oi (if szSLs g m < 0 then -1 else szSLs o (szSLs g m))] [] := by
  refine RunT.of_vc gOk Tryz.func41 rfl rfl (Nat.le_of_ble_eq_true rfl) (by repeat' (first | exact trivial | exact ⟨_, rfl, Nat.le_refl _⟩ | exact Nat.le_of_ble_eq_true rfl | refine And.intro ?_ ?_)) (Nat.le_of_ble_eq_true rfl) rfl (fun F hE => ?_)
  repeat' (first | exact trivial | refine BS.d (fun h => ?_) (fun h => ?_) | refine BS.e (fun h => ?_) (fun h => ?_) | refine BS.ne (fun h => ?_) (fun h => ?_) | refine BS.n ?_ | refine BS.s (fun h => ?_) (fun h => ?_) | refine And.intro ?_ ?_ | (refine Need.mk ?_; first | with_reducible rfl | (show @Eq TC _ _; rfl) | omega | (simp only [adN_zero]; omega)) | exact OutS.whole rfl rfl | refine ListO.go gOk hE ?_)
  refine OpK.call (szSListS_run e g m h0 h1 hg hg') rfl rfl rfl rfl hE (by repeat' (first | exact PsA.lit _ | exact PsA.ref rfl rfl | constructor)) rfl rfl ?_
  repeat' (first | exact trivial | refine BS.d (fun h => ?_) (fun h => ?_) | refine BS.e (fun h => ?_) (fun h => ?_) | refine BS.ne (fun h => ?_) (fun h => ?_) | refine BS.n ?_ | refine BS.s (fun h => ?_) (fun h => ?_) | refine And.intro ?_ ?_ | (refine Need.mk ?_; first | with_reducible rfl | (show @Eq TC _ _; rfl) | omega | (simp only [adN_zero]; omega)) | exact OutS.whole rfl rfl | refine ListO.go gOk hE ?_)
  have := szSLs_le g m h0
  refine OpK.call (szSListS_run e o (szSLs g m) (by omega) (by omega) ho ho') rfl rfl rfl rfl hE (by repeat' (first | exact PsA.lit _ | exact PsA.ref rfl rfl | constructor)) rfl rfl ?_
  repeat' (first | exact trivial | refine BS.d (fun h => ?_) (fun h => ?_) | refine BS.e (fun h => ?_) (fun h => ?_) | refine BS.ne (fun h => ?_) (fun h => ?_) | refine BS.n ?_ | refine BS.s (fun h => ?_) (fun h => ?_) | refine And.intro ?_ ?_ | (refine Need.mk ?_; first | with_reducible rfl | (show @Eq TC _ _; rfl) | omega | (simp only [adN_zero]; omega)) | exact OutS.whole rfl rfl | refine ListO.go gOk hE ?_)
  all_goals (refine Need.mk ?_; have := szSLs_le o (szSLs g m) (by omega); rw [if_neg ‹¬ szSLs g m < 0›])
  omega
end Go.Proofs.YtpmhkpmkmbkjbaaGreatDoor
end

section
namespace Go.Proofs.YtpmhkpmkmbkjbaaGreatDoor
open Go Go.Tr
set_option maxRecDepth 100000
set_option linter.unusedVariables false
set_option linter.unusedSimpArgs false
theorem ints_of {e n : Nat} {row : Nat → Nat → C} (hn : n ≤ 9223372036854775807) (h : ∀ i r t, i < n → ([Dt.i] : List Dt)[r]? = some t → DtOk t (row i r)) : ∃ xs : List Int, xs.length = n ∧ (∀ x ∈ xs, -9223372036854775808 ≤ x ∧ x ≤ 9223372036854775807) ∧ CSame (.sl .fro e 1 n row) ((tI xs).er .fro) :=
  list_of decI 0 1 (fun f hf => by
    obtain ⟨z, hz, h1, h2⟩ := (hf 0 .i rfl).int
    refine ⟨z, ⟨h1, h2⟩, fun r hr => ?_⟩
    obtain rfl : r = 0 := by omega
    rw [hz]; exact rfl) h
end Go.Proofs.YtpmhkpmkmbkjbaaGreatDoor
end

section
namespace Go.Proofs.YtpmhkpmkmbkjbaaGreatDoor
open Go Go.Tr
set_option maxRecDepth 100000
set_option linter.unusedVariables false
set_option linter.unusedSimpArgs false
theorem lists_of {e e' n : Nat} {row : Nat → Nat → C} (hn : n ≤ 9223372036854775807) (h : ∀ i r t, i < n → ([Dt.sl [.i]] : List Dt)[r]? = some t → DtOk t (row i r)) : ∃ xs : List (List Int), xs.length = n ∧ (∀ x ∈ xs, x.length ≤ 9223372036854775807 ∧ ∀ z ∈ x, -9223372036854775808 ≤ z ∧ z ≤ 9223372036854775807) ∧ CSame (.sl .fro e 1 n row) ((tSL e' xs).er .fro) :=
  list_of decL [] 1 (fun f hf => by
    obtain ⟨e2, n2, row2, hz, h1, h2⟩ := (hf 0 (.sl [.i]) rfl).slice
    obtain ⟨xs, k1, k2, k3⟩ := ints_of (e := e2) h1 h2
    refine ⟨xs, ⟨by omega, k2⟩, fun r hr => ?_⟩
    obtain rfl : r = 0 := by omega
    rw [hz]; exact k3) h
theorem getD_le {xs : List (List Int)} {m : Nat} (h : ∀ x ∈ xs, x.length ≤ m) (i : Nat) : (xs.getD i []).length ≤ m := by
  by_cases hi : i < xs.length
  · have : xs.getD i [] = xs[i] := by simp [List.getD, hi]
    rw [this]; exact h _ (List.getElem_mem hi)
  · simp [List.getD, hi]
end Go.Proofs.YtpmhkpmkmbkjbaaGreatDoor
end

section
namespace Go.Proofs.YtpmhkpmkmbkjbaaGreatDoor
open Go Go.Tr
set_option maxRecDepth 100000
set_option maxHeartbeats 4000000
set_option linter.unusedVariables false
set_option linter.unusedSimpArgs false
abbrev aHp (b c : List Int) : TAg := .agg [.c (tI b), .c (tI c)]
def szH (b c : List Int) (m : Int) : Int := if szI b m < 0 then -1 else szI c (szI b m)
theorem szH_le (b c : List Int) (m : Int) (h : 0 ≤ m) : szH b c m ≤ m ∧ -1 ≤ szH b c m ∧ (0 ≤ szH b c m → b.length ≤ m ∧ c.length ≤ m) := by
  unfold szH
  have h1 := szI_le b m h
  split
  · omega
  · have h2 := szI_le c (szI b m) (by omega)
    omega
theorem szHeap_run (b c : List Int) (m : Int) (h0 : 0 ≤ m) (h1 : m ≤ 1048576) (hb : b.length ≤ 9223372036854775807) (hc : c.length ≤ 9223372036854775807) : RunT Tryz.prog 40 [aHp b c, ti m] [] [oi (szH b c m)] [] := by
  have q1 := szI_le b m h0
  have c1 := szIntS_run b m h0 h1 hb
  refine RunT.of_vc gOk Tryz.func40 rfl rfl (Nat.le_of_ble_eq_true rfl) (by repeat' (first | exact trivial | exact ⟨_, rfl, Nat.le_refl _⟩ | exact Nat.le_of_ble_eq_true rfl | refine And.intro ?_ ?_)) (Nat.le_of_ble_eq_true rfl) rfl (fun F hE => ?_)
  repeat' (first | exact trivial | refine BS.d (fun h => ?_) (fun h => ?_) | refine BS.e (fun h => ?_) (fun h => ?_) | refine BS.ne (fun h => ?_) (fun h => ?_) | refine BS.n ?_ | refine BS.s (fun h => ?_) (fun h => ?_) | refine And.intro ?_ ?_ | (refine Need.mk ?_; first | with_reducible rfl | (show @Eq TC _ _; rfl) | omega | (simp only [adN_zero]; omega)) | exact OutS.whole rfl rfl | (refine OpK.call c1 rfl rfl rfl rfl hE ?_ rfl rfl ?_; focus ((repeat' (first | exact PsA.lit _ | exact PsA.ref rfl rfl | constructor)); all_goals (fail "ps"))) | refine ListO.go gOk hE ?_)
  all_goals first | (refine Need.mk ?_; unfold szH; rw [if_pos (by assumption)]) | skip
  all_goals have c2 := szIntS_run c (szI b m) (by omega) (by omega) hc
  all_goals (repeat' (first | exact trivial | refine BS.d (fun h => ?_) (fun h => ?_) | refine BS.e (fun h => ?_) (fun h => ?_) | refine BS.ne (fun h => ?_) (fun h => ?_) | refine BS.n ?_ | refine BS.s (fun h => ?_) (fun h => ?_) | refine And.intro ?_ ?_ | (refine Need.mk ?_; first | with_reducible rfl | (show @Eq TC _ _; rfl) | omega | (simp only [adN_zero]; omega)) | exact OutS.whole rfl rfl | (refine OpK.call c2 rfl rfl rfl rfl hE ?_ rfl rfl ?_; focus ((repeat' (first | exact PsA.lit _ | exact PsA.ref rfl rfl | constructor)); all_goals (fail "ps"))) | refine ListO.go gOk hE ?_))
  all_goals (refine Need.mk ?_; unfold szH; rw [if_neg (by assumption)])
  all_goals (have q2 := szI_le c (szI b m) (by omega); omega)
theorem toHeap_run (b c : List Int) (hb : b.length ≤ 1048576) (hc : c.length ≤ 1048576) : RunT Tryz.prog 46 [aHp b c] [] [.agg [tI b, tI c]] [] := by
  have c1 := toIntS_run b hb
  have c2 := toIntS_run c hc
  refine RunT.of_vc gOk Tryz.func46 rfl rfl (Nat.le_of_ble_eq_true rfl) (by repeat' (first | exact trivial | exact ⟨_, rfl, Nat.le_refl _⟩ | exact Nat.le_of_ble_eq_true rfl | refine And.intro ?_ ?_)) (Nat.le_of_ble_eq_true rfl) rfl (fun F hE => ?_)
  repeat' (first | exact trivial | refine BS.d (fun h => ?_) (fun h => ?_) | refine BS.e (fun h => ?_) (fun h => ?_) | refine BS.ne (fun h => ?_) (fun h => ?_) | refine BS.n ?_ | refine BS.s (fun h => ?_) (fun h => ?_) | refine And.intro ?_ ?_ | (refine Need.mk ?_; first | with_reducible rfl | (show @Eq TC _ _; rfl) | omega | (simp only [adN_zero]; omega)) | exact OutS.whole rfl rfl | (refine OpK.call c1 rfl rfl rfl rfl hE ?_ rfl rfl ?_; focus ((repeat' (first | exact PsA.lit _ | exact PsA.ref rfl rfl | constructor)); all_goals (fail "ps"))) | (refine OpK.call c2 rfl rfl rfl rfl hE ?_ rfl rfl ?_; focus ((repeat' (first | exact PsA.lit _ | exact PsA.ref rfl rfl | constructor)); all_goals (fail "ps"))) | refine ListO.go gOk hE ?_)
theorem eqHeap_run (b c : List Int) (hb : b.length ≤ 4000000) (hc : c.length ≤ 4000000) : RunT Tryz.prog 51 [aHp b c, aHp b c] [] [ob true] [] := by
  have c1 := eqIntS_run b hb
  have c2 := eqIntS_run c hc
  refine RunT.of_vc gOk Tryz.func51 rfl rfl (Nat.le_of_ble_eq_true rfl) (by repeat' (first | exact trivial | exact ⟨_, rfl, Nat.le_refl _⟩ | exact Nat.le_of_ble_eq_true rfl | refine And.intro ?_ ?_)) (Nat.le_of_ble_eq_true rfl) rfl (fun F hE => ?_)
  repeat' (first | exact trivial | refine BS.d (fun h => ?_) (fun h => ?_) | refine BS.e (fun h => ?_) (fun h => ?_) | refine BS.ne (fun h => ?_) (fun h => ?_) | refine BS.n ?_ | refine BS.s (fun h => ?_) (fun h => ?_) | refine And.intro ?_ ?_ | (refine Need.mk ?_; first | with_reducible rfl | (show @Eq TC _ _; rfl) | omega | (simp only [adN_zero]; omega)) | exact OutS.whole rfl rfl | (refine OpK.call c1 rfl rfl rfl rfl hE ?_ rfl rfl ?_; focus ((repeat' (first | exact PsA.lit _ | exact PsA.ref rfl rfl | constructor)); all_goals (fail "ps"))) | (refine OpK.call c2 rfl rfl rfl rfl hE ?_ rfl rfl ?_; focus ((repeat' (first | exact PsA.lit _ | exact PsA.ref rfl rfl | constructor)); all_goals (fail "ps"))) | refine ListO.go gOk hE ?_)
end Go.Proofs.YtpmhkpmkmbkjbaaGreatDoor
end

section
namespace Go.Proofs.YtpmhkpmkmbkjbaaGreatDoor
open Go Go.Tr
set_option maxRecDepth 100000
set_option maxHeartbeats 4000000
set_option linter.unusedVariables false
set_option linter.unusedSimpArgs false
def szG (g o : List (List Int)) (m : Int) : Int := if szSLs g m < 0 then -1 else szSLs o (szSLs g m)
def szM (b c : List Int) (g o : List (List Int)) (m : Int) : Int := if szH b c m < 0 then -1 else szG g o (szH b c m)
theorem szG_le (g o : List (List Int)) (m : Int) (h : 0 ≤ m) : szG g o m ≤ m ∧ -1 ≤ szG g o m ∧ (0 ≤ szG g o m → (g.length ≤ m ∧ ∀ x ∈ g, x.length ≤ m) ∧ (o.length ≤ m ∧ ∀ x ∈ o, x.length ≤ m)) := by
  unfold szG
  obtain ⟨a1, a2, a3⟩ := szSLs_le g m h
  split
  · exact ⟨by omega, by omega, fun h => by omega⟩
  · obtain ⟨b1, b2, b3⟩ := szSLs_le o (szSLs g m) (by omega)
    refine ⟨by omega, b2, fun h9 => ⟨a3 (by omega), ?_⟩⟩
    obtain ⟨c1, c2⟩ := b3 h9
    exact ⟨by omega, fun x hx => by have := c2 x hx; omega⟩
theorem szM_le (b c : List Int) (g o : List (List Int)) (m : Int) (h : 0 ≤ m) : szM b c g o m ≤ m ∧ -1 ≤ szM b c g o m ∧ (0 ≤ szM b c g o m → (b.length ≤ m ∧ c.length ≤ m) ∧ (g.length ≤ m ∧ ∀ x ∈ g, x.length ≤ m) ∧ (o.length ≤ m ∧ ∀ x ∈ o, x.length ≤ m)) := by
  unfold szM
  obtain ⟨a1, a2, a3⟩ := szH_le b c m h
  split
  · exact ⟨by omega, by omega, fun h => by omega⟩
  · obtain ⟨b1, b2, b3⟩ := szG_le g o (szH b c m) (by omega)
    refine ⟨by omega, b2, fun h9 => ⟨a3 (by omega), ?_⟩⟩
    obtain ⟨⟨c1, c2⟩, c3, c4⟩ := b3 h9
    exact ⟨⟨by omega, fun x hx => by have := c2 x hx; omega⟩, by omega, fun x hx => by have := c4 x hx; omega⟩
theorem szMem_run (e e' : Nat) (b c : List Int) (g o : List (List Int)) (m : Int) (h0 : 0 ≤ m) (h1 : m ≤ 1048576) (hb : b.length ≤ 9223372036854775807) (hc : c.length ≤ 9223372036854775807) (hg : g.length ≤ 9223372036854775807) (hg' : ∀ i, (g.getD i []).length ≤ 9223372036854775807) (ho : o.length ≤ 9223372036854775807) (ho' : ∀ i, (o.getD i []).length ≤ 9223372036854775807) :
    RunT Tryz.prog 11 [.agg [.c (tI b), .c (tI c), .c (tSL e g), .c (tSL e o)], ti m] [] [oi (szM b c g o m)] [] := by
  have q1 := szH_le b c m h0
  have c1 := szHeap_run b c m h0 h1 hb hc
  refine RunT.of_vc gOk Tryz.func11 rfl rfl (Nat.le_of_ble_eq_true rfl) (by repeat' (first | exact trivial | exact ⟨_, rfl, Nat.le_refl _⟩ | exact Nat.le_of_ble_eq_true rfl | refine And.intro ?_ ?_)) (Nat.le_of_ble_eq_true rfl) rfl (fun F hE => ?_)
  repeat' (first | exact trivial | refine BS.d (fun h => ?_) (fun h => ?_) | refine BS.e (fun h => ?_) (fun h => ?_) | refine BS.ne (fun h => ?_) (fun h => ?_) | refine BS.n ?_ | refine BS.s (fun h => ?_) (fun h => ?_) | refine And.intro ?_ ?_ | (refine Need.mk ?_; first | with_reducible rfl | (show @Eq TC _ _; rfl) | omega | (simp only [adN_zero]; omega)) | exact OutS.whole rfl rfl | (refine OpK.call c1 rfl rfl rfl rfl hE ?_ rfl rfl ?_; focus ((repeat' (first | exact PsA.lit _ | exact PsA.ref rfl rfl | constructor)); all_goals (fail "ps"))) | refine ListO.go gOk hE ?_)
  all_goals first | (refine Need.mk ?_; unfold szM; rw [if_pos (by assumption)]) | skip
  all_goals have c2 : RunT Tryz.prog 41 [.agg [.c (tSL e g), .c (tSL e o)], ti (szH b c m)] [] [oi (szG g o (szH b c m))] [] := szLists_run e g o (szH b c m) (by omega) (by omega) hg hg' ho ho'
  all_goals (repeat' (first | exact trivial | refine BS.d (fun h => ?_) (fun h => ?_) | refine BS.e (fun h => ?_) (fun h => ?_) | refine BS.ne (fun h => ?_) (fun h => ?_) | refine BS.n ?_ | refine BS.s (fun h => ?_) (fun h => ?_) | refine And.intro ?_ ?_ | (refine Need.mk ?_; first | with_reducible rfl | (show @Eq TC _ _; rfl) | omega | (simp only [adN_zero]; omega)) | exact OutS.whole rfl rfl | (refine OpK.call c2 rfl rfl rfl rfl hE ?_ rfl rfl ?_; focus ((repeat' (first | exact PsA.lit _ | exact PsA.ref rfl rfl | constructor)); all_goals (fail "ps"))) | refine ListO.go gOk hE ?_))
  all_goals have q2 := szG_le g o (szH b c m) (by omega)
  all_goals have q3 : szM b c g o m = szG g o (szH b c m) := (if_neg (by assumption))
  all_goals (refine Need.mk ?_; rw [q3]; try omega)
theorem toMem_run (e : Nat) (b c : List Int) (g o : List (List Int)) (hb : b.length ≤ 1048576) (hc : c.length ≤ 1048576) (hg : g.length ≤ 1048576) (hg' : ∀ i, (g.getD i []).length ≤ 1048576) (ho : o.length ≤ 1048576) (ho' : ∀ i, (o.getD i []).length ≤ 1048576) :
    RunT Tryz.prog 13 [.agg [.c (tI b), .c (tI c), .c (tSL e g), .c (tSL e o)]] [] [.agg [tI b, tI c, tSL 136 g, tSL 136 o]] [] := by
  have c1 := toHeap_run b c hb hc
  have c2 := toLists_run e g o hg hg' ho ho'
  refine RunT.of_vc gOk Tryz.func13 rfl rfl (Nat.le_of_ble_eq_true rfl) (by repeat' (first | exact trivial | exact ⟨_, rfl, Nat.le_refl _⟩ | exact Nat.le_of_ble_eq_true rfl | refine And.intro ?_ ?_)) (Nat.le_of_ble_eq_true rfl) rfl (fun F hE => ?_)
  repeat' (first | exact trivial | refine BS.d (fun h => ?_) (fun h => ?_) | refine BS.e (fun h => ?_) (fun h => ?_) | refine BS.ne (fun h => ?_) (fun h => ?_) | refine BS.n ?_ | refine BS.s (fun h => ?_) (fun h => ?_) | refine And.intro ?_ ?_ | (refine Need.mk ?_; first | with_reducible rfl | (show @Eq TC _ _; rfl) | omega | (simp only [adN_zero]; omega)) | exact OutS.whole rfl rfl | (refine OpK.call c1 rfl rfl rfl rfl hE ?_ rfl rfl ?_; focus ((repeat' (first | exact PsA.lit _ | exact PsA.ref rfl rfl | constructor)); all_goals (fail "ps"))) | (refine OpK.call c2 rfl rfl rfl rfl hE ?_ rfl rfl ?_; focus ((repeat' (first | exact PsA.lit _ | exact PsA.ref rfl rfl | constructor)); all_goals (fail "ps"))) | refine ListO.go gOk hE ?_)
theorem eqMem_run (e : Nat) (b c : List Int) (g o : List (List Int)) (hb : b.length ≤ 4000000) (hc : c.length ≤ 4000000) (hg : g.length ≤ 4000000) (hg' : ∀ i, (g.getD i []).length ≤ 4000000) (ho : o.length ≤ 4000000) (ho' : ∀ i, (o.getD i []).length ≤ 4000000) :
    RunT Tryz.prog 15 [.agg [.c (tI b), .c (tI c), .c (tSL e g), .c (tSL e o)], .agg [.c (tI b), .c (tI c), .c (tSL e g), .c (tSL e o)]] [] [ob true] [] := by
  have c1 := eqHeap_run b c hb hc
  have c2 := eqLists_run e g o hg hg' ho ho'
  refine RunT.of_vc gOk Tryz.func15 rfl rfl (Nat.le_of_ble_eq_true rfl) (by repeat' (first | exact trivial | exact ⟨_, rfl, Nat.le_refl _⟩ | exact Nat.le_of_ble_eq_true rfl | refine And.intro ?_ ?_)) (Nat.le_of_ble_eq_true rfl) rfl (fun F hE => ?_)
  repeat' (first | exact trivial | refine BS.d (fun h => ?_) (fun h => ?_) | refine BS.e (fun h => ?_) (fun h => ?_) | refine BS.ne (fun h => ?_) (fun h => ?_) | refine BS.n ?_ | refine BS.s (fun h => ?_) (fun h => ?_) | refine And.intro ?_ ?_ | (refine Need.mk ?_; first | with_reducible rfl | (show @Eq TC _ _; rfl) | omega | (simp only [adN_zero]; omega)) | exact OutS.whole rfl rfl | (refine OpK.call c1 rfl rfl rfl rfl hE ?_ rfl rfl ?_; focus ((repeat' (first | exact PsA.lit _ | exact PsA.ref rfl rfl | constructor)); all_goals (fail "ps"))) | (refine OpK.call c2 rfl rfl rfl rfl hE ?_ rfl rfl ?_; focus ((repeat' (first | exact PsA.lit _ | exact PsA.ref rfl rfl | constructor)); all_goals (fail "ps"))) | refine ListO.go gOk hE ?_)
abbrev aMm (e : Nat) (b c : List Int) (g o : List (List Int)) : TAg := .agg [.c (tI b), .c (tI c), .c (tSL e g), .c (tSL e o)]
/-- Lists and their elements are no longer than m. -/
structure MmOk (m : Nat) (b c : List Int) (g o : List (List Int)) : Prop where
  hb : b.length ≤ m
  hc : c.length ≤ m
  hg : g.length ≤ m
  ho : o.length ≤ m
  hg' : ∀ i, (g.getD i []).length ≤ m
  ho' : ∀ i, (o.getD i []).length ≤ m
theorem MmOk.le {m m' : Nat} {b c : List Int} {g o : List (List Int)} (h : MmOk m b c g o) (hm : m ≤ m') : MmOk m' b c g o :=
  ⟨Nat.le_trans h.hb hm, Nat.le_trans h.hc hm, Nat.le_trans h.hg hm, Nat.le_trans h.ho hm, fun i => Nat.le_trans (h.hg' i) hm, fun i => Nat.le_trans (h.ho' i) hm⟩
theorem MmOk.of_sz {m : Int} {b c : List Int} {g o : List (List Int)} (h0 : 0 ≤ m) (h1 : m ≤ 1048576) (h : ¬ szM b c g o m < 0) : MmOk 1048576 b c g o := by
  obtain ⟨k1, k2, k3⟩ := szM_le b c g o m h0
  obtain ⟨⟨a1, a2⟩, ⟨a3, a4⟩, a5, a6⟩ := k3 (by omega)
  exact ⟨by omega, by omega, by omega, by omega, getD_le fun x hx => (by have := a4 x hx; omega), getD_le fun x hx => (by have := a6 x hx; omega)⟩
end Go.Proofs.YtpmhkpmkmbkjbaaGreatDoor
end
