import Derived.Test.YtbfkdbbgbdihdaaVQ
import Derived.Test.YtbfkdbbgbdihdaaTy
namespace Go.Proofs.Ytbfkdbbgbdihdaa
open Go Go.Tr
set_option maxRecDepth 100000
set_option linter.unusedVariables false
set_option linter.unusedSimpArgs false
def encI (x : Int) (_ : Nat) : TC := .lit (.int .i64 x)
def decI : List Value → Option Int
  | [.int .i64 x] => some x
  | _ => none
abbrev Row := Int × Int
def encR (x : Row) : Nat → TC
  | 0 => .lit (.int .i64 x.1)
  | _ => .lit (.int .i64 x.2)
def decR : List Value → Option Row
  | [.int .i64 x, .int .i64 y] => some (x, y)
  | _ => none
def tR (e : Nat) (xs : List Row) : TC := .sl e 2 Row encR decR (0, 0) xs
def encLL (e : Nat) (x : List Row) (_ : Nat) : TC := tR e x
def decLL : List Value → Option (List Row) := fun _ => none
def tLL (e' e : Nat) (xs : List (List Row)) : TC := .sl e 1 (List Row) (encLL e') decLL [] xs
def gT : Gt := ⟨tyT, 4, fun e =>
  if e = 3 then some ⟨Int, encI, decI, 0⟩
  else if e = 61 then some ⟨Row, encR, decR, (0, 0)⟩
  else if e = 59 then some ⟨List Row, encLL 61, decLL, []⟩
  else none⟩
theorem gOk : GOk Try.prog gT := ⟨tyOk, Try.underlying4⟩
def ti (x : Int) : TAg := .one (.c (.lit (.int .i64 x)))
def tb (x : Bool) : TAg := .one (.c (.lit (.bool x)))
def oi (x : Int) : TAr := .one (.lit (.int .i64 x))
def ob (x : Bool) : TAr := .one (.lit (.bool x))
abbrev vi (x : Int) : V := .a (.lit (.int .i64 x))
abbrev vb (x : Bool) : V := .a (.lit (.bool x))
abbrev vr (κ n : Nat) : V := .a (.ref κ 0 n)
abbrev rR (o : RO) (f : Bool) (e : Nat) (xs : List Row) : TRoot := .ty o f e 2 Row encR decR (0, 0) xs
abbrev rLL (o : RO) (f : Bool) (e' e : Nat) (xs : List (List Row)) : TRoot := .ty o f e 1 (List Row) (encLL e') decLL [] xs
theorem drop_cons {α : Type} {xs : List α} {i : Nat} (d : α) (h : i < xs.length) : xs.drop i = xs.getD i d :: xs.drop (i + 1) := by
  rw [List.drop_eq_getElem_cons h]; simp [List.getD, h]
def szI {α : Type} (xs : List α) (m : Int) : Int := if m - xs.length < 0 then -1 else m - xs.length
def szSL {α : Type} : List (List α) → Int → Int
  | [], m => m
  | x :: l, m => if szI x m < 0 then -1 else szSL l (szI x m)
def szSLs {α : Type} (xs : List (List α)) (m : Int) : Int := if m - xs.length < 0 then -1 else szSL xs (m - xs.length)
theorem szLRowS_run (e : Nat) (xs : List Row) (m : Int) (h0 : 0 ≤ m) (h1 : m ≤ 1048576) (hn : xs.length ≤ 9223372036854775807) : RunT Try.prog 70 [.one (.c (tR e xs)), ti m] [] [oi (szI xs m)] [] := by
  refine RunT.of_vc gOk Try.func70 rfl rfl (Nat.le_of_ble_eq_true rfl) (by repeat' (first | exact trivial | exact ⟨_, rfl, Nat.le_refl _⟩ | exact Nat.le_of_ble_eq_true rfl | refine And.intro ?_ ?_)) (Nat.le_of_ble_eq_true rfl) rfl (fun F hE => ?_)
  repeat' (first | exact trivial | refine BS.d (fun h => ?_) (fun h => ?_) | refine BS.e (fun h => ?_) (fun h => ?_) | refine BS.ne (fun h => ?_) (fun h => ?_) | refine BS.n ?_ | refine BS.s (fun h => ?_) (fun h => ?_) | refine And.intro ?_ ?_ | (refine Need.mk ?_; first | with_reducible rfl | (show @Eq TC _ _; rfl) | omega | (simp only [adN_zero]; omega)) | exact OutS.whole rfl rfl | refine ListO.go gOk hE ?_)
  all_goals (refine Need.mk ?_; unfold szI; first | rw [if_pos (by omega)] | rw [if_neg (by omega)])
theorem szLList_run (e : Nat) (x : List Row) (m : Int) (h0 : 0 ≤ m) (h1 : m ≤ 1048576) (hn : x.length ≤ 9223372036854775807) : RunT Try.prog 39 [.agg [.c (tR e x)], ti m] [] [oi (szI x m)] [] := by
  refine RunT.of_vc gOk Try.func39 rfl rfl (Nat.le_of_ble_eq_true rfl) (by repeat' (first | exact trivial | exact ⟨_, rfl, Nat.le_refl _⟩ | exact Nat.le_of_ble_eq_true rfl | refine And.intro ?_ ?_)) (Nat.le_of_ble_eq_true rfl) rfl (fun F hE => ?_)
  repeat' (first | exact trivial | refine BS.d (fun h => ?_) (fun h => ?_) | refine BS.e (fun h => ?_) (fun h => ?_) | refine BS.ne (fun h => ?_) (fun h => ?_) | refine BS.n ?_ | refine BS.s (fun h => ?_) (fun h => ?_) | refine And.intro ?_ ?_ | (refine Need.mk ?_; first | with_reducible rfl | (show @Eq TC _ _; rfl) | omega | (simp only [adN_zero]; omega)) | exact OutS.whole rfl rfl | refine ListO.go gOk hE ?_)
  refine OpK.call (szLRowS_run e x m h0 h1 hn) rfl rfl rfl rfl hE (by repeat' (first | exact PsA.lit _ | exact PsA.ref rfl rfl | constructor)) rfl rfl ?_
  repeat' (first | exact trivial | refine BS.d (fun h => ?_) (fun h => ?_) | refine BS.e (fun h => ?_) (fun h => ?_) | refine BS.ne (fun h => ?_) (fun h => ?_) | refine BS.n ?_ | refine BS.s (fun h => ?_) (fun h => ?_) | refine And.intro ?_ ?_ | (refine Need.mk ?_; first | with_reducible rfl | (show @Eq TC _ _; rfl) | omega | (simp only [adN_zero]; omega)) | exact OutS.whole rfl rfl | refine ListO.go gOk hE ?_)
  refine Need.mk ?_
  unfold szI at *
  split <;> simp_all <;> omega
theorem szLListS_run (e' e : Nat) (xs : List (List Row)) (m : Int) (h0 : 0 ≤ m) (h1 : m ≤ 1048576) (hn : xs.length ≤ 9223372036854775807) (hx : ∀ i, (xs.getD i []).length ≤ 9223372036854775807) : RunT Try.prog 11 [.one (.c (tLL e' e xs)), ti m] [] [oi (szSLs xs m)] [] := by
  refine RunT.of_vc gOk Try.func11 rfl rfl (Nat.le_of_ble_eq_true rfl) (by repeat' (first | exact trivial | exact ⟨_, rfl, Nat.le_refl _⟩ | exact Nat.le_of_ble_eq_true rfl | refine And.intro ?_ ?_)) (Nat.le_of_ble_eq_true rfl) rfl (fun F hE => ?_)
  repeat' (first | exact trivial | refine BS.d (fun h => ?_) (fun h => ?_) | refine BS.e (fun h => ?_) (fun h => ?_) | refine BS.ne (fun h => ?_) (fun h => ?_) | refine BS.n ?_ | refine BS.s (fun h => ?_) (fun h => ?_) | refine And.intro ?_ ?_ | (refine Need.mk ?_; first | with_reducible rfl | (show @Eq TC _ _; rfl) | omega | (simp only [adN_zero]; omega)) | exact OutS.whole rfl rfl | refine ListO.go gOk hE ?_)
  · refine Need.mk ?_
    unfold szSLs; rw [if_pos (by omega)]
  · refine CodeK.loop gOk hE (fun i : Nat × Int => ⟨[(0, vr 1000000 xs.length), (1, vi i.2), (5, vi i.1)], [(1000000, rLL .fro false e' e xs)]⟩) (fun i => i.1 ≤ xs.length ∧ 0 ≤ i.2 ∧ i.2 ≤ 1048576 ∧ szSLs xs m = szSL (xs.drop i.1) i.2) (fun i => xs.length - i.1) (0, m - xs.length) (by refine leT.of ?_ ?_ rfl <;> repeat' (first | exact trivial | refine And.intro rfl ?_ | refine And.intro (by simp) ?_)) ⟨Nat.zero_le _, by omega, by omega, by unfold szSLs; rw [if_neg (by omega)]; rfl⟩ ?_
    rintro ⟨i, b⟩ ⟨hi, hb, hb1, hs⟩
    dsimp only at hi hb hb1 hs
    repeat' (first | exact trivial | refine BS.d (fun h => ?_) (fun h => ?_) | refine BS.e (fun h => ?_) (fun h => ?_) | refine BS.ne (fun h => ?_) (fun h => ?_) | refine BS.n ?_ | refine BS.s (fun h => ?_) (fun h => ?_) | refine And.intro ?_ ?_ | (refine Need.mk ?_; first | with_reducible rfl | (show @Eq TC _ _; rfl) | omega | (simp only [adN_zero]; omega)) | exact OutS.whole rfl rfl | refine ListO.go gOk hE ?_)
    · have hc := drop_cons [] (xs := xs) (i := i) (by omega)
      refine OpK.call (szLList_run e' _ _ hb hb1 (hx i)) rfl rfl rfl rfl hE (by repeat' (first | exact PsA.lit _ | exact PsA.ref rfl rfl | constructor)) rfl rfl ?_
      repeat' (first | exact trivial | refine BS.d (fun h => ?_) (fun h => ?_) | refine BS.e (fun h => ?_) (fun h => ?_) | refine BS.ne (fun h => ?_) (fun h => ?_) | refine BS.n ?_ | refine BS.s (fun h => ?_) (fun h => ?_) | refine And.intro ?_ ?_ | (refine Need.mk ?_; first | with_reducible rfl | (show @Eq TC _ _; rfl) | omega | (simp only [adN_zero]; omega)) | exact OutS.whole rfl rfl | refine ListO.go gOk hE ?_)
      · rename_i h
        refine Need.mk ?_
        rw [hs, hc, szSL, if_pos h]
      · rename_i h
        refine ⟨(i + 1, szI (xs.getD i []) b), (by refine leT.of ?_ ?_ rfl <;> repeat' (first | exact trivial | refine And.intro rfl ?_ | refine And.intro (by simp) ?_)), ⟨?_, ?_, ?_, ?_⟩, ?_⟩
        · dsimp only; omega
        · dsimp only; omega
        · dsimp only; unfold szI at h ⊢; split at h <;> split <;> omega
        · dsimp only; rw [hs, hc, szSL, if_neg h]
        · dsimp only; omega
    · refine Need.mk ?_
      rw [hs, List.drop_eq_nil_of_le (by omega)]; rfl
/-- The number of all rows. -/
def cnt : List (List Row) → Int
  | [] => 0
  | x :: l => x.length + cnt l
theorem cnt_nn : ∀ xs : List (List Row), 0 ≤ cnt xs
  | [] => Int.le_refl _
  | x :: l => by have := cnt_nn l; unfold cnt; omega
theorem cnt_drop {xs : List (List Row)} {i : Nat} (h : i < xs.length) : cnt (xs.drop i) = (xs.getD i []).length + cnt (xs.drop (i + 1)) := by
  rw [drop_cons [] h]; rfl
theorem LimboSizeI_run (e' e : Nat) (xs : List (List Row)) (hn : xs.length ≤ 1048576) (hcn : cnt xs ≤ 1048576) : RunT Try.prog 72 [.one (.c (tLL e' e xs))] [] [oi (cnt xs)] [] := by
  refine RunT.of_vc gOk Try.func72 rfl rfl (Nat.le_of_ble_eq_true rfl) (by repeat' (first | exact trivial | exact ⟨_, rfl, Nat.le_refl _⟩ | exact Nat.le_of_ble_eq_true rfl | refine And.intro ?_ ?_)) (Nat.le_of_ble_eq_true rfl) rfl (fun F hE => ?_)
  repeat' (first | exact trivial | refine BS.d (fun h => ?_) (fun h => ?_) | refine BS.e (fun h => ?_) (fun h => ?_) | refine BS.ne (fun h => ?_) (fun h => ?_) | refine BS.n ?_ | refine BS.s (fun h => ?_) (fun h => ?_) | refine And.intro ?_ ?_ | (refine Need.mk ?_; first | with_reducible rfl | (show @Eq TC _ _; rfl) | omega | (simp only [adN_zero]; omega)) | exact OutS.whole rfl rfl | refine ListO.go gOk hE ?_)
  refine CodeK.loop gOk hE (fun i : Nat × Int => ⟨[(0, vr 1000000 xs.length), (6, vr 1000000 xs.length), (7, vi xs.length), (3, vi i.2), (8, vi i.1)], [(1000000, rLL .fro false e' e xs)]⟩) (fun i => i.1 ≤ xs.length ∧ 0 ≤ i.2 ∧ cnt xs = i.2 + cnt (xs.drop i.1)) (fun i => xs.length - i.1) (0, 0) (by refine leT.of ?_ ?_ rfl <;> repeat' (first | exact trivial | refine And.intro rfl ?_ | refine And.intro (by simp) ?_)) ⟨Nat.zero_le _, by omega, by simp⟩ ?_
  rintro ⟨i, b⟩ ⟨hi, hb, hs⟩
  dsimp only at hi hb hs
  have nn := cnt_nn (xs.drop (i + 1))
  repeat' (first | exact trivial | refine BS.d (fun h => ?_) (fun h => ?_) | refine BS.e (fun h => ?_) (fun h => ?_) | refine BS.ne (fun h => ?_) (fun h => ?_) | refine BS.n ?_ | refine BS.s (fun h => ?_) (fun h => ?_) | refine And.intro ?_ ?_ | (refine Need.mk ?_; first | with_reducible rfl | (show @Eq TC _ _; rfl) | omega | (simp only [adN_zero]; omega)) | exact OutS.whole rfl rfl | refine ListO.go gOk hE ?_)
  · have hc := cnt_drop (xs := xs) (i := i) (by omega)
    refine Need.mk ?_
    simp only [adN_zero]; omega
  · have hc := cnt_drop (xs := xs) (i := i) (by omega)
    refine ⟨(i + 1, b + (xs.getD i []).length), (by refine leT.of ?_ ?_ rfl <;> repeat' (first | exact trivial | refine And.intro rfl ?_ | refine And.intro (by simp) ?_)), ⟨?_, ?_, ?_⟩, ?_⟩
    · dsimp only; omega
    · dsimp only; omega
    · dsimp only; omega
    · dsimp only; omega
  · refine Need.mk ?_
    rw [hs, List.drop_eq_nil_of_le (by omega)]; simp [cnt]
theorem rowFlat : ∀ (x : Row) (r : Nat), r < 2 → ∃ v, encR x r = .lit v ∧ encR x r = .lit v := fun x r _ => by cases r <;> exact ⟨_, rfl, rfl⟩
theorem take_flat {xs : List (List Row)} {i : Nat} (h : i < xs.length) : (xs.take (i + 1)).flatten = (xs.take i).flatten ++ xs.getD i [] := by
  rw [List.take_succ_eq_append_getElem h, List.flatten_append]
  congr 1
  simp [List.getD, h]
theorem flat_len (xs : List (List Row)) : (xs.flatten.length : Int) = cnt xs := by
  induction xs with
  | nil => rfl
  | cons x l ih => simp [cnt, ← ih]
theorem flat_le (xs : List (List Row)) (i : Nat) : ((xs.take i).flatten.length : Int) + cnt (xs.drop i) = cnt xs := by
  have h : cnt xs = cnt (xs.take i ++ xs.drop i) := by rw [List.take_append_drop]
  rw [h, ← flat_len, ← flat_len, List.flatten_append, List.length_append]; rfl
theorem l11All_run (e' e : Nat) (xs : List (List Row)) (hn : xs.length ≤ 1048576) (hcn : cnt xs ≤ 1048576) : RunT Try.prog 47 [.one (.c (tLL e' e xs))] [] [.one (tR 61 xs.flatten)] [] := by
  refine RunT.of_vc gOk Try.func47 rfl rfl (Nat.le_of_ble_eq_true rfl) (by repeat' (first | exact trivial | exact ⟨_, rfl, Nat.le_refl _⟩ | exact Nat.le_of_ble_eq_true rfl | refine And.intro ?_ ?_)) (Nat.le_of_ble_eq_true rfl) rfl (fun F hE => ?_)
  repeat' (first | exact trivial | refine BS.d (fun h => ?_) (fun h => ?_) | refine BS.e (fun h => ?_) (fun h => ?_) | refine BS.ne (fun h => ?_) (fun h => ?_) | refine BS.n ?_ | refine BS.s (fun h => ?_) (fun h => ?_) | refine And.intro ?_ ?_ | (refine Need.mk ?_; first | with_reducible rfl | (show @Eq TC _ _; rfl) | omega | (simp only [adN_zero]; omega)) | exact OutS.whole rfl rfl | refine ListO.go gOk hE ?_)
  refine CodeK.loop gOk hE (fun i : Nat => ⟨[(0, vr 1000000 xs.length), (3, vr 5 (xs.take i).flatten.length), (4, vi i)], [(5, rR .own true 61 (xs.take i).flatten), (1000000, rLL .fro false e' e xs)]⟩) (fun i => i ≤ xs.length) (fun i => xs.length - i) 0 (by refine leT.of ?_ ?_ rfl <;> repeat' (first | exact trivial | refine And.intro rfl ?_ | refine And.intro (by simp) ?_)) (Nat.zero_le _) ?_
  rintro i hi
  have hf := flat_le xs i
  have nn := cnt_nn (xs.drop (i + 1))
  repeat' (first | exact trivial | refine BS.d (fun h => ?_) (fun h => ?_) | refine BS.e (fun h => ?_) (fun h => ?_) | refine BS.ne (fun h => ?_) (fun h => ?_) | refine BS.n ?_ | refine BS.s (fun h => ?_) (fun h => ?_) | refine And.intro ?_ ?_ | (refine Need.mk ?_; first | with_reducible rfl | (show @Eq TC _ _; rfl) | omega | (simp only [adN_zero]; omega)) | exact OutS.whole rfl rfl | refine ListO.go gOk hE ?_)
  · have hc := cnt_drop (xs := xs) (i := i) (by omega)
    refine OpK.apps gOk (by rfl) (by rfl) (by rfl) (by rfl) (by rfl) (by rfl) (by rfl) (by rfl) (by rfl) (by rfl) (by first | rfl | simp) (by exact rowFlat) (by rfl) (by refine ⟨?_, ?_⟩ <;> (try unfold maxLen) <;> (try simp only [adN_zero]) <;> omega) ?_
    repeat' (first | exact trivial | refine BS.d (fun h => ?_) (fun h => ?_) | refine BS.e (fun h => ?_) (fun h => ?_) | refine BS.ne (fun h => ?_) (fun h => ?_) | refine BS.n ?_ | refine BS.s (fun h => ?_) (fun h => ?_) | refine And.intro ?_ ?_ | (refine Need.mk ?_; first | with_reducible rfl | (show @Eq TC _ _; rfl) | omega | (simp only [adN_zero]; omega)) | exact OutS.whole rfl rfl | refine ListO.go gOk hE ?_)
    all_goals (refine ⟨i + 1, (by refine leT.of ?_ ?_ rfl <;> repeat' (first | exact trivial | refine And.intro rfl ?_ | refine And.intro (by rw [take_flat (by omega)] <;> rfl) ?_)), ?_⟩; (refine And.intro ?_ ?_) <;> (first | omega | (dsimp only; omega) | trivial))
  · exact OutS.whole rfl (by rw [List.take_of_length_le (by omega)]; rfl)
end Go.Proofs.Ytbfkdbbgbdihdaa
