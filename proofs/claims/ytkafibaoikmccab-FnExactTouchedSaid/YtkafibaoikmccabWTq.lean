import Derived.Test.YtkafibaoikmccabWTp
import Derived.Test.YtkafibaoikmccabWKo
namespace Go.Proofs.Ytkafibaoikmccab
open Go Go.Tr
set_option maxRecDepth 100000
set_option maxHeartbeats 4000000
set_option linter.unusedVariables false
set_option linter.unusedSimpArgs false
def bkOf (k : Int) : Int := if 0 ≤ k ∧ k ≤ 99 then k % 2 else -1
theorem bkOf_cases (k : Int) : bkOf k = -1 ∨ bkOf k = 0 ∨ bkOf k = 1 := by unfold bkOf; split <;> omega
theorem BktOfS_run (k : Int) : RunT Try.prog 54 [ti k] [] [oi (bkOf k)] [] := by
  unfold bkOf
  refine RunT.of_vc gOk Try.func54 rfl rfl (Nat.le_of_ble_eq_true rfl) (by repeat' (first | exact trivial | exact ⟨_, rfl, Nat.le_refl _⟩ | exact Nat.le_of_ble_eq_true rfl | refine And.intro ?_ ?_)) (Nat.le_of_ble_eq_true rfl) rfl (fun F hE => ?_)
  repeat' (first | exact trivial | refine BS.d (fun h => ?_) (fun h => ?_) | refine BS.e (fun h => ?_) (fun h => ?_) | refine BS.ne (fun h => ?_) (fun h => ?_) | refine BS.n ?_ | refine BS.s (fun h => ?_) (fun h => ?_) | refine And.intro ?_ ?_ | (refine Need.mk ?_; first | with_reducible rfl | (show @Eq TC _ _; rfl) | omega | (simp only [adN_zero]; omega)) | exact OutS.whole rfl rfl | (refine OpK.call (l1In_run ?_ ?_ ?_) rfl rfl rfl rfl hE ?_ rfl rfl ?_; rotate_left 3; focus ((repeat' (first | exact PsA.lit _ | exact PsA.ref rfl rfl | constructor)); all_goals (fail "ps"))))
  all_goals (refine Need.mk ?_; first | omega | (rw [if_neg (by omega)]) | (rw [if_pos (by omega), Int.tmod_eq_emod_of_nonneg (by omega)]))
theorem BktOfI_run (k : Int) : RunT Try.prog 56 [ti k] [] [oi (bkOf k)] [] := by
  unfold bkOf
  refine RunT.of_vc gOk Try.func56 rfl rfl (Nat.le_of_ble_eq_true rfl) (by repeat' (first | exact trivial | exact ⟨_, rfl, Nat.le_refl _⟩ | exact Nat.le_of_ble_eq_true rfl | refine And.intro ?_ ?_)) (Nat.le_of_ble_eq_true rfl) rfl (fun F hE => ?_)
  repeat' (first | exact trivial | refine BS.d (fun h => ?_) (fun h => ?_) | refine BS.e (fun h => ?_) (fun h => ?_) | refine BS.ne (fun h => ?_) (fun h => ?_) | refine BS.n ?_ | refine BS.s (fun h => ?_) (fun h => ?_) | refine And.intro ?_ ?_ | (refine Need.mk ?_; first | with_reducible rfl | (show @Eq TC _ _; rfl) | omega | (simp only [adN_zero]; omega)) | exact OutS.whole rfl rfl | (refine OpK.call (keyOk_run ?_) rfl rfl rfl rfl hE ?_ rfl rfl ?_; rotate_left 1; focus ((repeat' (first | exact PsA.lit _ | exact PsA.ref rfl rfl | constructor)); all_goals (fail "ps"))))
  all_goals (refine Need.mk ?_; first | omega | (rw [if_neg (by omega)]) | (rw [if_pos (by omega), Int.tmod_eq_emod_of_nonneg (by omega)]))
def tl (a b : Bool) : List Int := (if a then [0] else []) ++ (if b then [1] else [])
theorem tl_len (a b : Bool) : (tl a b).length ≤ 2 := by cases a <;> cases b <;> decide
theorem lput0 (a b : Bool) : lput (tl a b) 0 = tl true b := by cases a <;> cases b <;> decide
theorem lput1 (a b : Bool) : lput (tl a b) 1 = tl a true := by cases a <;> cases b <;> decide
/-- Does one of the first writes lie in bucket v? -/
def tf (xs : List WriteT) (v : Int) : Nat → Bool
  | 0 => false
  | m + 1 => tf xs v m || decide (bkOf (xs.getD m zWrite).1 = v)
theorem TouchedS_run (e : Nat) (xs : List WriteT) (hn : xs.length ≤ 1048576) : RunT Try.prog 36 [.one (.c (tWrite e xs))] [] [.one (tI (tl (tf xs 0 xs.length) (tf xs 1 xs.length)))] [] := by
  refine RunT.of_vc gOk Try.func36 rfl rfl (Nat.le_of_ble_eq_true rfl) (by repeat' (first | exact trivial | exact ⟨_, rfl, Nat.le_refl _⟩ | exact Nat.le_of_ble_eq_true rfl | refine And.intro ?_ ?_)) (Nat.le_of_ble_eq_true rfl) rfl (fun F hE => ?_)
  repeat' (first | exact trivial | refine BS.d (fun h => ?_) (fun h => ?_) | refine BS.e (fun h => ?_) (fun h => ?_) | refine BS.ne (fun h => ?_) (fun h => ?_) | refine BS.n ?_ | refine BS.s (fun h => ?_) (fun h => ?_) | refine And.intro ?_ ?_ | (refine Need.mk ?_; first | with_reducible rfl | (show @Eq TC _ _; rfl) | omega | (simp only [adN_zero]; omega)) | exact OutS.whole rfl rfl)
  refine CodeK.loop gOk hE (fun i : Nat × Bool => ⟨[(0, vr 1000000 xs.length), (3, vr (bif i.2 then 2003328 else 5) (tl (tf xs 0 i.1) (tf xs 1 i.1)).length), (4, vi i.1)], [((bif i.2 then 2003328 else 5), rI .own true (tl (tf xs 0 i.1) (tf xs 1 i.1))), (1000000, rWrite .fro false e xs)]⟩) (fun i => i.1 ≤ xs.length) (fun i => xs.length - i.1) (0, false) (by refine leT.of ?_ ?_ rfl <;> repeat' (first | exact trivial | refine And.intro rfl ?_ | refine And.intro (by first | rfl | (simp [tf, tl] <;> rfl)) ?_)) (Nat.zero_le _) ?_
  rintro ⟨i, b⟩ hi
  dsimp only at hi
  have c1 := BktOfS_run (xs.getD i zWrite).1
  have hF0 : tf xs 0 (i + 1) = (tf xs 0 i || decide (bkOf (xs.getD i zWrite).1 = 0)) := rfl
  have hF1 : tf xs 1 (i + 1) = (tf xs 1 i || decide (bkOf (xs.getD i zWrite).1 = 1)) := rfl
  have hln := tl_len (tf xs 0 i) (tf xs 1 i)
  have c2 := l17Put_run (tl (tf xs 0 i) (tf xs 1 i)) 0 (by omega)
  have c3 := l17Put_run (tl (tf xs 0 i) (tf xs 1 i)) 1 (by omega)
  rw [lput0] at c2
  rw [lput1] at c3
  rcases bkOf_cases (xs.getD i zWrite).1 with h | h | h
  all_goals rw [h] at c1 hF0 hF1
  all_goals simp only [reduceIte, decide_true, decide_false, Bool.or_false, Bool.or_true, Int.reduceNeg, Int.reduceEq, show ((-1 : Int) = 0) = False by simp, show ((-1 : Int) = 1) = False by simp, show ((0 : Int) = 1) = False by simp, show ((1 : Int) = 0) = False by simp] at hF0 hF1
  · cases b
    · repeat' (first | exact trivial | refine BS.d (fun h => ?_) (fun h => ?_) | refine BS.e (fun h => ?_) (fun h => ?_) | refine BS.ne (fun h => ?_) (fun h => ?_) | refine BS.n ?_ | refine BS.s (fun h => ?_) (fun h => ?_) | refine And.intro ?_ ?_ | (refine Need.mk ?_; first | with_reducible rfl | (show @Eq TC _ _; rfl) | omega | (simp only [adN_zero]; omega)) | exact OutS.whole rfl rfl | (refine OpK.call c1 rfl rfl rfl rfl hE ?_ rfl rfl ?_; focus ((repeat' (first | exact PsA.lit _ | exact PsA.ref rfl rfl | constructor)); all_goals (fail "ps"))))
      (
          all_goals (try simp only [adN_zero] at *)
          all_goals first
            | (exfalso; omega)
            | (refine Need.mk ?_; omega)
            | (refine OutS.whole rfl ?_; rw [show i = xs.length by omega]; rfl)
            | (refine ⟨(i + 1, false), (by refine leT.of ?_ ?_ rfl <;> repeat' (first | exact trivial | refine And.intro rfl ?_ | refine And.intro (by first | rfl | (rw [hF0, hF1] <;> rfl) | (simp [hF0, hF1] <;> rfl)) ?_)), by first | omega | (dsimp only; omega), by first | omega | (dsimp only; omega)⟩))
    · repeat' (first | exact trivial | refine BS.d (fun h => ?_) (fun h => ?_) | refine BS.e (fun h => ?_) (fun h => ?_) | refine BS.ne (fun h => ?_) (fun h => ?_) | refine BS.n ?_ | refine BS.s (fun h => ?_) (fun h => ?_) | refine And.intro ?_ ?_ | (refine Need.mk ?_; first | with_reducible rfl | (show @Eq TC _ _; rfl) | omega | (simp only [adN_zero]; omega)) | exact OutS.whole rfl rfl | (refine OpK.call c1 rfl rfl rfl rfl hE ?_ rfl rfl ?_; focus ((repeat' (first | exact PsA.lit _ | exact PsA.ref rfl rfl | constructor)); all_goals (fail "ps"))))
      (
          all_goals (try simp only [adN_zero] at *)
          all_goals first
            | (exfalso; omega)
            | (refine Need.mk ?_; omega)
            | (refine OutS.whole rfl ?_; rw [show i = xs.length by omega]; rfl)
            | (refine ⟨(i + 1, true), (by refine leT.of ?_ ?_ rfl <;> repeat' (first | exact trivial | refine And.intro rfl ?_ | refine And.intro (by first | rfl | (rw [hF0, hF1] <;> rfl) | (simp [hF0, hF1] <;> rfl)) ?_)), by first | omega | (dsimp only; omega), by first | omega | (dsimp only; omega)⟩))
  · cases b
    · repeat' (first | exact trivial | refine BS.d (fun h => ?_) (fun h => ?_) | refine BS.e (fun h => ?_) (fun h => ?_) | refine BS.ne (fun h => ?_) (fun h => ?_) | refine BS.n ?_ | refine BS.s (fun h => ?_) (fun h => ?_) | refine And.intro ?_ ?_ | (refine Need.mk ?_; first | with_reducible rfl | (show @Eq TC _ _; rfl) | omega | (simp only [adN_zero]; omega)) | exact OutS.whole rfl rfl | (refine OpK.call c1 rfl rfl rfl rfl hE ?_ rfl rfl ?_; focus ((repeat' (first | exact PsA.lit _ | exact PsA.ref rfl rfl | constructor)); all_goals (fail "ps"))) | (refine OpK.callM 5 0 0 c2 rfl rfl rfl rfl hE rfl (QsVs.cons (.one (.m rfl rfl (.whole rfl rfl))) (.cons (.one (.c (.lit _) rfl)) .nil)) rfl rfl ?_))
      (
          all_goals (try simp only [adN_zero] at *)
          all_goals first
            | (exfalso; omega)
            | (refine Need.mk ?_; omega)
            | (refine OutS.whole rfl ?_; rw [show i = xs.length by omega]; rfl)
            | (refine ⟨(i + 1, true), (by refine leT.of ?_ ?_ rfl <;> repeat' (first | exact trivial | refine And.intro rfl ?_ | refine And.intro (by first | rfl | (rw [hF0, hF1] <;> rfl) | (simp [hF0, hF1] <;> rfl)) ?_)), by first | omega | (dsimp only; omega), by first | omega | (dsimp only; omega)⟩))
    · repeat' (first | exact trivial | refine BS.d (fun h => ?_) (fun h => ?_) | refine BS.e (fun h => ?_) (fun h => ?_) | refine BS.ne (fun h => ?_) (fun h => ?_) | refine BS.n ?_ | refine BS.s (fun h => ?_) (fun h => ?_) | refine And.intro ?_ ?_ | (refine Need.mk ?_; first | with_reducible rfl | (show @Eq TC _ _; rfl) | omega | (simp only [adN_zero]; omega)) | exact OutS.whole rfl rfl | (refine OpK.call c1 rfl rfl rfl rfl hE ?_ rfl rfl ?_; focus ((repeat' (first | exact PsA.lit _ | exact PsA.ref rfl rfl | constructor)); all_goals (fail "ps"))) | (refine OpK.callM 2003328 0 0 c2 rfl rfl rfl rfl hE rfl (QsVs.cons (.one (.m rfl rfl (.whole rfl rfl))) (.cons (.one (.c (.lit _) rfl)) .nil)) rfl rfl ?_))
      (
          all_goals (try simp only [adN_zero] at *)
          all_goals first
            | (exfalso; omega)
            | (refine Need.mk ?_; omega)
            | (refine OutS.whole rfl ?_; rw [show i = xs.length by omega]; rfl)
            | (refine ⟨(i + 1, true), (by refine leT.of ?_ ?_ rfl <;> repeat' (first | exact trivial | refine And.intro rfl ?_ | refine And.intro (by first | rfl | (rw [hF0, hF1] <;> rfl) | (simp [hF0, hF1] <;> rfl)) ?_)), by first | omega | (dsimp only; omega), by first | omega | (dsimp only; omega)⟩))
  · cases b
    · repeat' (first | exact trivial | refine BS.d (fun h => ?_) (fun h => ?_) | refine BS.e (fun h => ?_) (fun h => ?_) | refine BS.ne (fun h => ?_) (fun h => ?_) | refine BS.n ?_ | refine BS.s (fun h => ?_) (fun h => ?_) | refine And.intro ?_ ?_ | (refine Need.mk ?_; first | with_reducible rfl | (show @Eq TC _ _; rfl) | omega | (simp only [adN_zero]; omega)) | exact OutS.whole rfl rfl | (refine OpK.call c1 rfl rfl rfl rfl hE ?_ rfl rfl ?_; focus ((repeat' (first | exact PsA.lit _ | exact PsA.ref rfl rfl | constructor)); all_goals (fail "ps"))) | (refine OpK.callM 5 0 0 c3 rfl rfl rfl rfl hE rfl (QsVs.cons (.one (.m rfl rfl (.whole rfl rfl))) (.cons (.one (.c (.lit _) rfl)) .nil)) rfl rfl ?_))
      (
          all_goals (try simp only [adN_zero] at *)
          all_goals first
            | (exfalso; omega)
            | (refine Need.mk ?_; omega)
            | (refine OutS.whole rfl ?_; rw [show i = xs.length by omega]; rfl)
            | (refine ⟨(i + 1, true), (by refine leT.of ?_ ?_ rfl <;> repeat' (first | exact trivial | refine And.intro rfl ?_ | refine And.intro (by first | rfl | (rw [hF0, hF1] <;> rfl) | (simp [hF0, hF1] <;> rfl)) ?_)), by first | omega | (dsimp only; omega), by first | omega | (dsimp only; omega)⟩))
    · repeat' (first | exact trivial | refine BS.d (fun h => ?_) (fun h => ?_) | refine BS.e (fun h => ?_) (fun h => ?_) | refine BS.ne (fun h => ?_) (fun h => ?_) | refine BS.n ?_ | refine BS.s (fun h => ?_) (fun h => ?_) | refine And.intro ?_ ?_ | (refine Need.mk ?_; first | with_reducible rfl | (show @Eq TC _ _; rfl) | omega | (simp only [adN_zero]; omega)) | exact OutS.whole rfl rfl | (refine OpK.call c1 rfl rfl rfl rfl hE ?_ rfl rfl ?_; focus ((repeat' (first | exact PsA.lit _ | exact PsA.ref rfl rfl | constructor)); all_goals (fail "ps"))) | (refine OpK.callM 2003328 0 0 c3 rfl rfl rfl rfl hE rfl (QsVs.cons (.one (.m rfl rfl (.whole rfl rfl))) (.cons (.one (.c (.lit _) rfl)) .nil)) rfl rfl ?_))
      (
          all_goals (try simp only [adN_zero] at *)
          all_goals first
            | (exfalso; omega)
            | (refine Need.mk ?_; omega)
            | (refine OutS.whole rfl ?_; rw [show i = xs.length by omega]; rfl)
            | (refine ⟨(i + 1, true), (by refine leT.of ?_ ?_ rfl <;> repeat' (first | exact trivial | refine And.intro rfl ?_ | refine And.intro (by first | rfl | (rw [hF0, hF1] <;> rfl) | (simp [hF0, hF1] <;> rfl)) ?_)), by first | omega | (dsimp only; omega), by first | omega | (dsimp only; omega)⟩))
/-- The array is gone through. -/
def S2 (a b : Bool) (k : Nat) : TS := match (match k with | 0 => [] | 1 => tl a false | _ => tl a b) with
  | [] => ⟨[(7, .a (.nil 3 1)), (24, .agg [.lit (.bool a), .lit (.bool b)]), (25, vi k)], []⟩
  | l => ⟨[(7, vr 33 l.length), (24, .agg [.lit (.bool a), .lit (.bool b)]), (25, vi k)], [(33, rI .own true l)]⟩
theorem TouchedI_run (e : Nat) (xs : List WriteT) (hn : xs.length ≤ 1048576) : RunT Try.prog 37 [.one (.c (tWrite e xs))] [] [.one (tI (tl (tf xs 0 xs.length) (tf xs 1 xs.length)))] [] := by
  refine RunT.of_vc gOk Try.func37 rfl rfl (Nat.le_of_ble_eq_true rfl) (by repeat' (first | exact trivial | exact ⟨_, rfl, Nat.le_refl _⟩ | exact Nat.le_of_ble_eq_true rfl | refine And.intro ?_ ?_)) (Nat.le_of_ble_eq_true rfl) rfl (fun F hE => ?_)
  repeat' (first | exact trivial | refine BS.d (fun h => ?_) (fun h => ?_) | refine BS.e (fun h => ?_) (fun h => ?_) | refine BS.ne (fun h => ?_) (fun h => ?_) | refine BS.n ?_ | refine BS.s (fun h => ?_) (fun h => ?_) | refine And.intro ?_ ?_ | (refine Need.mk ?_; first | with_reducible rfl | (show @Eq TC _ _; rfl) | omega | (simp only [adN_zero]; omega)) | exact OutS.whole rfl rfl)
  refine CodeK.loop gOk hE (fun i : Nat => ⟨[(3, .ptr 3 0 0), (10, vr 1000000 xs.length), (11, vi xs.length), (12, vi i)], [(3, .box 82 [.cl (.lit (.bool (tf xs 0 i))), .cl (.lit (.bool (tf xs 1 i)))]), (1000000, rWrite .fro false e xs)]⟩) (fun i => i ≤ xs.length) (fun i => xs.length - i) 0 (by refine leT.of ?_ ?_ rfl <;> repeat' (first | exact trivial | refine And.intro rfl ?_ | refine And.intro (by first | rfl | (simp [tf] <;> rfl)) ?_)) (Nat.zero_le _) ?_
  rintro i hi
  have c1 := BktOfI_run (xs.getD i zWrite).1
  have hF0 : tf xs 0 (i + 1) = (tf xs 0 i || decide (bkOf (xs.getD i zWrite).1 = 0)) := rfl
  have hF1 : tf xs 1 (i + 1) = (tf xs 1 i || decide (bkOf (xs.getD i zWrite).1 = 1)) := rfl
  rcases Nat.lt_or_ge i xs.length with hlt | hge
  · rcases bkOf_cases (xs.getD i zWrite).1 with h | h | h
    all_goals rw [h] at c1 hF0 hF1
    all_goals simp only [reduceIte, decide_true, decide_false, Bool.or_false, Bool.or_true, Int.reduceNeg, Int.reduceEq, show ((-1 : Int) = 0) = False by simp, show ((-1 : Int) = 1) = False by simp, show ((0 : Int) = 1) = False by simp, show ((1 : Int) = 0) = False by simp] at hF0 hF1
    all_goals (repeat' (first | exact trivial | refine BS.d (fun h => ?_) (fun h => ?_) | refine BS.e (fun h => ?_) (fun h => ?_) | refine BS.ne (fun h => ?_) (fun h => ?_) | refine BS.n ?_ | refine BS.s (fun h => ?_) (fun h => ?_) | refine And.intro ?_ ?_ | (refine Need.mk ?_; first | with_reducible rfl | (show @Eq TC _ _; rfl) | omega | (simp only [adN_zero]; omega)) | exact OutS.whole rfl rfl | (refine OpK.call c1 rfl rfl rfl rfl hE ?_ rfl rfl ?_; focus ((repeat' (first | exact PsA.lit _ | exact PsA.ref rfl rfl | constructor)); all_goals (fail "ps")))))
    all_goals (try simp only [adN_zero] at *)
    all_goals first
      | (exfalso; omega)
      | (refine Need.mk ?_; omega)
      | (refine ⟨i + 1, (by refine leT.of ?_ ?_ rfl <;> repeat' (first | exact trivial | refine And.intro rfl ?_ | refine And.intro (by first | rfl | (rw [hF0, hF1] <;> rfl) | (simp [hF0, hF1] <;> rfl)) ?_)), by omega, by first | omega | (dsimp only; omega)⟩)
      | trace_state
  · have hie : i = xs.length := by omega
    subst hie
    generalize hfa : tf xs 0 xs.length = fa
    generalize hfb : tf xs 1 xs.length = fb
    repeat' (first | exact trivial | refine BS.d (fun h => ?_) (fun h => ?_) | refine BS.e (fun h => ?_) (fun h => ?_) | refine BS.ne (fun h => ?_) (fun h => ?_) | refine BS.n ?_ | refine BS.s (fun h => ?_) (fun h => ?_) | refine And.intro ?_ ?_ | (refine Need.mk ?_; first | with_reducible rfl | (show @Eq TC _ _; rfl) | omega | (simp only [adN_zero]; omega)) | exact OutS.whole rfl rfl)
    all_goals first | (exfalso; omega) | skip
    cases fa
    all_goals cases fb
    · refine CodeK.loop gOk hE (fun k : Nat => S2 false false k) (fun k => k ≤ 2) (fun k => 2 - k) 0 (by refine leT.of ?_ ?_ rfl <;> repeat' (first | exact trivial | refine And.intro rfl ?_ | refine And.intro (by first | rfl | simp) ?_)) (Nat.zero_le _) ?_
      rintro k hk
      rcases (by omega : k = 0 ∨ k = 1 ∨ k = 2) with rfl | rfl | rfl
      · repeat' (first | exact trivial | refine BS.d (fun h => ?_) (fun h => ?_) | refine BS.e (fun h => ?_) (fun h => ?_) | refine BS.ne (fun h => ?_) (fun h => ?_) | refine BS.n ?_ | refine BS.s (fun h => ?_) (fun h => ?_) | refine And.intro ?_ ?_ | (refine Need.mk ?_; first | with_reducible rfl | (show @Eq TC _ _; rfl) | omega | (simp only [adN_zero]; omega)) | exact OutS.whole rfl rfl | (refine OpK.indexB gOk rfl rfl rfl rfl Try.underlying4 rfl rfl (by decide) rfl ?_))
        all_goals first | (refine Need.mk ?_; decide) | (refine Need.mk ?_; simp [maxLen]; done) | (refine ⟨1, (by refine leT.of ?_ ?_ rfl <;> repeat' (first | exact trivial | refine And.intro rfl ?_ | refine And.intro (by rfl) ?_)), by omega, by decide⟩)
      · repeat' (first | exact trivial | refine BS.d (fun h => ?_) (fun h => ?_) | refine BS.e (fun h => ?_) (fun h => ?_) | refine BS.ne (fun h => ?_) (fun h => ?_) | refine BS.n ?_ | refine BS.s (fun h => ?_) (fun h => ?_) | refine And.intro ?_ ?_ | (refine Need.mk ?_; first | with_reducible rfl | (show @Eq TC _ _; rfl) | omega | (simp only [adN_zero]; omega)) | exact OutS.whole rfl rfl | (refine OpK.indexB gOk rfl rfl rfl rfl Try.underlying4 rfl rfl (by decide) rfl ?_))
        all_goals first | (refine Need.mk ?_; decide) | (refine Need.mk ?_; simp [maxLen]; done) | (refine ⟨2, (by refine leT.of ?_ ?_ rfl <;> repeat' (first | exact trivial | refine And.intro rfl ?_ | refine And.intro (by rfl) ?_)), by omega, by decide⟩)
      · repeat' (first | exact trivial | refine BS.d (fun h => ?_) (fun h => ?_) | refine BS.e (fun h => ?_) (fun h => ?_) | refine BS.ne (fun h => ?_) (fun h => ?_) | refine BS.n ?_ | refine BS.s (fun h => ?_) (fun h => ?_) | refine And.intro ?_ ?_ | (refine Need.mk ?_; first | with_reducible rfl | (show @Eq TC _ _; rfl) | omega | (simp only [adN_zero]; omega)) | exact OutS.whole rfl rfl | (refine OpK.indexB gOk rfl rfl rfl rfl Try.underlying4 rfl rfl (by decide) rfl ?_))
        all_goals first | (refine Need.mk ?_; exact ⟨rfl, rfl, rfl⟩) | exact OutS.whole rfl rfl
    · refine CodeK.loop gOk hE (fun k : Nat => S2 false true k) (fun k => k ≤ 2) (fun k => 2 - k) 0 (by refine leT.of ?_ ?_ rfl <;> repeat' (first | exact trivial | refine And.intro rfl ?_ | refine And.intro (by first | rfl | simp) ?_)) (Nat.zero_le _) ?_
      rintro k hk
      rcases (by omega : k = 0 ∨ k = 1 ∨ k = 2) with rfl | rfl | rfl
      · repeat' (first | exact trivial | refine BS.d (fun h => ?_) (fun h => ?_) | refine BS.e (fun h => ?_) (fun h => ?_) | refine BS.ne (fun h => ?_) (fun h => ?_) | refine BS.n ?_ | refine BS.s (fun h => ?_) (fun h => ?_) | refine And.intro ?_ ?_ | (refine Need.mk ?_; first | with_reducible rfl | (show @Eq TC _ _; rfl) | omega | (simp only [adN_zero]; omega)) | exact OutS.whole rfl rfl | (refine OpK.indexB gOk rfl rfl rfl rfl Try.underlying4 rfl rfl (by decide) rfl ?_))
        all_goals first | (refine Need.mk ?_; decide) | (refine Need.mk ?_; simp [maxLen]; done) | (refine ⟨1, (by refine leT.of ?_ ?_ rfl <;> repeat' (first | exact trivial | refine And.intro rfl ?_ | refine And.intro (by rfl) ?_)), by omega, by decide⟩)
      · repeat' (first | exact trivial | refine BS.d (fun h => ?_) (fun h => ?_) | refine BS.e (fun h => ?_) (fun h => ?_) | refine BS.ne (fun h => ?_) (fun h => ?_) | refine BS.n ?_ | refine BS.s (fun h => ?_) (fun h => ?_) | refine And.intro ?_ ?_ | (refine Need.mk ?_; first | with_reducible rfl | (show @Eq TC _ _; rfl) | omega | (simp only [adN_zero]; omega)) | exact OutS.whole rfl rfl | (refine OpK.indexB gOk rfl rfl rfl rfl Try.underlying4 rfl rfl (by decide) rfl ?_))
        all_goals first | (refine Need.mk ?_; decide) | (refine Need.mk ?_; simp [maxLen]; done) | (refine ⟨2, (by refine leT.of ?_ ?_ rfl <;> repeat' (first | exact trivial | refine And.intro rfl ?_ | refine And.intro (by rfl) ?_)), by omega, by decide⟩)
      · repeat' (first | exact trivial | refine BS.d (fun h => ?_) (fun h => ?_) | refine BS.e (fun h => ?_) (fun h => ?_) | refine BS.ne (fun h => ?_) (fun h => ?_) | refine BS.n ?_ | refine BS.s (fun h => ?_) (fun h => ?_) | refine And.intro ?_ ?_ | (refine Need.mk ?_; first | with_reducible rfl | (show @Eq TC _ _; rfl) | omega | (simp only [adN_zero]; omega)) | exact OutS.whole rfl rfl | (refine OpK.indexB gOk rfl rfl rfl rfl Try.underlying4 rfl rfl (by decide) rfl ?_))
        all_goals first | (refine Need.mk ?_; exact ⟨rfl, rfl, rfl⟩) | exact OutS.whole rfl rfl
    · refine CodeK.loop gOk hE (fun k : Nat => S2 true false k) (fun k => k ≤ 2) (fun k => 2 - k) 0 (by refine leT.of ?_ ?_ rfl <;> repeat' (first | exact trivial | refine And.intro rfl ?_ | refine And.intro (by first | rfl | simp) ?_)) (Nat.zero_le _) ?_
      rintro k hk
      rcases (by omega : k = 0 ∨ k = 1 ∨ k = 2) with rfl | rfl | rfl
      · repeat' (first | exact trivial | refine BS.d (fun h => ?_) (fun h => ?_) | refine BS.e (fun h => ?_) (fun h => ?_) | refine BS.ne (fun h => ?_) (fun h => ?_) | refine BS.n ?_ | refine BS.s (fun h => ?_) (fun h => ?_) | refine And.intro ?_ ?_ | (refine Need.mk ?_; first | with_reducible rfl | (show @Eq TC _ _; rfl) | omega | (simp only [adN_zero]; omega)) | exact OutS.whole rfl rfl | (refine OpK.indexB gOk rfl rfl rfl rfl Try.underlying4 rfl rfl (by decide) rfl ?_))
        all_goals first | (refine Need.mk ?_; decide) | (refine Need.mk ?_; simp [maxLen]; done) | (refine ⟨1, (by refine leT.of ?_ ?_ rfl <;> repeat' (first | exact trivial | refine And.intro rfl ?_ | refine And.intro (by rfl) ?_)), by omega, by decide⟩)
      · repeat' (first | exact trivial | refine BS.d (fun h => ?_) (fun h => ?_) | refine BS.e (fun h => ?_) (fun h => ?_) | refine BS.ne (fun h => ?_) (fun h => ?_) | refine BS.n ?_ | refine BS.s (fun h => ?_) (fun h => ?_) | refine And.intro ?_ ?_ | (refine Need.mk ?_; first | with_reducible rfl | (show @Eq TC _ _; rfl) | omega | (simp only [adN_zero]; omega)) | exact OutS.whole rfl rfl | (refine OpK.indexB gOk rfl rfl rfl rfl Try.underlying4 rfl rfl (by decide) rfl ?_))
        all_goals first | (refine Need.mk ?_; decide) | (refine Need.mk ?_; simp [maxLen]; done) | (refine ⟨2, (by refine leT.of ?_ ?_ rfl <;> repeat' (first | exact trivial | refine And.intro rfl ?_ | refine And.intro (by rfl) ?_)), by omega, by decide⟩)
      · repeat' (first | exact trivial | refine BS.d (fun h => ?_) (fun h => ?_) | refine BS.e (fun h => ?_) (fun h => ?_) | refine BS.ne (fun h => ?_) (fun h => ?_) | refine BS.n ?_ | refine BS.s (fun h => ?_) (fun h => ?_) | refine And.intro ?_ ?_ | (refine Need.mk ?_; first | with_reducible rfl | (show @Eq TC _ _; rfl) | omega | (simp only [adN_zero]; omega)) | exact OutS.whole rfl rfl | (refine OpK.indexB gOk rfl rfl rfl rfl Try.underlying4 rfl rfl (by decide) rfl ?_))
        all_goals first | (refine Need.mk ?_; exact ⟨rfl, rfl, rfl⟩) | exact OutS.whole rfl rfl
    · refine CodeK.loop gOk hE (fun k : Nat => S2 true true k) (fun k => k ≤ 2) (fun k => 2 - k) 0 (by refine leT.of ?_ ?_ rfl <;> repeat' (first | exact trivial | refine And.intro rfl ?_ | refine And.intro (by first | rfl | simp) ?_)) (Nat.zero_le _) ?_
      rintro k hk
      rcases (by omega : k = 0 ∨ k = 1 ∨ k = 2) with rfl | rfl | rfl
      · repeat' (first | exact trivial | refine BS.d (fun h => ?_) (fun h => ?_) | refine BS.e (fun h => ?_) (fun h => ?_) | refine BS.ne (fun h => ?_) (fun h => ?_) | refine BS.n ?_ | refine BS.s (fun h => ?_) (fun h => ?_) | refine And.intro ?_ ?_ | (refine Need.mk ?_; first | with_reducible rfl | (show @Eq TC _ _; rfl) | omega | (simp only [adN_zero]; omega)) | exact OutS.whole rfl rfl | (refine OpK.indexB gOk rfl rfl rfl rfl Try.underlying4 rfl rfl (by decide) rfl ?_))
        all_goals first | (refine Need.mk ?_; decide) | (refine Need.mk ?_; simp [maxLen]; done) | (refine ⟨1, (by refine leT.of ?_ ?_ rfl <;> repeat' (first | exact trivial | refine And.intro rfl ?_ | refine And.intro (by rfl) ?_)), by omega, by decide⟩)
      · repeat' (first | exact trivial | refine BS.d (fun h => ?_) (fun h => ?_) | refine BS.e (fun h => ?_) (fun h => ?_) | refine BS.ne (fun h => ?_) (fun h => ?_) | refine BS.n ?_ | refine BS.s (fun h => ?_) (fun h => ?_) | refine And.intro ?_ ?_ | (refine Need.mk ?_; first | with_reducible rfl | (show @Eq TC _ _; rfl) | omega | (simp only [adN_zero]; omega)) | exact OutS.whole rfl rfl | (refine OpK.indexB gOk rfl rfl rfl rfl Try.underlying4 rfl rfl (by decide) rfl ?_))
        all_goals first | (refine Need.mk ?_; decide) | (refine Need.mk ?_; simp [maxLen]; done) | (refine ⟨2, (by refine leT.of ?_ ?_ rfl <;> repeat' (first | exact trivial | refine And.intro rfl ?_ | refine And.intro (by rfl) ?_)), by omega, by decide⟩)
      · repeat' (first | exact trivial | refine BS.d (fun h => ?_) (fun h => ?_) | refine BS.e (fun h => ?_) (fun h => ?_) | refine BS.ne (fun h => ?_) (fun h => ?_) | refine BS.n ?_ | refine BS.s (fun h => ?_) (fun h => ?_) | refine And.intro ?_ ?_ | (refine Need.mk ?_; first | with_reducible rfl | (show @Eq TC _ _; rfl) | omega | (simp only [adN_zero]; omega)) | exact OutS.whole rfl rfl | (refine OpK.indexB gOk rfl rfl rfl rfl Try.underlying4 rfl rfl (by decide) rfl ?_))
        all_goals first | (refine Need.mk ?_; exact ⟨rfl, rfl, rfl⟩) | exact OutS.whole rfl rfl
end Go.Proofs.Ytkafibaoikmccab
