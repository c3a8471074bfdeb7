import Derived.Test.YtbfkdbbgbdihdaaLOB
import Derived.Test.YtbfkdbbgbdihdaaVZ
namespace Go.Proofs.Ytbfkdbbgbdihdaa
open Go Go.Tr
set_option maxRecDepth 100000
set_option maxHeartbeats 4000000
set_option linter.unusedVariables false
set_option linter.unusedSimpArgs false
/-- The first of n places, from place i on, that has the property. -/
def firstP (p : Nat → Bool) : Nat → Nat → Option Nat
  | _, 0 => none
  | i, m + 1 => if p i then some i else firstP p (i + 1) m
theorem firstP_yes {p : Nat → Bool} {i m : Nat} (hm : 0 < m) (h : p i = true) : firstP p i m = some i := by
  cases m with
  | zero => omega
  | succ m => unfold firstP; rw [if_pos h]
theorem firstP_no {p : Nat → Bool} {i m : Nat} (hm : 0 < m) (h : p i = false) : firstP p i m = firstP p (i + 1) (m - 1) := by
  cases m with
  | zero => omega
  | succ m => rw [firstP, if_neg (by simp [h])]; rfl
theorem firstP_lt {p : Nat → Bool} : ∀ {m i j : Nat}, firstP p i m = some j → i ≤ j ∧ j < i + m ∧ p j = true
  | 0, i, j, h => by cases h
  | m + 1, i, j, h => by
    unfold firstP at h
    split at h
    · injection h with h; subst h; exact ⟨Nat.le_refl _, by omega, by assumption⟩
    · have := firstP_lt h; exact ⟨by omega, by omega, this.2.2⟩
theorem firstP_none {p : Nat → Bool} : ∀ {m i : Nat}, firstP p i m = none → ∀ j, i ≤ j → j < i + m → p j = false
  | 0, i, h, j, h1, h2 => by omega
  | m + 1, i, h, j, h1, h2 => by
    unfold firstP at h
    split at h
    · cases h
    · rename_i hp
      by_cases e : j = i
      · subst e; simpa using hp
      · exact firstP_none h j (by omega) (by omega)
def plR : Option Nat → Int
  | some j => (j : Int)
  | none => -1
/-- The row's handle is one of this slot. -/
def rowAt (s : Int) (r : Row) : Bool := hOk r.1 && decide (hSlot r.1 = s)
def inLb (xs : List (List Row)) (s : Int) : Bool := (firstP (fun j => rowAt s (xs.flatten.getD j (0, 0))) 0 xs.flatten.length).isSome
theorem InLimbo1_run (x : Row) (s : Int) (g1 j1 : Nat) (hm : x.1 ≤ 9223372036854775807) (hs : 0 ≤ s) : RunH Try.prog [(g1, j1, .int .i64 s)] 53 [.agg [.c (.lit (.int .i64 x.1)), .c (.lit (.int .i64 x.2))], .one (.c (.lit (.pointer (some ⟨g1, j1, none⟩))))] [] [ob (rowAt s x)] [] := by
  have c1 := iHandleSlot_run x.1 hm
  have hb : hSlot x.1 = if hOk x.1 then x.1 % 32 else -1 := rfl
  have hq : rowAt s x = decide (hSlot x.1 = s) := by
    unfold rowAt
    cases hk : hOk x.1 <;> rw [hk] at hb <;> simp at hb
    · rw [hb]; simp; omega
    · simp
  rw [hq]
  refine RunH.of_vc gOk Try.func53 rfl rfl (Nat.le_of_ble_eq_true rfl) (by repeat' (first | exact trivial | exact ⟨_, rfl, Nat.le_refl _⟩ | exact Nat.le_of_ble_eq_true rfl | refine And.intro ?_ ?_)) (Nat.le_of_ble_eq_true rfl) rfl (fun F hE hA => ?_)
  repeat' (first | exact trivial | refine BS.d (fun h => ?_) (fun h => ?_) | refine BS.e (fun h => ?_) (fun h => ?_) | refine BS.ne (fun h => ?_) (fun h => ?_) | refine BS.n ?_ | refine BS.s (fun h => ?_) (fun h => ?_) | refine And.intro ?_ ?_ | (refine Need.mk ?_; first | with_reducible rfl | (show @Eq TC _ _; rfl) | omega | (simp only [adN_zero]; omega)) | exact OutS.whole rfl rfl | (refine CodeK.draw gOk hE rfl (fun _ _ h => h) (.take 0 (.alt 1 (.alt 2 (.alt 3 (.take 4 (.take 5 .done)) .stop) (.alt 3 (.alt 2 (.take 4 (.take 5 .done)) .stop) .stop)) (.alt 3 (.alt 1 (.alt 2 (.take 4 (.take 5 .done)) .stop) .stop) .stop))) ?_ ?_; focus (decide +kernel)) | (refine OpK.call c1 rfl rfl rfl rfl hE ?_ rfl rfl ?_; focus ((repeat' (first | exact PsA.lit _ | exact PsA.ref rfl rfl | constructor)); all_goals (fail "ps"))) | (first | refine OpK.ldI gOk 0 hA rfl rfl rfl rfl rfl rfl rfl ?_ | refine OpK.ldI gOk 1 hA rfl rfl rfl rfl rfl rfl rfl ?_ | refine OpK.ldI gOk 2 hA rfl rfl rfl rfl rfl rfl rfl ?_))
  all_goals (refine Need.mk ?_; simp_all [Bool.beq_eq_decide_eq])
theorem IndexRow_run {hc : Hc} {cf : Nat} {caps : Array Value} (p : Row → Bool) (e : Nat) (xs : List Row) (hn : xs.length ≤ 1048576) (hcs : ∀ v ∈ caps, scal v = true) (hf : ∀ i, RunH Try.prog hc cf ([.agg [.c (.lit (.int .i64 (xs.getD i (0, 0)).1)), .c (.lit (.int .i64 (xs.getD i (0, 0)).2))]] ++ capA caps) [] [ob (p (xs.getD i (0, 0)))] []) :
    RunH Try.prog hc 75 [.one (.c (tR e xs)), .one (.c (.lit (.func (.func cf) #[] caps)))] [] [oi (plR (firstP (fun j => p (xs.getD j (0, 0))) 0 xs.length))] [] := by
  refine RunH.of_vc gOk Try.func75 rfl rfl (Nat.le_of_ble_eq_true rfl) (by repeat' (first | exact trivial | exact ⟨_, rfl, Nat.le_refl _⟩ | exact Nat.le_of_ble_eq_true rfl | refine And.intro ?_ ?_)) (Nat.le_of_ble_eq_true rfl) rfl (fun F hE hA => ?_)
  repeat' (first | exact trivial | refine BS.d (fun h => ?_) (fun h => ?_) | refine BS.e (fun h => ?_) (fun h => ?_) | refine BS.ne (fun h => ?_) (fun h => ?_) | refine BS.n ?_ | refine BS.s (fun h => ?_) (fun h => ?_) | refine And.intro ?_ ?_ | (refine Need.mk ?_; first | with_reducible rfl | (show @Eq TC _ _; rfl) | omega | (simp only [adN_zero]; omega)) | exact OutS.whole rfl rfl)
  refine CodeK.loop gOk hE (fun i : Nat => ⟨[(0, vr 1000000 xs.length), (1, .a (.lit (.func (.func cf) #[] caps))), (7, vi xs.length), (8, vi i)], [(1000000, rR .fro false e xs)]⟩) (fun i => i ≤ xs.length ∧ firstP (fun j => p (xs.getD j (0, 0))) 0 xs.length = firstP (fun j => p (xs.getD j (0, 0))) i (xs.length - i)) (fun i => xs.length - i) 0 (by refine leT.of ?_ ?_ rfl <;> repeat' (first | exact trivial | refine And.intro rfl ?_ | refine And.intro (by simp) ?_)) ⟨Nat.zero_le _, rfl⟩ ?_
  rintro i ⟨hi, hs⟩
  rcases hp : p (xs.getD i (0, 0))
  all_goals (have c1 := hf i; rw [hp] at c1)
  all_goals (repeat' (first | exact trivial | refine BS.d (fun h => ?_) (fun h => ?_) | refine BS.e (fun h => ?_) (fun h => ?_) | refine BS.ne (fun h => ?_) (fun h => ?_) | refine BS.n ?_ | refine BS.s (fun h => ?_) (fun h => ?_) | refine And.intro ?_ ?_ | (refine Need.mk ?_; first | with_reducible rfl | (show @Eq TC _ _; rfl) | omega | (simp only [adN_zero]; omega)) | exact OutS.whole rfl rfl | (refine OpK.callC c1 hA hcs rfl rfl rfl rfl hE ?_ rfl rfl ?_; focus ((repeat' (first | exact PsA.lit _ | exact PsA.ref rfl rfl | constructor)); all_goals (fail "ps")))))
  all_goals (try simp only [adN_zero] at *)
  all_goals first
    | (exfalso; first | omega | (simp_all; done))
    | (refine Need.mk ?_; omega)
    | (refine Need.mk ?_; rw [hs, firstP_yes (by omega) hp]; rfl)
    | (refine Need.mk ?_; rw [hs, show xs.length - i = 0 by omega]; rfl)
    | (refine ⟨i + 1, (by refine leT.of ?_ ?_ rfl <;> repeat' (first | exact trivial | refine And.intro rfl ?_ | refine And.intro (by simp) ?_)), ⟨by omega, by rw [hs, firstP_no (by omega) hp, show xs.length - i - 1 = xs.length - (i + 1) by omega]⟩, by first | omega | (dsimp only; omega)⟩)
theorem ContainsRow_run {hc : Hc} {cf : Nat} {caps : Array Value} (p : Row → Bool) (e : Nat) (xs : List Row) (hn : xs.length ≤ 1048576) (hcs : ∀ v ∈ caps, scal v = true) (hf : ∀ i, RunH Try.prog hc cf ([.agg [.c (.lit (.int .i64 (xs.getD i (0, 0)).1)), .c (.lit (.int .i64 (xs.getD i (0, 0)).2))]] ++ capA caps) [] [ob (p (xs.getD i (0, 0)))] []) :
    RunH Try.prog hc 51 [.one (.c (tR e xs)), .one (.c (.lit (.func (.func cf) #[] caps)))] [] [ob (firstP (fun j => p (xs.getD j (0, 0))) 0 xs.length).isSome] [] := by
  have c1 := IndexRow_run p e xs hn hcs hf
  generalize firstP (fun j => p (xs.getD j (0, 0))) 0 xs.length = r at *
  refine RunH.of_vc gOk Try.func51 rfl rfl (Nat.le_of_ble_eq_true rfl) (by repeat' (first | exact trivial | exact ⟨_, rfl, Nat.le_refl _⟩ | exact Nat.le_of_ble_eq_true rfl | refine And.intro ?_ ?_)) (Nat.le_of_ble_eq_true rfl) rfl (fun F hE hA => ?_)
  repeat' (first | exact trivial | refine BS.d (fun h => ?_) (fun h => ?_) | refine BS.e (fun h => ?_) (fun h => ?_) | refine BS.ne (fun h => ?_) (fun h => ?_) | refine BS.n ?_ | refine BS.s (fun h => ?_) (fun h => ?_) | refine And.intro ?_ ?_ | (refine Need.mk ?_; first | with_reducible rfl | (show @Eq TC _ _; rfl) | omega | (simp only [adN_zero]; omega)) | exact OutS.whole rfl rfl | (refine OpK.callH c1 hA rfl rfl rfl rfl hE ?_ rfl rfl ?_; focus ((repeat' (first | exact PsA.lit _ | exact PsA.ref rfl rfl | constructor)); all_goals (fail "ps"))))
  all_goals (refine Need.mk ?_; cases r <;> simp [plR])
theorem InLimboI_run (e' e : Nat) (xs : List (List Row)) (s : Int) (hn : xs.length ≤ 1048576) (hcn : cnt xs ≤ 1048576) (hm : ∀ i, (xs.flatten.getD i (0, 0)).1 ≤ 9223372036854775807) : RunT Try.prog 21 [.one (.c (tLL e' e xs)), ti s] [] [ob (if 0 ≤ s ∧ s < 24 then inLb xs s else false)] [] := by
  refine RunH.toT ?_
  have c0 := slotOk_run s
  by_cases hs : 0 ≤ s ∧ s < 24
  · rw [if_pos hs]
    rw [decide_eq_true hs] at c0
    have c2 := allRows_run e' e xs hn hcn
    have c1 : ∀ ps : List (Nat × Nat), ps.length = 1 → RunH Try.prog (hcOf ps [.int .i64 s] ++ []) 51 [.one (.c (tR 61 xs.flatten)), .one (.c (.lit (.func (.func 53) #[] (ptrs ps))))] [] [ob (inLb xs s)] [] := by
      intro ps hps
      match ps, hps with
      | [(g1, j1)], _ =>
        exact ContainsRow_run (caps := ptrs [(g1, j1)]) (rowAt s) _ xs.flatten (by have := flat_len xs; omega) (ptrs_scal _) (fun i => InLimbo1_run _ s g1 j1 (hm i) hs.1)
    refine RunH.of_vc gOk Try.func21 rfl rfl (Nat.le_of_ble_eq_true rfl) (by repeat' (first | exact trivial | exact ⟨_, rfl, Nat.le_refl _⟩ | exact Nat.le_of_ble_eq_true rfl | refine And.intro ?_ ?_)) (Nat.le_of_ble_eq_true rfl) rfl (fun F hE hA => ?_)
    repeat' (first | exact trivial | refine BS.d (fun h => ?_) (fun h => ?_) | refine BS.e (fun h => ?_) (fun h => ?_) | refine BS.ne (fun h => ?_) (fun h => ?_) | refine BS.n ?_ | refine BS.s (fun h => ?_) (fun h => ?_) | refine And.intro ?_ ?_ | (refine Need.mk ?_; first | with_reducible rfl | (show @Eq TC _ _; rfl) | omega | (simp only [adN_zero]; omega)) | exact OutS.whole rfl rfl | (refine OpK.call c0 rfl rfl rfl rfl hE ?_ rfl rfl ?_; focus ((repeat' (first | exact PsA.lit _ | exact PsA.ref rfl rfl | constructor)); all_goals (fail "ps"))) | (refine OpK.call c2 rfl rfl rfl rfl hE ?_ rfl rfl ?_; focus ((repeat' (first | exact PsA.lit _ | exact PsA.ref rfl rfl | constructor)); all_goals (fail "ps"))))
    all_goals first | exact absurd rfl h | skip
    (refine ListK.mkCall (args := (fun v => [.one (.c (tR 61 xs.flatten)), .one (.c (.lit v))])) rfl rfl rfl rfl (.cons rfl rfl .nil) hA c1 rfl rfl rfl rfl rfl hE ?_ rfl rfl ?_ gOk; focus (intro v; (repeat' (first | exact PsA.lit _ | exact PsA.ref rfl rfl | constructor)); all_goals (fail "ps")))
    repeat' (first | exact trivial | refine BS.d (fun h => ?_) (fun h => ?_) | refine BS.e (fun h => ?_) (fun h => ?_) | refine BS.ne (fun h => ?_) (fun h => ?_) | refine BS.n ?_ | refine BS.s (fun h => ?_) (fun h => ?_) | refine And.intro ?_ ?_ | (refine Need.mk ?_; first | with_reducible rfl | (show @Eq TC _ _; rfl) | omega | (simp only [adN_zero]; omega)) | exact OutS.whole rfl rfl)
  · rw [if_neg hs]
    rw [decide_eq_false hs] at c0
    refine RunH.of_vc gOk Try.func21 rfl rfl (Nat.le_of_ble_eq_true rfl) (by repeat' (first | exact trivial | exact ⟨_, rfl, Nat.le_refl _⟩ | exact Nat.le_of_ble_eq_true rfl | refine And.intro ?_ ?_)) (Nat.le_of_ble_eq_true rfl) rfl (fun F hE hA => ?_)
    repeat' (first | exact trivial | refine BS.d (fun h => ?_) (fun h => ?_) | refine BS.e (fun h => ?_) (fun h => ?_) | refine BS.ne (fun h => ?_) (fun h => ?_) | refine BS.n ?_ | refine BS.s (fun h => ?_) (fun h => ?_) | refine And.intro ?_ ?_ | (refine Need.mk ?_; first | with_reducible rfl | (show @Eq TC _ _; rfl) | omega | (simp only [adN_zero]; omega)) | exact OutS.whole rfl rfl | (refine OpK.call c0 rfl rfl rfl rfl hE ?_ rfl rfl ?_; focus ((repeat' (first | exact PsA.lit _ | exact PsA.ref rfl rfl | constructor)); all_goals (fail "ps"))))
    all_goals first | exact absurd rfl h | trace_state
theorem hSlot_bd {h : Int} (hk : hOk h = true) : 0 ≤ hSlot h ∧ hSlot h < 24 := by
  unfold hSlot; rw [hk]; simp
  unfold hOk at hk
  simp only [decide_eq_true_eq] at hk
  omega
theorem inLb_out (xs : List (List Row)) (s : Int) (hs : ¬ (0 ≤ s ∧ s < 24)) : inLb xs s = false := by
  unfold inLb
  cases h : firstP (fun j => rowAt s (xs.flatten.getD j (0, 0))) 0 xs.flatten.length with
  | none => rfl
  | some j =>
    exfalso
    obtain ⟨_, _, h3⟩ := firstP_lt h
    unfold rowAt at h3
    simp only [Bool.and_eq_true, decide_eq_true_eq] at h3
    have := hSlot_bd h3.1
    omega
theorem InLimboS_run (e' e : Nat) (xs : List (List Row)) (s : Int) (hn : xs.length ≤ 1048576) (hcn : cnt xs ≤ 1048576) : RunT Try.prog 20 [.one (.c (tLL e' e xs)), ti s] [] [ob (inLb xs s)] [] := by
  have hfl := flat_len xs
  have c0 := l11All_run e' e xs hn hcn
  unfold inLb
  refine RunT.of_vc gOk Try.func20 rfl rfl (Nat.le_of_ble_eq_true rfl) (by repeat' (first | exact trivial | exact ⟨_, rfl, Nat.le_refl _⟩ | exact Nat.le_of_ble_eq_true rfl | refine And.intro ?_ ?_)) (Nat.le_of_ble_eq_true rfl) rfl (fun F hE => ?_)
  repeat' (first | exact trivial | refine BS.d (fun h => ?_) (fun h => ?_) | refine BS.e (fun h => ?_) (fun h => ?_) | refine BS.ne (fun h => ?_) (fun h => ?_) | refine BS.n ?_ | refine BS.s (fun h => ?_) (fun h => ?_) | refine And.intro ?_ ?_ | (refine Need.mk ?_; first | with_reducible rfl | (show @Eq TC _ _; rfl) | omega | (simp only [adN_zero]; omega)) | exact OutS.whole rfl rfl | (refine OpK.call c0 rfl rfl rfl rfl hE ?_ rfl rfl ?_; focus ((repeat' (first | exact PsA.lit _ | exact PsA.ref rfl rfl | constructor)); all_goals (fail "ps"))))
  generalize xs.flatten = R at *
  refine CodeK.loop gOk hE (fun i : Nat => ⟨[(1, vi s), (5, vr 2001024 R.length), (6, vi i)], [(2001024, rR .own true 61 R)]⟩) (fun i => i ≤ R.length ∧ firstP (fun j => rowAt s (R.getD j (0, 0))) 0 R.length = firstP (fun j => rowAt s (R.getD j (0, 0))) i (R.length - i)) (fun i => R.length - i) 0 (by refine leT.of ?_ ?_ rfl <;> repeat' (first | exact trivial | refine And.intro rfl ?_ | refine And.intro (by simp) ?_)) ⟨Nat.zero_le _, rfl⟩ ?_
  rintro i ⟨hi, hs⟩
  have c1 := sHandleOk_run (R.getD i (0, 0)).1
  have c2 := sHandleSlot_run (R.getD i (0, 0)).1
  have hpq : rowAt s (R.getD i (0, 0)) = (hOk (R.getD i (0, 0)).1 && decide (hSlot (R.getD i (0, 0)).1 = s)) := rfl
  rcases hk : hOk (R.getD i (0, 0)).1 <;> by_cases hp : hSlot (R.getD i (0, 0)).1 = s
  all_goals (rw [hk] at c1 hpq; first | rw [decide_eq_true hp] at hpq | rw [decide_eq_false hp] at hpq)
  all_goals (have hp0 := hpq; simp only [Bool.and_true, Bool.and_false, Bool.true_and, Bool.false_and] at hp0)
  all_goals (repeat' (first | exact trivial | refine BS.d (fun h => ?_) (fun h => ?_) | refine BS.e (fun h => ?_) (fun h => ?_) | refine BS.ne (fun h => ?_) (fun h => ?_) | refine BS.n ?_ | refine BS.s (fun h => ?_) (fun h => ?_) | refine And.intro ?_ ?_ | (refine Need.mk ?_; first | with_reducible rfl | (show @Eq TC _ _; rfl) | omega | (simp only [adN_zero]; omega)) | exact OutS.whole rfl rfl | (refine OpK.call c1 rfl rfl rfl rfl hE ?_ rfl rfl ?_; focus ((repeat' (first | exact PsA.lit _ | exact PsA.ref rfl rfl | constructor)); all_goals (fail "ps"))) | (refine OpK.call c2 rfl rfl rfl rfl hE ?_ rfl rfl ?_; focus ((repeat' (first | exact PsA.lit _ | exact PsA.ref rfl rfl | constructor)); all_goals (fail "ps")))))
  all_goals (try simp only [adN_zero] at *)
  all_goals first
    | (exfalso; first | omega | (simp_all; done))
    | (refine Need.mk ?_; omega)
    | (refine Need.mk ?_; rw [hs, firstP_yes (by omega) hp0]; rfl)
    | (refine Need.mk ?_; rw [hs, show R.length - i = 0 by omega]; rfl)
    | (refine ⟨i + 1, (by refine leT.of ?_ ?_ rfl <;> repeat' (first | exact trivial | refine And.intro rfl ?_ | refine And.intro (by simp) ?_)), ⟨by omega, by rw [hs, firstP_no (by omega) hp0, show R.length - i - 1 = R.length - (i + 1) by omega]⟩, by first | omega | (dsimp only; omega)⟩)
theorem InLimbo_law (xs : List (List Row)) (s : Int) (hn : xs.length ≤ 9223372036854775807) (hx : ∀ i, (xs.getD i []).length ≤ 9223372036854775807) (hm : ∀ i, (xs.flatten.getD i (0, 0)).1 ≤ 9223372036854775807) : RunT Try.prog 4 [.one (.c (tLL 0 0 xs)), ti s] [] [ob true] [] := by
  refine RunT.of_vc gOk Try.func4 rfl rfl (Nat.le_of_ble_eq_true rfl) (by repeat' (first | exact trivial | exact ⟨_, rfl, Nat.le_refl _⟩ | exact Nat.le_of_ble_eq_true rfl | refine And.intro ?_ ?_)) (Nat.le_of_ble_eq_true rfl) rfl (fun F hE => ?_)
  repeat' (first | exact trivial | refine BS.d (fun h => ?_) (fun h => ?_) | refine BS.e (fun h => ?_) (fun h => ?_) | refine BS.ne (fun h => ?_) (fun h => ?_) | refine BS.n ?_ | refine BS.s (fun h => ?_) (fun h => ?_) | refine And.intro ?_ ?_ | (refine Need.mk ?_; first | with_reducible rfl | (show @Eq TC _ _; rfl) | omega | (simp only [adN_zero]; omega)) | exact OutS.whole rfl rfl)
  refine OpK.call (szLListS_run 0 0 xs 1048576 (by decide) (by decide) hn hx) rfl rfl rfl rfl hE (by repeat' (first | exact PsA.lit _ | exact PsA.ref rfl rfl | constructor)) rfl rfl ?_
  repeat' (first | exact trivial | refine BS.d (fun h => ?_) (fun h => ?_) | refine BS.e (fun h => ?_) (fun h => ?_) | refine BS.ne (fun h => ?_) (fun h => ?_) | refine BS.n ?_ | refine BS.s (fun h => ?_) (fun h => ?_) | refine And.intro ?_ ?_ | (refine Need.mk ?_; first | with_reducible rfl | (show @Eq TC _ _; rfl) | omega | (simp only [adN_zero]; omega)) | exact OutS.whole rfl rfl)
  obtain ⟨b1, b2, b3⟩ := szSLs_le xs 1048576 (by decide)
  obtain ⟨b4, b5, b6⟩ := b3 (by omega)
  have hn' : xs.length ≤ 1048576 := by omega
  have hx' : ∀ i, (xs.getD i []).length ≤ 1048576 := getD_le fun x hx => by have := b6 x hx; omega
  have hcn : cnt xs ≤ 1048576 := by rw [← flat_len]; exact b5
  have c1 := toLListS_run 0 0 xs hn' hx'
  have c2 := InLimboS_run 61 59 xs s hn' hcn
  have c3 := InLimboI_run 61 59 xs s hn' hcn hm
  have c4 := eqLListS_run 61 59 xs (by omega) (fun i => by have := hx' i; omega)
  have hq : (if 0 ≤ s ∧ s < 24 then inLb xs s else false) = inLb xs s := by
    split
    · rfl
    · exact (inLb_out xs s (by assumption)).symm
  rw [hq] at c3
  generalize inLb xs s = bb at *
  repeat' (first | exact trivial | refine BS.d (fun h => ?_) (fun h => ?_) | refine BS.e (fun h => ?_) (fun h => ?_) | refine BS.ne (fun h => ?_) (fun h => ?_) | refine BS.n ?_ | refine BS.s (fun h => ?_) (fun h => ?_) | refine And.intro ?_ ?_ | (refine Need.mk ?_; first | with_reducible rfl | (show @Eq TC _ _; rfl) | omega | (simp only [adN_zero]; omega)) | exact OutS.whole rfl rfl | (refine OpK.call c1 rfl rfl rfl rfl hE ?_ rfl rfl ?_; focus ((repeat' (first | exact PsA.lit _ | exact PsA.ref rfl rfl | constructor)); all_goals (fail "ps"))) | (refine OpK.call c2 rfl rfl rfl rfl hE ?_ rfl rfl ?_; focus ((repeat' (first | exact PsA.lit _ | exact PsA.ref rfl rfl | constructor)); all_goals (fail "ps"))) | (refine OpK.call c3 rfl rfl rfl rfl hE ?_ rfl rfl ?_; focus ((repeat' (first | exact PsA.lit _ | exact PsA.ref rfl rfl | constructor)); all_goals (fail "ps"))) | (refine OpK.call c4 rfl rfl rfl rfl hE ?_ rfl rfl ?_; focus ((repeat' (first | exact PsA.lit _ | exact PsA.ref rfl rfl | constructor)); all_goals (fail "ps"))))
  all_goals first | exact absurd rfl h | (cases bb <;> simp_all) | trace_state
end Go.Proofs.Ytbfkdbbgbdihdaa
