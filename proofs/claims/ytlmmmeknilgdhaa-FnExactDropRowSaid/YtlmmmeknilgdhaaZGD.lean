import Derived.Test.YtlmmmeknilgdhaaZGR
import Derived.Test.YtlmmmeknilgdhaaUR
import Derived.Test.YtlmmmeknilgdhaaUS
section
/- A row is dropped. -/
namespace Go.Proofs.Ytlmmmeknilgdhaa
open Go Go.Tr
set_option maxRecDepth 100000
set_option maxHeartbeats 4000000
set_option linter.unusedVariables false
set_option linter.unusedSimpArgs false
def dl (l : List Row) (i : Nat) : List Row := l.take i ++ l.drop (i + 1)
theorem dl_len {l : List Row} {i : Nat} (h : i < l.length) : (dl l i).length = l.length - 1 := by unfold dl; simp; omega
theorem dl_pre {l : List Row} {i : Nat} (h : i < l.length) (z : Row) : (dl l i ++ [z]).length = l.length := by rw [List.length_append, dl_len h]; simp; omega
theorem dl_get {l : List Row} {i q : Nat} (d : Row) (h : i < l.length) (hq : q < l.length - 1) : (dl l i).getD q d = if q < i then l.getD q d else l.getD (q + 1) d := by
  unfold dl
  simp only [List.getD]
  by_cases h1 : q < i
  · rw [List.getElem?_append_left (by simp; omega), List.getElem?_take, if_pos h1, if_pos h1]
  · rw [List.getElem?_append_right (by simp; omega), List.getElem?_drop, if_neg h1]
    congr 2; simp; omega
/-- What lies in the row once the later ones have moved up. -/
def up (l : List Row) (i : Nat) : List Row := dl l i ++ [l.getD (l.length - 1) (0, 0)]
theorem up_len {l : List Row} {i : Nat} (h : i < l.length) : (up l i).length = l.length := dl_pre h _
theorem up_in {l : List Row} {i q : Nat} (h : i < l.length) (hq : q < l.length - (i + 1)) : (up l i).getD (i + q) (0, 0) = l.getD (i + 1 + q) (0, 0) := by
  have hl := dl_len h
  have := dl_get (0, 0) h (show i + q < l.length - 1 by omega)
  rw [if_neg (by omega)] at this
  unfold up
  simp only [List.getD] at this ⊢
  rw [List.getElem?_append_left (by omega), this]
  congr 2; omega
theorem up_out {l : List Row} {i q : Nat} (h : i < l.length) (hq : ¬ (i ≤ q ∧ q < i + (l.length - (i + 1)))) : (up l i).getD q (0, 0) = l.getD q (0, 0) := by
  have hl := dl_len h
  unfold up
  by_cases h1 : q < i
  · have := dl_get (0, 0) h (show q < l.length - 1 by omega)
    rw [if_pos h1] at this
    simp only [List.getD] at this ⊢
    rw [List.getElem?_append_left (by omega), this]
  · simp only [List.getD]
    rw [List.getElem?_append_right (by omega)]
    by_cases h2 : q = l.length - 1
    · rw [show q - (dl l i).length = 0 by omega, h2]; simp [List.getD]
    · rw [List.getElem?_eq_none (by simp; omega), List.getElem?_eq_none (by omega)]
theorem up_take {l : List Row} {i : Nat} (h : i < l.length) : (up l i).take (l.length - 1) = dl l i := by
  unfold up; rw [← dl_len h, List.take_left]
theorem cl_len {l : List Row} {i : Nat} (h : i < l.length) : (dl l i ++ [((0 : Int), (0 : Int))]).length = (up l i).length := by rw [dl_pre h, up_len h]
theorem cl_in {l : List Row} {i q : Nat} (h : i < l.length) (hq : q < 1) : (dl l i ++ [((0 : Int), (0 : Int))]).getD (l.length - 1 + q) (0, 0) = (0, 0) := by
  have hl := dl_len h
  simp only [List.getD]
  rw [List.getElem?_append_right (by omega), show l.length - 1 + q - (dl l i).length = 0 by omega]; rfl
theorem cl_out {l : List Row} {i q : Nat} (h : i < l.length) (hq : ¬ (l.length - 1 ≤ q ∧ q < l.length - 1 + 1)) : (dl l i ++ [((0 : Int), (0 : Int))]).getD q (0, 0) = (up l i).getD q (0, 0) := by
  have hl := dl_len h
  unfold up
  simp only [List.getD]
  by_cases h1 : q < l.length - 1
  · rw [List.getElem?_append_left (by omega), List.getElem?_append_left (by omega)]
  · rw [List.getElem?_eq_none (by simp; omega), List.getElem?_eq_none (by simp; omega)]
theorem DelRow_run (e : Nat) (xs : List Row) (i : Nat) (hi : i < xs.length) (hn : xs.length ≤ 4000000) : RunT Try.prog 119 [.one (.m (tR e xs)), ti i, ti ((i : Int) + 1)] [] [.one (tR e (dl xs i))] [] := by
  have h1 := dl_len hi
  refine RunT.of_ck gOk Try.func119 rfl rfl (Nat.le_of_ble_eq_true rfl) (by repeat' (first | exact trivial | exact ⟨_, rfl, Nat.le_refl _⟩ | exact Nat.le_of_ble_eq_true rfl | refine And.intro ?_ ?_)) (Nat.le_of_ble_eq_true rfl) rfl (fun F hE => ?_)
  repeat' (first | exact trivial | refine BS.d (fun h => ?_) (fun h => ?_) | refine BS.e (fun h => ?_) (fun h => ?_) | refine BS.ne (fun h => ?_) (fun h => ?_) | refine BS.n ?_ | refine BS.s (fun h => ?_) (fun h => ?_) | refine And.intro ?_ ?_ | (refine Need.mk ?_; first | with_reducible rfl | (show @Eq TC _ _; rfl) | omega | (simp only [adN_zero]; omega)) | exact OutS.whole rfl rfl | (refine PK.slice3 (l := i) (h' := i + 1) (m := xs.length) gOk rfl rfl rfl rfl rfl rfl rfl rfl rfl rfl (by omega) ?_) | (refine OpK.appInT gOk (up xs i) rfl rfl rfl rfl rfl rfl rfl rfl ?_ (up_len hi) ?_ ?_ ?_) | (refine ListO.pure rfl rfl (PK.sliceX gOk rfl rfl rfl rfl (.inr ⟨_, _, _, rfl, rfl, rfl⟩) rfl rfl ?_ ?_)) | (refine OpK.clearT gOk (dl xs i ++ [(0, 0)]) rfl rfl rfl rfl rfl rfl rfl rfl (cl_len hi) ?_ ?_ ?_) | (refine CodeK.draw gOk hE rfl (fun _ _ h => h) (.take 0 (.take 1 (.take 2 (.take 3 (.take 4 (.take 5 (.alt 6 (.take 7 .done) .stop))))))) ?_ ?_; focus (decide +kernel)) | (refine CodeK.seqL 6 rfl ?_) | (refine CodeK.seqv gOk hE ?_) | (refine CodeK.vc gOk hE ?_) | (refine ListO.step gOk hE ?_) | (refine ListO.done ?_) | refine ListO.go gOk hE ?_)
  all_goals (try simp only [adN_zero, Int.toNat_natCast, show ((i : Int) + 1).toNat = i + 1 from rfl, show i + (xs.length - (i + 1)) = xs.length - 1 by omega, show xs.length - (xs.length - 1) = 1 by omega] at *)
  all_goals first
    | (exfalso; omega)
    | (refine Need.mk ?_; omega)
    | omega
    | (constructor <;> omega)
    | (intro q r hq hr; rw [up_in hi hq, show ((i : Int) + 1) = ((i + 1 : Nat) : Int) from rfl, adN_zero]; match r, hr with
        | 0, _ => exact ⟨_, rfl, rfl⟩
        | 1, _ => exact ⟨_, rfl, rfl⟩)
    | (intro q hq; exact up_out hi (by omega))
    | exact Nat.le_of_eq (up_len hi).symm
    | (intro q r hq hr; rw [cl_in hi hq]; match r, hr with
        | 0, _ => exact ⟨_, rfl, rfl⟩
        | 1, _ => exact ⟨_, rfl, rfl⟩)
    | (intro q hq; exact cl_out hi hq)
    | (refine OutS.pre (by rw [List.length_append]; omega) ?_; rw [List.take_append_of_le_length (by omega), List.take_of_length_le (by omega)]; rfl)
    | trace_state
theorem rowOk_run (e : Nat) (x : List Row) (i : Int) : RunT Try.prog 118 [.agg [.c (tR e x)], ti i] [] [ob (decide (0 ≤ i ∧ i < x.length))] [] := by
  refine RunT.of_vc gOk Try.func118 rfl rfl (Nat.le_of_ble_eq_true rfl) (by repeat' (first | exact trivial | exact ⟨_, rfl, Nat.le_refl _⟩ | exact Nat.le_of_ble_eq_true rfl | refine And.intro ?_ ?_)) (Nat.le_of_ble_eq_true rfl) rfl (fun F hE => ?_)
  repeat' (first | exact trivial | refine BS.d (fun h => ?_) (fun h => ?_) | refine BS.e (fun h => ?_) (fun h => ?_) | refine BS.ne (fun h => ?_) (fun h => ?_) | refine BS.n ?_ | refine BS.s (fun h => ?_) (fun h => ?_) | refine And.intro ?_ ?_ | (refine Need.mk ?_; first | with_reducible rfl | (show @Eq TC _ _; rfl) | omega | (simp only [adN_zero]; omega)) | exact OutS.whole rfl rfl | refine ListO.go gOk hE ?_)
  all_goals (refine Need.mk ?_; first | rfl | (symm; apply decide_eq_true; omega) | (symm; apply decide_eq_false; omega) | (apply decide_eq_decide.2; omega) | (simp only [beq_iff_eq, Bool.beq_eq_decide_eq] at *; apply decide_eq_decide.2; omega) | (simp; omega))
def drX (xs : List (List Row)) (w i : Int) : List (List Row) × Bool := if (lOk xs = true ∧ 0 ≤ w ∧ w ≤ 2) ∧ 0 ≤ i ∧ i < ((xs.getD w.toNat []).length : Int) then (xs.set w.toNat (dl (xs.getD w.toNat []) i.toNat), true) else (xs, false)
theorem DropRowI_run (e' e : Nat) (xs : List (List Row)) (w i : Int) (hn : xs.length ≤ 1048576) (hcn : cnt xs ≤ 1048576) (hx : ∀ i, (xs.getD i []).length ≤ 1048576) (hmx : ∀ i, (xs.flatten.getD i (0, 0)).1 ≤ 9223372036854775807) (hw1 : w ≤ 9223372036854775807) (hi1 : i ≤ 9223372036854775807) : RunT Try.prog 63 [.one (.c (tLL e' e xs)), ti w, ti i] [] [.one (tLL 177 175 (drX xs w i).1), ob (drX xs w i).2] [] := by
  have c1 := copyLimbo_run e' e xs hn hx
  have c2 := LimboOkI_run e' e xs hn hcn hmx
  have c3 := workerOkB_run w
  by_cases hw : lOk xs = true ∧ 0 ≤ w ∧ w ≤ 2
  · obtain ⟨m, rfl⟩ := Int.eq_ofNat_of_zero_le hw.2.1
    have h3 := lOk_three hw.1
    rw [hw.1] at c2
    rw [decide_eq_true hw.2] at c3
    have hml : m < xs.length := by omega
    have hxm := hx m
    have c4 := rowOk_run e' (xs.getD m []) i
    by_cases hi : 0 ≤ i ∧ i < ((xs.getD m []).length : Int)
    · obtain ⟨j, rfl⟩ := Int.eq_ofNat_of_zero_le hi.1
      have hj : j < (xs.getD m []).length := by omega
      have c5 := DelRow_run 177 (xs.getD m []) j hj (by omega)
      rw [decide_eq_true hi] at c4
      have hr : drX xs m j = (xs.set m (dl (xs.getD m []) j), true) := by unfold drX; rw [if_pos ⟨hw, by simpa using hi⟩, Int.toNat_natCast, Int.toNat_natCast]
      rw [hr]
      refine RunT.of_vc gOk Try.func63 rfl rfl (Nat.le_of_ble_eq_true rfl) (by repeat' (first | exact trivial | exact ⟨_, rfl, Nat.le_refl _⟩ | exact Nat.le_of_ble_eq_true rfl | refine And.intro ?_ ?_)) (Nat.le_of_ble_eq_true rfl) rfl (fun F hE => ?_)
      repeat' (first | exact trivial | refine BS.d (fun h => ?_) (fun h => ?_) | refine BS.e (fun h => ?_) (fun h => ?_) | refine BS.ne (fun h => ?_) (fun h => ?_) | refine BS.n ?_ | refine BS.s (fun h => ?_) (fun h => ?_) | refine And.intro ?_ ?_ | (refine Need.mk ?_; first | with_reducible rfl | (show @Eq TC _ _; rfl) | omega | (simp only [adN_zero]; omega)) | exact OutS.whole rfl rfl | (refine ListO.open_ gOk hE 5000 rfl rfl rfl rfl rfl rfl rfl rfl (by (try simp only [adN_zero]); omega) (by decide) rfl rfl rfl rfl ?_) | (refine OpK.stNR gOk (dl (xs.getD m []) j) rfl rfl rfl rfl rfl rfl rfl rfl rfl (by (try simp only [adN_zero]); omega) (StN.ref rfl rfl rfl rfl rfl StN.nil) ?_) | (refine OpK.call c1 rfl rfl rfl rfl hE ?_ rfl rfl ?_; focus ((repeat' (first | exact PsA.lit _ | exact PsA.ref rfl rfl | constructor)); all_goals (fail "ps"))) | (refine OpK.call c2 rfl rfl rfl rfl hE ?_ rfl rfl ?_; focus ((repeat' (first | exact PsA.lit _ | exact PsA.ref rfl rfl | constructor)); all_goals (fail "ps"))) | (refine OpK.call c3 rfl rfl rfl rfl hE ?_ rfl rfl ?_; focus ((repeat' (first | exact PsA.lit _ | exact PsA.ref rfl rfl | constructor)); all_goals (fail "ps"))) | (refine OpK.call c4 rfl rfl rfl rfl hE ?_ rfl rfl ?_; focus ((repeat' (first | exact PsA.lit _ | exact PsA.ref rfl rfl | constructor)); all_goals (fail "ps"))) | (refine OpK.callM 5000 0 0 c5 rfl rfl rfl rfl hE rfl (QsVs.cons (.one (.m rfl rfl (.whole rfl rfl))) (.cons (.one (.c (.lit _) rfl)) (.cons (.one (.c (.lit _) rfl)) .nil))) rfl rfl ?_) | refine ListO.go gOk hE ?_)
      all_goals (try simp only [adN_zero] at *)
      all_goals first
        | (exfalso; omega)
        | (refine Need.mk ?_; first | omega | (refine ⟨?_, ?_⟩ <;> (try unfold maxLen) <;> omega))
        | exact Need.mk rfl
        | exact OutS.whole rfl rfl
        | exact OutS.whole (by simp) rfl
        | trace_state
    · rw [decide_eq_false hi] at c4
      have hr : drX xs m i = (xs, false) := by unfold drX; rw [if_neg (fun h => hi (by simpa using h.2))]
      rw [hr]
      refine RunT.of_vc gOk Try.func63 rfl rfl (Nat.le_of_ble_eq_true rfl) (by repeat' (first | exact trivial | exact ⟨_, rfl, Nat.le_refl _⟩ | exact Nat.le_of_ble_eq_true rfl | refine And.intro ?_ ?_)) (Nat.le_of_ble_eq_true rfl) rfl (fun F hE => ?_)
      repeat' (first | exact trivial | refine BS.d (fun h => ?_) (fun h => ?_) | refine BS.e (fun h => ?_) (fun h => ?_) | refine BS.ne (fun h => ?_) (fun h => ?_) | refine BS.n ?_ | refine BS.s (fun h => ?_) (fun h => ?_) | refine And.intro ?_ ?_ | (refine Need.mk ?_; first | with_reducible rfl | (show @Eq TC _ _; rfl) | omega | (simp only [adN_zero]; omega)) | exact OutS.whole rfl rfl | (refine OpK.call c1 rfl rfl rfl rfl hE ?_ rfl rfl ?_; focus ((repeat' (first | exact PsA.lit _ | exact PsA.ref rfl rfl | constructor)); all_goals (fail "ps"))) | (refine OpK.call c2 rfl rfl rfl rfl hE ?_ rfl rfl ?_; focus ((repeat' (first | exact PsA.lit _ | exact PsA.ref rfl rfl | constructor)); all_goals (fail "ps"))) | (refine OpK.call c3 rfl rfl rfl rfl hE ?_ rfl rfl ?_; focus ((repeat' (first | exact PsA.lit _ | exact PsA.ref rfl rfl | constructor)); all_goals (fail "ps"))) | (refine OpK.call c4 rfl rfl rfl rfl hE ?_ rfl rfl ?_; focus ((repeat' (first | exact PsA.lit _ | exact PsA.ref rfl rfl | constructor)); all_goals (fail "ps"))) | refine ListO.go gOk hE ?_)
      all_goals first
        | (exfalso; omega)
        | (refine Need.mk ?_; omega)
        | exact Need.mk rfl
        | exact OutS.whole rfl rfl
        | trace_state
  · have hr : drX xs w i = (xs, false) := by unfold drX; rw [if_neg (fun h => hw h.1)]
    rw [hr]
    refine RunT.of_vc gOk Try.func63 rfl rfl (Nat.le_of_ble_eq_true rfl) (by repeat' (first | exact trivial | exact ⟨_, rfl, Nat.le_refl _⟩ | exact Nat.le_of_ble_eq_true rfl | refine And.intro ?_ ?_)) (Nat.le_of_ble_eq_true rfl) rfl (fun F hE => ?_)
    repeat' (first | exact trivial | refine BS.d (fun h => ?_) (fun h => ?_) | refine BS.e (fun h => ?_) (fun h => ?_) | refine BS.ne (fun h => ?_) (fun h => ?_) | refine BS.n ?_ | refine BS.s (fun h => ?_) (fun h => ?_) | refine And.intro ?_ ?_ | (refine Need.mk ?_; first | with_reducible rfl | (show @Eq TC _ _; rfl) | omega | (simp only [adN_zero]; omega)) | exact OutS.whole rfl rfl | (refine OpK.call c1 rfl rfl rfl rfl hE ?_ rfl rfl ?_; focus ((repeat' (first | exact PsA.lit _ | exact PsA.ref rfl rfl | constructor)); all_goals (fail "ps"))) | (refine OpK.call c2 rfl rfl rfl rfl hE ?_ rfl rfl ?_; focus ((repeat' (first | exact PsA.lit _ | exact PsA.ref rfl rfl | constructor)); all_goals (fail "ps"))) | (refine OpK.call c3 rfl rfl rfl rfl hE ?_ rfl rfl ?_; focus ((repeat' (first | exact PsA.lit _ | exact PsA.ref rfl rfl | constructor)); all_goals (fail "ps"))) | refine ListO.go gOk hE ?_)
    all_goals first | exact Need.mk rfl | exact OutS.whole rfl rfl | (exfalso; exact hw ⟨‹_›, ‹_›⟩) | (exfalso; simp_all; done) | trace_state
end Go.Proofs.Ytlmmmeknilgdhaa
end

section
/- A row is dropped, in the other package. -/
namespace Go.Proofs.Ytlmmmeknilgdhaa
open Go Go.Tr
set_option maxRecDepth 100000
set_option maxHeartbeats 4000000
set_option linter.unusedVariables false
set_option linter.unusedSimpArgs false
theorem DropRowS_run (e' e : Nat) (xs : List (List Row)) (w i : Int) (hn : xs.length ≤ 1048576) (hcn : cnt xs ≤ 1048576) (hx : ∀ i, (xs.getD i []).length ≤ 1048576) : RunT Try.prog 62 [.one (.c (tLL e' e xs)), ti w, ti i] [] [.one (tLL 177 175 (drX xs w i).1), ob (drX xs w i).2] [] := by
  have c1 := l11Copy_run e' e xs hn hx
  have c2 := LimboOkS_run e' e xs hn hcn
  have c3 := l1InB_run w 0 2
  by_cases hw : lOk xs = true ∧ 0 ≤ w ∧ w ≤ 2
  · obtain ⟨m, rfl⟩ := Int.eq_ofNat_of_zero_le hw.2.1
    have h3 := lOk_three hw.1
    rw [hw.1] at c2
    rw [decide_eq_true hw.2] at c3
    have hml : m < xs.length := by omega
    have hxm := hx m
    have c4 := l1InB_run i 0 ((xs.getD m []).length - 1)
    by_cases hi : 0 ≤ i ∧ i < ((xs.getD m []).length : Int)
    · obtain ⟨j, rfl⟩ := Int.eq_ofNat_of_zero_le hi.1
      have hj : j < (xs.getD m []).length := by omega
      have hup := up_len hj
      rw [decide_eq_true (show 0 ≤ (j : Int) ∧ (j : Int) ≤ (xs.getD m []).length - 1 by omega)] at c4
      have hr : drX xs m j = (xs.set m (dl (xs.getD m []) j), true) := by unfold drX; rw [if_pos ⟨hw, by simpa using hi⟩, Int.toNat_natCast, Int.toNat_natCast]
      rw [hr]
      refine RunT.of_ck gOk Try.func62 rfl rfl (Nat.le_of_ble_eq_true rfl) (by repeat' (first | exact trivial | exact ⟨_, rfl, Nat.le_refl _⟩ | exact Nat.le_of_ble_eq_true rfl | refine And.intro ?_ ?_)) (Nat.le_of_ble_eq_true rfl) rfl (fun F hE => ?_)
      repeat' (first | exact trivial | refine BS.d (fun h => ?_) (fun h => ?_) | refine BS.e (fun h => ?_) (fun h => ?_) | refine BS.ne (fun h => ?_) (fun h => ?_) | refine BS.n ?_ | refine BS.s (fun h => ?_) (fun h => ?_) | refine And.intro ?_ ?_ | (refine Need.mk ?_; first | with_reducible rfl | (show @Eq TC _ _; rfl) | omega | (simp only [adN_zero]; omega)) | exact OutS.whole rfl rfl | (refine CodeK.open_ gOk hE 5000 2001280 (adN 0 (m : Int)) 0 rfl ?_ ?_ rfl rfl rfl rfl ?_) | (refine OpK.ldO gOk rfl rfl rfl rfl rfl rfl rfl (by (try simp only [adN_zero]); omega) (by decide) ?_) | (refine OpK.appInT gOk (up (xs.getD m []) j) rfl rfl rfl rfl rfl rfl rfl rfl ?_ ?_ ?_ ?_ ?_) | (refine OpK.stNP gOk (dl (xs.getD m []) j) rfl rfl rfl rfl rfl rfl rfl rfl rfl rfl ?_ ?_ ?_ ?_) | (refine OpK.call c1 rfl rfl rfl rfl hE ?_ rfl rfl ?_; focus ((repeat' (first | exact PsA.lit _ | exact PsA.ref rfl rfl | constructor)); all_goals (fail "ps"))) | (refine OpK.call c2 rfl rfl rfl rfl hE ?_ rfl rfl ?_; focus ((repeat' (first | exact PsA.lit _ | exact PsA.ref rfl rfl | constructor)); all_goals (fail "ps"))) | (refine OpK.call c3 rfl rfl rfl rfl hE ?_ rfl rfl ?_; focus ((repeat' (first | exact PsA.lit _ | exact PsA.ref rfl rfl | constructor)); all_goals (fail "ps"))) | (refine OpK.call c4 rfl rfl rfl rfl hE ?_ rfl rfl ?_; focus ((repeat' (first | exact PsA.lit _ | exact PsA.ref rfl rfl | constructor)); all_goals (fail "ps"))) | (refine CodeK.draw gOk hE rfl (fun _ _ h => h) (.take 0 (.take 1 (.take 2 (.take 3 (.take 4 (.take 5 (.take 7 (.take 9 (.take 10 (.take 11 (.take 12 (.take 14 (.take 15 (.alt 6 (.take 8 (.alt 13 (.take 16 (.alt 17 (.take 18 (.take 19 (.alt 20 .done .stop))) .stop)) .stop)) (.alt 13 (.take 16 (.alt 6 (.take 8 (.alt 17 (.take 18 (.take 19 (.alt 20 .done .stop))) .stop)) .stop)) .stop))))))))))))))) ?_ ?_; focus (decide +kernel)) | (refine CodeK.seqL 99 rfl ?_) | (refine CodeK.seqv gOk hE ?_) | (refine CodeK.vc gOk hE ?_) | (refine ListO.step gOk hE ?_) | (refine ListO.done ?_) | refine ListO.go gOk hE ?_)
      all_goals (try simp only [adN_zero, Int.toNat_natCast, show ((j : Int) + 1).toNat = j + 1 from rfl, show j + ((xs.getD m []).length - (j + 1)) = (xs.getD m []).length - 1 by omega] at *)
      all_goals first
        | exact Nat.zero_lt_one
        | omega
        | (exfalso; omega)
        | (refine Need.mk ?_; omega)
        | (intro q r hq hr; rw [up_in hj hq, show ((j : Int) + 1) = ((j + 1 : Nat) : Int) from rfl, adN_zero]; match r, hr with
            | 0, _ => exact ⟨_, rfl, rfl⟩
            | 1, _ => exact ⟨_, rfl, rfl⟩)
        | (intro q hq; exact up_out hj (by omega))
        | (refine congrArg (fun l => TC.sl _ 2 Row encR decR (0, 0) l) ?_; exact (up_take hj).symm)
        | exact OutS.whole rfl rfl
        | exact OutS.whole (by simp) rfl
        | trace_state
    · rw [decide_eq_false (show ¬ (0 ≤ i ∧ i ≤ (xs.getD m []).length - 1) by omega)] at c4
      have hr : drX xs m i = (xs, false) := by unfold drX; rw [if_neg (fun h => hi (by simpa using h.2))]
      rw [hr]
      refine RunT.of_vc gOk Try.func62 rfl rfl (Nat.le_of_ble_eq_true rfl) (by repeat' (first | exact trivial | exact ⟨_, rfl, Nat.le_refl _⟩ | exact Nat.le_of_ble_eq_true rfl | refine And.intro ?_ ?_)) (Nat.le_of_ble_eq_true rfl) rfl (fun F hE => ?_)
      repeat' (first | exact trivial | refine BS.d (fun h => ?_) (fun h => ?_) | refine BS.e (fun h => ?_) (fun h => ?_) | refine BS.ne (fun h => ?_) (fun h => ?_) | refine BS.n ?_ | refine BS.s (fun h => ?_) (fun h => ?_) | refine And.intro ?_ ?_ | (refine Need.mk ?_; first | with_reducible rfl | (show @Eq TC _ _; rfl) | omega | (simp only [adN_zero]; omega)) | exact OutS.whole rfl rfl | (refine OpK.call c1 rfl rfl rfl rfl hE ?_ rfl rfl ?_; focus ((repeat' (first | exact PsA.lit _ | exact PsA.ref rfl rfl | constructor)); all_goals (fail "ps"))) | (refine OpK.call c2 rfl rfl rfl rfl hE ?_ rfl rfl ?_; focus ((repeat' (first | exact PsA.lit _ | exact PsA.ref rfl rfl | constructor)); all_goals (fail "ps"))) | (refine OpK.call c3 rfl rfl rfl rfl hE ?_ rfl rfl ?_; focus ((repeat' (first | exact PsA.lit _ | exact PsA.ref rfl rfl | constructor)); all_goals (fail "ps"))) | (refine OpK.call c4 rfl rfl rfl rfl hE ?_ rfl rfl ?_; focus ((repeat' (first | exact PsA.lit _ | exact PsA.ref rfl rfl | constructor)); all_goals (fail "ps"))) | refine ListO.go gOk hE ?_)
      all_goals first
        | (exfalso; omega)
        | (refine Need.mk ?_; omega)
        | exact Need.mk rfl
        | exact OutS.whole rfl rfl
        | trace_state
  · have hr : drX xs w i = (xs, false) := by unfold drX; rw [if_neg (fun h => hw h.1)]
    rw [hr]
    refine RunT.of_vc gOk Try.func62 rfl rfl (Nat.le_of_ble_eq_true rfl) (by repeat' (first | exact trivial | exact ⟨_, rfl, Nat.le_refl _⟩ | exact Nat.le_of_ble_eq_true rfl | refine And.intro ?_ ?_)) (Nat.le_of_ble_eq_true rfl) rfl (fun F hE => ?_)
    repeat' (first | exact trivial | refine BS.d (fun h => ?_) (fun h => ?_) | refine BS.e (fun h => ?_) (fun h => ?_) | refine BS.ne (fun h => ?_) (fun h => ?_) | refine BS.n ?_ | refine BS.s (fun h => ?_) (fun h => ?_) | refine And.intro ?_ ?_ | (refine Need.mk ?_; first | with_reducible rfl | (show @Eq TC _ _; rfl) | omega | (simp only [adN_zero]; omega)) | exact OutS.whole rfl rfl | (refine OpK.call c1 rfl rfl rfl rfl hE ?_ rfl rfl ?_; focus ((repeat' (first | exact PsA.lit _ | exact PsA.ref rfl rfl | constructor)); all_goals (fail "ps"))) | (refine OpK.call c2 rfl rfl rfl rfl hE ?_ rfl rfl ?_; focus ((repeat' (first | exact PsA.lit _ | exact PsA.ref rfl rfl | constructor)); all_goals (fail "ps"))) | (refine OpK.call c3 rfl rfl rfl rfl hE ?_ rfl rfl ?_; focus ((repeat' (first | exact PsA.lit _ | exact PsA.ref rfl rfl | constructor)); all_goals (fail "ps"))) | refine ListO.go gOk hE ?_)
    all_goals first | exact Need.mk rfl | exact OutS.whole rfl rfl | (exfalso; exact hw ⟨‹_›, ‹_›⟩) | (exfalso; simp_all; done) | trace_state
end Go.Proofs.Ytlmmmeknilgdhaa
end
