import Derived.Test.YtofdaaajbkjocaaMG
namespace Go.Proofs.Ytofdaaajbkjocaa
open Go Go.Tr
set_option maxRecDepth 100000
set_option maxHeartbeats 4000000
set_option linter.unusedVariables false
set_option linter.unusedSimpArgs false
theorem szJ_le {α : Type} {xs : List α} {m : Int} (h : ¬ szJ xs m < 0) : (xs.length : Int) ≤ m ∧ szJ xs m = m - xs.length := by
  unfold szJ at h ⊢; split at h <;> split <;> omega
theorem getD_leR {α : Type} {xs : List (List α)} {m : Nat} (h : ∀ x ∈ xs, x.length ≤ m) (i : Nat) : (xs.getD i []).length ≤ m := by
  by_cases hi : i < xs.length
  · have : xs.getD i [] = xs[i] := by simp [List.getD, hi]
    rw [this]; exact h _ (List.getElem_mem hi)
  · simp [List.getD, hi]
theorem szPinS_run (e : Nat) (xs : List PinT) (m : Int) (h0 : 0 ≤ m) (h1 : m ≤ 1048576) (hn : xs.length ≤ 9223372036854775807) : RunT Try.prog 55 [.one (.c (tPin e xs)), ti m] [] [oi (szJ xs m)] [] := by
  refine RunT.of_vc gOk Try.func55 rfl rfl (Nat.le_of_ble_eq_true rfl) (by repeat' (first | exact trivial | exact ⟨_, rfl, Nat.le_refl _⟩ | exact Nat.le_of_ble_eq_true rfl | refine And.intro ?_ ?_)) (Nat.le_of_ble_eq_true rfl) rfl (fun F hE => ?_)
  repeat' (first | exact trivial | refine BS.d (fun h => ?_) (fun h => ?_) | refine BS.e (fun h => ?_) (fun h => ?_) | refine BS.ne (fun h => ?_) (fun h => ?_) | refine BS.n ?_ | refine BS.s (fun h => ?_) (fun h => ?_) | refine And.intro ?_ ?_ | (refine Need.mk ?_; first | with_reducible rfl | (show @Eq TC _ _; rfl) | omega | (simp only [adN_zero]; omega)) | exact OutS.whole rfl rfl)
  all_goals (refine Need.mk ?_; unfold szJ; first | rw [if_pos (by omega)] | rw [if_neg (by omega)])
theorem toPin_run (x : PinT) : RunT Try.prog 69 [aPin x] [] [oPin x] [] := by
  refine RunT.of_vc gOk Try.func69 rfl rfl (Nat.le_of_ble_eq_true rfl) (by repeat' (first | exact trivial | exact ⟨_, rfl, Nat.le_refl _⟩ | exact Nat.le_of_ble_eq_true rfl | refine And.intro ?_ ?_)) (Nat.le_of_ble_eq_true rfl) rfl (fun F hE => ?_)
  repeat' (first | exact trivial | refine BS.d (fun h => ?_) (fun h => ?_) | refine BS.e (fun h => ?_) (fun h => ?_) | refine BS.ne (fun h => ?_) (fun h => ?_) | refine BS.n ?_ | refine BS.s (fun h => ?_) (fun h => ?_) | refine And.intro ?_ ?_ | (refine Need.mk ?_; first | with_reducible rfl | (show @Eq TC _ _; rfl) | omega | (simp only [adN_zero]; omega)) | exact OutS.whole rfl rfl)
theorem eqPin_run (x : PinT) : RunT Try.prog 71 [aPin x, aPin x] [] [ob true] [] := by
  refine RunT.of_vc gOk Try.func71 rfl rfl (Nat.le_of_ble_eq_true rfl) (by repeat' (first | exact trivial | exact ⟨_, rfl, Nat.le_refl _⟩ | exact Nat.le_of_ble_eq_true rfl | refine And.intro ?_ ?_)) (Nat.le_of_ble_eq_true rfl) rfl (fun F hE => ?_)
  repeat' (first | exact trivial | refine BS.d (fun h => ?_) (fun h => ?_) | refine BS.e (fun h => ?_) (fun h => ?_) | refine BS.ne (fun h => ?_) (fun h => ?_) | refine BS.n ?_ | refine BS.s (fun h => ?_) (fun h => ?_) | refine And.intro ?_ ?_ | (refine Need.mk ?_; first | with_reducible rfl | (show @Eq TC _ _; rfl) | omega | (simp only [adN_zero]; omega)) | exact OutS.whole rfl rfl)
  all_goals exact absurd rfl h
theorem toPinS_run (e : Nat) (xs : List PinT) (hn : xs.length ≤ 1048576) : RunT Try.prog 57 [.one (.c (tPin e xs))] [] [.one (tPin 95 xs)] [] := by
  refine RunT.of_vc gOk Try.func57 rfl rfl (Nat.le_of_ble_eq_true rfl) (by repeat' (first | exact trivial | exact ⟨_, rfl, Nat.le_refl _⟩ | exact Nat.le_of_ble_eq_true rfl | refine And.intro ?_ ?_)) (Nat.le_of_ble_eq_true rfl) rfl (fun F hE => ?_)
  repeat' (first | exact trivial | refine BS.d (fun h => ?_) (fun h => ?_) | refine BS.e (fun h => ?_) (fun h => ?_) | refine BS.ne (fun h => ?_) (fun h => ?_) | refine BS.n ?_ | refine BS.s (fun h => ?_) (fun h => ?_) | refine And.intro ?_ ?_ | (refine Need.mk ?_; first | with_reducible rfl | (show @Eq TC _ _; rfl) | omega | (simp only [adN_zero]; omega)) | exact OutS.whole rfl rfl)
  refine CodeK.loop gOk hE (fun i : Nat => ⟨[(0, vr 1000000 xs.length), (3, vr 7 xs.length), (4, vi i)], [(7, rPin .own true 95 (fl zPin xs i)), (1000000, rPin .fro false e xs)]⟩) (fun i => i ≤ xs.length) (fun i => xs.length - i) 0 (by refine leT.of ?_ ?_ rfl <;> repeat' (first | exact trivial | refine And.intro rfl ?_ | refine And.intro (by simp [fl_zero] <;> rfl) ?_)) (Nat.zero_le _) ?_
  rintro i hi
  have hl := fl_len zPin xs i hi
  repeat' (first | exact trivial | refine BS.d (fun h => ?_) (fun h => ?_) | refine BS.e (fun h => ?_) (fun h => ?_) | refine BS.ne (fun h => ?_) (fun h => ?_) | refine BS.n ?_ | refine BS.s (fun h => ?_) (fun h => ?_) | refine And.intro ?_ ?_ | (refine Need.mk ?_; first | with_reducible rfl | (show @Eq TC _ _; rfl) | omega | (simp only [adN_zero]; omega)) | exact OutS.whole rfl rfl)
  · refine OpK.call (toPin_run (xs.getD i zPin)) rfl rfl rfl rfl hE (by repeat' (first | exact PsA.lit _ | exact PsA.ref rfl rfl | constructor)) rfl rfl ?_
    repeat' (first | exact trivial | refine BS.d (fun h => ?_) (fun h => ?_) | refine BS.e (fun h => ?_) (fun h => ?_) | refine BS.ne (fun h => ?_) (fun h => ?_) | refine BS.n ?_ | refine BS.s (fun h => ?_) (fun h => ?_) | refine And.intro ?_ ?_ | (refine Need.mk ?_; first | with_reducible rfl | (show @Eq TC _ _; rfl) | omega | (simp only [adN_zero]; omega)) | exact OutS.whole rfl rfl)
    all_goals (refine ⟨i + 1, (by refine leT.of ?_ ?_ rfl <;> repeat' (first | exact trivial | refine And.intro rfl ?_ | refine And.intro (by first | (rw [← fl_set zPin xs i (by omega)]; rfl) | (simp <;> rfl)) ?_)), ?_⟩; (refine And.intro ?_ ?_) <;> (first | omega | (dsimp only; omega) | trivial))
  · exact OutS.whole hl.symm (by rw [fl_full _ _ _ (by omega) hi]; rfl)
theorem eqPinS_run (e : Nat) (xs : List PinT) (hn : xs.length ≤ 4000000) : RunT Try.prog 63 [.one (.c (tPin e xs)), .one (.c (tPin e xs))] [] [ob true] [] := by
  refine RunT.of_vc gOk Try.func63 rfl rfl (Nat.le_of_ble_eq_true rfl) (by repeat' (first | exact trivial | exact ⟨_, rfl, Nat.le_refl _⟩ | exact Nat.le_of_ble_eq_true rfl | refine And.intro ?_ ?_)) (Nat.le_of_ble_eq_true rfl) rfl (fun F hE => ?_)
  repeat' (first | exact trivial | refine BS.d (fun h => ?_) (fun h => ?_) | refine BS.e (fun h => ?_) (fun h => ?_) | refine BS.ne (fun h => ?_) (fun h => ?_) | refine BS.n ?_ | refine BS.s (fun h => ?_) (fun h => ?_) | refine And.intro ?_ ?_ | (refine Need.mk ?_; first | with_reducible rfl | (show @Eq TC _ _; rfl) | omega | (simp only [adN_zero]; omega)) | exact OutS.whole rfl rfl)
  · refine CodeK.loop gOk hE (fun i : Nat => ⟨[(0, vr 1000000 xs.length), (1, vr 1000001 xs.length), (5, vi i)], [(1000000, rPin .fro false e xs), (1000001, rPin .fro false e xs)]⟩) (fun i => i ≤ xs.length) (fun i => xs.length - i) 0 (by refine leT.of ?_ ?_ rfl <;> repeat' (first | exact trivial | refine And.intro rfl ?_ | refine And.intro (by simp) ?_)) (Nat.zero_le _) ?_
    rintro i hi
    repeat' (first | exact trivial | refine BS.d (fun h => ?_) (fun h => ?_) | refine BS.e (fun h => ?_) (fun h => ?_) | refine BS.ne (fun h => ?_) (fun h => ?_) | refine BS.n ?_ | refine BS.s (fun h => ?_) (fun h => ?_) | refine And.intro ?_ ?_ | (refine Need.mk ?_; first | with_reducible rfl | (show @Eq TC _ _; rfl) | omega | (simp only [adN_zero]; omega)) | exact OutS.whole rfl rfl)
    · refine CodeK.draw gOk hE rfl (fun _ _ h => h) (.take 0 (.take 1 (.take 2 (.take 4 (.take 5 (.take 6 (.alt 3 (.alt 7 (.alt 8 (.take 9 .done) .stop) .stop) (.alt 7 (.alt 3 (.alt 8 (.take 9 .done) .stop) .stop) .stop)))))))) (by decide +kernel) ?_
      repeat' (first | exact trivial | refine BS.d (fun h => ?_) (fun h => ?_) | refine BS.e (fun h => ?_) (fun h => ?_) | refine BS.ne (fun h => ?_) (fun h => ?_) | refine BS.n ?_ | refine BS.s (fun h => ?_) (fun h => ?_) | refine And.intro ?_ ?_ | (refine Need.mk ?_; first | with_reducible rfl | (show @Eq TC _ _; rfl) | omega | (simp only [adN_zero]; omega)) | exact OutS.whole rfl rfl)
      all_goals (refine OpK.call (eqPin_run _) rfl rfl rfl rfl hE (by repeat' (first | exact PsA.lit _ | exact PsA.ref rfl rfl | constructor)) rfl rfl ?_)
      all_goals (repeat' (first | exact trivial | refine BS.d (fun h => ?_) (fun h => ?_) | refine BS.e (fun h => ?_) (fun h => ?_) | refine BS.ne (fun h => ?_) (fun h => ?_) | refine BS.n ?_ | refine BS.s (fun h => ?_) (fun h => ?_) | refine And.intro ?_ ?_ | (refine Need.mk ?_; first | with_reducible rfl | (show @Eq TC _ _; rfl) | omega | (simp only [adN_zero]; omega)) | exact OutS.whole rfl rfl))
      all_goals (refine ⟨i + 1, (by refine leT.of ?_ ?_ rfl <;> repeat' (first | exact trivial | refine And.intro rfl ?_ | refine And.intro (by simp) ?_)), ?_⟩; (refine And.intro ?_ ?_) <;> (first | omega | (dsimp only; omega) | trivial))
theorem Pins_of {e e' n : Nat} {row : Nat → Nat → C} (hn : n ≤ 9223372036854775807) (h : ∀ i r t, i < n → ([Dt.b, Dt.i, Dt.b, Dt.i] : List Dt)[r]? = some t → DtOk t (row i r)) : ∃ xs : List PinT, xs.length = n ∧ (∀ x ∈ xs, True ∧ (-9223372036854775808 ≤ x.2.1 ∧ x.2.1 ≤ 9223372036854775807) ∧ True ∧ (-9223372036854775808 ≤ x.2.2.2 ∧ x.2.2.2 ≤ 9223372036854775807)) ∧ CSame (.sl .fro e 4 n row) ((tPin e' xs).er .fro) :=
  list_of decPin zPin 4 (fun f hf => by
    obtain ⟨z0, hz0⟩ := (hf 0 .b rfl).bool
    obtain ⟨z1, hz1, w1⟩ := (hf 1 .i rfl).int
    obtain ⟨z2, hz2⟩ := (hf 2 .b rfl).bool
    obtain ⟨z3, hz3, w3⟩ := (hf 3 .i rfl).int
    refine ⟨(z0, z1, z2, z3), ⟨trivial, w1, trivial, w3⟩, fun r hr => ?_⟩
    match r, hr with
    | 0, _ => rw [hz0]; exact rfl
    | 1, _ => rw [hz1]; exact rfl
    | 2, _ => rw [hz2]; exact rfl
    | 3, _ => rw [hz3]; exact rfl
    ) h
theorem Pin_eq (p q : PinT) (w : World) : (Op.equalIn 10000 95 (.agg (vPin p).toArray) (.agg (vPin q).toArray)).run Try.prog w = .ok (decide (p = q)) w := by
  have u3 := Try.underlying3
  have u4 := Try.underlying4
  obtain ⟨p0, p1, p2, p3⟩ := p
  obtain ⟨q0, q1, q2, q3⟩ := q
  have hS : Try.prog.underlying 95 = some (.struct (Try.prog.fieldsOf 95)) := by kernel_rfl
  rw [show (10000 : Nat) = 9999 + 1 from rfl, run_equalIn_agg w 9999 95 _ _ hS (by kernel_rfl)]
  simp only [Program.fieldsOf, Try.underlying95]
  go_simp
  by_cases h0 : p0 = q0 <;> by_cases h1 : p1 = q1 <;> by_cases h2 : p2 = q2 <;> by_cases h3 : p3 = q3 <;> simp [h0, h1, h2, h3]
abbrev aClk (E : Int) (e : Nat) (ps : List PinT) : TAg := .agg [.c (.lit (.int .i64 E)), .c (tPin e ps)]
theorem szClock_run (E : Int) (e : Nat) (ps : List PinT) (m : Int) (h0 : 0 ≤ m) (h1 : m ≤ 1048576) (hn : ps.length ≤ 9223372036854775807) : RunT Try.prog 34 [aClk E e ps, ti m] [] [oi (szJ ps m)] [] := by
  have c0 := szPinS_run e ps m h0 h1 hn
  refine RunT.of_vc gOk Try.func34 rfl rfl (Nat.le_of_ble_eq_true rfl) (by repeat' (first | exact trivial | exact ⟨_, rfl, Nat.le_refl _⟩ | exact Nat.le_of_ble_eq_true rfl | refine And.intro ?_ ?_)) (Nat.le_of_ble_eq_true rfl) rfl (fun F hE => ?_)
  repeat' (first | exact trivial | refine BS.d (fun h => ?_) (fun h => ?_) | refine BS.e (fun h => ?_) (fun h => ?_) | refine BS.ne (fun h => ?_) (fun h => ?_) | refine BS.n ?_ | refine BS.s (fun h => ?_) (fun h => ?_) | refine And.intro ?_ ?_ | (refine Need.mk ?_; first | with_reducible rfl | (show @Eq TC _ _; rfl) | omega | (simp only [adN_zero]; omega)) | exact OutS.whole rfl rfl | (refine OpK.call c0 rfl rfl rfl rfl hE ?_ rfl rfl ?_; focus ((repeat' (first | exact PsA.lit _ | exact PsA.ref rfl rfl | constructor)); all_goals (fail "ps"))))
  all_goals (refine Need.mk ?_; unfold szJ at *; split at * <;> simp_all <;> omega)
theorem toClock_run (E : Int) (e : Nat) (ps : List PinT) (hn : ps.length ≤ 1048576) : RunT Try.prog 40 [aClk E e ps] [] [.agg [.lit (.int .i64 E), tPin 95 ps]] [] := by
  have c0 := toPinS_run e ps hn
  refine RunT.of_vc gOk Try.func40 rfl rfl (Nat.le_of_ble_eq_true rfl) (by repeat' (first | exact trivial | exact ⟨_, rfl, Nat.le_refl _⟩ | exact Nat.le_of_ble_eq_true rfl | refine And.intro ?_ ?_)) (Nat.le_of_ble_eq_true rfl) rfl (fun F hE => ?_)
  repeat' (first | exact trivial | refine BS.d (fun h => ?_) (fun h => ?_) | refine BS.e (fun h => ?_) (fun h => ?_) | refine BS.ne (fun h => ?_) (fun h => ?_) | refine BS.n ?_ | refine BS.s (fun h => ?_) (fun h => ?_) | refine And.intro ?_ ?_ | (refine Need.mk ?_; first | with_reducible rfl | (show @Eq TC _ _; rfl) | omega | (simp only [adN_zero]; omega)) | exact OutS.whole rfl rfl | (refine OpK.call c0 rfl rfl rfl rfl hE ?_ rfl rfl ?_; focus ((repeat' (first | exact PsA.lit _ | exact PsA.ref rfl rfl | constructor)); all_goals (fail "ps"))))
theorem eqClock_run (E : Int) (e : Nat) (ps : List PinT) (hn : ps.length ≤ 4000000) : RunT Try.prog 46 [aClk E e ps, aClk E e ps] [] [ob true] [] := by
  have c0 := eqPinS_run e ps hn
  refine RunT.of_vc gOk Try.func46 rfl rfl (Nat.le_of_ble_eq_true rfl) (by repeat' (first | exact trivial | exact ⟨_, rfl, Nat.le_refl _⟩ | exact Nat.le_of_ble_eq_true rfl | refine And.intro ?_ ?_)) (Nat.le_of_ble_eq_true rfl) rfl (fun F hE => ?_)
  repeat' (first | exact trivial | refine BS.d (fun h => ?_) (fun h => ?_) | refine BS.e (fun h => ?_) (fun h => ?_) | refine BS.ne (fun h => ?_) (fun h => ?_) | refine BS.n ?_ | refine BS.s (fun h => ?_) (fun h => ?_) | refine And.intro ?_ ?_ | (refine Need.mk ?_; first | with_reducible rfl | (show @Eq TC _ _; rfl) | omega | (simp only [adN_zero]; omega)) | exact OutS.whole rfl rfl | (refine OpK.call c0 rfl rfl rfl rfl hE ?_ rfl rfl ?_; focus ((repeat' (first | exact PsA.lit _ | exact PsA.ref rfl rfl | constructor)); all_goals (fail "ps"))))
  all_goals (first | exact absurd rfl ‹_› | simp_all)
theorem EqualPin_run (e e' : Nat) (xs ys : List PinT) (hn : xs.length ≤ 1048576) (hn' : ys.length ≤ 1048576) : RunT Try.prog 59 [.one (.c (tPin e xs)), .one (.c (tPin e' ys))] [] [ob (decide (xs = ys))] [] := by
  refine RunT.of_vc gOk Try.func59 rfl rfl (Nat.le_of_ble_eq_true rfl) (by repeat' (first | exact trivial | exact ⟨_, rfl, Nat.le_refl _⟩ | exact Nat.le_of_ble_eq_true rfl | refine And.intro ?_ ?_)) (Nat.le_of_ble_eq_true rfl) rfl (fun F hE => ?_)
  repeat' (first | exact trivial | refine BS.d (fun h => ?_) (fun h => ?_) | refine BS.e (fun h => ?_) (fun h => ?_) | refine BS.ne (fun h => ?_) (fun h => ?_) | refine BS.n ?_ | refine BS.s (fun h => ?_) (fun h => ?_) | refine And.intro ?_ ?_ | (refine Need.mk ?_; first | with_reducible rfl | (show @Eq TC _ _; rfl) | omega | (simp only [adN_zero]; omega)) | exact OutS.whole rfl rfl)
  · refine Need.mk ?_
    rw [decide_eq_false (fun e => by subst e; omega)]
  · refine CodeK.loop gOk hE (fun i : Nat => ⟨[(0, vr 1000000 xs.length), (1, vr 1000001 ys.length), (12, vi xs.length), (13, vi i)], [(1000000, rPin .fro false e xs), (1000001, rPin .fro false e' ys)]⟩) (fun i => i ≤ xs.length ∧ decide (xs = ys) = decide (xs.drop i = ys.drop i)) (fun i => xs.length - i) 0 (by refine leT.of ?_ ?_ rfl <;> repeat' (first | exact trivial | refine And.intro rfl ?_ | refine And.intro (by simp) ?_)) ⟨Nat.zero_le _, rfl⟩ ?_
    rintro i ⟨hi, hs⟩
    have hl : xs.length = ys.length := by omega
    repeat' (first | exact trivial | refine BS.d (fun h => ?_) (fun h => ?_) | refine BS.e (fun h => ?_) (fun h => ?_) | refine BS.ne (fun h => ?_) (fun h => ?_) | refine BS.n ?_ | refine BS.s (fun h => ?_) (fun h => ?_) | refine And.intro ?_ ?_ | (refine Need.mk ?_; first | with_reducible rfl | (show @Eq TC _ _; rfl) | omega | (simp only [adN_zero]; omega)) | exact OutS.whole rfl rfl)
    · have hc := drop_eq zPin hl (i := i) (by omega)
      refine CodeK.draw gOk hE rfl (fun _ _ h => h) (.take 0 (.take 1 (.take 2 (.take 4 (.take 5 (.take 6 (.alt 3 (.alt 7 (.take 8 .done) .stop) (.alt 7 (.alt 3 (.take 8 .done) .stop) .stop)))))))) (by decide +kernel) ?_
      repeat' (first | exact trivial | refine BS.d (fun h => ?_) (fun h => ?_) | refine BS.e (fun h => ?_) (fun h => ?_) | refine BS.ne (fun h => ?_) (fun h => ?_) | refine BS.n ?_ | refine BS.s (fun h => ?_) (fun h => ?_) | refine And.intro ?_ ?_ | (refine Need.mk ?_; first | with_reducible rfl | (show @Eq TC _ _; rfl) | omega | (simp only [adN_zero]; omega)) | exact OutS.whole rfl rfl | (refine PK.neA (vPin (xs.getD i zPin)) (vPin (ys.getD i zPin)) rfl rfl rfl rfl rfl (by kernel_rfl) (Pin_eq _ _) ?_))
      (
          all_goals (try simp only [adN_zero] at *)
          all_goals (first
            | (refine Need.mk ?_; first | (rw [hs, hc, decide_eq_false ‹_ ≠ _›]; rfl) | (rw [hs, hc]; simp_all) | (rw [hs, List.drop_eq_nil_of_le (by omega), List.drop_eq_nil_of_le (by omega)]; rfl) | (simp_all; done))
            | (refine ⟨i + 1, (by refine leT.of ?_ ?_ rfl <;> repeat' (first | exact trivial | refine And.intro rfl ?_ | refine And.intro (by simp) ?_)), ⟨by omega, by rw [hs, hc]; simp_all⟩, by first | omega | (dsimp only; omega)⟩)))
    · refine Need.mk ?_
      rw [hs, List.drop_eq_nil_of_le (by omega), List.drop_eq_nil_of_le (by omega)]; rfl
theorem SameClockI_run (E E' : Int) (e e' : Nat) (xs ys : List PinT) (hn : xs.length ≤ 1048576) (hn' : ys.length ≤ 1048576) : RunT Try.prog 43 [aClk E e xs, aClk E' e' ys] [] [ob (decide (E = E') && decide (xs = ys))] [] := by
  have c1 := EqualPin_run e e' xs ys hn hn'
  refine RunT.of_vc gOk Try.func43 rfl rfl (Nat.le_of_ble_eq_true rfl) (by repeat' (first | exact trivial | exact ⟨_, rfl, Nat.le_refl _⟩ | exact Nat.le_of_ble_eq_true rfl | refine And.intro ?_ ?_)) (Nat.le_of_ble_eq_true rfl) rfl (fun F hE => ?_)
  repeat' (first | exact trivial | refine BS.d (fun h => ?_) (fun h => ?_) | refine BS.e (fun h => ?_) (fun h => ?_) | refine BS.ne (fun h => ?_) (fun h => ?_) | refine BS.n ?_ | refine BS.s (fun h => ?_) (fun h => ?_) | refine And.intro ?_ ?_ | (refine Need.mk ?_; first | with_reducible rfl | (show @Eq TC _ _; rfl) | omega | (simp only [adN_zero]; omega)) | exact OutS.whole rfl rfl | (refine OpK.call c1 rfl rfl rfl rfl hE ?_ rfl rfl ?_; focus ((repeat' (first | exact PsA.lit _ | exact PsA.ref rfl rfl | constructor)); all_goals (fail "ps"))))
  all_goals (refine Need.mk ?_; simp_all)
theorem SameClockS_run (E E' : Int) (e e' : Nat) (xs ys : List PinT) (hn : xs.length ≤ 1048576) (hn' : ys.length ≤ 1048576) : RunT Try.prog 37 [aClk E e xs, aClk E' e' ys] [] [ob (decide (E = E') && decide (xs = ys))] [] := by
  refine RunT.of_vc gOk Try.func37 rfl rfl (Nat.le_of_ble_eq_true rfl) (by repeat' (first | exact trivial | exact ⟨_, rfl, Nat.le_refl _⟩ | exact Nat.le_of_ble_eq_true rfl | refine And.intro ?_ ?_)) (Nat.le_of_ble_eq_true rfl) rfl (fun F hE => ?_)
  repeat' (first | exact trivial | refine BS.d (fun h => ?_) (fun h => ?_) | refine BS.e (fun h => ?_) (fun h => ?_) | refine BS.ne (fun h => ?_) (fun h => ?_) | refine BS.n ?_ | refine BS.s (fun h => ?_) (fun h => ?_) | refine And.intro ?_ ?_ | (refine Need.mk ?_; first | with_reducible rfl | (show @Eq TC _ _; rfl) | omega | (simp only [adN_zero]; omega)) | exact OutS.whole rfl rfl)
  all_goals first
    | (refine Need.mk ?_; have hne : ¬ (E = E' ∧ xs = ys) := (fun e => by obtain ⟨e1, e2⟩ := e; subst e2; simp_all); rw [← Bool.decide_and, decide_eq_false hne]; done)
    | skip
  all_goals refine CodeK.loop gOk hE (fun i : Nat => ⟨[(2, .ptr 2 0 0), (3, .ptr 3 0 0), (5, vi i)], [(2, .box 55 [.cl (.lit (.int .i64 E)), .ref 1000000 0 xs.length]), (3, .box 55 [.cl (.lit (.int .i64 E')), .ref 1000001 0 ys.length]), (1000000, rPin .fro false e xs), (1000001, rPin .fro false e' ys)]⟩) (fun i => i ≤ xs.length ∧ decide (xs = ys) = decide (xs.drop i = ys.drop i)) (fun i => xs.length - i) 0 (by refine leT.of ?_ ?_ rfl <;> repeat' (first | exact trivial | refine And.intro rfl ?_ | refine And.intro (by simp) ?_)) ⟨Nat.zero_le _, rfl⟩ ?_
  all_goals rintro i ⟨hi, hs⟩
  all_goals have hEE : E = E' := by assumption
  all_goals have hl : xs.length = ys.length := by omega
  all_goals rw [decide_eq_true hEE, Bool.true_and]
  all_goals rcases Nat.lt_or_ge i xs.length with hlt | hge
  · have hc := drop_eq zPin hl (i := i) (by omega)
    repeat' (first | exact trivial | refine BS.d (fun h => ?_) (fun h => ?_) | refine BS.e (fun h => ?_) (fun h => ?_) | refine BS.ne (fun h => ?_) (fun h => ?_) | refine BS.n ?_ | refine BS.s (fun h => ?_) (fun h => ?_) | refine And.intro ?_ ?_ | (refine Need.mk ?_; first | with_reducible rfl | (show @Eq TC _ _; rfl) | omega | (simp only [adN_zero]; omega)) | exact OutS.whole rfl rfl | (refine CodeK.draw gOk hE rfl (fun _ _ h => h) (.take 0 (.take 2 (.take 5 (.take 7 (.alt 1 (.take 3 (.alt 4 (.alt 6 (.take 8 (.alt 9 (.take 10 .done) .stop)) .stop) (.alt 6 (.take 8 (.alt 4 (.alt 9 (.take 10 .done) .stop) (.alt 9 (.alt 4 (.take 10 .done) .stop) .stop))) .stop))) (.alt 6 (.take 8 (.alt 1 (.take 3 (.alt 4 (.alt 9 (.take 10 .done) .stop) (.alt 9 (.alt 4 (.take 10 .done) .stop) .stop))) (.alt 9 (.alt 1 (.take 3 (.alt 4 (.take 10 .done) .stop)) .stop) .stop))) .stop)))))) ?_ ?_; focus (decide +kernel)) | (refine PK.neA (vPin (xs.getD i zPin)) (vPin (ys.getD i zPin)) rfl rfl rfl rfl rfl (by kernel_rfl) (Pin_eq _ _) ?_))
    all_goals (try simp only [adN_zero] at *)
    all_goals first
      | (exfalso; omega)
      | (refine Need.mk ?_; omega)
      | (refine Need.mk ?_; rw [hs, hc, decide_eq_false (by assumption)]; rfl)
      | (refine ⟨i + 1, (by refine leT.of ?_ ?_ rfl <;> repeat' (first | exact trivial | refine And.intro rfl ?_ | refine And.intro (by simp) ?_)), ⟨by omega, by rw [hs, hc, decide_eq_true (by assumption)]; rfl⟩, by first | omega | (dsimp only; omega)⟩)
      | trace_state
  · repeat' (first | exact trivial | refine BS.d (fun h => ?_) (fun h => ?_) | refine BS.e (fun h => ?_) (fun h => ?_) | refine BS.ne (fun h => ?_) (fun h => ?_) | refine BS.n ?_ | refine BS.s (fun h => ?_) (fun h => ?_) | refine And.intro ?_ ?_ | (refine Need.mk ?_; first | with_reducible rfl | (show @Eq TC _ _; rfl) | omega | (simp only [adN_zero]; omega)) | exact OutS.whole rfl rfl)
    all_goals first
      | (exfalso; omega)
      | (refine Need.mk ?_; rw [hs, List.drop_eq_nil_of_le (by omega), List.drop_eq_nil_of_le (by omega)]; rfl)
end Go.Proofs.Ytofdaaajbkjocaa
