import Derived.Test.YtofdaaajbkjocaaMF
namespace Go.Proofs.Ytofdaaajbkjocaa
open Go Go.Tr
set_option maxRecDepth 100000
set_option maxHeartbeats 4000000
set_option linter.unusedVariables false
set_option linter.unusedSimpArgs false
theorem rows_of {e e' n : Nat} {row : Nat → Nat → C} (hn : n ≤ 9223372036854775807) (h : ∀ i r t, i < n → ([Dt.i, Dt.i] : List Dt)[r]? = some t → DtOk t (row i r)) : ∃ xs : List Row, xs.length = n ∧ (∀ x ∈ xs, (-9223372036854775808 ≤ x.1 ∧ x.1 ≤ 9223372036854775807) ∧ -9223372036854775808 ≤ x.2 ∧ x.2 ≤ 9223372036854775807) ∧ CSame (.sl .fro e 2 n row) ((tR e' xs).er .fro) :=
  list_of decR (0, 0) 2 (fun f hf => by
    obtain ⟨z, hz, h1, h2⟩ := (hf 0 .i rfl).int
    obtain ⟨y, hy, h3, h4⟩ := (hf 1 .i rfl).int
    refine ⟨(z, y), ⟨⟨h1, h2⟩, h3, h4⟩, fun r hr => ?_⟩
    match r, hr with
    | 0, _ => rw [hz]; exact rfl
    | 1, _ => rw [hy]; exact rfl) h
theorem llists_of {e e' e2 n : Nat} {row : Nat → Nat → C} (hn : n ≤ 9223372036854775807) (h : ∀ i r t, i < n → ([Dt.sl [.i, .i]] : List Dt)[r]? = some t → DtOk t (row i r)) : ∃ xs : List (List Row), xs.length = n ∧ (∀ x ∈ xs, x.length ≤ 9223372036854775807 ∧ ∀ z ∈ x, (-9223372036854775808 ≤ z.1 ∧ z.1 ≤ 9223372036854775807) ∧ -9223372036854775808 ≤ z.2 ∧ z.2 ≤ 9223372036854775807) ∧ CSame (.sl .fro e 1 n row) ((tLL e2 e' xs).er .fro) :=
  list_of decLL [] 1 (fun f hf => by
    obtain ⟨e3, n2, row2, hz, h1, h2⟩ := (hf 0 (.sl [.i, .i]) rfl).slice
    obtain ⟨xs, k1, k2, k3⟩ := rows_of (e := e3) (e' := e2) h1 h2
    refine ⟨xs, ⟨by omega, k2⟩, fun r hr => ?_⟩
    obtain rfl : r = 0 := by omega
    rw [hz]; exact k3) h
abbrev vRow (x : Row) : List Value := [Value.int .i64 x.1, .int .i64 x.2]
theorem Row_eq (p q : Row) (w : World) : (Op.equalIn 10000 88 (.agg (vRow p).toArray) (.agg (vRow q).toArray)).run Try.prog w = .ok (decide (p = q)) w := by
  have u3 := Try.underlying3
  obtain ⟨p0, p1⟩ := p
  obtain ⟨q0, q1⟩ := q
  have hS : Try.prog.underlying 88 = some (.struct (Try.prog.fieldsOf 88)) := by kernel_rfl
  rw [show (10000 : Nat) = 9999 + 1 from rfl, run_equalIn_agg w 9999 88 _ _ hS (by kernel_rfl)]
  simp only [Program.fieldsOf, Try.underlying88]
  go_simp
  by_cases h0 : p0 = q0 <;> by_cases h1 : p1 = q1 <;> simp [h0, h1]
theorem EqualRow_run (e e' : Nat) (xs ys : List Row) (hn : xs.length ≤ 1048576) (hn' : ys.length ≤ 1048576) : RunT Try.prog 62 [.one (.c (tR e xs)), .one (.c (tR e' ys))] [] [ob (decide (xs = ys))] [] := by
  refine RunT.of_vc gOk Try.func62 rfl rfl (Nat.le_of_ble_eq_true rfl) (by repeat' (first | exact trivial | exact ⟨_, rfl, Nat.le_refl _⟩ | exact Nat.le_of_ble_eq_true rfl | refine And.intro ?_ ?_)) (Nat.le_of_ble_eq_true rfl) rfl (fun F hE => ?_)
  repeat' (first | exact trivial | refine BS.d (fun h => ?_) (fun h => ?_) | refine BS.e (fun h => ?_) (fun h => ?_) | refine BS.ne (fun h => ?_) (fun h => ?_) | refine BS.n ?_ | refine BS.s (fun h => ?_) (fun h => ?_) | refine And.intro ?_ ?_ | (refine Need.mk ?_; first | with_reducible rfl | (show @Eq TC _ _; rfl) | omega | (simp only [adN_zero]; omega)) | exact OutS.whole rfl rfl)
  · refine Need.mk ?_
    rw [decide_eq_false (fun e => by subst e; omega)]
  · refine CodeK.loop gOk hE (fun i : Nat => ⟨[(0, vr 1000000 xs.length), (1, vr 1000001 ys.length), (12, vi xs.length), (13, vi i)], [(1000000, rR .fro false e xs), (1000001, rR .fro false e' ys)]⟩) (fun i => i ≤ xs.length ∧ decide (xs = ys) = decide (xs.drop i = ys.drop i)) (fun i => xs.length - i) 0 (by refine leT.of ?_ ?_ rfl <;> repeat' (first | exact trivial | refine And.intro rfl ?_ | refine And.intro (by simp) ?_)) ⟨Nat.zero_le _, rfl⟩ ?_
    rintro i ⟨hi, hs⟩
    have hl : xs.length = ys.length := by omega
    repeat' (first | exact trivial | refine BS.d (fun h => ?_) (fun h => ?_) | refine BS.e (fun h => ?_) (fun h => ?_) | refine BS.ne (fun h => ?_) (fun h => ?_) | refine BS.n ?_ | refine BS.s (fun h => ?_) (fun h => ?_) | refine And.intro ?_ ?_ | (refine Need.mk ?_; first | with_reducible rfl | (show @Eq TC _ _; rfl) | omega | (simp only [adN_zero]; omega)) | exact OutS.whole rfl rfl)
    · have hc := drop_eq (0, 0) hl (i := i) (by omega)
      refine CodeK.draw gOk hE rfl (fun _ _ h => h) (.take 0 (.take 1 (.take 2 (.take 4 (.take 5 (.take 6 (.alt 3 (.alt 7 (.take 8 .done) .stop) (.alt 7 (.alt 3 (.take 8 .done) .stop) .stop)))))))) (by decide +kernel) ?_
      repeat' (first | exact trivial | refine BS.d (fun h => ?_) (fun h => ?_) | refine BS.e (fun h => ?_) (fun h => ?_) | refine BS.ne (fun h => ?_) (fun h => ?_) | refine BS.n ?_ | refine BS.s (fun h => ?_) (fun h => ?_) | refine And.intro ?_ ?_ | (refine Need.mk ?_; first | with_reducible rfl | (show @Eq TC _ _; rfl) | omega | (simp only [adN_zero]; omega)) | exact OutS.whole rfl rfl | (refine PK.neA (vRow (xs.getD i (0, 0))) (vRow (ys.getD i (0, 0))) rfl rfl rfl rfl rfl (by kernel_rfl) (Row_eq _ _) ?_))
      (
          all_goals (try simp only [adN_zero] at *)
          all_goals (first
            | (refine Need.mk ?_; first | (rw [hs, hc, decide_eq_false ‹_ ≠ _›]; rfl) | (rw [hs, hc]; simp_all) | (rw [hs, List.drop_eq_nil_of_le (by omega), List.drop_eq_nil_of_le (by omega)]; rfl) | (simp_all; done))
            | (refine ⟨i + 1, (by refine leT.of ?_ ?_ rfl <;> repeat' (first | exact trivial | refine And.intro rfl ?_ | refine And.intro (by simp) ?_)), ⟨by omega, by rw [hs, hc]; simp_all⟩, by first | omega | (dsimp only; omega)⟩)))
    · refine Need.mk ?_
      rw [hs, List.drop_eq_nil_of_le (by omega), List.drop_eq_nil_of_le (by omega)]; rfl
theorem sameLL_run (e e' : Nat) (x y : List Row) (hx : x.length ≤ 1048576) (hy : y.length ≤ 1048576) : RunT Try.prog 61 [.agg [.c (tR e x)], .agg [.c (tR e' y)]] [] [ob (decide (x = y))] [] := by
  refine RunT.of_vc gOk Try.func61 rfl rfl (Nat.le_of_ble_eq_true rfl) (by repeat' (first | exact trivial | exact ⟨_, rfl, Nat.le_refl _⟩ | exact Nat.le_of_ble_eq_true rfl | refine And.intro ?_ ?_)) (Nat.le_of_ble_eq_true rfl) rfl (fun F hE => ?_)
  repeat' (first | exact trivial | refine BS.d (fun h => ?_) (fun h => ?_) | refine BS.e (fun h => ?_) (fun h => ?_) | refine BS.ne (fun h => ?_) (fun h => ?_) | refine BS.n ?_ | refine BS.s (fun h => ?_) (fun h => ?_) | refine And.intro ?_ ?_ | (refine Need.mk ?_; first | with_reducible rfl | (show @Eq TC _ _; rfl) | omega | (simp only [adN_zero]; omega)) | exact OutS.whole rfl rfl)
  refine OpK.call (EqualRow_run e e' x y hx hy) rfl rfl rfl rfl hE (by repeat' (first | exact PsA.lit _ | exact PsA.ref rfl rfl | constructor)) rfl rfl ?_
  repeat' (first | exact trivial | refine BS.d (fun h => ?_) (fun h => ?_) | refine BS.e (fun h => ?_) (fun h => ?_) | refine BS.ne (fun h => ?_) (fun h => ?_) | refine BS.n ?_ | refine BS.s (fun h => ?_) (fun h => ?_) | refine And.intro ?_ ?_ | (refine Need.mk ?_; first | with_reducible rfl | (show @Eq TC _ _; rfl) | omega | (simp only [adN_zero]; omega)) | exact OutS.whole rfl rfl)
theorem SameLimboI_run (e' e f' f : Nat) (xs ys : List (List Row)) (hn : xs.length ≤ 1048576) (hn' : ys.length ≤ 1048576) (hx : ∀ i, (xs.getD i []).length ≤ 1048576) (hy : ∀ i, (ys.getD i []).length ≤ 1048576) : RunT Try.prog 60 [.one (.c (tLL e' e xs)), .one (.c (tLL f' f ys)), .one (.c (.lit (.func (.func 61) #[] #[])))] [] [ob (decide (xs = ys))] [] := by
  refine RunT.of_vc gOk Try.func60 rfl rfl (Nat.le_of_ble_eq_true rfl) (by repeat' (first | exact trivial | exact ⟨_, rfl, Nat.le_refl _⟩ | exact Nat.le_of_ble_eq_true rfl | refine And.intro ?_ ?_)) (Nat.le_of_ble_eq_true rfl) rfl (fun F hE => ?_)
  repeat' (first | exact trivial | refine BS.d (fun h => ?_) (fun h => ?_) | refine BS.e (fun h => ?_) (fun h => ?_) | refine BS.ne (fun h => ?_) (fun h => ?_) | refine BS.n ?_ | refine BS.s (fun h => ?_) (fun h => ?_) | refine And.intro ?_ ?_ | (refine Need.mk ?_; first | with_reducible rfl | (show @Eq TC _ _; rfl) | omega | (simp only [adN_zero]; omega)) | exact OutS.whole rfl rfl)
  · refine Need.mk ?_
    rw [decide_eq_false (fun e => by subst e; omega)]
  · refine CodeK.loop gOk hE (fun i : Nat => ⟨[(0, vr 1000000 xs.length), (1, vr 1000001 ys.length), (2, .a (.lit (.func (.func 61) #[] #[]))), (15, vr 1000000 xs.length), (16, vi xs.length), (17, vi i)], [(1000000, rLL .fro false e' e xs), (1000001, rLL .fro false f' f ys)]⟩) (fun i => i ≤ xs.length ∧ decide (xs = ys) = decide (xs.drop i = ys.drop i)) (fun i => xs.length - i) 0 (by refine leT.of ?_ ?_ rfl <;> repeat' (first | exact trivial | refine And.intro rfl ?_ | refine And.intro (by simp) ?_)) ⟨Nat.zero_le _, rfl⟩ ?_
    rintro i ⟨hi, hs⟩
    have hl : xs.length = ys.length := by omega
    repeat' (first | exact trivial | refine BS.d (fun h => ?_) (fun h => ?_) | refine BS.e (fun h => ?_) (fun h => ?_) | refine BS.ne (fun h => ?_) (fun h => ?_) | refine BS.n ?_ | refine BS.s (fun h => ?_) (fun h => ?_) | refine And.intro ?_ ?_ | (refine Need.mk ?_; first | with_reducible rfl | (show @Eq TC _ _; rfl) | omega | (simp only [adN_zero]; omega)) | exact OutS.whole rfl rfl)
    · have hc := drop_eq [] hl (i := i) (by omega)
      refine OpK.call (sameLL_run _ _ _ _ (hx i) (hy i)) rfl rfl rfl rfl hE (by repeat' (first | exact PsA.lit _ | exact PsA.ref rfl rfl | constructor)) rfl rfl ?_
      repeat' (first | exact trivial | refine BS.d (fun h => ?_) (fun h => ?_) | refine BS.e (fun h => ?_) (fun h => ?_) | refine BS.ne (fun h => ?_) (fun h => ?_) | refine BS.n ?_ | refine BS.s (fun h => ?_) (fun h => ?_) | refine And.intro ?_ ?_ | (refine Need.mk ?_; first | with_reducible rfl | (show @Eq TC _ _; rfl) | omega | (simp only [adN_zero]; omega)) | exact OutS.whole rfl rfl)
      (
          all_goals (try simp only [adN_zero] at *)
          all_goals (first
            | (refine Need.mk ?_; first | (rw [hs, hc, decide_eq_false ‹_ ≠ _›]; rfl) | (rw [hs, hc]; simp_all) | (rw [hs, List.drop_eq_nil_of_le (by omega), List.drop_eq_nil_of_le (by omega)]; rfl) | (simp_all; done))
            | (refine ⟨i + 1, (by refine leT.of ?_ ?_ rfl <;> repeat' (first | exact trivial | refine And.intro rfl ?_ | refine And.intro (by simp) ?_)), ⟨by omega, by rw [hs, hc]; simp_all⟩, by first | omega | (dsimp only; omega)⟩)))
    · refine Need.mk ?_
      rw [hs, List.drop_eq_nil_of_le (by omega), List.drop_eq_nil_of_le (by omega)]; rfl
theorem SameLimboI2_run (e' e f' f : Nat) (xs ys : List (List Row)) (hn : xs.length ≤ 1048576) (hn' : ys.length ≤ 1048576) (hx : ∀ i, (xs.getD i []).length ≤ 1048576) (hy : ∀ i, (ys.getD i []).length ≤ 1048576) : RunT Try.prog 44 [.one (.c (tLL e' e xs)), .one (.c (tLL f' f ys))] [] [ob (decide (xs = ys))] [] := by
  have c1 := SameLimboI_run e' e f' f xs ys hn hn' hx hy
  refine RunT.of_vc gOk Try.func44 rfl rfl (Nat.le_of_ble_eq_true rfl) (by repeat' (first | exact trivial | exact ⟨_, rfl, Nat.le_refl _⟩ | exact Nat.le_of_ble_eq_true rfl | refine And.intro ?_ ?_)) (Nat.le_of_ble_eq_true rfl) rfl (fun F hE => ?_)
  repeat' (first | exact trivial | refine BS.d (fun h => ?_) (fun h => ?_) | refine BS.e (fun h => ?_) (fun h => ?_) | refine BS.ne (fun h => ?_) (fun h => ?_) | refine BS.n ?_ | refine BS.s (fun h => ?_) (fun h => ?_) | refine And.intro ?_ ?_ | (refine Need.mk ?_; first | with_reducible rfl | (show @Eq TC _ _; rfl) | omega | (simp only [adN_zero]; omega)) | exact OutS.whole rfl rfl | (refine OpK.call c1 rfl rfl rfl rfl hE ?_ rfl rfl ?_; focus ((repeat' (first | exact PsA.lit _ | exact PsA.ref rfl rfl | constructor)); all_goals (fail "ps"))))
theorem SameLimboS_run (e' e f' f : Nat) (xs ys : List (List Row)) (hn : xs.length ≤ 1048576) (hn' : ys.length ≤ 1048576) (hx : ∀ i, (xs.getD i []).length ≤ 1048576) (hy : ∀ i, (ys.getD i []).length ≤ 1048576) : RunT Try.prog 38 [.one (.c (tLL e' e xs)), .one (.c (tLL f' f ys))] [] [ob (decide (xs = ys))] [] := by
  refine RunT.of_vc gOk Try.func38 rfl rfl (Nat.le_of_ble_eq_true rfl) (by repeat' (first | exact trivial | exact ⟨_, rfl, Nat.le_refl _⟩ | exact Nat.le_of_ble_eq_true rfl | refine And.intro ?_ ?_)) (Nat.le_of_ble_eq_true rfl) rfl (fun F hE => ?_)
  repeat' (first | exact trivial | refine BS.d (fun h => ?_) (fun h => ?_) | refine BS.e (fun h => ?_) (fun h => ?_) | refine BS.ne (fun h => ?_) (fun h => ?_) | refine BS.n ?_ | refine BS.s (fun h => ?_) (fun h => ?_) | refine And.intro ?_ ?_ | (refine Need.mk ?_; first | with_reducible rfl | (show @Eq TC _ _; rfl) | omega | (simp only [adN_zero]; omega)) | exact OutS.whole rfl rfl)
  · refine Need.mk ?_
    rw [decide_eq_false (fun e => by subst e; omega)]
  · refine CodeK.loop gOk hE (fun i : Nat => ⟨[(0, vr 1000000 xs.length), (1, vr 1000001 ys.length), (5, vi i)], [(1000000, rLL .fro false e' e xs), (1000001, rLL .fro false f' f ys)]⟩) (fun i => i ≤ xs.length ∧ decide (xs = ys) = decide (xs.drop i = ys.drop i)) (fun i => xs.length - i) 0 (by refine leT.of ?_ ?_ rfl <;> repeat' (first | exact trivial | refine And.intro rfl ?_ | refine And.intro (by simp) ?_)) ⟨Nat.zero_le _, rfl⟩ ?_
    rintro i ⟨hi, hs⟩
    have hl : xs.length = ys.length := by omega
    have hxi := hx i
    have hyi := hy i
    repeat' (first | exact trivial | refine BS.d (fun h => ?_) (fun h => ?_) | refine BS.e (fun h => ?_) (fun h => ?_) | refine BS.ne (fun h => ?_) (fun h => ?_) | refine BS.n ?_ | refine BS.s (fun h => ?_) (fun h => ?_) | refine And.intro ?_ ?_ | (refine Need.mk ?_; first | with_reducible rfl | (show @Eq TC _ _; rfl) | omega | (simp only [adN_zero]; omega)) | exact OutS.whole rfl rfl)
    · have hc := drop_eq [] hl (i := i) (by omega)
      refine CodeK.draw gOk hE rfl (fun _ _ h => h) (.take 0 (.take 1 (.take 2 (.take 3 (.take 6 (.take 7 (.take 8 (.take 9 (.alt 4 (.take 5 (.alt 10 (.take 11 (.take 12 .done)) .stop)) (.alt 10 (.take 11 (.alt 4 (.take 5 (.take 12 .done)) .stop)) .stop)))))))))) (by decide +kernel) ?_
      repeat' (first | exact trivial | refine BS.d (fun h => ?_) (fun h => ?_) | refine BS.e (fun h => ?_) (fun h => ?_) | refine BS.ne (fun h => ?_) (fun h => ?_) | refine BS.n ?_ | refine BS.s (fun h => ?_) (fun h => ?_) | refine And.intro ?_ ?_ | (refine Need.mk ?_; first | with_reducible rfl | (show @Eq TC _ _; rfl) | omega | (simp only [adN_zero]; omega)) | exact OutS.whole rfl rfl)
      all_goals (try simp only [adN_zero] at *)
      all_goals first
        | (refine Need.mk ?_; have hne : xs.getD i [] ≠ ys.getD i [] := (fun e => absurd (congrArg List.length e) (by omega)); rw [hs, hc, decide_eq_false hne]; rfl)
        | skip
      all_goals have hlen : (xs.getD i []).length = (ys.getD i []).length := by omega
      all_goals refine CodeK.loop gOk hE (fun k : Nat => ⟨[(0, vr 1000000 xs.length), (1, vr 1000001 ys.length), (5, vi i), (6, vi k)], [(1000000, rLL .fro false e' e xs), (1000001, rLL .fro false f' f ys)]⟩) (fun k => k ≤ (xs.getD i []).length ∧ decide (xs.getD i [] = ys.getD i []) = decide ((xs.getD i []).drop k = (ys.getD i []).drop k)) (fun k => (xs.getD i []).length - k) 0 (by refine leT.of ?_ ?_ rfl <;> repeat' (first | exact trivial | refine And.intro rfl ?_ | refine And.intro (by simp) ?_)) ⟨Nat.zero_le _, rfl⟩ ?_
      all_goals rintro k ⟨hk, ht⟩
      all_goals rcases Nat.lt_or_ge k (xs.getD i []).length with hkk | hkk
      all_goals first | (have hc2 := drop_eq (0, 0) hlen hkk) | skip
      all_goals (repeat' (first | exact trivial | refine BS.d (fun h => ?_) (fun h => ?_) | refine BS.e (fun h => ?_) (fun h => ?_) | refine BS.ne (fun h => ?_) (fun h => ?_) | refine BS.n ?_ | refine BS.s (fun h => ?_) (fun h => ?_) | refine And.intro ?_ ?_ | (refine Need.mk ?_; first | with_reducible rfl | (show @Eq TC _ _; rfl) | omega | (simp only [adN_zero]; omega)) | exact OutS.whole rfl rfl | (refine CodeK.draw gOk hE rfl (fun _ _ h => h) (.take 0 (.take 1 (.take 2 (.take 3 (.take 5 (.take 8 (.take 9 (.take 10 (.take 11 (.take 13 (.alt 4 (.take 6 (.alt 7 (.alt 12 (.take 14 (.alt 15 (.take 16 .done) .stop)) .stop) (.alt 12 (.take 14 (.alt 7 (.alt 15 (.take 16 .done) .stop) (.alt 15 (.alt 7 (.take 16 .done) .stop) .stop))) .stop))) (.alt 12 (.take 14 (.alt 4 (.take 6 (.alt 7 (.alt 15 (.take 16 .done) .stop) (.alt 15 (.alt 7 (.take 16 .done) .stop) .stop))) (.alt 15 (.alt 4 (.take 6 (.alt 7 (.take 16 .done) .stop)) .stop) .stop))) .stop)))))))))))) ?_ ?_; focus (decide +kernel)) | (refine PK.neA (vRow ((xs.getD i []).getD k (0, 0))) (vRow ((ys.getD i []).getD k (0, 0))) rfl rfl rfl rfl rfl (by kernel_rfl) (Row_eq _ _) ?_)))
      all_goals (try simp only [adN_zero] at *)
      all_goals first
        | (exfalso; omega)
        | (refine Need.mk ?_; omega)
        | (refine Need.mk ?_; rw [hs, hc, ht, hc2, decide_eq_false (by assumption)]; rfl)
        | (have h9 : k < (xs.getD i []).length := hkk; refine ⟨k + 1, (by refine leT.of ?_ ?_ rfl <;> repeat' (first | exact trivial | refine And.intro rfl ?_ | refine And.intro (by simp) ?_)), ⟨by omega, by rw [ht, hc2, decide_eq_true (by assumption)]; rfl⟩, by first | omega | (dsimp only; omega)⟩)
        | (refine ⟨i + 1, (by refine leT.of ?_ ?_ rfl <;> repeat' (first | exact trivial | refine And.intro rfl ?_ | refine And.intro (by simp) ?_)), ⟨by omega, by rw [hs, hc, ht, List.drop_eq_nil_of_le hkk, List.drop_eq_nil_of_le (by omega)]; rfl⟩, by first | omega | (dsimp only; omega)⟩)
    · refine Need.mk ?_
      rw [hs, List.drop_eq_nil_of_le (by omega), List.drop_eq_nil_of_le (by omega)]; rfl
end Go.Proofs.Ytofdaaajbkjocaa
