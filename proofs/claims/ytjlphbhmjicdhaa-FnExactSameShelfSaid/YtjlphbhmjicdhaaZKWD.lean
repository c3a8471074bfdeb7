import Derived.Test.YtjlphbhmjicdhaaZKWA
import Derived.Test.YtjlphbhmjicdhaaZKWB
import Derived.Test.YtjlphbhmjicdhaaVS
section
namespace Go.Proofs.Ytjlphbhmjicdhaa
open Go Go.Tr
set_option maxRecDepth 100000
set_option linter.unusedVariables false
set_option linter.unusedSimpArgs false
theorem drop_eq {α : Type} [DecidableEq α] (d : α) {xs ys : List α} {i : Nat} (h1 : xs.length = ys.length) (h : i < xs.length) : (decide (xs.drop i = ys.drop i)) = (decide (xs.getD i d = ys.getD i d) && decide (xs.drop (i + 1) = ys.drop (i + 1))) := by
  rw [drop_cons d h, drop_cons d (by omega : i < ys.length)]; simp
theorem SameBytes_run (xs ys : List Int) (hn : xs.length ≤ 4000000) (hn' : ys.length ≤ 4000000) : RunT Try.prog 58 [.one (.c (tI xs)), .one (.c (tI ys))] [] [ob (decide (xs = ys))] [] := by
  refine RunT.of_vc gOk Try.func58 rfl rfl (Nat.le_of_ble_eq_true rfl) (by repeat' (first | exact trivial | exact ⟨_, rfl, Nat.le_refl _⟩ | exact Nat.le_of_ble_eq_true rfl | refine And.intro ?_ ?_)) (Nat.le_of_ble_eq_true rfl) rfl (fun F hE => ?_)
  repeat' (first | exact trivial | refine BS.a (fun h => ?_) (fun h => ?_) | refine BS.n ?_ | refine BS.s (fun h => ?_) (fun h => ?_) | refine And.intro ?_ ?_ | exact Need.au | exact OutS.whole rfl rfl | refine ListO.go gOk hE ?_)
  · refine Need.mk ?_
    rw [decide_eq_false (fun e => by subst e; omega)]
  · refine CodeK.loop gOk hE (fun i : Nat => ⟨[(0, vr 1000000 xs.length), (1, vr 1000001 ys.length), (5, vi i)], [(1000000, rI .fro false xs), (1000001, rI .fro false ys)]⟩) (fun i => i ≤ xs.length ∧ decide (xs = ys) = decide (xs.drop i = ys.drop i)) (fun i => xs.length - i) 0 (by refine leT.of ?_ ?_ rfl <;> repeat' (first | exact trivial | refine And.intro rfl ?_ | refine And.intro (by simp) ?_)) ⟨Nat.zero_le _, rfl⟩ ?_
    rintro i ⟨hi, hs⟩
    have hl : xs.length = ys.length := by omega
    repeat' (first | exact trivial | refine BS.a (fun h => ?_) (fun h => ?_) | refine BS.n ?_ | refine BS.s (fun h => ?_) (fun h => ?_) | refine And.intro ?_ ?_ | exact Need.au | exact OutS.whole rfl rfl | refine ListO.go gOk hE ?_)
    · have hc := drop_eq 0 hl (i := i) (by omega)
      refine CodeK.draw gOk hE rfl (fun _ _ h => h) (.take 0 (.take 1 (.take 2 (.take 4 (.take 5 (.take 6 (.alt 3 (.alt 7 (.take 8 .done) .stop) (.alt 7 (.alt 3 (.take 8 .done) .stop) .stop)))))))) (by decide +kernel) ?_
      repeat' (first | exact trivial | refine BS.a (fun h => ?_) (fun h => ?_) | refine BS.n ?_ | refine BS.s (fun h => ?_) (fun h => ?_) | refine And.intro ?_ ?_ | exact Need.au | exact OutS.whole rfl rfl | refine ListO.go gOk hE ?_)
      (
          all_goals (try simp only [adN_zero] at *)
          all_goals (first
            | (refine Need.mk ?_; first | (rw [hs, hc, decide_eq_false ‹_ ≠ _›]; rfl) | (rw [hs, hc]; simp_all) | (rw [hs, List.drop_eq_nil_of_le (by omega), List.drop_eq_nil_of_le (by omega)]; rfl) | (simp_all; done))
            | (refine ⟨i + 1, (by refine leT.of ?_ ?_ rfl <;> repeat' (first | exact trivial | refine And.intro rfl ?_ | refine And.intro (by simp) ?_)), ⟨by omega, by rw [hs, hc]; simp_all⟩, by first | omega | (dsimp only; omega)⟩)))
    · refine Need.mk ?_
      rw [hs, List.drop_eq_nil_of_le (by omega), List.drop_eq_nil_of_le (by omega)]; rfl
theorem Equal_run (xs ys : List Int) (hn : xs.length ≤ 4000000) (hn' : ys.length ≤ 4000000) : RunT Try.prog 64 [.one (.c (tI xs)), .one (.c (tI ys))] [] [ob (decide (xs = ys))] [] := by
  refine RunT.of_vc gOk Try.func64 rfl rfl (Nat.le_of_ble_eq_true rfl) (by repeat' (first | exact trivial | exact ⟨_, rfl, Nat.le_refl _⟩ | exact Nat.le_of_ble_eq_true rfl | refine And.intro ?_ ?_)) (Nat.le_of_ble_eq_true rfl) rfl (fun F hE => ?_)
  repeat' (first | exact trivial | refine BS.a (fun h => ?_) (fun h => ?_) | refine BS.n ?_ | refine BS.s (fun h => ?_) (fun h => ?_) | refine And.intro ?_ ?_ | exact Need.au | exact OutS.whole rfl rfl | refine ListO.go gOk hE ?_)
  · refine Need.mk ?_
    rw [decide_eq_false (fun e => by subst e; omega)]
  · refine CodeK.loop gOk hE (fun i : Nat => ⟨[(0, vr 1000000 xs.length), (1, vr 1000001 ys.length), (12, vi xs.length), (13, vi i)], [(1000000, rI .fro false xs), (1000001, rI .fro false ys)]⟩) (fun i => i ≤ xs.length ∧ decide (xs = ys) = decide (xs.drop i = ys.drop i)) (fun i => xs.length - i) 0 (by refine leT.of ?_ ?_ rfl <;> repeat' (first | exact trivial | refine And.intro rfl ?_ | refine And.intro (by simp) ?_)) ⟨Nat.zero_le _, rfl⟩ ?_
    rintro i ⟨hi, hs⟩
    have hl : xs.length = ys.length := by omega
    repeat' (first | exact trivial | refine BS.a (fun h => ?_) (fun h => ?_) | refine BS.n ?_ | refine BS.s (fun h => ?_) (fun h => ?_) | refine And.intro ?_ ?_ | exact Need.au | exact OutS.whole rfl rfl | refine ListO.go gOk hE ?_)
    · have hc := drop_eq 0 hl (i := i) (by omega)
      refine CodeK.draw gOk hE rfl (fun _ _ h => h) (.take 0 (.take 1 (.take 2 (.take 4 (.take 5 (.take 6 (.alt 3 (.alt 7 (.take 8 .done) .stop) (.alt 7 (.alt 3 (.take 8 .done) .stop) .stop)))))))) (by decide +kernel) ?_
      repeat' (first | exact trivial | refine BS.a (fun h => ?_) (fun h => ?_) | refine BS.n ?_ | refine BS.s (fun h => ?_) (fun h => ?_) | refine And.intro ?_ ?_ | exact Need.au | exact OutS.whole rfl rfl | refine ListO.go gOk hE ?_)
      (
          all_goals (try simp only [adN_zero] at *)
          all_goals (first
            | (refine Need.mk ?_; first | (rw [hs, hc, decide_eq_false ‹_ ≠ _›]; rfl) | (rw [hs, hc]; simp_all) | (rw [hs, List.drop_eq_nil_of_le (by omega), List.drop_eq_nil_of_le (by omega)]; rfl) | (simp_all; done))
            | (refine ⟨i + 1, (by refine leT.of ?_ ?_ rfl <;> repeat' (first | exact trivial | refine And.intro rfl ?_ | refine And.intro (by simp) ?_)), ⟨by omega, by rw [hs, hc]; simp_all⟩, by first | omega | (dsimp only; omega)⟩)))
    · refine Need.mk ?_
      rw [hs, List.drop_eq_nil_of_le (by omega), List.drop_eq_nil_of_le (by omega)]; rfl
theorem l8Same_run (e e' : Nat) (xs ys : List (List Int)) (hn : xs.length ≤ 4000000) (hn' : ys.length ≤ 4000000) (hx : ∀ i, (xs.getD i []).length ≤ 4000000) (hy : ∀ i, (ys.getD i []).length ≤ 4000000) : RunT Try.prog 202 [.one (.c (tSL e xs)), .one (.c (tSL e' ys))] [] [ob (decide (xs = ys))] [] := by
  refine RunT.of_vc gOk Try.func202 rfl rfl (Nat.le_of_ble_eq_true rfl) (by repeat' (first | exact trivial | exact ⟨_, rfl, Nat.le_refl _⟩ | exact Nat.le_of_ble_eq_true rfl | refine And.intro ?_ ?_)) (Nat.le_of_ble_eq_true rfl) rfl (fun F hE => ?_)
  repeat' (first | exact trivial | refine BS.a (fun h => ?_) (fun h => ?_) | refine BS.n ?_ | refine BS.s (fun h => ?_) (fun h => ?_) | refine And.intro ?_ ?_ | exact Need.au | exact OutS.whole rfl rfl | refine ListO.go gOk hE ?_)
  · refine Need.mk ?_
    rw [decide_eq_false (fun e => by subst e; omega)]
  · refine CodeK.loop gOk hE (fun i : Nat => ⟨[(0, vr 1000000 xs.length), (1, vr 1000001 ys.length), (5, vi i)], [(1000000, rSL .fro false e xs), (1000001, rSL .fro false e' ys)]⟩) (fun i => i ≤ xs.length ∧ decide (xs = ys) = decide (xs.drop i = ys.drop i)) (fun i => xs.length - i) 0 (by refine leT.of ?_ ?_ rfl <;> repeat' (first | exact trivial | refine And.intro rfl ?_ | refine And.intro (by simp) ?_)) ⟨Nat.zero_le _, rfl⟩ ?_
    rintro i ⟨hi, hs⟩
    have hl : xs.length = ys.length := by omega
    repeat' (first | exact trivial | refine BS.a (fun h => ?_) (fun h => ?_) | refine BS.n ?_ | refine BS.s (fun h => ?_) (fun h => ?_) | refine And.intro ?_ ?_ | exact Need.au | exact OutS.whole rfl rfl | refine ListO.go gOk hE ?_)
    · have hc := drop_eq [] hl (i := i) (by omega)
      refine CodeK.draw gOk hE rfl (fun _ _ h => h) (.take 0 (.take 1 (.take 2 (.take 3 (.take 5 (.take 6 (.take 7 (.take 8 (.alt 4 (.alt 9 (.alt 10 (.take 11 .done) .stop) .stop) (.alt 9 (.alt 4 (.alt 10 (.take 11 .done) .stop) .stop) .stop)))))))))) (by decide +kernel) ?_
      repeat' (first | exact trivial | refine BS.a (fun h => ?_) (fun h => ?_) | refine BS.n ?_ | refine BS.s (fun h => ?_) (fun h => ?_) | refine And.intro ?_ ?_ | exact Need.au | exact OutS.whole rfl rfl | refine ListO.go gOk hE ?_)
      all_goals (refine OpK.call (SameBytes_run _ _ (hx i) (hy i)) rfl rfl rfl rfl hE (by repeat' (first | exact PsA.lit _ | exact PsA.ref rfl rfl | constructor)) rfl rfl ?_)
      all_goals (repeat' (first | exact trivial | refine BS.a (fun h => ?_) (fun h => ?_) | refine BS.n ?_ | refine BS.s (fun h => ?_) (fun h => ?_) | refine And.intro ?_ ?_ | exact Need.au | exact OutS.whole rfl rfl | refine ListO.go gOk hE ?_))
      (
          all_goals (try simp only [adN_zero] at *)
          all_goals (first
            | (refine Need.mk ?_; first | (rw [hs, hc, decide_eq_false ‹_ ≠ _›]; rfl) | (rw [hs, hc]; simp_all) | (rw [hs, List.drop_eq_nil_of_le (by omega), List.drop_eq_nil_of_le (by omega)]; rfl) | (simp_all; done))
            | (refine ⟨i + 1, (by refine leT.of ?_ ?_ rfl <;> repeat' (first | exact trivial | refine And.intro rfl ?_ | refine And.intro (by simp) ?_)), ⟨by omega, by rw [hs, hc]; simp_all⟩, by first | omega | (dsimp only; omega)⟩)))
    · refine Need.mk ?_
      rw [hs, List.drop_eq_nil_of_le (by omega), List.drop_eq_nil_of_le (by omega)]; rfl
theorem SameListsS_run (e e' : Nat) (g o g' o' : List (List Int)) (hg : g.length ≤ 4000000) (hg' : g'.length ≤ 4000000) (ho : o.length ≤ 4000000) (ho' : o'.length ≤ 4000000) (ig : ∀ i, (g.getD i []).length ≤ 4000000) (ig' : ∀ i, (g'.getD i []).length ≤ 4000000) (io : ∀ i, (o.getD i []).length ≤ 4000000) (io' : ∀ i, (o'.getD i []).length ≤ 4000000) :
    RunT Try.prog 162 [.agg [.c (tSL e g), .c (tSL e o)], .agg [.c (tSL e' g'), .c (tSL e' o')]] [] [ob (decide (g = g') && decide (o = o'))] [] := by
  refine RunT.of_vc gOk Try.func162 rfl rfl (Nat.le_of_ble_eq_true rfl) (by repeat' (first | exact trivial | exact ⟨_, rfl, Nat.le_refl _⟩ | exact Nat.le_of_ble_eq_true rfl | refine And.intro ?_ ?_)) (Nat.le_of_ble_eq_true rfl) rfl (fun F hE => ?_)
  repeat' (first | exact trivial | refine BS.a (fun h => ?_) (fun h => ?_) | refine BS.n ?_ | refine BS.s (fun h => ?_) (fun h => ?_) | refine And.intro ?_ ?_ | exact Need.au | exact OutS.whole rfl rfl | refine ListO.go gOk hE ?_)
  refine OpK.call (l8Same_run e e' g g' hg hg' ig ig') rfl rfl rfl rfl hE (by repeat' (first | exact PsA.lit _ | exact PsA.ref rfl rfl | constructor)) rfl rfl ?_
  repeat' (first | exact trivial | refine BS.a (fun h => ?_) (fun h => ?_) | refine BS.n ?_ | refine BS.s (fun h => ?_) (fun h => ?_) | refine And.intro ?_ ?_ | exact Need.au | exact OutS.whole rfl rfl | refine ListO.go gOk hE ?_)
  · refine OpK.call (l8Same_run e e' o o' ho ho' io io') rfl rfl rfl rfl hE (by repeat' (first | exact PsA.lit _ | exact PsA.ref rfl rfl | constructor)) rfl rfl ?_
    repeat' (first | exact trivial | refine BS.a (fun h => ?_) (fun h => ?_) | refine BS.n ?_ | refine BS.s (fun h => ?_) (fun h => ?_) | refine And.intro ?_ ?_ | exact Need.au | exact OutS.whole rfl rfl | refine ListO.go gOk hE ?_)
    refine Need.mk ?_; simp [*]
  · refine Need.mk ?_; simp [*]
theorem sameSList_run (x y : List Int) (hx : x.length ≤ 4000000) (hy : y.length ≤ 4000000) : RunT Try.prog 207 [.agg [.c (tI x)], .agg [.c (tI y)]] [] [ob (decide (x = y))] [] := by
  refine RunT.of_vc gOk Try.func207 rfl rfl (Nat.le_of_ble_eq_true rfl) (by repeat' (first | exact trivial | exact ⟨_, rfl, Nat.le_refl _⟩ | exact Nat.le_of_ble_eq_true rfl | refine And.intro ?_ ?_)) (Nat.le_of_ble_eq_true rfl) rfl (fun F hE => ?_)
  repeat' (first | exact trivial | refine BS.a (fun h => ?_) (fun h => ?_) | refine BS.n ?_ | refine BS.s (fun h => ?_) (fun h => ?_) | refine And.intro ?_ ?_ | exact Need.au | exact OutS.whole rfl rfl | refine ListO.go gOk hE ?_)
  refine OpK.call (Equal_run x y hx hy) rfl rfl rfl rfl hE (by repeat' (first | exact PsA.lit _ | exact PsA.ref rfl rfl | constructor)) rfl rfl ?_
  repeat' (first | exact trivial | refine BS.a (fun h => ?_) (fun h => ?_) | refine BS.n ?_ | refine BS.s (fun h => ?_) (fun h => ?_) | refine And.intro ?_ ?_ | exact Need.au | exact OutS.whole rfl rfl | refine ListO.go gOk hE ?_)
theorem EqualFunc_run (e e' : Nat) (xs ys : List (List Int)) (hn : xs.length ≤ 4000000) (hn' : ys.length ≤ 4000000) (hx : ∀ i, (xs.getD i []).length ≤ 4000000) (hy : ∀ i, (ys.getD i []).length ≤ 4000000) : RunT Try.prog 206 [.one (.c (tSL e xs)), .one (.c (tSL e' ys)), .one (.c (.lit (.func (.func 207) #[] #[])))] [] [ob (decide (xs = ys))] [] := by
  refine RunT.of_vc gOk Try.func206 rfl rfl (Nat.le_of_ble_eq_true rfl) (by repeat' (first | exact trivial | exact ⟨_, rfl, Nat.le_refl _⟩ | exact Nat.le_of_ble_eq_true rfl | refine And.intro ?_ ?_)) (Nat.le_of_ble_eq_true rfl) rfl (fun F hE => ?_)
  repeat' (first | exact trivial | refine BS.a (fun h => ?_) (fun h => ?_) | refine BS.n ?_ | refine BS.s (fun h => ?_) (fun h => ?_) | refine And.intro ?_ ?_ | exact Need.au | exact OutS.whole rfl rfl | refine ListO.go gOk hE ?_)
  · refine Need.mk ?_
    rw [decide_eq_false (fun e => by subst e; omega)]
  · refine CodeK.loop gOk hE (fun i : Nat => ⟨[(0, vr 1000000 xs.length), (1, vr 1000001 ys.length), (2, .a (.lit (.func (.func 207) #[] #[]))), (15, vr 1000000 xs.length), (16, vi xs.length), (17, vi i)], [(1000000, rSL .fro false e xs), (1000001, rSL .fro false e' ys)]⟩) (fun i => i ≤ xs.length ∧ decide (xs = ys) = decide (xs.drop i = ys.drop i)) (fun i => xs.length - i) 0 (by refine leT.of ?_ ?_ rfl <;> repeat' (first | exact trivial | refine And.intro rfl ?_ | refine And.intro (by simp) ?_)) ⟨Nat.zero_le _, rfl⟩ ?_
    rintro i ⟨hi, hs⟩
    have hl : xs.length = ys.length := by omega
    repeat' (first | exact trivial | refine BS.a (fun h => ?_) (fun h => ?_) | refine BS.n ?_ | refine BS.s (fun h => ?_) (fun h => ?_) | refine And.intro ?_ ?_ | exact Need.au | exact OutS.whole rfl rfl | refine ListO.go gOk hE ?_)
    · have hc := drop_eq [] hl (i := i) (by omega)
      refine OpK.call (sameSList_run _ _ (hx i) (hy i)) rfl rfl rfl rfl hE (by repeat' (first | exact PsA.lit _ | exact PsA.ref rfl rfl | constructor)) rfl rfl ?_
      repeat' (first | exact trivial | refine BS.a (fun h => ?_) (fun h => ?_) | refine BS.n ?_ | refine BS.s (fun h => ?_) (fun h => ?_) | refine And.intro ?_ ?_ | exact Need.au | exact OutS.whole rfl rfl | refine ListO.go gOk hE ?_)
      (
          all_goals (try simp only [adN_zero] at *)
          all_goals (first
            | (refine Need.mk ?_; first | (rw [hs, hc, decide_eq_false ‹_ ≠ _›]; rfl) | (rw [hs, hc]; simp_all) | (rw [hs, List.drop_eq_nil_of_le (by omega), List.drop_eq_nil_of_le (by omega)]; rfl) | (simp_all; done))
            | (refine ⟨i + 1, (by refine leT.of ?_ ?_ rfl <;> repeat' (first | exact trivial | refine And.intro rfl ?_ | refine And.intro (by simp) ?_)), ⟨by omega, by rw [hs, hc]; simp_all⟩, by first | omega | (dsimp only; omega)⟩)))
    · refine Need.mk ?_
      rw [hs, List.drop_eq_nil_of_le (by omega), List.drop_eq_nil_of_le (by omega)]; rfl
theorem SameListsI_run (e e' : Nat) (g o g' o' : List (List Int)) (hg : g.length ≤ 4000000) (hg' : g'.length ≤ 4000000) (ho : o.length ≤ 4000000) (ho' : o'.length ≤ 4000000) (ig : ∀ i, (g.getD i []).length ≤ 4000000) (ig' : ∀ i, (g'.getD i []).length ≤ 4000000) (io : ∀ i, (o.getD i []).length ≤ 4000000) (io' : ∀ i, (o'.getD i []).length ≤ 4000000) :
    RunT Try.prog 169 [.agg [.c (tSL e g), .c (tSL e o)], .agg [.c (tSL e' g'), .c (tSL e' o')]] [] [ob (decide (g = g') && decide (o = o'))] [] := by
  refine RunT.of_vc gOk Try.func169 rfl rfl (Nat.le_of_ble_eq_true rfl) (by repeat' (first | exact trivial | exact ⟨_, rfl, Nat.le_refl _⟩ | exact Nat.le_of_ble_eq_true rfl | refine And.intro ?_ ?_)) (Nat.le_of_ble_eq_true rfl) rfl (fun F hE => ?_)
  repeat' (first | exact trivial | refine BS.a (fun h => ?_) (fun h => ?_) | refine BS.n ?_ | refine BS.s (fun h => ?_) (fun h => ?_) | refine And.intro ?_ ?_ | exact Need.au | exact OutS.whole rfl rfl | refine ListO.go gOk hE ?_)
  refine OpK.call (EqualFunc_run e e' g g' hg hg' ig ig') rfl rfl rfl rfl hE (by repeat' (first | exact PsA.lit _ | exact PsA.ref rfl rfl | constructor)) rfl rfl ?_
  repeat' (first | exact trivial | refine BS.a (fun h => ?_) (fun h => ?_) | refine BS.n ?_ | refine BS.s (fun h => ?_) (fun h => ?_) | refine And.intro ?_ ?_ | exact Need.au | exact OutS.whole rfl rfl | refine ListO.go gOk hE ?_)
  · refine OpK.call (EqualFunc_run e e' o o' ho ho' io io') rfl rfl rfl rfl hE (by repeat' (first | exact PsA.lit _ | exact PsA.ref rfl rfl | constructor)) rfl rfl ?_
    repeat' (first | exact trivial | refine BS.a (fun h => ?_) (fun h => ?_) | refine BS.n ?_ | refine BS.s (fun h => ?_) (fun h => ?_) | refine And.intro ?_ ?_ | exact Need.au | exact OutS.whole rfl rfl | refine ListO.go gOk hE ?_)
    refine Need.mk ?_; simp [*]
  · refine Need.mk ?_; simp [*]
end Go.Proofs.Ytjlphbhmjicdhaa
end

section
namespace Go.Proofs.Ytjlphbhmjicdhaa
open Go Go.Tr
set_option maxRecDepth 100000
set_option maxHeartbeats 4000000
set_option linter.unusedVariables false
set_option linter.unusedSimpArgs false
theorem SameHeapS_run (b c b' c' : List Int) (hb : b.length ≤ 4000000) (hc : c.length ≤ 4000000) (hb' : b'.length ≤ 4000000) (hc' : c'.length ≤ 4000000) : RunT Try.prog 161 [aHp b c, aHp b' c'] [] [ob (decide (b = b') && decide (c = c'))] [] := by
  have c1 := SameBytes_run b b' hb hb'
  have c2 := SameBytes_run c c' hc hc'
  refine RunT.of_vc gOk Try.func161 rfl rfl (Nat.le_of_ble_eq_true rfl) (by repeat' (first | exact trivial | exact ⟨_, rfl, Nat.le_refl _⟩ | exact Nat.le_of_ble_eq_true rfl | refine And.intro ?_ ?_)) (Nat.le_of_ble_eq_true rfl) rfl (fun F hE => ?_)
  repeat' (first | exact trivial | refine BS.a (fun h => ?_) (fun h => ?_) | refine BS.n ?_ | refine BS.s (fun h => ?_) (fun h => ?_) | refine And.intro ?_ ?_ | exact Need.au | exact OutS.whole rfl rfl | refine OpK.ca c1 hE ?_ | refine OpK.ca c2 hE ?_ | refine ListO.go gOk hE ?_)
  all_goals (refine Need.mk ?_; simp [*])
theorem SameHeapI_run (b c b' c' : List Int) (hb : b.length ≤ 4000000) (hc : c.length ≤ 4000000) (hb' : b'.length ≤ 4000000) (hc' : c'.length ≤ 4000000) : RunT Try.prog 168 [aHp b c, aHp b' c'] [] [ob (decide (b = b') && decide (c = c'))] [] := by
  have c1 := Equal_run b b' hb hb'
  have c2 := Equal_run c c' hc hc'
  refine RunT.of_vc gOk Try.func168 rfl rfl (Nat.le_of_ble_eq_true rfl) (by repeat' (first | exact trivial | exact ⟨_, rfl, Nat.le_refl _⟩ | exact Nat.le_of_ble_eq_true rfl | refine And.intro ?_ ?_)) (Nat.le_of_ble_eq_true rfl) rfl (fun F hE => ?_)
  repeat' (first | exact trivial | refine BS.a (fun h => ?_) (fun h => ?_) | refine BS.n ?_ | refine BS.s (fun h => ?_) (fun h => ?_) | refine And.intro ?_ ?_ | exact Need.au | exact OutS.whole rfl rfl | refine OpK.ca c1 hE ?_ | refine OpK.ca c2 hE ?_ | refine ListO.go gOk hE ?_)
  all_goals (refine Need.mk ?_; simp [*])
theorem SameMemS_run (e e' : Nat) (b c : List Int) (g o : List (List Int)) (b' c' : List Int) (g' o' : List (List Int)) (h : MmOk 1048576 b c g o) (h' : MmOk 1048576 b' c' g' o') : RunT Try.prog 112 [aMm e b c g o, aMm e' b' c' g' o'] [] [ob ((decide (b = b') && decide (c = c')) && (decide (g = g') && decide (o = o')))] [] := by
  have k := h.le (m' := 4000000) (by decide)
  have k' := h'.le (m' := 4000000) (by decide)
  have c1 := SameHeapS_run b c b' c' k.hb k.hc k'.hb k'.hc
  have c2 := SameListsS_run e e' g o g' o' k.hg k'.hg k.ho k'.ho k.hg' k'.hg' k.ho' k'.ho'
  refine RunT.of_vc gOk Try.func112 rfl rfl (Nat.le_of_ble_eq_true rfl) (by repeat' (first | exact trivial | exact ⟨_, rfl, Nat.le_refl _⟩ | exact Nat.le_of_ble_eq_true rfl | refine And.intro ?_ ?_)) (Nat.le_of_ble_eq_true rfl) rfl (fun F hE => ?_)
  repeat' (first | exact trivial | refine BS.a (fun h => ?_) (fun h => ?_) | refine BS.n ?_ | refine BS.s (fun h => ?_) (fun h => ?_) | refine And.intro ?_ ?_ | exact Need.au | exact OutS.whole rfl rfl | refine OpK.ca c1 hE ?_ | refine OpK.ca c2 hE ?_ | refine ListO.go gOk hE ?_)
  all_goals (refine Need.mk ?_; simp_all)
theorem SameMemI_run (e e' : Nat) (b c : List Int) (g o : List (List Int)) (b' c' : List Int) (g' o' : List (List Int)) (h : MmOk 1048576 b c g o) (h' : MmOk 1048576 b' c' g' o') : RunT Try.prog 120 [aMm e b c g o, aMm e' b' c' g' o'] [] [ob ((decide (b = b') && decide (c = c')) && (decide (g = g') && decide (o = o')))] [] := by
  have k := h.le (m' := 4000000) (by decide)
  have k' := h'.le (m' := 4000000) (by decide)
  have c1 := SameHeapI_run b c b' c' k.hb k.hc k'.hb k'.hc
  have c2 := SameListsI_run e e' g o g' o' k.hg k'.hg k.ho k'.ho k.hg' k'.hg' k.ho' k'.ho'
  refine RunT.of_vc gOk Try.func120 rfl rfl (Nat.le_of_ble_eq_true rfl) (by repeat' (first | exact trivial | exact ⟨_, rfl, Nat.le_refl _⟩ | exact Nat.le_of_ble_eq_true rfl | refine And.intro ?_ ?_)) (Nat.le_of_ble_eq_true rfl) rfl (fun F hE => ?_)
  repeat' (first | exact trivial | refine BS.a (fun h => ?_) (fun h => ?_) | refine BS.n ?_ | refine BS.s (fun h => ?_) (fun h => ?_) | refine And.intro ?_ ?_ | exact Need.au | exact OutS.whole rfl rfl | refine OpK.ca c1 hE ?_ | refine OpK.ca c2 hE ?_ | refine ListO.go gOk hE ?_)
  all_goals (refine Need.mk ?_; simp_all)
end Go.Proofs.Ytjlphbhmjicdhaa
end

section
/- Two bases are compared. -/
namespace Go.Proofs.Ytjlphbhmjicdhaa
open Go Go.Tr
set_option maxRecDepth 100000
set_option maxHeartbeats 4000000
set_option linter.unusedVariables false
set_option linter.unusedSimpArgs false
abbrev vRow (x : Row) : List Value := [Value.int .i64 x.1, .int .i64 x.2]
theorem Row_eq (p q : Row) (w : World) : (Op.equalIn 10000 130 (.agg (vRow p).toArray) (.agg (vRow q).toArray)).run Try.prog w = .ok (decide (p = q)) w := by
  have u3 := Try.underlying3
  obtain ⟨p0, p1⟩ := p
  obtain ⟨q0, q1⟩ := q
  have hS : Try.prog.underlying 130 = some (.struct (Try.prog.fieldsOf 130)) := by kernel_rfl
  rw [show (10000 : Nat) = 9999 + 1 from rfl, run_equalIn_agg w 9999 130 _ _ hS (by kernel_rfl)]
  simp only [Program.fieldsOf, Try.underlying130]
  go_simp
  by_cases h0 : p0 = q0 <;> by_cases h1 : p1 = q1 <;> simp [h0, h1]
theorem EqualRow_run (e e' : Nat) (xs ys : List Row) (hn : xs.length ≤ 1048576) (hn' : ys.length ≤ 1048576) : RunT Try.prog 173 [.one (.c (tR e xs)), .one (.c (tR e' ys))] [] [ob (decide (xs = ys))] [] := by
  refine RunT.of_vc gOk Try.func173 rfl rfl (Nat.le_of_ble_eq_true rfl) (by repeat' (first | exact trivial | exact ⟨_, rfl, Nat.le_refl _⟩ | exact Nat.le_of_ble_eq_true rfl | refine And.intro ?_ ?_)) (Nat.le_of_ble_eq_true rfl) rfl (fun F hE => ?_)
  repeat' (first | exact trivial | refine BS.a (fun h => ?_) (fun h => ?_) | refine BS.n ?_ | refine BS.s (fun h => ?_) (fun h => ?_) | refine And.intro ?_ ?_ | exact Need.au | exact OutS.whole rfl rfl | refine ListO.go gOk hE ?_)
  · refine Need.mk ?_
    rw [decide_eq_false (fun e => by subst e; omega)]
  · refine CodeK.loop gOk hE (fun i : Nat => ⟨[(0, vr 1000000 xs.length), (1, vr 1000001 ys.length), (12, vi xs.length), (13, vi i)], [(1000000, rR .fro false e xs), (1000001, rR .fro false e' ys)]⟩) (fun i => i ≤ xs.length ∧ decide (xs = ys) = decide (xs.drop i = ys.drop i)) (fun i => xs.length - i) 0 (by refine leT.of ?_ ?_ rfl <;> repeat' (first | exact trivial | refine And.intro rfl ?_ | refine And.intro (by simp) ?_)) ⟨Nat.zero_le _, rfl⟩ ?_
    rintro i ⟨hi, hs⟩
    have hl : xs.length = ys.length := by omega
    repeat' (first | exact trivial | refine BS.a (fun h => ?_) (fun h => ?_) | refine BS.n ?_ | refine BS.s (fun h => ?_) (fun h => ?_) | refine And.intro ?_ ?_ | exact Need.au | exact OutS.whole rfl rfl | refine ListO.go gOk hE ?_)
    · have hc := drop_eq (0, 0) hl (i := i) (by omega)
      refine CodeK.draw gOk hE rfl (fun _ _ h => h) (.take 0 (.take 1 (.take 2 (.take 4 (.take 5 (.take 6 (.alt 3 (.alt 7 (.take 8 .done) .stop) (.alt 7 (.alt 3 (.take 8 .done) .stop) .stop)))))))) (by decide +kernel) ?_
      repeat' (first | exact trivial | refine BS.a (fun h => ?_) (fun h => ?_) | refine BS.n ?_ | refine BS.s (fun h => ?_) (fun h => ?_) | refine And.intro ?_ ?_ | exact Need.au | exact OutS.whole rfl rfl | (refine PK.neA (vRow (xs.getD i (0, 0))) (vRow (ys.getD i (0, 0))) rfl rfl rfl rfl rfl (by kernel_rfl) (Row_eq _ _) ?_) | refine ListO.go gOk hE ?_)
      (
          all_goals (try simp only [adN_zero] at *)
          all_goals (first
            | (refine Need.mk ?_; first | (rw [hs, hc, decide_eq_false ‹_ ≠ _›]; rfl) | (rw [hs, hc]; simp_all) | (rw [hs, List.drop_eq_nil_of_le (by omega), List.drop_eq_nil_of_le (by omega)]; rfl) | (simp_all; done))
            | (refine ⟨i + 1, (by refine leT.of ?_ ?_ rfl <;> repeat' (first | exact trivial | refine And.intro rfl ?_ | refine And.intro (by simp) ?_)), ⟨by omega, by rw [hs, hc]; simp_all⟩, by first | omega | (dsimp only; omega)⟩)))
    · refine Need.mk ?_
      rw [hs, List.drop_eq_nil_of_le (by omega), List.drop_eq_nil_of_le (by omega)]; rfl
theorem sameLL_run (e e' : Nat) (x y : List Row) (hx : x.length ≤ 1048576) (hy : y.length ≤ 1048576) : RunT Try.prog 172 [.agg [.c (tR e x)], .agg [.c (tR e' y)]] [] [ob (decide (x = y))] [] := by
  refine RunT.of_vc gOk Try.func172 rfl rfl (Nat.le_of_ble_eq_true rfl) (by repeat' (first | exact trivial | exact ⟨_, rfl, Nat.le_refl _⟩ | exact Nat.le_of_ble_eq_true rfl | refine And.intro ?_ ?_)) (Nat.le_of_ble_eq_true rfl) rfl (fun F hE => ?_)
  repeat' (first | exact trivial | refine BS.a (fun h => ?_) (fun h => ?_) | refine BS.n ?_ | refine BS.s (fun h => ?_) (fun h => ?_) | refine And.intro ?_ ?_ | exact Need.au | exact OutS.whole rfl rfl | refine ListO.go gOk hE ?_)
  refine OpK.call (EqualRow_run e e' x y hx hy) rfl rfl rfl rfl hE (by repeat' (first | exact PsA.lit _ | exact PsA.ref rfl rfl | constructor)) rfl rfl ?_
  repeat' (first | exact trivial | refine BS.a (fun h => ?_) (fun h => ?_) | refine BS.n ?_ | refine BS.s (fun h => ?_) (fun h => ?_) | refine And.intro ?_ ?_ | exact Need.au | exact OutS.whole rfl rfl | refine ListO.go gOk hE ?_)
theorem SameLimboI_run (e' e f' f : Nat) (xs ys : List (List Row)) (hn : xs.length ≤ 1048576) (hn' : ys.length ≤ 1048576) (hx : ∀ i, (xs.getD i []).length ≤ 1048576) (hy : ∀ i, (ys.getD i []).length ≤ 1048576) : RunT Try.prog 171 [.one (.c (tLL e' e xs)), .one (.c (tLL f' f ys)), .one (.c (.lit (.func (.func 172) #[] #[])))] [] [ob (decide (xs = ys))] [] := by
  refine RunT.of_vc gOk Try.func171 rfl rfl (Nat.le_of_ble_eq_true rfl) (by repeat' (first | exact trivial | exact ⟨_, rfl, Nat.le_refl _⟩ | exact Nat.le_of_ble_eq_true rfl | refine And.intro ?_ ?_)) (Nat.le_of_ble_eq_true rfl) rfl (fun F hE => ?_)
  repeat' (first | exact trivial | refine BS.a (fun h => ?_) (fun h => ?_) | refine BS.n ?_ | refine BS.s (fun h => ?_) (fun h => ?_) | refine And.intro ?_ ?_ | exact Need.au | exact OutS.whole rfl rfl | refine ListO.go gOk hE ?_)
  · refine Need.mk ?_
    rw [decide_eq_false (fun e => by subst e; omega)]
  · refine CodeK.loop gOk hE (fun i : Nat => ⟨[(0, vr 1000000 xs.length), (1, vr 1000001 ys.length), (2, .a (.lit (.func (.func 172) #[] #[]))), (15, vr 1000000 xs.length), (16, vi xs.length), (17, vi i)], [(1000000, rLL .fro false e' e xs), (1000001, rLL .fro false f' f ys)]⟩) (fun i => i ≤ xs.length ∧ decide (xs = ys) = decide (xs.drop i = ys.drop i)) (fun i => xs.length - i) 0 (by refine leT.of ?_ ?_ rfl <;> repeat' (first | exact trivial | refine And.intro rfl ?_ | refine And.intro (by simp) ?_)) ⟨Nat.zero_le _, rfl⟩ ?_
    rintro i ⟨hi, hs⟩
    have hl : xs.length = ys.length := by omega
    repeat' (first | exact trivial | refine BS.a (fun h => ?_) (fun h => ?_) | refine BS.n ?_ | refine BS.s (fun h => ?_) (fun h => ?_) | refine And.intro ?_ ?_ | exact Need.au | exact OutS.whole rfl rfl | refine ListO.go gOk hE ?_)
    · have hc := drop_eq [] hl (i := i) (by omega)
      refine OpK.call (sameLL_run _ _ _ _ (hx i) (hy i)) rfl rfl rfl rfl hE (by repeat' (first | exact PsA.lit _ | exact PsA.ref rfl rfl | constructor)) rfl rfl ?_
      repeat' (first | exact trivial | refine BS.a (fun h => ?_) (fun h => ?_) | refine BS.n ?_ | refine BS.s (fun h => ?_) (fun h => ?_) | refine And.intro ?_ ?_ | exact Need.au | exact OutS.whole rfl rfl | refine ListO.go gOk hE ?_)
      (
          all_goals (try simp only [adN_zero] at *)
          all_goals (first
            | (refine Need.mk ?_; first | (rw [hs, hc, decide_eq_false ‹_ ≠ _›]; rfl) | (rw [hs, hc]; simp_all) | (rw [hs, List.drop_eq_nil_of_le (by omega), List.drop_eq_nil_of_le (by omega)]; rfl) | (simp_all; done))
            | (refine ⟨i + 1, (by refine leT.of ?_ ?_ rfl <;> repeat' (first | exact trivial | refine And.intro rfl ?_ | refine And.intro (by simp) ?_)), ⟨by omega, by rw [hs, hc]; simp_all⟩, by first | omega | (dsimp only; omega)⟩)))
    · refine Need.mk ?_
      rw [hs, List.drop_eq_nil_of_le (by omega), List.drop_eq_nil_of_le (by omega)]; rfl
theorem SameLimboI2_run (e' e f' f : Nat) (xs ys : List (List Row)) (hn : xs.length ≤ 1048576) (hn' : ys.length ≤ 1048576) (hx : ∀ i, (xs.getD i []).length ≤ 1048576) (hy : ∀ i, (ys.getD i []).length ≤ 1048576) : RunT Try.prog 122 [.one (.c (tLL e' e xs)), .one (.c (tLL f' f ys))] [] [ob (decide (xs = ys))] [] := by
  have c1 := SameLimboI_run e' e f' f xs ys hn hn' hx hy
  refine RunT.of_vc gOk Try.func122 rfl rfl (Nat.le_of_ble_eq_true rfl) (by repeat' (first | exact trivial | exact ⟨_, rfl, Nat.le_refl _⟩ | exact Nat.le_of_ble_eq_true rfl | refine And.intro ?_ ?_)) (Nat.le_of_ble_eq_true rfl) rfl (fun F hE => ?_)
  repeat' (first | exact trivial | refine BS.a (fun h => ?_) (fun h => ?_) | refine BS.n ?_ | refine BS.s (fun h => ?_) (fun h => ?_) | refine And.intro ?_ ?_ | exact Need.au | exact OutS.whole rfl rfl | refine OpK.ca c1 hE ?_ | refine ListO.go gOk hE ?_)
theorem SameLimboS_run (e' e f' f : Nat) (xs ys : List (List Row)) (hn : xs.length ≤ 1048576) (hn' : ys.length ≤ 1048576) (hx : ∀ i, (xs.getD i []).length ≤ 1048576) (hy : ∀ i, (ys.getD i []).length ≤ 1048576) : RunT Try.prog 114 [.one (.c (tLL e' e xs)), .one (.c (tLL f' f ys))] [] [ob (decide (xs = ys))] [] := by
  refine RunT.of_vc gOk Try.func114 rfl rfl (Nat.le_of_ble_eq_true rfl) (by repeat' (first | exact trivial | exact ⟨_, rfl, Nat.le_refl _⟩ | exact Nat.le_of_ble_eq_true rfl | refine And.intro ?_ ?_)) (Nat.le_of_ble_eq_true rfl) rfl (fun F hE => ?_)
  repeat' (first | exact trivial | refine BS.a (fun h => ?_) (fun h => ?_) | refine BS.n ?_ | refine BS.s (fun h => ?_) (fun h => ?_) | refine And.intro ?_ ?_ | exact Need.au | exact OutS.whole rfl rfl | refine ListO.go gOk hE ?_)
  · refine Need.mk ?_
    rw [decide_eq_false (fun e => by subst e; omega)]
  · refine CodeK.loop gOk hE (fun i : Nat => ⟨[(0, vr 1000000 xs.length), (1, vr 1000001 ys.length), (5, vi i)], [(1000000, rLL .fro false e' e xs), (1000001, rLL .fro false f' f ys)]⟩) (fun i => i ≤ xs.length ∧ decide (xs = ys) = decide (xs.drop i = ys.drop i)) (fun i => xs.length - i) 0 (by refine leT.of ?_ ?_ rfl <;> repeat' (first | exact trivial | refine And.intro rfl ?_ | refine And.intro (by simp) ?_)) ⟨Nat.zero_le _, rfl⟩ ?_
    rintro i ⟨hi, hs⟩
    have hl : xs.length = ys.length := by omega
    have hxi := hx i
    have hyi := hy i
    repeat' (first | exact trivial | refine BS.a (fun h => ?_) (fun h => ?_) | refine BS.n ?_ | refine BS.s (fun h => ?_) (fun h => ?_) | refine And.intro ?_ ?_ | exact Need.au | exact OutS.whole rfl rfl | refine ListO.go gOk hE ?_)
    · have hc := drop_eq [] hl (i := i) (by omega)
      refine CodeK.draw gOk hE rfl (fun _ _ h => h) (.take 0 (.take 1 (.take 2 (.take 3 (.take 6 (.take 7 (.take 8 (.take 9 (.alt 4 (.take 5 (.alt 10 (.take 11 (.take 12 .done)) .stop)) (.alt 10 (.take 11 (.alt 4 (.take 5 (.take 12 .done)) .stop)) .stop)))))))))) (by decide +kernel) ?_
      repeat' (first | exact trivial | refine BS.a (fun h => ?_) (fun h => ?_) | refine BS.n ?_ | refine BS.s (fun h => ?_) (fun h => ?_) | refine And.intro ?_ ?_ | exact Need.au | exact OutS.whole rfl rfl | refine ListO.go gOk hE ?_)
      all_goals (try simp only [adN_zero] at *)
      all_goals first
        | (refine Need.mk ?_; have hne : xs.getD i [] ≠ ys.getD i [] := (fun e => absurd (congrArg List.length e) (by omega)); rw [hs, hc, decide_eq_false hne]; rfl)
        | skip
      all_goals have hlen : (xs.getD i []).length = (ys.getD i []).length := by omega
      all_goals refine CodeK.loop gOk hE (fun k : Nat => ⟨[(0, vr 1000000 xs.length), (1, vr 1000001 ys.length), (5, vi i), (6, vi k)], [(1000000, rLL .fro false e' e xs), (1000001, rLL .fro false f' f ys)]⟩) (fun k => k ≤ (xs.getD i []).length ∧ decide (xs.getD i [] = ys.getD i []) = decide ((xs.getD i []).drop k = (ys.getD i []).drop k)) (fun k => (xs.getD i []).length - k) 0 (by refine leT.of ?_ ?_ rfl <;> repeat' (first | exact trivial | refine And.intro rfl ?_ | refine And.intro (by simp) ?_)) ⟨Nat.zero_le _, rfl⟩ ?_
      all_goals rintro k ⟨hk, ht⟩
      all_goals rcases Nat.lt_or_ge k (xs.getD i []).length with hkk | hkk
      all_goals first | (have hc2 := drop_eq (0, 0) hlen hkk) | skip
      all_goals (repeat' (first | exact trivial | refine BS.a (fun h => ?_) (fun h => ?_) | refine BS.n ?_ | refine BS.s (fun h => ?_) (fun h => ?_) | refine And.intro ?_ ?_ | exact Need.au | exact OutS.whole rfl rfl | (refine CodeK.draw gOk hE rfl (fun _ _ h => h) (.take 0 (.take 1 (.take 2 (.take 3 (.take 5 (.take 8 (.take 9 (.take 10 (.take 11 (.take 13 (.alt 4 (.take 6 (.alt 7 (.alt 12 (.take 14 (.alt 15 (.take 16 .done) .stop)) .stop) (.alt 12 (.take 14 (.alt 7 (.alt 15 (.take 16 .done) .stop) (.alt 15 (.alt 7 (.take 16 .done) .stop) .stop))) .stop))) (.alt 12 (.take 14 (.alt 4 (.take 6 (.alt 7 (.alt 15 (.take 16 .done) .stop) (.alt 15 (.alt 7 (.take 16 .done) .stop) .stop))) (.alt 15 (.alt 4 (.take 6 (.alt 7 (.take 16 .done) .stop)) .stop) .stop))) .stop)))))))))))) ?_ ?_; focus (decide +kernel)) | (refine PK.neA (vRow ((xs.getD i []).getD k (0, 0))) (vRow ((ys.getD i []).getD k (0, 0))) rfl rfl rfl rfl rfl (by kernel_rfl) (Row_eq _ _) ?_) | refine ListO.go gOk hE ?_))
      all_goals (try simp only [adN_zero] at *)
      all_goals first
        | (exfalso; omega)
        | (refine Need.mk ?_; omega)
        | (refine Need.mk ?_; rw [hs, hc, ht, hc2, decide_eq_false (by assumption)]; rfl)
        | (have h9 : k < (xs.getD i []).length := hkk; refine ⟨k + 1, (by refine leT.of ?_ ?_ rfl <;> repeat' (first | exact trivial | refine And.intro rfl ?_ | refine And.intro (by simp) ?_)), ⟨by omega, by rw [ht, hc2, decide_eq_true (by assumption)]; rfl⟩, by first | omega | (dsimp only; omega)⟩)
        | (refine ⟨i + 1, (by refine leT.of ?_ ?_ rfl <;> repeat' (first | exact trivial | refine And.intro rfl ?_ | refine And.intro (by simp) ?_)), ⟨by omega, by rw [hs, hc, ht, List.drop_eq_nil_of_le hkk, List.drop_eq_nil_of_le (by omega)]; rfl⟩, by first | omega | (dsimp only; omega)⟩)
    · refine Need.mk ?_
      rw [hs, List.drop_eq_nil_of_le (by omega), List.drop_eq_nil_of_le (by omega)]; rfl
theorem EqualPin_run (e e' : Nat) (xs ys : List PinT) (hn : xs.length ≤ 1048576) (hn' : ys.length ≤ 1048576) : RunT Try.prog 170 [.one (.c (tPin e xs)), .one (.c (tPin e' ys))] [] [ob (decide (xs = ys))] [] := by
  refine RunT.of_vc gOk Try.func170 rfl rfl (Nat.le_of_ble_eq_true rfl) (by repeat' (first | exact trivial | exact ⟨_, rfl, Nat.le_refl _⟩ | exact Nat.le_of_ble_eq_true rfl | refine And.intro ?_ ?_)) (Nat.le_of_ble_eq_true rfl) rfl (fun F hE => ?_)
  repeat' (first | exact trivial | refine BS.a (fun h => ?_) (fun h => ?_) | refine BS.n ?_ | refine BS.s (fun h => ?_) (fun h => ?_) | refine And.intro ?_ ?_ | exact Need.au | exact OutS.whole rfl rfl | refine ListO.go gOk hE ?_)
  · refine Need.mk ?_
    rw [decide_eq_false (fun e => by subst e; omega)]
  · refine CodeK.loop gOk hE (fun i : Nat => ⟨[(0, vr 1000000 xs.length), (1, vr 1000001 ys.length), (12, vi xs.length), (13, vi i)], [(1000000, rPin .fro false e xs), (1000001, rPin .fro false e' ys)]⟩) (fun i => i ≤ xs.length ∧ decide (xs = ys) = decide (xs.drop i = ys.drop i)) (fun i => xs.length - i) 0 (by refine leT.of ?_ ?_ rfl <;> repeat' (first | exact trivial | refine And.intro rfl ?_ | refine And.intro (by simp) ?_)) ⟨Nat.zero_le _, rfl⟩ ?_
    rintro i ⟨hi, hs⟩
    have hl : xs.length = ys.length := by omega
    repeat' (first | exact trivial | refine BS.a (fun h => ?_) (fun h => ?_) | refine BS.n ?_ | refine BS.s (fun h => ?_) (fun h => ?_) | refine And.intro ?_ ?_ | exact Need.au | exact OutS.whole rfl rfl | refine ListO.go gOk hE ?_)
    · have hc := drop_eq zPin hl (i := i) (by omega)
      refine CodeK.draw gOk hE rfl (fun _ _ h => h) (.take 0 (.take 1 (.take 2 (.take 4 (.take 5 (.take 6 (.alt 3 (.alt 7 (.take 8 .done) .stop) (.alt 7 (.alt 3 (.take 8 .done) .stop) .stop)))))))) (by decide +kernel) ?_
      repeat' (first | exact trivial | refine BS.a (fun h => ?_) (fun h => ?_) | refine BS.n ?_ | refine BS.s (fun h => ?_) (fun h => ?_) | refine And.intro ?_ ?_ | exact Need.au | exact OutS.whole rfl rfl | (refine PK.neA (vPin (xs.getD i zPin)) (vPin (ys.getD i zPin)) rfl rfl rfl rfl rfl (by kernel_rfl) (Pin_eq _ _) ?_) | refine ListO.go gOk hE ?_)
      (
          all_goals (try simp only [adN_zero] at *)
          all_goals (first
            | (refine Need.mk ?_; first | (rw [hs, hc, decide_eq_false ‹_ ≠ _›]; rfl) | (rw [hs, hc]; simp_all) | (rw [hs, List.drop_eq_nil_of_le (by omega), List.drop_eq_nil_of_le (by omega)]; rfl) | (simp_all; done))
            | (refine ⟨i + 1, (by refine leT.of ?_ ?_ rfl <;> repeat' (first | exact trivial | refine And.intro rfl ?_ | refine And.intro (by simp) ?_)), ⟨by omega, by rw [hs, hc]; simp_all⟩, by first | omega | (dsimp only; omega)⟩)))
    · refine Need.mk ?_
      rw [hs, List.drop_eq_nil_of_le (by omega), List.drop_eq_nil_of_le (by omega)]; rfl
theorem SameClockI_run (E E' : Int) (e e' : Nat) (xs ys : List PinT) (hn : xs.length ≤ 1048576) (hn' : ys.length ≤ 1048576) : RunT Try.prog 121 [aClk E e xs, aClk E' e' ys] [] [ob (decide (E = E') && decide (xs = ys))] [] := by
  have c1 := EqualPin_run e e' xs ys hn hn'
  refine RunT.of_vc gOk Try.func121 rfl rfl (Nat.le_of_ble_eq_true rfl) (by repeat' (first | exact trivial | exact ⟨_, rfl, Nat.le_refl _⟩ | exact Nat.le_of_ble_eq_true rfl | refine And.intro ?_ ?_)) (Nat.le_of_ble_eq_true rfl) rfl (fun F hE => ?_)
  repeat' (first | exact trivial | refine BS.a (fun h => ?_) (fun h => ?_) | refine BS.n ?_ | refine BS.s (fun h => ?_) (fun h => ?_) | refine And.intro ?_ ?_ | exact Need.au | exact OutS.whole rfl rfl | refine OpK.ca c1 hE ?_ | refine ListO.go gOk hE ?_)
  all_goals (refine Need.mk ?_; simp_all)
theorem SameClockS_run (E E' : Int) (e e' : Nat) (xs ys : List PinT) (hn : xs.length ≤ 1048576) (hn' : ys.length ≤ 1048576) : RunT Try.prog 113 [aClk E e xs, aClk E' e' ys] [] [ob (decide (E = E') && decide (xs = ys))] [] := by
  refine RunT.of_vc gOk Try.func113 rfl rfl (Nat.le_of_ble_eq_true rfl) (by repeat' (first | exact trivial | exact ⟨_, rfl, Nat.le_refl _⟩ | exact Nat.le_of_ble_eq_true rfl | refine And.intro ?_ ?_)) (Nat.le_of_ble_eq_true rfl) rfl (fun F hE => ?_)
  repeat' (first | exact trivial | refine BS.a (fun h => ?_) (fun h => ?_) | refine BS.n ?_ | refine BS.s (fun h => ?_) (fun h => ?_) | refine And.intro ?_ ?_ | exact Need.au | exact OutS.whole rfl rfl | refine ListO.go gOk hE ?_)
  all_goals first
    | (refine Need.mk ?_; have hne : ¬ (E = E' ∧ xs = ys) := (fun e => by obtain ⟨e1, e2⟩ := e; subst e2; simp_all); rw [← Bool.decide_and, decide_eq_false hne]; done)
    | skip
  all_goals refine CodeK.loop gOk hE (fun i : Nat => ⟨[(2, .ptr 2 0 0), (3, .ptr 3 0 0), (5, vi i)], [(2, .box 34 [.cl (.lit (.int .i64 E)), .ref 1000000 0 xs.length]), (3, .box 34 [.cl (.lit (.int .i64 E')), .ref 1000001 0 ys.length]), (1000000, rPin .fro false e xs), (1000001, rPin .fro false e' ys)]⟩) (fun i => i ≤ xs.length ∧ decide (xs = ys) = decide (xs.drop i = ys.drop i)) (fun i => xs.length - i) 0 (by refine leT.of ?_ ?_ rfl <;> repeat' (first | exact trivial | refine And.intro rfl ?_ | refine And.intro (by simp) ?_)) ⟨Nat.zero_le _, rfl⟩ ?_
  all_goals rintro i ⟨hi, hs⟩
  all_goals have hEE : E = E' := by assumption
  all_goals have hl : xs.length = ys.length := by omega
  all_goals rw [decide_eq_true hEE, Bool.true_and]
  all_goals rcases Nat.lt_or_ge i xs.length with hlt | hge
  · have hc := drop_eq zPin hl (i := i) (by omega)
    repeat' (first | exact trivial | refine BS.a (fun h => ?_) (fun h => ?_) | refine BS.n ?_ | refine BS.s (fun h => ?_) (fun h => ?_) | refine And.intro ?_ ?_ | exact Need.au | exact OutS.whole rfl rfl | (refine CodeK.draw gOk hE rfl (fun _ _ h => h) (.take 0 (.take 2 (.take 5 (.take 7 (.alt 1 (.take 3 (.alt 4 (.alt 6 (.take 8 (.alt 9 (.take 10 .done) .stop)) .stop) (.alt 6 (.take 8 (.alt 4 (.alt 9 (.take 10 .done) .stop) (.alt 9 (.alt 4 (.take 10 .done) .stop) .stop))) .stop))) (.alt 6 (.take 8 (.alt 1 (.take 3 (.alt 4 (.alt 9 (.take 10 .done) .stop) (.alt 9 (.alt 4 (.take 10 .done) .stop) .stop))) (.alt 9 (.alt 1 (.take 3 (.alt 4 (.take 10 .done) .stop)) .stop) .stop))) .stop)))))) ?_ ?_; focus (decide +kernel)) | (refine PK.neA (vPin (xs.getD i zPin)) (vPin (ys.getD i zPin)) rfl rfl rfl rfl rfl (by kernel_rfl) (Pin_eq _ _) ?_) | refine ListO.go gOk hE ?_)
    all_goals (try simp only [adN_zero] at *)
    all_goals first
      | (exfalso; omega)
      | (refine Need.mk ?_; omega)
      | (refine Need.mk ?_; rw [hs, hc, decide_eq_false (by assumption)]; rfl)
      | (refine ⟨i + 1, (by refine leT.of ?_ ?_ rfl <;> repeat' (first | exact trivial | refine And.intro rfl ?_ | refine And.intro (by simp) ?_)), ⟨by omega, by rw [hs, hc, decide_eq_true (by assumption)]; rfl⟩, by first | omega | (dsimp only; omega)⟩)
      | trace_state
  · repeat' (first | exact trivial | refine BS.a (fun h => ?_) (fun h => ?_) | refine BS.n ?_ | refine BS.s (fun h => ?_) (fun h => ?_) | refine And.intro ?_ ?_ | exact Need.au | exact OutS.whole rfl rfl | refine ListO.go gOk hE ?_)
    all_goals first
      | (exfalso; omega)
      | (refine Need.mk ?_; rw [hs, List.drop_eq_nil_of_le (by omega), List.drop_eq_nil_of_le (by omega)]; rfl)
abbrev sbV (b c : List Int) (g o : List (List Int)) (E : Int) (ps : List PinT) (l : List (List Row)) (z : List Int) (b' c' : List Int) (g' o' : List (List Int)) (E' : Int) (ps' : List PinT) (l' : List (List Row)) (z' : List Int) : Bool :=
  ((((decide (b = b') && decide (c = c')) && (decide (g = g') && decide (o = o'))) && (decide (E = E') && decide (ps = ps'))) && decide (l = l')) && decide (z = z')
theorem SameBaseS_run (b c : List Int) (g o : List (List Int)) (E : Int) (ps : List PinT) (l : List (List Row)) (z : List Int) (b' c' : List Int) (g' o' : List (List Int)) (E' : Int) (ps' : List PinT) (l' : List (List Row)) (z' : List Int) (h1 : BsOk 1048576 b c g o ps l z) (h2 : BsOk 1048576 b' c' g' o' ps' l' z') : RunT Try.prog 57 [aBs 280 240 130 186 b c g o E ps l z, aBs 280 240 130 186 b' c' g' o' E' ps' l' z'] [] [ob (sbV b c g o E ps l z b' c' g' o' E' ps' l' z')] [] := by
  have c1 := SameMemS_run 280 280 b c g o b' c' g' o' h1.mm h2.mm
  have c2 := SameClockS_run E E' 240 240 ps ps' h1.hps h2.hps
  have c3 := SameLimboS_run 130 186 130 186 l l' h1.hl h2.hl h1.hl' h2.hl'
  have c4 := SameBytes_run z z' (h1.le (m' := 4000000) (by decide)).hz (h2.le (m' := 4000000) (by decide)).hz
  unfold sbV
  generalize ((decide (b = b') && decide (c = c')) && (decide (g = g') && decide (o = o'))) = v1 at c1 ⊢
  generalize (decide (E = E') && decide (ps = ps')) = v2 at c2 ⊢
  generalize decide (l = l') = v3 at c3 ⊢
  generalize decide (z = z') = v4 at c4 ⊢
  refine RunT.of_vc gOk Try.func57 rfl rfl (Nat.le_of_ble_eq_true rfl) (by repeat' (first | exact trivial | exact ⟨_, rfl, Nat.le_refl _⟩ | exact Nat.le_of_ble_eq_true rfl | refine And.intro ?_ ?_)) (Nat.le_of_ble_eq_true rfl) rfl (fun F hE => ?_)
  repeat' (first | exact trivial | refine BS.a (fun h => ?_) (fun h => ?_) | refine BS.n ?_ | refine BS.s (fun h => ?_) (fun h => ?_) | refine And.intro ?_ ?_ | exact Need.au | exact OutS.whole rfl rfl | refine OpK.ca c1 hE ?_ | refine OpK.ca c2 hE ?_ | refine OpK.ca c3 hE ?_ | refine OpK.ca c4 hE ?_ | refine ListO.go gOk hE ?_)
  all_goals (refine Need.mk ?_; simp_all)
theorem SameBaseI_run (b c : List Int) (g o : List (List Int)) (E : Int) (ps : List PinT) (l : List (List Row)) (z : List Int) (b' c' : List Int) (g' o' : List (List Int)) (E' : Int) (ps' : List PinT) (l' : List (List Row)) (z' : List Int) (h1 : BsOk 1048576 b c g o ps l z) (h2 : BsOk 1048576 b' c' g' o' ps' l' z') : RunT Try.prog 63 [aBs 280 240 130 186 b c g o E ps l z, aBs 280 240 130 186 b' c' g' o' E' ps' l' z'] [] [ob (sbV b c g o E ps l z b' c' g' o' E' ps' l' z')] [] := by
  have c1 := SameMemI_run 280 280 b c g o b' c' g' o' h1.mm h2.mm
  have c2 := SameClockI_run E E' 240 240 ps ps' h1.hps h2.hps
  have c3 := SameLimboI2_run 130 186 130 186 l l' h1.hl h2.hl h1.hl' h2.hl'
  have c4 := Equal_run z z' (h1.le (m' := 4000000) (by decide)).hz (h2.le (m' := 4000000) (by decide)).hz
  unfold sbV
  generalize ((decide (b = b') && decide (c = c')) && (decide (g = g') && decide (o = o'))) = v1 at c1 ⊢
  generalize (decide (E = E') && decide (ps = ps')) = v2 at c2 ⊢
  generalize decide (l = l') = v3 at c3 ⊢
  generalize decide (z = z') = v4 at c4 ⊢
  refine RunT.of_vc gOk Try.func63 rfl rfl (Nat.le_of_ble_eq_true rfl) (by repeat' (first | exact trivial | exact ⟨_, rfl, Nat.le_refl _⟩ | exact Nat.le_of_ble_eq_true rfl | refine And.intro ?_ ?_)) (Nat.le_of_ble_eq_true rfl) rfl (fun F hE => ?_)
  repeat' (first | exact trivial | refine BS.a (fun h => ?_) (fun h => ?_) | refine BS.n ?_ | refine BS.s (fun h => ?_) (fun h => ?_) | refine And.intro ?_ ?_ | exact Need.au | exact OutS.whole rfl rfl | refine OpK.ca c1 hE ?_ | refine OpK.ca c2 hE ?_ | refine OpK.ca c3 hE ?_ | refine OpK.ca c4 hE ?_ | refine ListO.go gOk hE ?_)
  all_goals (refine Need.mk ?_; simp_all)
end Go.Proofs.Ytjlphbhmjicdhaa
end

section
/- Operations, events and jobs are compared. -/
namespace Go.Proofs.Ytjlphbhmjicdhaa
open Go Go.Tr
set_option maxRecDepth 100000
set_option maxHeartbeats 4000000
set_option linter.unusedVariables false
set_option linter.unusedSimpArgs false
instance dSub8 : DecidableEq (Int × Bool) := @instDecidableEqProd _ _ _ _
instance dSub7 : DecidableEq (Int × Int × Bool) := @instDecidableEqProd _ _ _ dSub8
instance dSub6 : DecidableEq (Int × Int × Int × Bool) := @instDecidableEqProd _ _ _ dSub7
instance dSub5 : DecidableEq (Int × Int × Int × Int × Bool) := @instDecidableEqProd _ _ _ dSub6
instance dSub4 : DecidableEq (Int × Int × Int × Int × Int × Bool) := @instDecidableEqProd _ _ _ dSub5
instance dSub3 : DecidableEq (Int × Int × Int × Int × Int × Int × Bool) := @instDecidableEqProd _ _ _ dSub4
instance dSub2 : DecidableEq (Int × Int × Int × Int × Int × Int × Int × Bool) := @instDecidableEqProd _ _ _ dSub3
instance dSub1 : DecidableEq (Int × Int × Int × Int × Int × Int × Int × Int × Bool) := @instDecidableEqProd _ _ _ dSub2
instance dSub0 : DecidableEq (Int × Int × Int × Int × Int × Int × Int × Int × Int × Bool) := @instDecidableEqProd _ _ _ dSub1
instance dSubT : DecidableEq SubT := dSub0
instance dJob19 : DecidableEq (Int × Int) := @instDecidableEqProd _ _ _ _
instance dJob18 : DecidableEq (Int × Int × Int) := @instDecidableEqProd _ _ _ dJob19
instance dJob17 : DecidableEq (Int × Int × Int × Int) := @instDecidableEqProd _ _ _ dJob18
instance dJob16 : DecidableEq (Bool × Int × Int × Int × Int) := @instDecidableEqProd _ _ _ dJob17
instance dJob15 : DecidableEq (Int × Bool × Int × Int × Int × Int) := @instDecidableEqProd _ _ _ dJob16
instance dJob14 : DecidableEq (Int × Int × Bool × Int × Int × Int × Int) := @instDecidableEqProd _ _ _ dJob15
instance dJob13 : DecidableEq (Int × Int × Int × Bool × Int × Int × Int × Int) := @instDecidableEqProd _ _ _ dJob14
instance dJob12 : DecidableEq (Int × Int × Int × Int × Bool × Int × Int × Int × Int) := @instDecidableEqProd _ _ _ dJob13
instance dJob11 : DecidableEq (Int × Int × Int × Int × Int × Bool × Int × Int × Int × Int) := @instDecidableEqProd _ _ _ dJob12
instance dJob10 : DecidableEq (Int × Int × Int × Int × Int × Int × Bool × Int × Int × Int × Int) := @instDecidableEqProd _ _ _ dJob11
instance dJob9 : DecidableEq (Int × Int × Int × Int × Int × Int × Int × Bool × Int × Int × Int × Int) := @instDecidableEqProd _ _ _ dJob10
instance dJob8 : DecidableEq (Int × Int × Int × Int × Int × Int × Int × Int × Bool × Int × Int × Int × Int) := @instDecidableEqProd _ _ _ dJob9
instance dJob7 : DecidableEq (Int × Int × Int × Int × Int × Int × Int × Int × Int × Bool × Int × Int × Int × Int) := @instDecidableEqProd _ _ _ dJob8
instance dJob6 : DecidableEq (Int × Int × Int × Int × Int × Int × Int × Int × Int × Int × Bool × Int × Int × Int × Int) := @instDecidableEqProd _ _ _ dJob7
instance dJob5 : DecidableEq (Int × Int × Int × Int × Int × Int × Int × Int × Int × Int × Int × Bool × Int × Int × Int × Int) := @instDecidableEqProd _ _ _ dJob6
instance dJob4 : DecidableEq (Int × Int × Int × Int × Int × Int × Int × Int × Int × Int × Int × Int × Bool × Int × Int × Int × Int) := @instDecidableEqProd _ _ _ dJob5
instance dJob3 : DecidableEq (Int × Int × Int × Int × Int × Int × Int × Int × Int × Int × Int × Int × Int × Bool × Int × Int × Int × Int) := @instDecidableEqProd _ _ _ dJob4
instance dJob2 : DecidableEq (Int × Int × Int × Int × Int × Int × Int × Int × Int × Int × Int × Int × Int × Int × Bool × Int × Int × Int × Int) := @instDecidableEqProd _ _ _ dJob3
instance dJob1 : DecidableEq (Int × Int × Int × Int × Int × Int × Int × Int × Int × Int × Int × Int × Int × Int × Int × Bool × Int × Int × Int × Int) := @instDecidableEqProd _ _ _ dJob2
instance dJob0 : DecidableEq (Bool × Int × Int × Int × Int × Int × Int × Int × Int × Int × Int × Int × Int × Int × Int × Int × Bool × Int × Int × Int × Int) := @instDecidableEqProd _ _ _ dJob1
instance dJobT : DecidableEq JobT := dJob0
instance dEv5 : DecidableEq (Int × Int) := @instDecidableEqProd _ _ _ _
instance dEv4 : DecidableEq (Int × Int × Int) := @instDecidableEqProd _ _ _ dEv5
instance dEv3 : DecidableEq (Int × Int × Int × Int) := @instDecidableEqProd _ _ _ dEv4
instance dEv2 : DecidableEq (Int × Int × Int × Int × Int) := @instDecidableEqProd _ _ _ dEv3
instance dEv1 : DecidableEq (Int × Int × Int × Int × Int × Int) := @instDecidableEqProd _ _ _ dEv2
instance dEv0 : DecidableEq (Int × Int × Int × Int × Int × Int × Int) := @instDecidableEqProd _ _ _ dEv1
instance dEvT : DecidableEq EvT := dEv0
abbrev vOp (x : OpT) : List Value := [Value.int .i64 x.1, Value.int .i64 x.2.1, Value.int .i64 x.2.2.1, Value.int .i64 x.2.2.2]
theorem Op_eqD (d : Nat) (p q : OpT) (w : World) : (Op.equalIn (d + 2) 114 (.agg (vOp p).toArray) (.agg (vOp q).toArray)).run Try.prog w = .ok (decide (p = q)) w := by
  have u3 := Try.underlying3
  obtain ⟨p0, p1, p2, p3⟩ := p
  obtain ⟨q0, q1, q2, q3⟩ := q
  have hS : Try.prog.underlying 114 = some (.struct (Try.prog.fieldsOf 114)) := by kernel_rfl
  rw [show d + 2 = (d + 1) + 1 from rfl, run_equalIn_agg w (d + 1) 114 _ _ hS (by kernel_rfl)]
  simp only [Program.fieldsOf, Try.underlying114]
  go_simp
  by_cases h0 : p0 = q0
  rotate_left
  · simp [h0]
  by_cases h1 : p1 = q1
  rotate_left
  · simp [h0, h1]
  by_cases h2 : p2 = q2
  rotate_left
  · simp [h0, h1, h2]
  by_cases h3 : p3 = q3
  rotate_left
  · simp [h0, h1, h2, h3]
  simp [h0, h1, h2, h3]
theorem Op_eq (p q : OpT) (w : World) : (Op.equalIn 10000 114 (.agg (vOp p).toArray) (.agg (vOp q).toArray)).run Try.prog w = .ok (decide (p = q)) w := Op_eqD 9998 p q w
abbrev vSub (x : SubT) : List Value := [Value.int .i64 x.1, Value.int .i64 x.2.1, Value.int .i64 x.2.2.1, Value.int .i64 x.2.2.2.1, Value.int .i64 x.2.2.2.2.1, Value.int .i64 x.2.2.2.2.2.1, Value.int .i64 x.2.2.2.2.2.2.1, Value.int .i64 x.2.2.2.2.2.2.2.1, Value.int .i64 x.2.2.2.2.2.2.2.2.1, Value.bool x.2.2.2.2.2.2.2.2.2]
theorem Sub_eqD (d : Nat) (p q : SubT) (w : World) : (Op.equalIn (d + 2) 116 (.agg (vSub p).toArray) (.agg (vSub q).toArray)).run Try.prog w = .ok (decide (p = q)) w := by
  have u3 := Try.underlying3
  have u4 := Try.underlying4
  obtain ⟨p0, p1, p2, p3, p4, p5, p6, p7, p8, p9⟩ := p
  obtain ⟨q0, q1, q2, q3, q4, q5, q6, q7, q8, q9⟩ := q
  have hS : Try.prog.underlying 116 = some (.struct (Try.prog.fieldsOf 116)) := by kernel_rfl
  rw [show d + 2 = (d + 1) + 1 from rfl, run_equalIn_agg w (d + 1) 116 _ _ hS (by kernel_rfl)]
  simp only [Program.fieldsOf, Try.underlying116]
  go_simp
  by_cases h0 : p0 = q0
  rotate_left
  · simp [h0]
  by_cases h1 : p1 = q1
  rotate_left
  · simp [h0, h1]
  by_cases h2 : p2 = q2
  rotate_left
  · simp [h0, h1, h2]
  by_cases h3 : p3 = q3
  rotate_left
  · simp [h0, h1, h2, h3]
  by_cases h4 : p4 = q4
  rotate_left
  · simp [h0, h1, h2, h3, h4]
  by_cases h5 : p5 = q5
  rotate_left
  · simp [h0, h1, h2, h3, h4, h5]
  by_cases h6 : p6 = q6
  rotate_left
  · simp [h0, h1, h2, h3, h4, h5, h6]
  by_cases h7 : p7 = q7
  rotate_left
  · simp [h0, h1, h2, h3, h4, h5, h6, h7]
  by_cases h8 : p8 = q8
  rotate_left
  · simp [h0, h1, h2, h3, h4, h5, h6, h7, h8]
  by_cases h9 : p9 = q9
  rotate_left
  · simp [h0, h1, h2, h3, h4, h5, h6, h7, h8, h9]
  simp [h0, h1, h2, h3, h4, h5, h6, h7, h8, h9]
theorem Sub_eq (p q : SubT) (w : World) : (Op.equalIn 10000 116 (.agg (vSub p).toArray) (.agg (vSub q).toArray)).run Try.prog w = .ok (decide (p = q)) w := Sub_eqD 9998 p q w
abbrev vEv (x : EvT) : List Value := [Value.int .i64 x.1, Value.int .i64 x.2.1, Value.int .i64 x.2.2.1, Value.int .i64 x.2.2.2.1, Value.int .i64 x.2.2.2.2.1, Value.int .i64 x.2.2.2.2.2.1, Value.int .i64 x.2.2.2.2.2.2]
theorem Ev_eqD (d : Nat) (p q : EvT) (w : World) : (Op.equalIn (d + 2) 120 (.agg (vEv p).toArray) (.agg (vEv q).toArray)).run Try.prog w = .ok (decide (p = q)) w := by
  have u3 := Try.underlying3
  obtain ⟨p0, p1, p2, p3, p4, p5, p6⟩ := p
  obtain ⟨q0, q1, q2, q3, q4, q5, q6⟩ := q
  have hS : Try.prog.underlying 120 = some (.struct (Try.prog.fieldsOf 120)) := by kernel_rfl
  rw [show d + 2 = (d + 1) + 1 from rfl, run_equalIn_agg w (d + 1) 120 _ _ hS (by kernel_rfl)]
  simp only [Program.fieldsOf, Try.underlying120]
  go_simp
  by_cases h0 : p0 = q0
  rotate_left
  · simp [h0]
  by_cases h1 : p1 = q1
  rotate_left
  · simp [h0, h1]
  by_cases h2 : p2 = q2
  rotate_left
  · simp [h0, h1, h2]
  by_cases h3 : p3 = q3
  rotate_left
  · simp [h0, h1, h2, h3]
  by_cases h4 : p4 = q4
  rotate_left
  · simp [h0, h1, h2, h3, h4]
  by_cases h5 : p5 = q5
  rotate_left
  · simp [h0, h1, h2, h3, h4, h5]
  by_cases h6 : p6 = q6
  rotate_left
  · simp [h0, h1, h2, h3, h4, h5, h6]
  simp [h0, h1, h2, h3, h4, h5, h6]
theorem Ev_eq (p q : EvT) (w : World) : (Op.equalIn 10000 120 (.agg (vEv p).toArray) (.agg (vEv q).toArray)).run Try.prog w = .ok (decide (p = q)) w := Ev_eqD 9998 p q w
abbrev vJob (x : JobT) : List Value := [Value.bool x.1, Value.int .i64 x.2.1, Value.int .i64 x.2.2.1, Value.int .i64 x.2.2.2.1, Value.int .i64 x.2.2.2.2.1, Value.int .i64 x.2.2.2.2.2.1, Value.int .i64 x.2.2.2.2.2.2.1, Value.int .i64 x.2.2.2.2.2.2.2.1, Value.int .i64 x.2.2.2.2.2.2.2.2.1, Value.int .i64 x.2.2.2.2.2.2.2.2.2.1, Value.int .i64 x.2.2.2.2.2.2.2.2.2.2.1, Value.int .i64 x.2.2.2.2.2.2.2.2.2.2.2.1, Value.int .i64 x.2.2.2.2.2.2.2.2.2.2.2.2.1, Value.int .i64 x.2.2.2.2.2.2.2.2.2.2.2.2.2.1, Value.int .i64 x.2.2.2.2.2.2.2.2.2.2.2.2.2.2.1, Value.int .i64 x.2.2.2.2.2.2.2.2.2.2.2.2.2.2.2.1, Value.bool x.2.2.2.2.2.2.2.2.2.2.2.2.2.2.2.2.1, Value.int .i64 x.2.2.2.2.2.2.2.2.2.2.2.2.2.2.2.2.2.1, Value.int .i64 x.2.2.2.2.2.2.2.2.2.2.2.2.2.2.2.2.2.2.1, Value.int .i64 x.2.2.2.2.2.2.2.2.2.2.2.2.2.2.2.2.2.2.2.1, Value.int .i64 x.2.2.2.2.2.2.2.2.2.2.2.2.2.2.2.2.2.2.2.2]
theorem Job_eq (p q : JobT) (w : World) : (Op.equalIn 10000 118 (.agg (vJob p).toArray) (.agg (vJob q).toArray)).run Try.prog w = .ok (decide (p = q)) w := by
  have u3 := Try.underlying3
  have u4 := Try.underlying4
  obtain ⟨p0, p1, p2, p3, p4, p5, p6, p7, p8, p9, p10, p11, p12, p13, p14, p15, p16, p17, p18, p19, p20⟩ := p
  obtain ⟨q0, q1, q2, q3, q4, q5, q6, q7, q8, q9, q10, q11, q12, q13, q14, q15, q16, q17, q18, q19, q20⟩ := q
  have e1 := Op_eqD 9997 (p1, p2, p3, p4) (q1, q2, q3, q4)
  have e2 := Sub_eqD 9997 (p7, p8, p9, p10, p11, p12, p13, p14, p15, p16) (q7, q8, q9, q10, q11, q12, q13, q14, q15, q16)
  have hS : Try.prog.underlying 118 = some (.struct (Try.prog.fieldsOf 118)) := by kernel_rfl
  rw [show (10000 : Nat) = 9999 + 1 from rfl, run_equalIn_agg w 9999 118 _ _ hS (by kernel_rfl)]
  simp only [Program.fieldsOf, Try.underlying118]
  go_simp
  by_cases h0 : p0 = q0
  rotate_left
  · simp [h0]
  by_cases h1 : p1 = q1
  rotate_left
  · simp [h0, h1]
  by_cases h2 : p2 = q2
  rotate_left
  · simp [h0, h1, h2]
  by_cases h3 : p3 = q3
  rotate_left
  · simp [h0, h1, h2, h3]
  by_cases h4 : p4 = q4
  rotate_left
  · simp [h0, h1, h2, h3, h4]
  by_cases h5 : p5 = q5
  rotate_left
  · simp [h0, h1, h2, h3, h4, h5]
  by_cases h6 : p6 = q6
  rotate_left
  · simp [h0, h1, h2, h3, h4, h5, h6]
  by_cases h7 : p7 = q7
  rotate_left
  · simp [h0, h1, h2, h3, h4, h5, h6, h7]
  by_cases h8 : p8 = q8
  rotate_left
  · simp [h0, h1, h2, h3, h4, h5, h6, h7, h8]
  by_cases h9 : p9 = q9
  rotate_left
  · simp [h0, h1, h2, h3, h4, h5, h6, h7, h8, h9]
  by_cases h10 : p10 = q10
  rotate_left
  · simp [h0, h1, h2, h3, h4, h5, h6, h7, h8, h9, h10]
  by_cases h11 : p11 = q11
  rotate_left
  · simp [h0, h1, h2, h3, h4, h5, h6, h7, h8, h9, h10, h11]
  by_cases h12 : p12 = q12
  rotate_left
  · simp [h0, h1, h2, h3, h4, h5, h6, h7, h8, h9, h10, h11, h12]
  by_cases h13 : p13 = q13
  rotate_left
  · simp [h0, h1, h2, h3, h4, h5, h6, h7, h8, h9, h10, h11, h12, h13]
  by_cases h14 : p14 = q14
  rotate_left
  · simp [h0, h1, h2, h3, h4, h5, h6, h7, h8, h9, h10, h11, h12, h13, h14]
  by_cases h15 : p15 = q15
  rotate_left
  · simp [h0, h1, h2, h3, h4, h5, h6, h7, h8, h9, h10, h11, h12, h13, h14, h15]
  by_cases h16 : p16 = q16
  rotate_left
  · simp [h0, h1, h2, h3, h4, h5, h6, h7, h8, h9, h10, h11, h12, h13, h14, h15, h16]
  by_cases h17 : p17 = q17
  rotate_left
  · simp [h0, h1, h2, h3, h4, h5, h6, h7, h8, h9, h10, h11, h12, h13, h14, h15, h16, h17]
  by_cases h18 : p18 = q18
  rotate_left
  · simp [h0, h1, h2, h3, h4, h5, h6, h7, h8, h9, h10, h11, h12, h13, h14, h15, h16, h17, h18]
  by_cases h19 : p19 = q19
  rotate_left
  · simp [h0, h1, h2, h3, h4, h5, h6, h7, h8, h9, h10, h11, h12, h13, h14, h15, h16, h17, h18, h19]
  by_cases h20 : p20 = q20
  rotate_left
  · simp [h0, h1, h2, h3, h4, h5, h6, h7, h8, h9, h10, h11, h12, h13, h14, h15, h16, h17, h18, h19, h20]
  simp [h0, h1, h2, h3, h4, h5, h6, h7, h8, h9, h10, h11, h12, h13, h14, h15, h16, h17, h18, h19, h20]
end Go.Proofs.Ytjlphbhmjicdhaa
end

section
/- Lists of operations, events, jobs and queues are compared by impl. -/
namespace Go.Proofs.Ytjlphbhmjicdhaa
open Go Go.Tr
set_option maxRecDepth 100000
set_option maxHeartbeats 4000000
set_option linter.unusedVariables false
set_option linter.unusedSimpArgs false
theorem EqualOp_run (e e' : Nat) (xs ys : List OpT) (hn : xs.length ≤ 1048576) (hn' : ys.length ≤ 1048576) : RunT Try.prog 123 [.one (.c (tOp e xs)), .one (.c (tOp e' ys))] [] [ob (decide (xs = ys))] [] := by
  refine RunT.of_vc gOk Try.func123 rfl rfl (Nat.le_of_ble_eq_true rfl) (by repeat' (first | exact trivial | exact ⟨_, rfl, Nat.le_refl _⟩ | exact Nat.le_of_ble_eq_true rfl | refine And.intro ?_ ?_)) (Nat.le_of_ble_eq_true rfl) rfl (fun F hE => ?_)
  repeat' (first | exact trivial | refine BS.a (fun h => ?_) (fun h => ?_) | refine BS.n ?_ | refine BS.s (fun h => ?_) (fun h => ?_) | refine And.intro ?_ ?_ | exact Need.au | exact OutS.whole rfl rfl | refine ListO.go gOk hE ?_)
  · refine Need.mk ?_
    rw [decide_eq_false (fun e => by subst e; omega)]
  · refine CodeK.loop gOk hE (fun i : Nat => ⟨[(0, vr 1000000 xs.length), (1, vr 1000001 ys.length), (12, vi xs.length), (13, vi i)], [(1000000, rOp .fro false e xs), (1000001, rOp .fro false e' ys)]⟩) (fun i => i ≤ xs.length ∧ decide (xs = ys) = decide (xs.drop i = ys.drop i)) (fun i => xs.length - i) 0 (by refine leT.of ?_ ?_ rfl <;> repeat' (first | exact trivial | refine And.intro rfl ?_ | refine And.intro (by simp) ?_)) ⟨Nat.zero_le _, rfl⟩ ?_
    rintro i ⟨hi, hs⟩
    have hl : xs.length = ys.length := by omega
    repeat' (first | exact trivial | refine BS.a (fun h => ?_) (fun h => ?_) | refine BS.n ?_ | refine BS.s (fun h => ?_) (fun h => ?_) | refine And.intro ?_ ?_ | exact Need.au | exact OutS.whole rfl rfl | refine ListO.go gOk hE ?_)
    · have hc := drop_eq zOp hl (i := i) (by omega)
      refine CodeK.draw gOk hE rfl (fun _ _ h => h) (.take 0 (.take 1 (.take 2 (.take 4 (.take 5 (.take 6 (.alt 3 (.alt 7 (.take 8 .done) .stop) (.alt 7 (.alt 3 (.take 8 .done) .stop) .stop)))))))) (by decide +kernel) ?_
      repeat' (first | exact trivial | refine BS.a (fun h => ?_) (fun h => ?_) | refine BS.n ?_ | refine BS.s (fun h => ?_) (fun h => ?_) | refine And.intro ?_ ?_ | exact Need.au | exact OutS.whole rfl rfl | (refine PK.neA (vOp (xs.getD i zOp)) (vOp (ys.getD i zOp)) rfl rfl rfl rfl rfl (by kernel_rfl) (Op_eq _ _) ?_) | refine ListO.go gOk hE ?_)
      (
          all_goals (try simp only [adN_zero] at *)
          all_goals (first
            | (refine Need.mk ?_; first | (rw [hs, hc, decide_eq_false ‹_ ≠ _›]; rfl) | (rw [hs, hc]; simp_all) | (rw [hs, List.drop_eq_nil_of_le (by omega), List.drop_eq_nil_of_le (by omega)]; rfl) | (simp_all; done))
            | (refine ⟨i + 1, (by refine leT.of ?_ ?_ rfl <;> repeat' (first | exact trivial | refine And.intro rfl ?_ | refine And.intro (by simp) ?_)), ⟨by omega, by rw [hs, hc]; simp_all⟩, by first | omega | (dsimp only; omega)⟩)))
    · refine Need.mk ?_
      rw [hs, List.drop_eq_nil_of_le (by omega), List.drop_eq_nil_of_le (by omega)]; rfl
theorem EqualEv_run (e e' : Nat) (xs ys : List EvT) (hn : xs.length ≤ 1048576) (hn' : ys.length ≤ 1048576) : RunT Try.prog 68 [.one (.c (tEv e xs)), .one (.c (tEv e' ys))] [] [ob (decide (xs = ys))] [] := by
  refine RunT.of_vc gOk Try.func68 rfl rfl (Nat.le_of_ble_eq_true rfl) (by repeat' (first | exact trivial | exact ⟨_, rfl, Nat.le_refl _⟩ | exact Nat.le_of_ble_eq_true rfl | refine And.intro ?_ ?_)) (Nat.le_of_ble_eq_true rfl) rfl (fun F hE => ?_)
  repeat' (first | exact trivial | refine BS.a (fun h => ?_) (fun h => ?_) | refine BS.n ?_ | refine BS.s (fun h => ?_) (fun h => ?_) | refine And.intro ?_ ?_ | exact Need.au | exact OutS.whole rfl rfl | refine ListO.go gOk hE ?_)
  · refine Need.mk ?_
    rw [decide_eq_false (fun e => by subst e; omega)]
  · refine CodeK.loop gOk hE (fun i : Nat => ⟨[(0, vr 1000000 xs.length), (1, vr 1000001 ys.length), (12, vi xs.length), (13, vi i)], [(1000000, rEv .fro false e xs), (1000001, rEv .fro false e' ys)]⟩) (fun i => i ≤ xs.length ∧ decide (xs = ys) = decide (xs.drop i = ys.drop i)) (fun i => xs.length - i) 0 (by refine leT.of ?_ ?_ rfl <;> repeat' (first | exact trivial | refine And.intro rfl ?_ | refine And.intro (by simp) ?_)) ⟨Nat.zero_le _, rfl⟩ ?_
    rintro i ⟨hi, hs⟩
    have hl : xs.length = ys.length := by omega
    repeat' (first | exact trivial | refine BS.a (fun h => ?_) (fun h => ?_) | refine BS.n ?_ | refine BS.s (fun h => ?_) (fun h => ?_) | refine And.intro ?_ ?_ | exact Need.au | exact OutS.whole rfl rfl | refine ListO.go gOk hE ?_)
    · have hc := drop_eq zEv hl (i := i) (by omega)
      refine CodeK.draw gOk hE rfl (fun _ _ h => h) (.take 0 (.take 1 (.take 2 (.take 4 (.take 5 (.take 6 (.alt 3 (.alt 7 (.take 8 .done) .stop) (.alt 7 (.alt 3 (.take 8 .done) .stop) .stop)))))))) (by decide +kernel) ?_
      repeat' (first | exact trivial | refine BS.a (fun h => ?_) (fun h => ?_) | refine BS.n ?_ | refine BS.s (fun h => ?_) (fun h => ?_) | refine And.intro ?_ ?_ | exact Need.au | exact OutS.whole rfl rfl | (refine PK.neA (vEv (xs.getD i zEv)) (vEv (ys.getD i zEv)) rfl rfl rfl rfl rfl (by kernel_rfl) (Ev_eq _ _) ?_) | refine ListO.go gOk hE ?_)
      (
          all_goals (try simp only [adN_zero] at *)
          all_goals (first
            | (refine Need.mk ?_; first | (rw [hs, hc, decide_eq_false ‹_ ≠ _›]; rfl) | (rw [hs, hc]; simp_all) | (rw [hs, List.drop_eq_nil_of_le (by omega), List.drop_eq_nil_of_le (by omega)]; rfl) | (simp_all; done))
            | (refine ⟨i + 1, (by refine leT.of ?_ ?_ rfl <;> repeat' (first | exact trivial | refine And.intro rfl ?_ | refine And.intro (by simp) ?_)), ⟨by omega, by rw [hs, hc]; simp_all⟩, by first | omega | (dsimp only; omega)⟩)))
    · refine Need.mk ?_
      rw [hs, List.drop_eq_nil_of_le (by omega), List.drop_eq_nil_of_le (by omega)]; rfl
theorem EqualJob_run (e e' : Nat) (xs ys : List JobT) (hn : xs.length ≤ 1048576) (hn' : ys.length ≤ 1048576) : RunT Try.prog 65 [.one (.c (tJob e xs)), .one (.c (tJob e' ys))] [] [ob (decide (xs = ys))] [] := by
  refine RunT.of_vc gOk Try.func65 rfl rfl (Nat.le_of_ble_eq_true rfl) (by repeat' (first | exact trivial | exact ⟨_, rfl, Nat.le_refl _⟩ | exact Nat.le_of_ble_eq_true rfl | refine And.intro ?_ ?_)) (Nat.le_of_ble_eq_true rfl) rfl (fun F hE => ?_)
  repeat' (first | exact trivial | refine BS.a (fun h => ?_) (fun h => ?_) | refine BS.n ?_ | refine BS.s (fun h => ?_) (fun h => ?_) | refine And.intro ?_ ?_ | exact Need.au | exact OutS.whole rfl rfl | refine ListO.go gOk hE ?_)
  · refine Need.mk ?_
    rw [decide_eq_false (fun e => by subst e; omega)]
  · refine CodeK.loop gOk hE (fun i : Nat => ⟨[(0, vr 1000000 xs.length), (1, vr 1000001 ys.length), (12, vi xs.length), (13, vi i)], [(1000000, rJob .fro false e xs), (1000001, rJob .fro false e' ys)]⟩) (fun i => i ≤ xs.length ∧ decide (xs = ys) = decide (xs.drop i = ys.drop i)) (fun i => xs.length - i) 0 (by refine leT.of ?_ ?_ rfl <;> repeat' (first | exact trivial | refine And.intro rfl ?_ | refine And.intro (by simp) ?_)) ⟨Nat.zero_le _, rfl⟩ ?_
    rintro i ⟨hi, hs⟩
    have hl : xs.length = ys.length := by omega
    repeat' (first | exact trivial | refine BS.a (fun h => ?_) (fun h => ?_) | refine BS.n ?_ | refine BS.s (fun h => ?_) (fun h => ?_) | refine And.intro ?_ ?_ | exact Need.au | exact OutS.whole rfl rfl | refine ListO.go gOk hE ?_)
    · have hc := drop_eq zJob hl (i := i) (by omega)
      refine CodeK.draw gOk hE rfl (fun _ _ h => h) (.take 0 (.take 1 (.take 2 (.take 4 (.take 5 (.take 6 (.alt 3 (.alt 7 (.take 8 .done) .stop) (.alt 7 (.alt 3 (.take 8 .done) .stop) .stop)))))))) (by decide +kernel) ?_
      repeat' (first | exact trivial | refine BS.a (fun h => ?_) (fun h => ?_) | refine BS.n ?_ | refine BS.s (fun h => ?_) (fun h => ?_) | refine And.intro ?_ ?_ | exact Need.au | exact OutS.whole rfl rfl | (refine PK.neA (vJob (xs.getD i zJob)) (vJob (ys.getD i zJob)) rfl rfl rfl rfl rfl (by kernel_rfl) (Job_eq _ _) ?_) | refine ListO.go gOk hE ?_)
      (
          all_goals (try simp only [adN_zero] at *)
          all_goals (first
            | (refine Need.mk ?_; first | (rw [hs, hc, decide_eq_false ‹_ ≠ _›]; rfl) | (rw [hs, hc]; simp_all) | (rw [hs, List.drop_eq_nil_of_le (by omega), List.drop_eq_nil_of_le (by omega)]; rfl) | (simp_all; done))
            | (refine ⟨i + 1, (by refine leT.of ?_ ?_ rfl <;> repeat' (first | exact trivial | refine And.intro rfl ?_ | refine And.intro (by simp) ?_)), ⟨by omega, by rw [hs, hc]; simp_all⟩, by first | omega | (dsimp only; omega)⟩)))
    · refine Need.mk ?_
      rw [hs, List.drop_eq_nil_of_le (by omega), List.drop_eq_nil_of_le (by omega)]; rfl
theorem sameQueue_run (e e' : Nat) (x y : List OpT) (hx : x.length ≤ 1048576) (hy : y.length ≤ 1048576) : RunT Try.prog 67 [.agg [.c (tOp e x)], .agg [.c (tOp e' y)]] [] [ob (decide (x = y))] [] := by
  refine RunT.of_vc gOk Try.func67 rfl rfl (Nat.le_of_ble_eq_true rfl) (by repeat' (first | exact trivial | exact ⟨_, rfl, Nat.le_refl _⟩ | exact Nat.le_of_ble_eq_true rfl | refine And.intro ?_ ?_)) (Nat.le_of_ble_eq_true rfl) rfl (fun F hE => ?_)
  repeat' (first | exact trivial | refine BS.a (fun h => ?_) (fun h => ?_) | refine BS.n ?_ | refine BS.s (fun h => ?_) (fun h => ?_) | refine And.intro ?_ ?_ | exact Need.au | exact OutS.whole rfl rfl | refine ListO.go gOk hE ?_)
  refine OpK.call (EqualOp_run e e' x y hx hy) rfl rfl rfl rfl hE (by repeat' (first | exact PsA.lit _ | exact PsA.ref rfl rfl | constructor)) rfl rfl ?_
  repeat' (first | exact trivial | refine BS.a (fun h => ?_) (fun h => ?_) | refine BS.n ?_ | refine BS.s (fun h => ?_) (fun h => ?_) | refine And.intro ?_ ?_ | exact Need.au | exact OutS.whole rfl rfl | refine ListO.go gOk hE ?_)
theorem EqualQ_run (e' e f' f : Nat) (xs ys : List (List OpT)) (hn : xs.length ≤ 1048576) (hn' : ys.length ≤ 1048576) (hx : ∀ i, (xs.getD i []).length ≤ 1048576) (hy : ∀ i, (ys.getD i []).length ≤ 1048576) : RunT Try.prog 66 [.one (.c (tQ e' e xs)), .one (.c (tQ f' f ys)), .one (.c (.lit (.func (.func 67) #[] #[])))] [] [ob (decide (xs = ys))] [] := by
  refine RunT.of_vc gOk Try.func66 rfl rfl (Nat.le_of_ble_eq_true rfl) (by repeat' (first | exact trivial | exact ⟨_, rfl, Nat.le_refl _⟩ | exact Nat.le_of_ble_eq_true rfl | refine And.intro ?_ ?_)) (Nat.le_of_ble_eq_true rfl) rfl (fun F hE => ?_)
  repeat' (first | exact trivial | refine BS.a (fun h => ?_) (fun h => ?_) | refine BS.n ?_ | refine BS.s (fun h => ?_) (fun h => ?_) | refine And.intro ?_ ?_ | exact Need.au | exact OutS.whole rfl rfl | refine ListO.go gOk hE ?_)
  · refine Need.mk ?_
    rw [decide_eq_false (fun e => by subst e; omega)]
  · refine CodeK.loop gOk hE (fun i : Nat => ⟨[(0, vr 1000000 xs.length), (1, vr 1000001 ys.length), (2, .a (.lit (.func (.func 67) #[] #[]))), (15, vr 1000000 xs.length), (16, vi xs.length), (17, vi i)], [(1000000, rQ .fro false e' e xs), (1000001, rQ .fro false f' f ys)]⟩) (fun i => i ≤ xs.length ∧ decide (xs = ys) = decide (xs.drop i = ys.drop i)) (fun i => xs.length - i) 0 (by refine leT.of ?_ ?_ rfl <;> repeat' (first | exact trivial | refine And.intro rfl ?_ | refine And.intro (by simp) ?_)) ⟨Nat.zero_le _, rfl⟩ ?_
    rintro i ⟨hi, hs⟩
    have hl : xs.length = ys.length := by omega
    repeat' (first | exact trivial | refine BS.a (fun h => ?_) (fun h => ?_) | refine BS.n ?_ | refine BS.s (fun h => ?_) (fun h => ?_) | refine And.intro ?_ ?_ | exact Need.au | exact OutS.whole rfl rfl | refine ListO.go gOk hE ?_)
    · have hc := drop_eq [] hl (i := i) (by omega)
      refine OpK.call (sameQueue_run _ _ _ _ (hx i) (hy i)) rfl rfl rfl rfl hE (by repeat' (first | exact PsA.lit _ | exact PsA.ref rfl rfl | constructor)) rfl rfl ?_
      repeat' (first | exact trivial | refine BS.a (fun h => ?_) (fun h => ?_) | refine BS.n ?_ | refine BS.s (fun h => ?_) (fun h => ?_) | refine And.intro ?_ ?_ | exact Need.au | exact OutS.whole rfl rfl | refine ListO.go gOk hE ?_)
      (
          all_goals (try simp only [adN_zero] at *)
          all_goals (first
            | (refine Need.mk ?_; first | (rw [hs, hc, decide_eq_false ‹_ ≠ _›]; rfl) | (rw [hs, hc]; simp_all) | (rw [hs, List.drop_eq_nil_of_le (by omega), List.drop_eq_nil_of_le (by omega)]; rfl) | (simp_all; done))
            | (refine ⟨i + 1, (by refine leT.of ?_ ?_ rfl <;> repeat' (first | exact trivial | refine And.intro rfl ?_ | refine And.intro (by simp) ?_)), ⟨by omega, by rw [hs, hc]; simp_all⟩, by first | omega | (dsimp only; omega)⟩)))
    · refine Need.mk ?_
      rw [hs, List.drop_eq_nil_of_le (by omega), List.drop_eq_nil_of_le (by omega)]; rfl
end Go.Proofs.Ytjlphbhmjicdhaa
end

section
/- Two shelves are compared by impl. -/
namespace Go.Proofs.Ytjlphbhmjicdhaa
open Go Go.Tr
set_option maxRecDepth 100000
set_option maxHeartbeats 4000000
set_option linter.unusedVariables false
set_option linter.unusedSimpArgs false
abbrev ssV (b c : List Int) (g o : List (List Int)) (E : Int) (ps : List PinT) (l : List (List Row)) (z : List Int) (cs : List Int) (js : List JobT) (ts : List (List OpT)) (ev : List EvT) (sn : Int) (b' c' : List Int) (g' o' : List (List Int)) (E' : Int) (ps' : List PinT) (l' : List (List Row)) (z' : List Int) (cs' : List Int) (js' : List JobT) (ts' : List (List OpT)) (ev' : List EvT) (sn' : Int) : Bool :=
  ((((sbV b c g o E ps l z b' c' g' o' E' ps' l' z' && decide (cs = cs')) && decide (js = js')) && decide (ts = ts')) && decide (ev = ev')) && decide (sn = sn')
theorem SameShelfI_run (b c : List Int) (g o : List (List Int)) (E : Int) (ps : List PinT) (l : List (List Row)) (z : List Int) (cs : List Int) (js : List JobT) (ts : List (List OpT)) (ev : List EvT) (sn : Int) (b' c' : List Int) (g' o' : List (List Int)) (E' : Int) (ps' : List PinT) (l' : List (List Row)) (z' : List Int) (cs' : List Int) (js' : List JobT) (ts' : List (List OpT)) (ev' : List EvT) (sn' : Int) (h1 : SfOk 1048576 b c g o ps l z cs js ts ev) (h2 : SfOk 1048576 b' c' g' o' ps' l' z' cs' js' ts' ev') : RunT Try.prog 20 [aSf 280 240 130 186 118 114 102 120 b c g o E ps l z cs js ts ev sn, aSf 280 240 130 186 118 114 102 120 b' c' g' o' E' ps' l' z' cs' js' ts' ev' sn'] [] [ob (ssV b c g o E ps l z cs js ts ev sn b' c' g' o' E' ps' l' z' cs' js' ts' ev' sn')] [] := by
  have c1 := SameBaseI_run b c g o E ps l z b' c' g' o' E' ps' l' z' h1.bs h2.bs
  have c2 := Equal_run cs cs' (h1.le (m' := 4000000) (by decide)).hcs (h2.le (m' := 4000000) (by decide)).hcs
  have c3 := EqualJob_run 118 118 js js' h1.hjs h2.hjs
  have c4 := EqualQ_run 114 102 114 102 ts ts' h1.hts h2.hts h1.hts' h2.hts'
  have c5 := EqualEv_run 120 120 ev ev' h1.hev h2.hev
  unfold ssV
  generalize sbV b c g o E ps l z b' c' g' o' E' ps' l' z' = v1 at c1 ⊢
  generalize decide (cs = cs') = v2 at c2 ⊢
  generalize decide (js = js') = v3 at c3 ⊢
  generalize decide (ts = ts') = v4 at c4 ⊢
  generalize decide (ev = ev') = v5 at c5 ⊢
  refine RunT.of_vc gOk Try.func20 rfl rfl (Nat.le_of_ble_eq_true rfl) (by repeat' (first | exact trivial | exact ⟨_, rfl, Nat.le_refl _⟩ | exact Nat.le_of_ble_eq_true rfl | refine And.intro ?_ ?_)) (Nat.le_of_ble_eq_true rfl) rfl (fun F hE => ?_)
  repeat' (first | exact trivial | refine BS.a (fun h => ?_) (fun h => ?_) | refine BS.n ?_ | refine BS.s (fun h => ?_) (fun h => ?_) | refine And.intro ?_ ?_ | exact Need.au | exact OutS.whole rfl rfl | refine OpK.ca c1 hE ?_ | refine OpK.ca c2 hE ?_ | refine OpK.ca c3 hE ?_ | refine OpK.ca c4 hE ?_ | refine OpK.ca c5 hE ?_ | refine ListO.go gOk hE ?_)
  all_goals (refine Need.mk ?_; first | (simp_all; done) | (simp_all; rfl))
end Go.Proofs.Ytjlphbhmjicdhaa
end
