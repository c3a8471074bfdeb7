import Derived.Test.YteekpkklehihmaaL8A
namespace Go.Proofs.Yteekpkklehihmaa
open Go Go.Tr
set_option maxRecDepth 100000
set_option linter.unusedVariables false
set_option linter.unusedSimpArgs false
theorem eqIntS_run (xs : List Int) (hn : xs.length ≤ 4000000) : RunT Try.prog 45 [.one (.c (tI xs)), .one (.c (tI xs))] [] [ob true] [] := by
  refine RunT.of_vc gOk Try.func45 rfl rfl (Nat.le_of_ble_eq_true rfl) (by repeat' (first | exact trivial | exact ⟨_, rfl, Nat.le_refl _⟩ | exact Nat.le_of_ble_eq_true rfl | refine And.intro ?_ ?_)) (Nat.le_of_ble_eq_true rfl) rfl (fun F hE => ?_)
  repeat' (first | exact trivial | refine BS.d (fun h => ?_) (fun h => ?_) | refine BS.e (fun h => ?_) (fun h => ?_) | refine BS.ne (fun h => ?_) (fun h => ?_) | refine BS.n ?_ | refine And.intro ?_ ?_ | (refine Need.mk ?_; first | with_reducible rfl | omega | (simp only [adN_zero]; omega)) | exact OutS.whole rfl rfl)
  · refine CodeK.loop gOk hE (fun i : Nat => ⟨[(0, vr 1000000 xs.length), (1, vr 1000001 xs.length), (5, vi i)], [(1000000, rI .fro false xs), (1000001, rI .fro false xs)]⟩) (fun i => i ≤ xs.length) (fun i => xs.length - i) 0 (by refine leT.of ?_ ?_ rfl <;> repeat' (first | exact trivial | refine And.intro rfl ?_ | refine And.intro (by simp) ?_)) (Nat.zero_le _) ?_
    rintro i hi
    repeat' (first | exact trivial | refine BS.d (fun h => ?_) (fun h => ?_) | refine BS.e (fun h => ?_) (fun h => ?_) | refine BS.ne (fun h => ?_) (fun h => ?_) | refine BS.n ?_ | refine And.intro ?_ ?_ | (refine Need.mk ?_; first | with_reducible rfl | omega | (simp only [adN_zero]; omega)) | exact OutS.whole rfl rfl)
    · refine CodeK.draw gOk hE rfl (fun _ _ h => h) (.take 0 (.take 1 (.take 2 (.take 4 (.take 5 (.take 6 (.alt 3 (.alt 7 (.take 8 .done) .stop) (.alt 7 (.alt 3 (.take 8 .done) .stop) .stop)))))))) (by decide +kernel) ?_
      repeat' (first | exact trivial | refine BS.d (fun h => ?_) (fun h => ?_) | refine BS.e (fun h => ?_) (fun h => ?_) | refine BS.ne (fun h => ?_) (fun h => ?_) | refine BS.n ?_ | refine And.intro ?_ ?_ | (refine Need.mk ?_; first | with_reducible rfl | omega | (simp only [adN_zero]; omega)) | exact OutS.whole rfl rfl)
      all_goals (refine ⟨i + 1, (by refine leT.of ?_ ?_ rfl <;> repeat' (first | exact trivial | refine And.intro rfl ?_ | refine And.intro (by simp) ?_)), ?_⟩; (refine And.intro ?_ ?_) <;> (first | omega | (dsimp only; omega) | trivial))
theorem eqSList_run (x : List Int) (hn : x.length ≤ 4000000) : RunT Try.prog 72 [.agg [.c (tI x)], .agg [.c (tI x)]] [] [ob true] [] := by
  refine RunT.of_vc gOk Try.func72 rfl rfl (Nat.le_of_ble_eq_true rfl) (by repeat' (first | exact trivial | exact ⟨_, rfl, Nat.le_refl _⟩ | exact Nat.le_of_ble_eq_true rfl | refine And.intro ?_ ?_)) (Nat.le_of_ble_eq_true rfl) rfl (fun F hE => ?_)
  repeat' (first | exact trivial | refine BS.d (fun h => ?_) (fun h => ?_) | refine BS.e (fun h => ?_) (fun h => ?_) | refine BS.ne (fun h => ?_) (fun h => ?_) | refine BS.n ?_ | refine And.intro ?_ ?_ | (refine Need.mk ?_; first | with_reducible rfl | omega | (simp only [adN_zero]; omega)) | exact OutS.whole rfl rfl)
  refine OpK.call (eqIntS_run x hn) rfl rfl rfl hE (by repeat' (first | exact PsA.lit _ | exact PsA.ref rfl rfl | constructor)) rfl rfl ?_
  repeat' (first | exact trivial | refine BS.d (fun h => ?_) (fun h => ?_) | refine BS.e (fun h => ?_) (fun h => ?_) | refine BS.ne (fun h => ?_) (fun h => ?_) | refine BS.n ?_ | refine And.intro ?_ ?_ | (refine Need.mk ?_; first | with_reducible rfl | omega | (simp only [adN_zero]; omega)) | exact OutS.whole rfl rfl)
theorem markIntS_nil (m : Int) : RunT Try.prog 46 [.one (.c (tI [])), ti m] [] [oi m] [] := by
  refine RunT.of_vc gOk Try.func46 rfl rfl (Nat.le_of_ble_eq_true rfl) (by repeat' (first | exact trivial | exact ⟨_, rfl, Nat.le_refl _⟩ | exact Nat.le_of_ble_eq_true rfl | refine And.intro ?_ ?_)) (Nat.le_of_ble_eq_true rfl) rfl (fun F hE => ?_)
  refine CodeK.loop gOk hE (fun i : Nat => ⟨[(0, vr 1000000 0), (1, vi m), (5, vi i)], [(1000000, rI .fro false [])]⟩) (fun i => i = 0) (fun i => 0) 0 (by refine leT.of ?_ ?_ rfl <;> repeat' (first | exact trivial | refine And.intro rfl ?_ | refine And.intro (by simp) ?_)) rfl ?_
  rintro i rfl
  repeat' (first | exact trivial | refine BS.d (fun h => ?_) (fun h => ?_) | refine BS.e (fun h => ?_) (fun h => ?_) | refine BS.ne (fun h => ?_) (fun h => ?_) | refine BS.n ?_ | refine And.intro ?_ ?_ | (refine Need.mk ?_; first | with_reducible rfl | omega | (simp only [adN_zero]; omega)) | exact OutS.whole rfl rfl)
  all_goals trace_state
theorem eqSListS_run (e : Nat) (xs : List (List Int)) (hn : xs.length ≤ 4000000) (hx : ∀ i, (xs.getD i []).length ≤ 4000000) : RunT Try.prog 48 [.one (.c (tSL e xs)), .one (.c (tSL e xs))] [] [ob true] [] := by
  refine RunT.of_vc gOk Try.func48 rfl rfl (Nat.le_of_ble_eq_true rfl) (by repeat' (first | exact trivial | exact ⟨_, rfl, Nat.le_refl _⟩ | exact Nat.le_of_ble_eq_true rfl | refine And.intro ?_ ?_)) (Nat.le_of_ble_eq_true rfl) rfl (fun F hE => ?_)
  repeat' (first | exact trivial | refine BS.d (fun h => ?_) (fun h => ?_) | refine BS.e (fun h => ?_) (fun h => ?_) | refine BS.ne (fun h => ?_) (fun h => ?_) | refine BS.n ?_ | refine And.intro ?_ ?_ | (refine Need.mk ?_; first | with_reducible rfl | omega | (simp only [adN_zero]; omega)) | exact OutS.whole rfl rfl)
  · refine CodeK.loop gOk hE (fun i : Nat => ⟨[(0, vr 1000000 xs.length), (1, vr 1000001 xs.length), (5, vi i)], [(1000000, rSL .fro false e xs), (1000001, rSL .fro false e xs)]⟩) (fun i => i ≤ xs.length) (fun i => xs.length - i) 0 (by refine leT.of ?_ ?_ rfl <;> repeat' (first | exact trivial | refine And.intro rfl ?_ | refine And.intro (by simp) ?_)) (Nat.zero_le _) ?_
    rintro i hi
    repeat' (first | exact trivial | refine BS.d (fun h => ?_) (fun h => ?_) | refine BS.e (fun h => ?_) (fun h => ?_) | refine BS.ne (fun h => ?_) (fun h => ?_) | refine BS.n ?_ | refine And.intro ?_ ?_ | (refine Need.mk ?_; first | with_reducible rfl | omega | (simp only [adN_zero]; omega)) | exact OutS.whole rfl rfl)
    · refine CodeK.draw gOk hE rfl (fun _ _ h => h) (.take 0 (.take 1 (.take 2 (.take 4 (.take 5 (.take 6 (.alt 3 (.alt 7 (.alt 8 (.take 9 .done) .stop) .stop) (.alt 7 (.alt 3 (.alt 8 (.take 9 .done) .stop) .stop) .stop)))))))) (by decide +kernel) ?_
      repeat' (first | exact trivial | refine BS.d (fun h => ?_) (fun h => ?_) | refine BS.e (fun h => ?_) (fun h => ?_) | refine BS.ne (fun h => ?_) (fun h => ?_) | refine BS.n ?_ | refine And.intro ?_ ?_ | (refine Need.mk ?_; first | with_reducible rfl | omega | (simp only [adN_zero]; omega)) | exact OutS.whole rfl rfl)
      all_goals (refine OpK.call (eqSList_run _ (hx _)) rfl rfl rfl hE (by repeat' (first | exact PsA.lit _ | exact PsA.ref rfl rfl | constructor)) rfl rfl ?_)
      all_goals (repeat' (first | exact trivial | refine BS.d (fun h => ?_) (fun h => ?_) | refine BS.e (fun h => ?_) (fun h => ?_) | refine BS.ne (fun h => ?_) (fun h => ?_) | refine BS.n ?_ | refine And.intro ?_ ?_ | (refine Need.mk ?_; first | with_reducible rfl | omega | (simp only [adN_zero]; omega)) | exact OutS.whole rfl rfl))
      all_goals (refine ⟨i + 1, (by refine leT.of ?_ ?_ rfl <;> repeat' (first | exact trivial | refine And.intro rfl ?_ | refine And.intro (by simp) ?_)), ?_⟩; (refine And.intro ?_ ?_) <;> (first | omega | (dsimp only; omega) | trivial))
theorem eqLists_run (e : Nat) (g o : List (List Int)) (hg : g.length ≤ 4000000) (hg' : ∀ i, (g.getD i []).length ≤ 4000000) (ho : o.length ≤ 4000000) (ho' : ∀ i, (o.getD i []).length ≤ 4000000) : RunT Try.prog 20 [.agg [.c (tSL e g), .c (tSL e o)], .agg [.c (tSL e g), .c (tSL e o)]] [] [ob true] [] := by
  refine RunT.of_vc gOk Try.func20 rfl rfl (Nat.le_of_ble_eq_true rfl) (by repeat' (first | exact trivial | exact ⟨_, rfl, Nat.le_refl _⟩ | exact Nat.le_of_ble_eq_true rfl | refine And.intro ?_ ?_)) (Nat.le_of_ble_eq_true rfl) rfl (fun F hE => ?_)
  repeat' (first | exact trivial | refine BS.d (fun h => ?_) (fun h => ?_) | refine BS.e (fun h => ?_) (fun h => ?_) | refine BS.ne (fun h => ?_) (fun h => ?_) | refine BS.n ?_ | refine And.intro ?_ ?_ | (refine Need.mk ?_; first | with_reducible rfl | omega | (simp only [adN_zero]; omega)) | exact OutS.whole rfl rfl)
  refine OpK.call (eqSListS_run e g hg hg') rfl rfl rfl hE (by repeat' (first | exact PsA.lit _ | exact PsA.ref rfl rfl | constructor)) rfl rfl ?_
  repeat' (first | exact trivial | refine BS.d (fun h => ?_) (fun h => ?_) | refine BS.e (fun h => ?_) (fun h => ?_) | refine BS.ne (fun h => ?_) (fun h => ?_) | refine BS.n ?_ | refine And.intro ?_ ?_ | (refine Need.mk ?_; first | with_reducible rfl | omega | (simp only [adN_zero]; omega)) | exact OutS.whole rfl rfl)
  refine OpK.call (eqSListS_run e o ho ho') rfl rfl rfl hE (by repeat' (first | exact PsA.lit _ | exact PsA.ref rfl rfl | constructor)) rfl rfl ?_
  repeat' (first | exact trivial | refine BS.d (fun h => ?_) (fun h => ?_) | refine BS.e (fun h => ?_) (fun h => ?_) | refine BS.ne (fun h => ?_) (fun h => ?_) | refine BS.n ?_ | refine And.intro ?_ ?_ | (refine Need.mk ?_; first | with_reducible rfl | omega | (simp only [adN_zero]; omega)) | exact OutS.whole rfl rfl)
theorem heldIntS_nil (m : Int) : RunT Try.prog 47 [.one (.c (tI [])), ti m] [] [oi m] [] := by
  refine RunT.of_vc gOk Try.func47 rfl rfl (Nat.le_of_ble_eq_true rfl) (by repeat' (first | exact trivial | exact ⟨_, rfl, Nat.le_refl _⟩ | exact Nat.le_of_ble_eq_true rfl | refine And.intro ?_ ?_)) (Nat.le_of_ble_eq_true rfl) rfl (fun F hE => ?_)
  refine CodeK.loop gOk hE (fun i : Nat => ⟨[(0, vr 1000000 0), (1, vi m), (5, vi i)], [(1000000, rI .fro false [])]⟩) (fun i => i = 0) (fun i => 0) 0 (by refine leT.of ?_ ?_ rfl <;> repeat' (first | exact trivial | refine And.intro rfl ?_ | refine And.intro (by simp) ?_)) rfl ?_
  rintro i rfl
  repeat' (first | exact trivial | refine BS.d (fun h => ?_) (fun h => ?_) | refine BS.e (fun h => ?_) (fun h => ?_) | refine BS.ne (fun h => ?_) (fun h => ?_) | refine BS.n ?_ | refine And.intro ?_ ?_ | (refine Need.mk ?_; first | with_reducible rfl | omega | (simp only [adN_zero]; omega)) | exact OutS.whole rfl rfl)
theorem markIntS_nil' (x : List Int) (hx : x = []) (m : Int) : RunT Try.prog 46 [.one (.c (tI x)), ti m] [] [oi m] [] := by
  subst hx; exact markIntS_nil m
theorem heldIntS_nil' (x : List Int) (hx : x = []) (m : Int) : RunT Try.prog 47 [.one (.c (tI x)), ti m] [] [oi m] [] := by
  subst hx; exact heldIntS_nil m
theorem rep_nil {α : Type} (n i : Nat) (d : α) : (List.replicate n d).getD i d = d := by
  rw [List.getD_eq_getElem?_getD, List.getElem?_replicate]; split <;> rfl
theorem markSListS_nil (e n : Nat) (m : Int) (hn : n ≤ 4000000) : RunT Try.prog 49 [.one (.c (tSL e (List.replicate n []))), ti m] [] [oi m] [] := by
  refine RunT.of_vc gOk Try.func49 rfl rfl (Nat.le_of_ble_eq_true rfl) (by repeat' (first | exact trivial | exact ⟨_, rfl, Nat.le_refl _⟩ | exact Nat.le_of_ble_eq_true rfl | refine And.intro ?_ ?_)) (Nat.le_of_ble_eq_true rfl) rfl (fun F hE => ?_)
  refine CodeK.loop gOk hE (fun i : Nat => ⟨[(0, vr 1000000 (List.replicate n []).length), (1, vi m), (5, vi i)], [(1000000, rSL .fro false e (List.replicate n []))]⟩) (fun i => i ≤ n) (fun i => n - i) 0 (by refine leT.of ?_ ?_ rfl <;> repeat' (first | exact trivial | refine And.intro rfl ?_ | refine And.intro (by simp) ?_)) (Nat.zero_le _) ?_
  rintro i hi
  have hl : (List.replicate n ([] : List Int)).length = n := List.length_replicate
  repeat' (first | exact trivial | refine BS.d (fun h => ?_) (fun h => ?_) | refine BS.e (fun h => ?_) (fun h => ?_) | refine BS.ne (fun h => ?_) (fun h => ?_) | refine BS.n ?_ | refine And.intro ?_ ?_ | (refine Need.mk ?_; first | with_reducible rfl | omega | (simp only [adN_zero]; omega)) | exact OutS.whole rfl rfl)
  all_goals (refine OpK.call (markIntS_nil' _ (rep_nil _ _ _) m) rfl rfl rfl hE (by repeat' (first | exact PsA.lit _ | exact PsA.ref rfl rfl | constructor)) rfl rfl ?_)
  repeat' (first | exact trivial | refine BS.d (fun h => ?_) (fun h => ?_) | refine BS.e (fun h => ?_) (fun h => ?_) | refine BS.ne (fun h => ?_) (fun h => ?_) | refine BS.n ?_ | refine And.intro ?_ ?_ | (refine Need.mk ?_; first | with_reducible rfl | omega | (simp only [adN_zero]; omega)) | exact OutS.whole rfl rfl)
  all_goals (refine ⟨i + 1, (by refine leT.of ?_ ?_ rfl <;> repeat' (first | exact trivial | refine And.intro rfl ?_ | refine And.intro (by simp) ?_)), ?_⟩; (refine And.intro ?_ ?_) <;> (first | omega | (dsimp only; omega) | trivial))
theorem heldSListS_nil (e n : Nat) (m : Int) (hm : 0 ≤ m) (hn : n ≤ 4000000) : RunT Try.prog 50 [.one (.c (tSL e (List.replicate n []))), ti m] [] [oi m] [] := by
  refine RunT.of_vc gOk Try.func50 rfl rfl (Nat.le_of_ble_eq_true rfl) (by repeat' (first | exact trivial | exact ⟨_, rfl, Nat.le_refl _⟩ | exact Nat.le_of_ble_eq_true rfl | refine And.intro ?_ ?_)) (Nat.le_of_ble_eq_true rfl) rfl (fun F hE => ?_)
  refine CodeK.loop gOk hE (fun i : Nat => ⟨[(0, vr 1000000 (List.replicate n []).length), (1, vi m), (5, vi i)], [(1000000, rSL .fro false e (List.replicate n []))]⟩) (fun i => i ≤ n) (fun i => n - i) 0 (by refine leT.of ?_ ?_ rfl <;> repeat' (first | exact trivial | refine And.intro rfl ?_ | refine And.intro (by simp) ?_)) (Nat.zero_le _) ?_
  rintro i hi
  have hl : (List.replicate n ([] : List Int)).length = n := List.length_replicate
  repeat' (first | exact trivial | refine BS.d (fun h => ?_) (fun h => ?_) | refine BS.e (fun h => ?_) (fun h => ?_) | refine BS.ne (fun h => ?_) (fun h => ?_) | refine BS.n ?_ | refine And.intro ?_ ?_ | (refine Need.mk ?_; first | with_reducible rfl | omega | (simp only [adN_zero]; omega)) | exact OutS.whole rfl rfl)
  all_goals (refine OpK.call (heldIntS_nil' _ (rep_nil _ _ _) m) rfl rfl rfl hE (by repeat' (first | exact PsA.lit _ | exact PsA.ref rfl rfl | constructor)) rfl rfl ?_)
  repeat' (first | exact trivial | refine BS.d (fun h => ?_) (fun h => ?_) | refine BS.e (fun h => ?_) (fun h => ?_) | refine BS.ne (fun h => ?_) (fun h => ?_) | refine BS.n ?_ | refine And.intro ?_ ?_ | (refine Need.mk ?_; first | with_reducible rfl | omega | (simp only [adN_zero]; omega)) | exact OutS.whole rfl rfl)
  all_goals (refine ⟨i + 1, (by refine leT.of ?_ ?_ rfl <;> repeat' (first | exact trivial | refine And.intro rfl ?_ | refine And.intro (by simp) ?_)), ?_⟩; (refine And.intro ?_ ?_) <;> (first | omega | (dsimp only; omega) | trivial))
theorem markLists_nil (e g o : Nat) (m : Int) (hg : g ≤ 4000000) (ho : o ≤ 4000000) : RunT Try.prog 21 [.agg [.c (tSL e (List.replicate g [])), .c (tSL e (List.replicate o []))], ti m] [] [oi m] [] := by
  refine RunT.of_vc gOk Try.func21 rfl rfl (Nat.le_of_ble_eq_true rfl) (by repeat' (first | exact trivial | exact ⟨_, rfl, Nat.le_refl _⟩ | exact Nat.le_of_ble_eq_true rfl | refine And.intro ?_ ?_)) (Nat.le_of_ble_eq_true rfl) rfl (fun F hE => ?_)
  repeat' (first | exact trivial | refine BS.d (fun h => ?_) (fun h => ?_) | refine BS.e (fun h => ?_) (fun h => ?_) | refine BS.ne (fun h => ?_) (fun h => ?_) | refine BS.n ?_ | refine And.intro ?_ ?_ | (refine Need.mk ?_; first | with_reducible rfl | omega | (simp only [adN_zero]; omega)) | exact OutS.whole rfl rfl)
  refine OpK.call (markSListS_nil e g m hg) rfl rfl rfl hE (by repeat' (first | exact PsA.lit _ | exact PsA.ref rfl rfl | constructor)) rfl rfl ?_
  repeat' (first | exact trivial | refine BS.d (fun h => ?_) (fun h => ?_) | refine BS.e (fun h => ?_) (fun h => ?_) | refine BS.ne (fun h => ?_) (fun h => ?_) | refine BS.n ?_ | refine And.intro ?_ ?_ | (refine Need.mk ?_; first | with_reducible rfl | omega | (simp only [adN_zero]; omega)) | exact OutS.whole rfl rfl)
  refine OpK.call (markSListS_nil e o m ho) rfl rfl rfl hE (by repeat' (first | exact PsA.lit _ | exact PsA.ref rfl rfl | constructor)) rfl rfl ?_
  repeat' (first | exact trivial | refine BS.d (fun h => ?_) (fun h => ?_) | refine BS.e (fun h => ?_) (fun h => ?_) | refine BS.ne (fun h => ?_) (fun h => ?_) | refine BS.n ?_ | refine And.intro ?_ ?_ | (refine Need.mk ?_; first | with_reducible rfl | omega | (simp only [adN_zero]; omega)) | exact OutS.whole rfl rfl)
theorem heldLists_nil (e g o : Nat) (m : Int) (hm : 0 ≤ m) (hg : g ≤ 4000000) (ho : o ≤ 4000000) : RunT Try.prog 22 [.agg [.c (tSL e (List.replicate g [])), .c (tSL e (List.replicate o []))], ti m] [] [oi m] [] := by
  refine RunT.of_vc gOk Try.func22 rfl rfl (Nat.le_of_ble_eq_true rfl) (by repeat' (first | exact trivial | exact ⟨_, rfl, Nat.le_refl _⟩ | exact Nat.le_of_ble_eq_true rfl | refine And.intro ?_ ?_)) (Nat.le_of_ble_eq_true rfl) rfl (fun F hE => ?_)
  repeat' (first | exact trivial | refine BS.d (fun h => ?_) (fun h => ?_) | refine BS.e (fun h => ?_) (fun h => ?_) | refine BS.ne (fun h => ?_) (fun h => ?_) | refine BS.n ?_ | refine And.intro ?_ ?_ | (refine Need.mk ?_; first | with_reducible rfl | omega | (simp only [adN_zero]; omega)) | exact OutS.whole rfl rfl)
  refine OpK.call (heldSListS_nil e g m hm hg) rfl rfl rfl hE (by repeat' (first | exact PsA.lit _ | exact PsA.ref rfl rfl | constructor)) rfl rfl ?_
  repeat' (first | exact trivial | refine BS.d (fun h => ?_) (fun h => ?_) | refine BS.e (fun h => ?_) (fun h => ?_) | refine BS.ne (fun h => ?_) (fun h => ?_) | refine BS.n ?_ | refine And.intro ?_ ?_ | (refine Need.mk ?_; first | with_reducible rfl | omega | (simp only [adN_zero]; omega)) | exact OutS.whole rfl rfl)
  refine OpK.call (heldSListS_nil e o m hm ho) rfl rfl rfl hE (by repeat' (first | exact PsA.lit _ | exact PsA.ref rfl rfl | constructor)) rfl rfl ?_
  repeat' (first | exact trivial | refine BS.d (fun h => ?_) (fun h => ?_) | refine BS.e (fun h => ?_) (fun h => ?_) | refine BS.ne (fun h => ?_) (fun h => ?_) | refine BS.n ?_ | refine And.intro ?_ ?_ | (refine Need.mk ?_; first | with_reducible rfl | omega | (simp only [adN_zero]; omega)) | exact OutS.whole rfl rfl)
theorem rep_len (n i : Nat) : ((List.replicate n ([] : List Int)).getD i []).length ≤ 4000000 := by
  rw [rep_nil]; exact Nat.zero_le _
end Go.Proofs.Yteekpkklehihmaa
