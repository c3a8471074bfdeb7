import Derived.Test.YtbfkdbbgbdihdaaTE
namespace Go.Proofs.Ytbfkdbbgbdihdaa
open Go Go.Tr
set_option maxRecDepth 100000
set_option maxHeartbeats 4000000
set_option linter.unusedVariables false
set_option linter.unusedSimpArgs false
theorem szTL_ok {xs : List TEvT} (hz : ¬ szTL xs 1048576 < 0) : xs.length ≤ 1048576 ∧ ∀ i, (xs.getD i zTEv).2.2.2.2.1.length ≤ 1048576 ∧ (xs.getD i zTEv).2.2.2.2.2.length ≤ 1048576 := by
  have hm : xs.length ≤ 1048576 := by unfold szTL at hz; split at hz <;> omega
  refine ⟨hm, fun i => ?_⟩
  unfold szTL at hz
  rw [if_neg (by omega)] at hz
  have h3 := (szTs_bd xs (1048576 - xs.length) (by omega)).2.2 (by omega)
  by_cases hi : i < xs.length
  · have : xs.getD i zTEv = xs[i] := by simp [List.getD, hi]
    rw [this]
    have := h3 _ (List.getElem_mem hi)
    omega
  · simp [List.getD, hi]
theorem PlaceOf_law (xs : List TEvT) (k s : Int) (hn : xs.length ≤ 9223372036854775807) (hx : ∀ i, (xs.getD i zTEv).2.2.2.2.1.length ≤ 9223372036854775807 ∧ (xs.getD i zTEv).2.2.2.2.2.length ≤ 9223372036854775807) : RunT Try.prog 5 [.one (.c (tTEv 0 0 0 xs)), ti k, ti s] [] [ob true] [] := by
  refine RunT.of_vc gOk Try.func5 rfl rfl (Nat.le_of_ble_eq_true rfl) (by repeat' (first | exact trivial | exact ⟨_, rfl, Nat.le_refl _⟩ | exact Nat.le_of_ble_eq_true rfl | refine And.intro ?_ ?_)) (Nat.le_of_ble_eq_true rfl) rfl (fun F hE => ?_)
  repeat' (first | exact trivial | refine BS.d (fun h => ?_) (fun h => ?_) | refine BS.e (fun h => ?_) (fun h => ?_) | refine BS.ne (fun h => ?_) (fun h => ?_) | refine BS.n ?_ | refine BS.s (fun h => ?_) (fun h => ?_) | refine And.intro ?_ ?_ | (refine Need.mk ?_; first | with_reducible rfl | (show @Eq TC _ _; rfl) | omega | (simp only [adN_zero]; omega)) | exact OutS.whole rfl rfl)
  refine OpK.call (szTEvS_run 0 0 0 xs 1048576 (by omega) (by omega) hn hx) rfl rfl rfl rfl hE (by repeat' (first | exact PsA.lit _ | exact PsA.ref rfl rfl | constructor)) rfl rfl ?_
  repeat' (first | exact trivial | refine BS.d (fun h => ?_) (fun h => ?_) | refine BS.e (fun h => ?_) (fun h => ?_) | refine BS.ne (fun h => ?_) (fun h => ?_) | refine BS.n ?_ | refine BS.s (fun h => ?_) (fun h => ?_) | refine And.intro ?_ ?_ | (refine Need.mk ?_; first | with_reducible rfl | (show @Eq TC _ _; rfl) | omega | (simp only [adN_zero]; omega)) | exact OutS.whole rfl rfl)
  have hz : ¬ szTL xs 1048576 < 0 := by assumption
  obtain ⟨hm, hy⟩ := szTL_ok hz
  have c1 := toTEvS_run 0 0 0 xs hm hy
  have c2 := PlaceOfS_run 78 103 105 xs k s hm
  have c3 := PlaceOfI_run 78 103 105 xs k s hm
  have c4 := eqTEvS_run 78 103 105 xs (by omega) (fun i => by have := hy i; omega)
  repeat' (first | exact trivial | refine BS.d (fun h => ?_) (fun h => ?_) | refine BS.e (fun h => ?_) (fun h => ?_) | refine BS.ne (fun h => ?_) (fun h => ?_) | refine BS.n ?_ | refine BS.s (fun h => ?_) (fun h => ?_) | refine And.intro ?_ ?_ | (refine Need.mk ?_; first | with_reducible rfl | (show @Eq TC _ _; rfl) | omega | (simp only [adN_zero]; omega)) | exact OutS.whole rfl rfl | (refine OpK.call c1 rfl rfl rfl rfl hE ?_ rfl rfl ?_; focus ((repeat' (first | exact PsA.lit _ | exact PsA.ref rfl rfl | constructor)); all_goals (fail "ps"))) | (refine OpK.call c2 rfl rfl rfl rfl hE ?_ rfl rfl ?_; focus ((repeat' (first | exact PsA.lit _ | exact PsA.ref rfl rfl | constructor)); all_goals (fail "ps"))) | (refine OpK.call c3 rfl rfl rfl rfl hE ?_ rfl rfl ?_; focus ((repeat' (first | exact PsA.lit _ | exact PsA.ref rfl rfl | constructor)); all_goals (fail "ps"))) | (refine OpK.call c4 rfl rfl rfl rfl hE ?_ rfl rfl ?_; focus ((repeat' (first | exact PsA.lit _ | exact PsA.ref rfl rfl | constructor)); all_goals (fail "ps"))))
  all_goals first | exact absurd rfl h | (simp_all; done) | trace_state
theorem InTime_law (xs : List TEvT) (a b : Int) (hn : xs.length ≤ 9223372036854775807) (hx : ∀ i, (xs.getD i zTEv).2.2.2.2.1.length ≤ 9223372036854775807 ∧ (xs.getD i zTEv).2.2.2.2.2.length ≤ 9223372036854775807) : RunT Try.prog 7 [.one (.c (tTEv 0 0 0 xs)), ti a, ti b] [] [ob true] [] := by
  refine RunT.of_vc gOk Try.func7 rfl rfl (Nat.le_of_ble_eq_true rfl) (by repeat' (first | exact trivial | exact ⟨_, rfl, Nat.le_refl _⟩ | exact Nat.le_of_ble_eq_true rfl | refine And.intro ?_ ?_)) (Nat.le_of_ble_eq_true rfl) rfl (fun F hE => ?_)
  repeat' (first | exact trivial | refine BS.d (fun h => ?_) (fun h => ?_) | refine BS.e (fun h => ?_) (fun h => ?_) | refine BS.ne (fun h => ?_) (fun h => ?_) | refine BS.n ?_ | refine BS.s (fun h => ?_) (fun h => ?_) | refine And.intro ?_ ?_ | (refine Need.mk ?_; first | with_reducible rfl | (show @Eq TC _ _; rfl) | omega | (simp only [adN_zero]; omega)) | exact OutS.whole rfl rfl)
  refine OpK.call (szTEvS_run 0 0 0 xs 1048576 (by omega) (by omega) hn hx) rfl rfl rfl rfl hE (by repeat' (first | exact PsA.lit _ | exact PsA.ref rfl rfl | constructor)) rfl rfl ?_
  repeat' (first | exact trivial | refine BS.d (fun h => ?_) (fun h => ?_) | refine BS.e (fun h => ?_) (fun h => ?_) | refine BS.ne (fun h => ?_) (fun h => ?_) | refine BS.n ?_ | refine BS.s (fun h => ?_) (fun h => ?_) | refine And.intro ?_ ?_ | (refine Need.mk ?_; first | with_reducible rfl | (show @Eq TC _ _; rfl) | omega | (simp only [adN_zero]; omega)) | exact OutS.whole rfl rfl)
  have hz : ¬ szTL xs 1048576 < 0 := by assumption
  obtain ⟨hm, hy⟩ := szTL_ok hz
  have c1 := toTEvS_run 0 0 0 xs hm hy
  have c2 := InTimeS_run 78 103 105 xs a b hm
  have c3 := InTimeI_run 78 103 105 xs a b hm
  have c4 := eqTEvS_run 78 103 105 xs (by omega) (fun i => by have := hy i; omega)
  repeat' (first | exact trivial | refine BS.d (fun h => ?_) (fun h => ?_) | refine BS.e (fun h => ?_) (fun h => ?_) | refine BS.ne (fun h => ?_) (fun h => ?_) | refine BS.n ?_ | refine BS.s (fun h => ?_) (fun h => ?_) | refine And.intro ?_ ?_ | (refine Need.mk ?_; first | with_reducible rfl | (show @Eq TC _ _; rfl) | omega | (simp only [adN_zero]; omega)) | exact OutS.whole rfl rfl | (refine OpK.call c1 rfl rfl rfl rfl hE ?_ rfl rfl ?_; focus ((repeat' (first | exact PsA.lit _ | exact PsA.ref rfl rfl | constructor)); all_goals (fail "ps"))) | (refine OpK.call c2 rfl rfl rfl rfl hE ?_ rfl rfl ?_; focus ((repeat' (first | exact PsA.lit _ | exact PsA.ref rfl rfl | constructor)); all_goals (fail "ps"))) | (refine OpK.call c3 rfl rfl rfl rfl hE ?_ rfl rfl ?_; focus ((repeat' (first | exact PsA.lit _ | exact PsA.ref rfl rfl | constructor)); all_goals (fail "ps"))) | (refine OpK.call c4 rfl rfl rfl rfl hE ?_ rfl rfl ?_; focus ((repeat' (first | exact PsA.lit _ | exact PsA.ref rfl rfl | constructor)); all_goals (fail "ps"))))
  all_goals first | exact absurd rfl h | (simp_all; done) | trace_state
theorem TEvs_of {e e' n : Nat} {row : Nat → Nat → C} (hn : n ≤ 9223372036854775807) (h : ∀ i r t, i < n → ([Dt.i, Dt.i, Dt.i, Dt.i, Dt.sl [.i, .i, .i], Dt.sl [.b, .i]] : List Dt)[r]? = some t → DtOk t (row i r)) : ∃ xs : List TEvT, xs.length = n ∧ (∀ x ∈ xs, x.2.2.2.2.1.length ≤ 9223372036854775807 ∧ x.2.2.2.2.2.length ≤ 9223372036854775807) ∧ CSame (.sl .fro e 6 n row) ((tTEv e' 0 0 xs).er .fro) :=
  list_of decTEv zTEv 6 (fun f hf => by
    obtain ⟨z0, hz0, w0⟩ := (hf 0 .i rfl).int
    obtain ⟨z1, hz1, w1⟩ := (hf 1 .i rfl).int
    obtain ⟨z2, hz2, w2⟩ := (hf 2 .i rfl).int
    obtain ⟨z3, hz3, w3⟩ := (hf 3 .i rfl).int
    obtain ⟨e4, n4, row4, hz4, l4, k4⟩ := (hf 4 (.sl [.i, .i, .i]) rfl).slice
    obtain ⟨e5, n5, row5, hz5, l5, k5⟩ := (hf 5 (.sl [.b, .i]) rfl).slice
    obtain ⟨g4, lg4, pg4, sg4⟩ := Cmds_of (e := e4) (e' := 0) l4 k4
    obtain ⟨g5, lg5, pg5, sg5⟩ := Ress_of (e := e5) (e' := 0) l5 k5
    refine ⟨(z0, z1, z2, z3, g4, g5), ⟨by show g4.length ≤ _; omega, by show g5.length ≤ _; omega⟩, fun r hr => ?_⟩
    match r, hr with
    | 0, _ => rw [hz0]; exact rfl
    | 1, _ => rw [hz1]; exact rfl
    | 2, _ => rw [hz2]; exact rfl
    | 3, _ => rw [hz3]; exact rfl
    | 4, _ => rw [hz4]; exact sg4
    | 5, _ => rw [hz5]; exact sg5
    ) h
end Go.Proofs.Ytbfkdbbgbdihdaa
