import Derived.Test.YthhjlcoijnjkdabTC
namespace Go.Proofs.Ythhjlcoijnjkdab
open Go Go.Tr
set_option maxRecDepth 100000
set_option maxHeartbeats 4000000
set_option linter.unusedVariables false
set_option linter.unusedSimpArgs false
def pcd (xs : List TEvT) (n : Int) (j : Nat) : Bool := decide ((xs.getD j zTEv).1 = 3) && decide ((xs.getD j zTEv).2.2.2.1 = n)
theorem CodesS_run (e eC eR : Nat) (xs : List TEvT) (n : Int) (hn : xs.length ≤ 1048576) : RunT Try.prog 24 [.one (.c (tTEv e eC eR xs)), ti n] [] [oi (cntP (pcd xs n) xs.length)] [] := by
  refine RunT.of_vc gOk Try.func24 rfl rfl (Nat.le_of_ble_eq_true rfl) (by repeat' (first | exact trivial | exact ⟨_, rfl, Nat.le_refl _⟩ | exact Nat.le_of_ble_eq_true rfl | refine And.intro ?_ ?_)) (Nat.le_of_ble_eq_true rfl) rfl (fun F hE => ?_)
  repeat' (first | exact trivial | refine BS.d (fun h => ?_) (fun h => ?_) | refine BS.e (fun h => ?_) (fun h => ?_) | refine BS.ne (fun h => ?_) (fun h => ?_) | refine BS.n ?_ | refine BS.s (fun h => ?_) (fun h => ?_) | refine And.intro ?_ ?_ | (refine Need.mk ?_; first | with_reducible rfl | (show @Eq TC _ _; rfl) | omega | (simp only [adN_zero]; omega)) | exact OutS.whole rfl rfl)
  refine CodeK.loop gOk hE (fun i : Nat => ⟨[(0, vr 1000000 xs.length), (1, vi n), (5, vi (cntP (pcd xs n) i)), (6, vi i)], [(1000000, rTEv .fro false e eC eR xs)]⟩) (fun i => i ≤ xs.length) (fun i => xs.length - i) 0 (by refine leT.of ?_ ?_ rfl <;> repeat' (first | exact trivial | refine And.intro rfl ?_ | refine And.intro (by simp) ?_)) (Nat.zero_le _) ?_
  rintro i hi
  have hb := cntP_bd (pcd xs n) i
  repeat' (first | exact trivial | refine BS.d (fun h => ?_) (fun h => ?_) | refine BS.e (fun h => ?_) (fun h => ?_) | refine BS.ne (fun h => ?_) (fun h => ?_) | refine BS.n ?_ | refine BS.s (fun h => ?_) (fun h => ?_) | refine And.intro ?_ ?_ | (refine Need.mk ?_; first | with_reducible rfl | (show @Eq TC _ _; rfl) | omega | (simp only [adN_zero]; omega)) | exact OutS.whole rfl rfl)
  (
      all_goals (try simp only [adN_zero] at *)
      all_goals (first
        | (refine Need.mk ?_; omega)
        | (refine Need.mk ?_; rw [show i = xs.length by omega])
        | (refine Need.mk ?_; exact (cntP_stop (fun j hj => by have hq : ¬ (j : Int) < n := by omega
                                                               simp [pp, hq]) xs.length hi).symm)
        | (refine ⟨i + 1, (by refine leT.of ?_ ?_ rfl <;> repeat' (first | exact trivial | refine And.intro rfl ?_ | refine And.intro (by first | rfl | (rw [cntP_yes] <;> first | (show V.a _ = V.a _; rfl) | (simp_all [pcd]; done) | (simp_all [pcd]; intros; omega) | (simp_all [pcd] <;> omega)) | (rw [cntP_no] <;> first | (show V.a _ = V.a _; rfl) | (simp_all [pcd]; done) | (simp_all [pcd]; intros; omega) | (simp_all [pcd] <;> omega)) | simp) ?_)), by omega, by first | omega | (dsimp only; omega)⟩)))
theorem CodesI_run (e eC eR : Nat) (xs : List TEvT) (n : Int) (hn : xs.length ≤ 1048576) : RunT Try.prog 25 [.one (.c (tTEv e eC eR xs)), ti n] [] [oi (cntP (pcd xs n) xs.length)] [] := by
  refine RunT.of_vc gOk Try.func25 rfl rfl (Nat.le_of_ble_eq_true rfl) (by repeat' (first | exact trivial | exact ⟨_, rfl, Nat.le_refl _⟩ | exact Nat.le_of_ble_eq_true rfl | refine And.intro ?_ ?_)) (Nat.le_of_ble_eq_true rfl) rfl (fun F hE => ?_)
  repeat' (first | exact trivial | refine BS.d (fun h => ?_) (fun h => ?_) | refine BS.e (fun h => ?_) (fun h => ?_) | refine BS.ne (fun h => ?_) (fun h => ?_) | refine BS.n ?_ | refine BS.s (fun h => ?_) (fun h => ?_) | refine And.intro ?_ ?_ | (refine Need.mk ?_; first | with_reducible rfl | (show @Eq TC _ _; rfl) | omega | (simp only [adN_zero]; omega)) | exact OutS.whole rfl rfl)
  refine CodeK.loop gOk hE (fun i : Nat => ⟨[(1, vi n), (5, vi (cntP (pcd xs n) i)), (8, vr 1000000 xs.length), (9, vi xs.length), (10, vi i)], [(1000000, rTEv .fro false e eC eR xs)]⟩) (fun i => i ≤ xs.length) (fun i => xs.length - i) 0 (by refine leT.of ?_ ?_ rfl <;> repeat' (first | exact trivial | refine And.intro rfl ?_ | refine And.intro (by simp) ?_)) (Nat.zero_le _) ?_
  rintro i hi
  have hb := cntP_bd (pcd xs n) i
  repeat' (first | exact trivial | refine BS.d (fun h => ?_) (fun h => ?_) | refine BS.e (fun h => ?_) (fun h => ?_) | refine BS.ne (fun h => ?_) (fun h => ?_) | refine BS.n ?_ | refine BS.s (fun h => ?_) (fun h => ?_) | refine And.intro ?_ ?_ | (refine Need.mk ?_; first | with_reducible rfl | (show @Eq TC _ _; rfl) | omega | (simp only [adN_zero]; omega)) | exact OutS.whole rfl rfl)
  (
      all_goals (try simp only [adN_zero] at *)
      all_goals (first
        | (refine Need.mk ?_; omega)
        | (refine Need.mk ?_; rw [show i = xs.length by omega])
        | (refine Need.mk ?_; exact (cntP_stop (fun j hj => by have hq : ¬ (j : Int) < n := by omega
                                                               simp [pp, hq]) xs.length hi).symm)
        | (refine ⟨i + 1, (by refine leT.of ?_ ?_ rfl <;> repeat' (first | exact trivial | refine And.intro rfl ?_ | refine And.intro (by first | rfl | (rw [cntP_yes] <;> first | (show V.a _ = V.a _; rfl) | (simp_all [pcd]; done) | (simp_all [pcd]; intros; omega) | (simp_all [pcd] <;> omega)) | (rw [cntP_no] <;> first | (show V.a _ = V.a _; rfl) | (simp_all [pcd]; done) | (simp_all [pcd]; intros; omega) | (simp_all [pcd] <;> omega)) | simp) ?_)), by omega, by first | omega | (dsimp only; omega)⟩)))
theorem Codes_law (xs : List TEvT) (n : Int) (hn : xs.length ≤ 9223372036854775807) (hx : ∀ i, (xs.getD i zTEv).2.2.2.2.1.length ≤ 9223372036854775807 ∧ (xs.getD i zTEv).2.2.2.2.2.length ≤ 9223372036854775807) : RunT Try.prog 7 [.one (.c (tTEv 0 0 0 xs)), ti n] [] [ob true] [] := by
  refine RunT.of_vc gOk Try.func7 rfl rfl (Nat.le_of_ble_eq_true rfl) (by repeat' (first | exact trivial | exact ⟨_, rfl, Nat.le_refl _⟩ | exact Nat.le_of_ble_eq_true rfl | refine And.intro ?_ ?_)) (Nat.le_of_ble_eq_true rfl) rfl (fun F hE => ?_)
  repeat' (first | exact trivial | refine BS.d (fun h => ?_) (fun h => ?_) | refine BS.e (fun h => ?_) (fun h => ?_) | refine BS.ne (fun h => ?_) (fun h => ?_) | refine BS.n ?_ | refine BS.s (fun h => ?_) (fun h => ?_) | refine And.intro ?_ ?_ | (refine Need.mk ?_; first | with_reducible rfl | (show @Eq TC _ _; rfl) | omega | (simp only [adN_zero]; omega)) | exact OutS.whole rfl rfl)
  refine OpK.call (szTEvS_run 0 0 0 xs 1048576 (by omega) (by omega) hn hx) rfl rfl rfl rfl hE (by repeat' (first | exact PsA.lit _ | exact PsA.ref rfl rfl | constructor)) rfl rfl ?_
  repeat' (first | exact trivial | refine BS.d (fun h => ?_) (fun h => ?_) | refine BS.e (fun h => ?_) (fun h => ?_) | refine BS.ne (fun h => ?_) (fun h => ?_) | refine BS.n ?_ | refine BS.s (fun h => ?_) (fun h => ?_) | refine And.intro ?_ ?_ | (refine Need.mk ?_; first | with_reducible rfl | (show @Eq TC _ _; rfl) | omega | (simp only [adN_zero]; omega)) | exact OutS.whole rfl rfl)
  have hz : ¬ szTL xs 1048576 < 0 := by assumption
  have hm : xs.length ≤ 1048576 := by unfold szTL at hz; split at hz <;> omega
  have hy : ∀ i, (xs.getD i zTEv).2.2.2.2.1.length ≤ 1048576 ∧ (xs.getD i zTEv).2.2.2.2.2.length ≤ 1048576 := by
    intro i
    unfold szTL at hz
    rw [if_neg (by omega)] at hz
    have h3 := (szTs_bd xs (1048576 - xs.length) (by omega)).2.2 (by omega)
    by_cases hi : i < xs.length
    · have : xs.getD i zTEv = xs[i] := by simp [List.getD, hi]
      rw [this]
      have := h3 _ (List.getElem_mem hi)
      omega
    · simp [List.getD, hi]
  have c1 := toTEvS_run 0 0 0 xs hm hy
  have c2 := CodesS_run 57 80 82 xs n hm
  have c3 := CodesI_run 57 80 82 xs n hm
  have c4 := eqTEvS_run 57 80 82 xs (by omega) (fun i => by have := hy i; omega)
  repeat' (first | exact trivial | refine BS.d (fun h => ?_) (fun h => ?_) | refine BS.e (fun h => ?_) (fun h => ?_) | refine BS.ne (fun h => ?_) (fun h => ?_) | refine BS.n ?_ | refine BS.s (fun h => ?_) (fun h => ?_) | refine And.intro ?_ ?_ | (refine Need.mk ?_; first | with_reducible rfl | (show @Eq TC _ _; rfl) | omega | (simp only [adN_zero]; omega)) | exact OutS.whole rfl rfl | (refine OpK.call c1 rfl rfl rfl rfl hE ?_ rfl rfl ?_; focus ((repeat' (first | exact PsA.lit _ | exact PsA.ref rfl rfl | constructor)); all_goals (fail "ps"))) | (refine OpK.call c2 rfl rfl rfl rfl hE ?_ rfl rfl ?_; focus ((repeat' (first | exact PsA.lit _ | exact PsA.ref rfl rfl | constructor)); all_goals (fail "ps"))) | (refine OpK.call c3 rfl rfl rfl rfl hE ?_ rfl rfl ?_; focus ((repeat' (first | exact PsA.lit _ | exact PsA.ref rfl rfl | constructor)); all_goals (fail "ps"))) | (refine OpK.call c4 rfl rfl rfl rfl hE ?_ rfl rfl ?_; focus ((repeat' (first | exact PsA.lit _ | exact PsA.ref rfl rfl | constructor)); all_goals (fail "ps"))))
  all_goals first | exact absurd rfl h | trace_state
theorem TEvs_of {e e' n : Nat} {row : Nat → Nat → C} (hn : n ≤ 9223372036854775807) (h : ∀ i r t, i < n → ([Dt.i, Dt.i, Dt.i, Dt.i, Dt.sl [.i, .i, .i], Dt.sl [.b, .i]] : List Dt)[r]? = some t → DtOk t (row i r)) : ∃ xs : List TEvT, xs.length = n ∧ (∀ x ∈ xs, x.2.2.2.2.1.length ≤ 9223372036854775807 ∧ x.2.2.2.2.2.length ≤ 9223372036854775807) ∧ CSame (.sl .fro e 6 n row) ((tTEv e' 0 0 xs).er .fro) :=
  list_of decTEv zTEv 6 (fun f hf => by
    obtain ⟨z0, hz0, w0⟩ := (hf 0 .i rfl).int
    obtain ⟨z1, hz1, w1⟩ := (hf 1 .i rfl).int
    obtain ⟨z2, hz2, w2⟩ := (hf 2 .i rfl).int
    obtain ⟨z3, hz3, w3⟩ := (hf 3 .i rfl).int
    obtain ⟨e4, n4, row4, hz4, l4, k4⟩ := (hf 4 (.sl [.i, .i, .i]) rfl).slice
    obtain ⟨e5, n5, row5, hz5, l5, k5⟩ := (hf 5 (.sl [.b, .i]) rfl).slice
    obtain ⟨g4, lg4, pg4, sg4⟩ := Cmds_of (e := e4) (e' := 0) l4 k4
    obtain ⟨g5, lg5, pg5, sg5⟩ := Ress_of (e := e5) (e' := 0) l5 k5
    refine ⟨(z0, z1, z2, z3, g4, g5), ⟨by show g4.length ≤ _; omega, by show g5.length ≤ _; omega⟩, fun r hr => ?_⟩
    match r, hr with
    | 0, _ => rw [hz0]; exact rfl
    | 1, _ => rw [hz1]; exact rfl
    | 2, _ => rw [hz2]; exact rfl
    | 3, _ => rw [hz3]; exact rfl
    | 4, _ => rw [hz4]; exact sg4
    | 5, _ => rw [hz5]; exact sg5
    ) h
end Go.Proofs.Ythhjlcoijnjkdab
