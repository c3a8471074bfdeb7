import Derived.Test.YthhjlcoijnjkdabWUn
namespace Go.Proofs.Ythhjlcoijnjkdab
open Go Go.Tr
set_option maxRecDepth 100000
set_option maxHeartbeats 4000000
set_option linter.unusedVariables false
set_option linter.unusedSimpArgs false
def pe (ps : List PinT) (j : Nat) : Bool := (ps.getD j zPin).1 && !(ps.getD j zPin).2.2.1
noncomputable def unm (E : Int) (ps : List PinT) : Int := if clk E ps = true then cntP (pe ps) 3 else 0
theorem clk_len {E : Int} {ps : List PinT} (h : clk E ps = true) : ps.length = 3 := by
  unfold clk at h; simp at h; exact h.1.2
theorem UnmarkedS_run (E : Int) (e : Nat) (ps : List PinT) (hn : ps.length ≤ 1048576) : RunT Try.prog 27 [aClk E e ps] [] [oi (unm E ps)] [] := by
  have c0 := ClockOkS_run E e ps hn
  rcases hck : clk E ps
  all_goals rw [hck] at c0
  · have hu : unm E ps = 0 := by unfold unm; rw [if_neg (by rw [hck]; simp)]
    refine RunT.of_vc gOk Try.func27 rfl rfl (Nat.le_of_ble_eq_true rfl) (by repeat' (first | exact trivial | exact ⟨_, rfl, Nat.le_refl _⟩ | exact Nat.le_of_ble_eq_true rfl | refine And.intro ?_ ?_)) (Nat.le_of_ble_eq_true rfl) rfl (fun F hE => ?_)
    repeat' (first | exact trivial | refine BS.d (fun h => ?_) (fun h => ?_) | refine BS.e (fun h => ?_) (fun h => ?_) | refine BS.ne (fun h => ?_) (fun h => ?_) | refine BS.n ?_ | refine BS.s (fun h => ?_) (fun h => ?_) | refine And.intro ?_ ?_ | (refine Need.mk ?_; first | with_reducible rfl | (show @Eq TC _ _; rfl) | omega | (simp only [adN_zero]; omega)) | exact OutS.whole rfl rfl)
    refine CodeK.loop gOk hE (fun i : Nat => ⟨[(1, .ptr 1 0 0), (3, vi 0), (4, vi i)], [(1, .box 45 [.cl (.lit (.int .i64 E)), .ref 1000000 0 ps.length]), (1000000, rPin .fro false e ps)]⟩) (fun i => i = 0) (fun i => 3 - i) 0 (by refine leT.of ?_ ?_ rfl <;> repeat' (first | exact trivial | refine And.intro rfl ?_ | refine And.intro (by simp) ?_)) rfl ?_
    rintro i rfl
    repeat' (first | exact trivial | refine BS.d (fun h => ?_) (fun h => ?_) | refine BS.e (fun h => ?_) (fun h => ?_) | refine BS.ne (fun h => ?_) (fun h => ?_) | refine BS.n ?_ | refine BS.s (fun h => ?_) (fun h => ?_) | refine And.intro ?_ ?_ | (refine Need.mk ?_; first | with_reducible rfl | (show @Eq TC _ _; rfl) | omega | (simp only [adN_zero]; omega)) | exact OutS.whole rfl rfl | (refine OpK.call c0 rfl rfl rfl rfl hE ?_ rfl rfl ?_; focus ((repeat' (first | exact PsA.lit _ | exact PsA.ref rfl rfl | constructor)); all_goals (fail "ps"))))
    all_goals first
      | (exfalso; first | omega | (simp at *; done))
      | (refine Need.mk ?_; rw [hu])
  · have hu : unm E ps = cntP (pe ps) 3 := by unfold unm; rw [if_pos hck]
    have hl := clk_len hck
    refine RunT.of_vc gOk Try.func27 rfl rfl (Nat.le_of_ble_eq_true rfl) (by repeat' (first | exact trivial | exact ⟨_, rfl, Nat.le_refl _⟩ | exact Nat.le_of_ble_eq_true rfl | refine And.intro ?_ ?_)) (Nat.le_of_ble_eq_true rfl) rfl (fun F hE => ?_)
    repeat' (first | exact trivial | refine BS.d (fun h => ?_) (fun h => ?_) | refine BS.e (fun h => ?_) (fun h => ?_) | refine BS.ne (fun h => ?_) (fun h => ?_) | refine BS.n ?_ | refine BS.s (fun h => ?_) (fun h => ?_) | refine And.intro ?_ ?_ | (refine Need.mk ?_; first | with_reducible rfl | (show @Eq TC _ _; rfl) | omega | (simp only [adN_zero]; omega)) | exact OutS.whole rfl rfl)
    refine CodeK.loop gOk hE (fun i : Nat => ⟨[(1, .ptr 1 0 0), (3, vi (cntP (pe ps) i)), (4, vi i)], [(1, .box 45 [.cl (.lit (.int .i64 E)), .ref 1000000 0 ps.length]), (1000000, rPin .fro false e ps)]⟩) (fun i => i ≤ 3) (fun i => 3 - i) 0 (by refine leT.of ?_ ?_ rfl <;> repeat' (first | exact trivial | refine And.intro rfl ?_ | refine And.intro (by simp) ?_)) (Nat.zero_le _) ?_
    rintro i hi
    have hb := cntP_bd (pe ps) i
    repeat' (first | exact trivial | refine BS.d (fun h => ?_) (fun h => ?_) | refine BS.e (fun h => ?_) (fun h => ?_) | refine BS.ne (fun h => ?_) (fun h => ?_) | refine BS.n ?_ | refine BS.s (fun h => ?_) (fun h => ?_) | refine And.intro ?_ ?_ | (refine Need.mk ?_; first | with_reducible rfl | (show @Eq TC _ _; rfl) | omega | (simp only [adN_zero]; omega)) | exact OutS.whole rfl rfl | (refine OpK.call c0 rfl rfl rfl rfl hE ?_ rfl rfl ?_; focus ((repeat' (first | exact PsA.lit _ | exact PsA.ref rfl rfl | constructor)); all_goals (fail "ps"))))
    all_goals (try simp only [adN_zero] at *)
    all_goals (first
      | (exfalso; omega)
      | (refine Need.mk ?_; omega)
      | (refine Need.mk ?_; rw [hu, show i = 3 by omega])
      | (refine ⟨i + 1, (by refine leT.of ?_ ?_ rfl <;> repeat' (first | exact trivial | refine And.intro rfl ?_ | refine And.intro (by first | rfl | (rw [cntP_yes] <;> first | (show V.a _ = V.a _; rfl) | (simp_all [pe]; done)) | (rw [cntP_no] <;> first | (show V.a _ = V.a _; rfl) | (simp_all [pe]; done)) | simp) ?_)), by omega, by first | omega | (dsimp only; omega)⟩))
theorem UnmarkedI_run (E : Int) (e : Nat) (ps : List PinT) (hn : ps.length ≤ 1048576) : RunT Try.prog 29 [aClk E e ps] [] [oi (unm E ps)] [] := by
  have c0 := ClockOkI_run E e ps hn
  rcases hck : clk E ps
  all_goals rw [hck] at c0
  · have hu : unm E ps = 0 := by unfold unm; rw [if_neg (by rw [hck]; simp)]
    refine RunT.of_vc gOk Try.func29 rfl rfl (Nat.le_of_ble_eq_true rfl) (by repeat' (first | exact trivial | exact ⟨_, rfl, Nat.le_refl _⟩ | exact Nat.le_of_ble_eq_true rfl | refine And.intro ?_ ?_)) (Nat.le_of_ble_eq_true rfl) rfl (fun F hE => ?_)
    repeat' (first | exact trivial | refine BS.d (fun h => ?_) (fun h => ?_) | refine BS.e (fun h => ?_) (fun h => ?_) | refine BS.ne (fun h => ?_) (fun h => ?_) | refine BS.n ?_ | refine BS.s (fun h => ?_) (fun h => ?_) | refine And.intro ?_ ?_ | (refine Need.mk ?_; first | with_reducible rfl | (show @Eq TC _ _; rfl) | omega | (simp only [adN_zero]; omega)) | exact OutS.whole rfl rfl | (refine OpK.call c0 rfl rfl rfl rfl hE ?_ rfl rfl ?_; focus ((repeat' (first | exact PsA.lit _ | exact PsA.ref rfl rfl | constructor)); all_goals (fail "ps"))))
    all_goals (refine Need.mk ?_; rw [hu])
  · have hu : unm E ps = cntP (pe ps) 3 := by unfold unm; rw [if_pos hck]
    have hl := clk_len hck
    refine RunT.of_vc gOk Try.func29 rfl rfl (Nat.le_of_ble_eq_true rfl) (by repeat' (first | exact trivial | exact ⟨_, rfl, Nat.le_refl _⟩ | exact Nat.le_of_ble_eq_true rfl | refine And.intro ?_ ?_)) (Nat.le_of_ble_eq_true rfl) rfl (fun F hE => ?_)
    repeat' (first | exact trivial | refine BS.d (fun h => ?_) (fun h => ?_) | refine BS.e (fun h => ?_) (fun h => ?_) | refine BS.ne (fun h => ?_) (fun h => ?_) | refine BS.n ?_ | refine BS.s (fun h => ?_) (fun h => ?_) | refine And.intro ?_ ?_ | (refine Need.mk ?_; first | with_reducible rfl | (show @Eq TC _ _; rfl) | omega | (simp only [adN_zero]; omega)) | exact OutS.whole rfl rfl | (refine OpK.call c0 rfl rfl rfl rfl hE ?_ rfl rfl ?_; focus ((repeat' (first | exact PsA.lit _ | exact PsA.ref rfl rfl | constructor)); all_goals (fail "ps"))))
    refine CodeK.loop gOk hE (fun i : Nat => ⟨[(1, .ptr 1 0 0), (3, vi (cntP (pe ps) i)), (10, vr 1000000 ps.length), (11, vi ps.length), (12, vi i)], [(1, .box 45 [.cl (.lit (.int .i64 E)), .ref 1000000 0 ps.length]), (1000000, rPin .fro false e ps)]⟩) (fun i => i ≤ 3) (fun i => 3 - i) 0 (by refine leT.of ?_ ?_ rfl <;> repeat' (first | exact trivial | refine And.intro rfl ?_ | refine And.intro (by simp) ?_)) (Nat.zero_le _) ?_
    rintro i hi
    have hb := cntP_bd (pe ps) i
    have c1 := eff_run (ps.getD i zPin)
    repeat' (first | exact trivial | refine BS.d (fun h => ?_) (fun h => ?_) | refine BS.e (fun h => ?_) (fun h => ?_) | refine BS.ne (fun h => ?_) (fun h => ?_) | refine BS.n ?_ | refine BS.s (fun h => ?_) (fun h => ?_) | refine And.intro ?_ ?_ | (refine Need.mk ?_; first | with_reducible rfl | (show @Eq TC _ _; rfl) | omega | (simp only [adN_zero]; omega)) | exact OutS.whole rfl rfl | (refine OpK.call c1 rfl rfl rfl rfl hE ?_ rfl rfl ?_; focus ((repeat' (first | exact PsA.lit _ | exact PsA.ref rfl rfl | constructor)); all_goals (fail "ps"))))
    all_goals (try simp only [adN_zero] at *)
    all_goals (first
      | (exfalso; omega)
      | (refine Need.mk ?_; omega)
      | (refine Need.mk ?_; rw [hu, show i = 3 by omega])
      | (refine ⟨i + 1, (by refine leT.of ?_ ?_ rfl <;> repeat' (first | exact trivial | refine And.intro rfl ?_ | refine And.intro (by first | rfl | (rw [cntP_yes] <;> first | (show V.a _ = V.a _; rfl) | (simp_all [pe]; done)) | (rw [cntP_no] <;> first | (show V.a _ = V.a _; rfl) | (simp_all [pe]; done)) | simp) ?_)), by omega, by first | omega | (dsimp only; omega)⟩))
theorem szClock_run (E : Int) (e : Nat) (ps : List PinT) (m : Int) (h0 : 0 ≤ m) (h1 : m ≤ 1048576) (hn : ps.length ≤ 9223372036854775807) : RunT Try.prog 26 [aClk E e ps, ti m] [] [oi (szI ps m)] [] := by
  have c0 := szPinS_run e ps m h0 h1 hn
  refine RunT.of_vc gOk Try.func26 rfl rfl (Nat.le_of_ble_eq_true rfl) (by repeat' (first | exact trivial | exact ⟨_, rfl, Nat.le_refl _⟩ | exact Nat.le_of_ble_eq_true rfl | refine And.intro ?_ ?_)) (Nat.le_of_ble_eq_true rfl) rfl (fun F hE => ?_)
  repeat' (first | exact trivial | refine BS.d (fun h => ?_) (fun h => ?_) | refine BS.e (fun h => ?_) (fun h => ?_) | refine BS.ne (fun h => ?_) (fun h => ?_) | refine BS.n ?_ | refine BS.s (fun h => ?_) (fun h => ?_) | refine And.intro ?_ ?_ | (refine Need.mk ?_; first | with_reducible rfl | (show @Eq TC _ _; rfl) | omega | (simp only [adN_zero]; omega)) | exact OutS.whole rfl rfl | (refine OpK.call c0 rfl rfl rfl rfl hE ?_ rfl rfl ?_; focus ((repeat' (first | exact PsA.lit _ | exact PsA.ref rfl rfl | constructor)); all_goals (fail "ps"))))
  all_goals (refine Need.mk ?_; unfold szI at *; split at * <;> simp_all <;> omega)
theorem toClock_run (E : Int) (e : Nat) (ps : List PinT) (hn : ps.length ≤ 1048576) : RunT Try.prog 28 [aClk E e ps] [] [.agg [.lit (.int .i64 E), tPin 69 ps]] [] := by
  have c0 := toPinS_run e ps hn
  refine RunT.of_vc gOk Try.func28 rfl rfl (Nat.le_of_ble_eq_true rfl) (by repeat' (first | exact trivial | exact ⟨_, rfl, Nat.le_refl _⟩ | exact Nat.le_of_ble_eq_true rfl | refine And.intro ?_ ?_)) (Nat.le_of_ble_eq_true rfl) rfl (fun F hE => ?_)
  repeat' (first | exact trivial | refine BS.d (fun h => ?_) (fun h => ?_) | refine BS.e (fun h => ?_) (fun h => ?_) | refine BS.ne (fun h => ?_) (fun h => ?_) | refine BS.n ?_ | refine BS.s (fun h => ?_) (fun h => ?_) | refine And.intro ?_ ?_ | (refine Need.mk ?_; first | with_reducible rfl | (show @Eq TC _ _; rfl) | omega | (simp only [adN_zero]; omega)) | exact OutS.whole rfl rfl | (refine OpK.call c0 rfl rfl rfl rfl hE ?_ rfl rfl ?_; focus ((repeat' (first | exact PsA.lit _ | exact PsA.ref rfl rfl | constructor)); all_goals (fail "ps"))))
theorem eqClock_run (E : Int) (e : Nat) (ps : List PinT) (hn : ps.length ≤ 4000000) : RunT Try.prog 30 [aClk E e ps, aClk E e ps] [] [ob true] [] := by
  have c0 := eqPinS_run e ps hn
  refine RunT.of_vc gOk Try.func30 rfl rfl (Nat.le_of_ble_eq_true rfl) (by repeat' (first | exact trivial | exact ⟨_, rfl, Nat.le_refl _⟩ | exact Nat.le_of_ble_eq_true rfl | refine And.intro ?_ ?_)) (Nat.le_of_ble_eq_true rfl) rfl (fun F hE => ?_)
  repeat' (first | exact trivial | refine BS.d (fun h => ?_) (fun h => ?_) | refine BS.e (fun h => ?_) (fun h => ?_) | refine BS.ne (fun h => ?_) (fun h => ?_) | refine BS.n ?_ | refine BS.s (fun h => ?_) (fun h => ?_) | refine And.intro ?_ ?_ | (refine Need.mk ?_; first | with_reducible rfl | (show @Eq TC _ _; rfl) | omega | (simp only [adN_zero]; omega)) | exact OutS.whole rfl rfl | (refine OpK.call c0 rfl rfl rfl rfl hE ?_ rfl rfl ?_; focus ((repeat' (first | exact PsA.lit _ | exact PsA.ref rfl rfl | constructor)); all_goals (fail "ps"))))
  all_goals (first | exact absurd rfl ‹_› | simp_all)
theorem Unmarked_law (E : Int) (ps : List PinT) (hn : ps.length ≤ 9223372036854775807) : RunT Try.prog 8 [aClk E 0 ps] [] [ob true] [] := by
  refine RunT.of_vc gOk Try.func8 rfl rfl (Nat.le_of_ble_eq_true rfl) (by repeat' (first | exact trivial | exact ⟨_, rfl, Nat.le_refl _⟩ | exact Nat.le_of_ble_eq_true rfl | refine And.intro ?_ ?_)) (Nat.le_of_ble_eq_true rfl) rfl (fun F hE => ?_)
  repeat' (first | exact trivial | refine BS.d (fun h => ?_) (fun h => ?_) | refine BS.e (fun h => ?_) (fun h => ?_) | refine BS.ne (fun h => ?_) (fun h => ?_) | refine BS.n ?_ | refine BS.s (fun h => ?_) (fun h => ?_) | refine And.intro ?_ ?_ | (refine Need.mk ?_; first | with_reducible rfl | (show @Eq TC _ _; rfl) | omega | (simp only [adN_zero]; omega)) | exact OutS.whole rfl rfl)
  refine OpK.call (szClock_run E 0 ps 1048576 (by omega) (by omega) hn) rfl rfl rfl rfl hE (by repeat' (first | exact PsA.lit _ | exact PsA.ref rfl rfl | constructor)) rfl rfl ?_
  repeat' (first | exact trivial | refine BS.d (fun h => ?_) (fun h => ?_) | refine BS.e (fun h => ?_) (fun h => ?_) | refine BS.ne (fun h => ?_) (fun h => ?_) | refine BS.n ?_ | refine BS.s (fun h => ?_) (fun h => ?_) | refine And.intro ?_ ?_ | (refine Need.mk ?_; first | with_reducible rfl | (show @Eq TC _ _; rfl) | omega | (simp only [adN_zero]; omega)) | exact OutS.whole rfl rfl)
  have b0 := szI_le (xs := ps) (m := 1048576) (by omega)
  have hm : ps.length ≤ 1048576 := by omega
  have c1 := toClock_run E 0 ps hm
  have c2 := UnmarkedS_run E 69 ps hm
  have c3 := UnmarkedI_run E 69 ps hm
  have c4 := eqClock_run E 69 ps (by omega)
  repeat' (first | exact trivial | refine BS.d (fun h => ?_) (fun h => ?_) | refine BS.e (fun h => ?_) (fun h => ?_) | refine BS.ne (fun h => ?_) (fun h => ?_) | refine BS.n ?_ | refine BS.s (fun h => ?_) (fun h => ?_) | refine And.intro ?_ ?_ | (refine Need.mk ?_; first | with_reducible rfl | (show @Eq TC _ _; rfl) | omega | (simp only [adN_zero]; omega)) | exact OutS.whole rfl rfl | (refine OpK.call c1 rfl rfl rfl rfl hE ?_ rfl rfl ?_; focus ((repeat' (first | exact PsA.lit _ | exact PsA.ref rfl rfl | constructor)); all_goals (fail "ps"))) | (refine OpK.call c2 rfl rfl rfl rfl hE ?_ rfl rfl ?_; focus ((repeat' (first | exact PsA.lit _ | exact PsA.ref rfl rfl | constructor)); all_goals (fail "ps"))) | (refine OpK.call c3 rfl rfl rfl rfl hE ?_ rfl rfl ?_; focus ((repeat' (first | exact PsA.lit _ | exact PsA.ref rfl rfl | constructor)); all_goals (fail "ps"))) | (refine OpK.call c4 rfl rfl rfl rfl hE ?_ rfl rfl ?_; focus ((repeat' (first | exact PsA.lit _ | exact PsA.ref rfl rfl | constructor)); all_goals (fail "ps"))) | (refine CodeK.draw gOk hE rfl (fun _ _ h => h) (.alt 0 (.alt 1 (.alt 2 (.alt 3 (.take 4 .done) .stop) .stop) .stop) (.alt 1 (.alt 0 (.alt 2 (.alt 3 (.take 4 .done) .stop) .stop) (.alt 2 (.alt 0 (.alt 3 (.take 4 .done) .stop) .stop) .stop)) .stop)) ?_ ?_; focus (decide +kernel)))
  all_goals first | exact absurd rfl h | trace_state
end Go.Proofs.Ythhjlcoijnjkdab
