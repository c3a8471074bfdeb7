import Derived.Test.YtlnlogflhagocaaZRLB
import Derived.Test.YtlnlogflhagocaaZRLA
section
/- A log is replayed up to a place. -/
namespace Go.Proofs.Ytlnlogflhagocaa
open Go Go.Tr
set_option maxRecDepth 100000
set_option maxHeartbeats 4000000
set_option linter.unusedVariables false
set_option linter.unusedSimpArgs false
theorem ReplayToS_run (e eC eR : Nat) (L : List TEvT) (n : Int) (hn : L.length ≤ 1048576) (hx : ∀ i, (L.getD i zTEv).2.2.2.2.1.length ≤ 1048576 ∧ (L.getD i zTEv).2.2.2.2.2.length ≤ 1048576) (ht : totC L ≤ 1048576) : RunT Try.prog 50 [.one (.c (tTEv e eC eR L)), ti n] [] [.one (tKV 179 (rpN L (ordN L L.length) (Nat.min (ordN L L.length).length n.toNat)).1)] [] := by
  have c0 := OrderS_run e eC eR L hn
  have hp3 := @ordN_p3 L
  have hnd := ordN_nd L L.length
  have hol := ordN_le L L.length
  generalize ordN L L.length = o at *
  refine RunT.of_vc gOk Try.func50 rfl rfl (Nat.le_of_ble_eq_true rfl) (by repeat' (first | exact trivial | exact ⟨_, rfl, Nat.le_refl _⟩ | exact Nat.le_of_ble_eq_true rfl | refine And.intro ?_ ?_)) (Nat.le_of_ble_eq_true rfl) rfl (fun F hE => ?_)
  repeat' (first | exact trivial | refine BS.d (fun h => ?_) (fun h => ?_) | refine BS.e (fun h => ?_) (fun h => ?_) | refine BS.ne (fun h => ?_) (fun h => ?_) | refine BS.n ?_ | refine BS.s (fun h => ?_) (fun h => ?_) | refine And.intro ?_ ?_ | (refine Need.mk ?_; first | with_reducible rfl | (show @Eq TC _ _; rfl) | omega | (simp only [adN_zero]; omega)) | exact OutS.whole rfl rfl | (refine OpK.call c0 rfl rfl rfl rfl hE ?_ rfl rfl ?_; focus ((repeat' (first | exact PsA.lit _ | exact PsA.ref rfl rfl | constructor)); all_goals (fail "ps"))) | refine ListO.go gOk hE ?_)
  refine CodeK.loopK (fun i : Nat => ⟨[(0, vr 1000000 L.length), (1, vi n), (5, vr 8 (rpN L o i).1.length), (6, vr 2001280 o.length), (7, vi i)], [(8, rKV .own true 179 (rpN L o i).1), (2001280, rI .own true o), (1000000, rTEv .fro false e eC eR L)]⟩) (fun i => i ≤ o.length ∧ (i = 0 ∨ (i : Int) ≤ n)) (fun i => o.length - i) 0 (by refine leT.of ?_ ?_ rfl <;> repeat' (first | exact trivial | refine And.intro rfl ?_ | refine And.intro (by first | rfl | (simp [rpN] <;> rfl) | (simp [rpN]; done)) ?_)) ⟨Nat.zero_le _, .inl rfl⟩ ?_
  rintro i ⟨hi, hin⟩
  by_cases hi2 : (i < o.length ∧ (i : Int) < n)
  · have hsu := rpN_succ L hi2.1
    have hfit := rpN_fit L hnd hi2.1
    have h3 := hp3 hi2.1
    have c1 := l27Do_run e eC eR L (rpN L o i).1 (o.getD i 0) hn hx h3 (by omega)
    generalize rpN L o i = st at *
    obtain ⟨m0, b0⟩ := st
    unfold rpS at hsu
    dsimp only at *
    generalize rpM L m0 (o.getD i 0) = m1 at *
    generalize rpQ L m0 (o.getD i 0) = q1 at *
    repeat' (first | exact trivial | refine BS.d (fun h => ?_) (fun h => ?_) | refine BS.e (fun h => ?_) (fun h => ?_) | refine BS.ne (fun h => ?_) (fun h => ?_) | refine BS.n ?_ | refine BS.s (fun h => ?_) (fun h => ?_) | refine And.intro ?_ ?_ | (refine Need.mk ?_; first | with_reducible rfl | (show @Eq TC _ _; rfl) | omega | (simp only [adN_zero]; omega)) | exact OutS.whole rfl rfl | (refine OpK.callM 8 0 0 c1 rfl rfl rfl rfl hE rfl (QsVs.cons (.one (.m rfl rfl (.whole rfl rfl))) (.cons (.one (.c (.ref rfl rfl) rfl)) (.cons (.one (.c (.lit _) rfl)) .nil))) rfl rfl ?_) | (refine CodeK.rekeyR 5 2003712 8 rfl hE rfl rfl rfl rfl rfl rfl ?_) | (refine CodeK.rekeyS 5 2003712 8 rfl hE rfl rfl rfl rfl rfl rfl ?_) | (refine CodeK.seqL 9999 rfl ?_) | (refine CodeK.seqv gOk hE ?_) | (refine CodeK.vc gOk hE ?_) | (refine ListO.step gOk hE ?_) | (refine ListO.done ?_) | refine ListO.go gOk hE ?_)
    all_goals (try simp only [adN_zero] at *)
    all_goals first
      | (exfalso; omega)
      | (refine Need.mk ?_; first | rfl | omega | simp_all; done)
      | (refine ⟨i + 1, (by refine leT.of ?_ ?_ rfl <;> repeat' (first | exact trivial | refine And.intro rfl ?_ | refine And.intro (by first | rfl | (rw [hsu]; first | rfl | (simp_all; done) | (simp_all <;> rfl))) ?_)), ⟨by omega, .inr (by omega)⟩, by first | omega | (dsimp only; omega)⟩)
      | trace_state
  · have hlast : i = Nat.min o.length n.toNat := by
      show i = min o.length n.toNat
      omega
    rw [← hlast] at *
    generalize rpN L o i = st at *
    obtain ⟨m0, b0⟩ := st
    repeat' (first | exact trivial | refine BS.d (fun h => ?_) (fun h => ?_) | refine BS.e (fun h => ?_) (fun h => ?_) | refine BS.ne (fun h => ?_) (fun h => ?_) | refine BS.n ?_ | refine BS.s (fun h => ?_) (fun h => ?_) | refine And.intro ?_ ?_ | (refine Need.mk ?_; first | with_reducible rfl | (show @Eq TC _ _; rfl) | omega | (simp only [adN_zero]; omega)) | exact OutS.whole rfl rfl | (refine CodeK.seqL 9999 rfl ?_) | (refine CodeK.seqv gOk hE ?_) | (refine CodeK.vc gOk hE ?_) | (refine ListO.step gOk hE ?_) | (refine ListO.done ?_) | refine ListO.go gOk hE ?_)
    all_goals (try simp only [adN_zero] at *)
    all_goals first
      | (exfalso; omega)
      | exact Need.mk rfl
      | exact OutS.whole rfl rfl
      | trace_state
theorem ReplayToI_run (e eC eR : Nat) (L : List TEvT) (n : Int) (hn : L.length ≤ 1048576) (hx : ∀ i, (L.getD i zTEv).2.2.2.2.1.length ≤ 1048576 ∧ (L.getD i zTEv).2.2.2.2.2.length ≤ 1048576) (ht : totC L ≤ 1048576) : RunT Try.prog 51 [.one (.c (tTEv e eC eR L)), ti n] [] [.one (tKV 179 (rpN L (ordN L L.length) (Nat.min (ordN L L.length).length n.toNat)).1)] [] := by
  have c0 := OrderI_run e eC eR L hn
  have hp3 := @ordN_p3 L
  have hnd := ordN_nd L L.length
  have hol := ordN_le L L.length
  generalize ordN L L.length = o at *
  refine RunT.of_vc gOk Try.func51 rfl rfl (Nat.le_of_ble_eq_true rfl) (by repeat' (first | exact trivial | exact ⟨_, rfl, Nat.le_refl _⟩ | exact Nat.le_of_ble_eq_true rfl | refine And.intro ?_ ?_)) (Nat.le_of_ble_eq_true rfl) rfl (fun F hE => ?_)
  repeat' (first | exact trivial | refine BS.d (fun h => ?_) (fun h => ?_) | refine BS.e (fun h => ?_) (fun h => ?_) | refine BS.ne (fun h => ?_) (fun h => ?_) | refine BS.n ?_ | refine BS.s (fun h => ?_) (fun h => ?_) | refine And.intro ?_ ?_ | (refine Need.mk ?_; first | with_reducible rfl | (show @Eq TC _ _; rfl) | omega | (simp only [adN_zero]; omega)) | exact OutS.whole rfl rfl | (refine OpK.call c0 rfl rfl rfl rfl hE ?_ rfl rfl ?_; focus ((repeat' (first | exact PsA.lit _ | exact PsA.ref rfl rfl | constructor)); all_goals (fail "ps"))) | refine ListO.go gOk hE ?_)
  refine CodeK.nilT gOk hE 5 900000 179 2 KVT encKV decKV zKV (by rfl) (by rfl) (by decide) ?_
  refine CodeK.loopK (fun i : Nat => ⟨[(0, vr 1000000 L.length), (1, vi n), (5, vr 900000 (rpN L o (Nat.min i n.toNat)).1.length), (9, vr 2001152 o.length), (10, vi o.length), (11, vi i)], [(900000, rKV .own true 179 (rpN L o (Nat.min i n.toNat)).1), (2001152, rI .own true o), (1000000, rTEv .fro false e eC eR L)]⟩) (fun i => i ≤ o.length) (fun i => o.length - i) 0 (by refine leT.of ?_ ?_ rfl <;> repeat' (first | exact trivial | refine And.intro rfl ?_ | refine And.intro (by first | rfl | (simp [rpN] <;> rfl) | (simp [rpN]; done)) ?_)) (Nat.zero_le _) ?_
  rintro i hi
  by_cases hi2 : (i < o.length ∧ (i : Int) < n)
  · have hsu := rpN_succ L hi2.1
    have hfit := rpN_fit L hnd hi2.1
    have h3 := hp3 hi2.1
    rw [show Nat.min i n.toNat = i from Nat.min_eq_left (by omega)]
    have c1 := replayOne_run e eC eR L (rpN L o i).1 (o.getD i 0) hn hx h3 (by omega)
    generalize rpN L o i = st at *
    obtain ⟨m0, b0⟩ := st
    unfold rpS at hsu
    dsimp only at *
    generalize rpM L m0 (o.getD i 0) = m1 at *
    generalize rpQ L m0 (o.getD i 0) = q1 at *
    repeat' (first | exact trivial | refine BS.d (fun h => ?_) (fun h => ?_) | refine BS.e (fun h => ?_) (fun h => ?_) | refine BS.ne (fun h => ?_) (fun h => ?_) | refine BS.n ?_ | refine BS.s (fun h => ?_) (fun h => ?_) | refine And.intro ?_ ?_ | (refine Need.mk ?_; first | with_reducible rfl | (show @Eq TC _ _; rfl) | omega | (simp only [adN_zero]; omega)) | exact OutS.whole rfl rfl | (refine OpK.callM 900000 1 0 c1 rfl rfl rfl rfl hE rfl (QsVs.cons (.one (.c (.ref rfl rfl) rfl)) (.cons (.one (.m rfl rfl (.whole rfl rfl))) (.cons (.one (.c (.lit _) rfl)) .nil))) rfl rfl ?_) | (refine CodeK.rekeyR 7 2002944 900000 rfl hE rfl rfl rfl rfl rfl rfl ?_) | (refine CodeK.rekeyS 7 2002944 900000 rfl hE rfl rfl rfl rfl rfl rfl ?_) | (refine CodeK.seqL 9999 rfl ?_) | (refine CodeK.seqv gOk hE ?_) | (refine CodeK.vc gOk hE ?_) | (refine ListO.step gOk hE ?_) | (refine ListO.done ?_) | refine ListO.go gOk hE ?_)
    all_goals (try simp only [adN_zero] at *)
    all_goals first
      | (exfalso; omega)
      | (refine Need.mk ?_; first | rfl | omega | simp_all; done)
      | (refine ⟨i + 1, (by refine leT.of ?_ ?_ rfl <;> repeat' (first | exact trivial | refine And.intro rfl ?_ | refine And.intro (by first | rfl | (rw [show Nat.min (i + 1) n.toNat = i + 1 from Nat.min_eq_left (by omega), hsu]; first | rfl | (simp_all; done) | (simp_all <;> rfl))) ?_)), by omega, by first | omega | (dsimp only; omega)⟩)
      | trace_state
  · by_cases hi3 : i < o.length
    · have hmin : Nat.min i n.toNat = Nat.min (i + 1) n.toNat := by
        have e1 : Nat.min i n.toNat = n.toNat := Nat.min_eq_right (by omega)
        have e2 : Nat.min (i + 1) n.toNat = n.toNat := Nat.min_eq_right (by omega)
        rw [e1, e2]
      rw [hmin]
      generalize hst : rpN L o (Nat.min (i + 1) n.toNat) = st
      obtain ⟨m0, b0⟩ := st
      repeat' (first | exact trivial | refine BS.d (fun h => ?_) (fun h => ?_) | refine BS.e (fun h => ?_) (fun h => ?_) | refine BS.ne (fun h => ?_) (fun h => ?_) | refine BS.n ?_ | refine BS.s (fun h => ?_) (fun h => ?_) | refine And.intro ?_ ?_ | (refine Need.mk ?_; first | with_reducible rfl | (show @Eq TC _ _; rfl) | omega | (simp only [adN_zero]; omega)) | exact OutS.whole rfl rfl | (refine CodeK.seqL 9999 rfl ?_) | (refine CodeK.seqv gOk hE ?_) | (refine CodeK.vc gOk hE ?_) | (refine ListO.step gOk hE ?_) | (refine ListO.done ?_) | refine ListO.go gOk hE ?_)
      all_goals (try simp only [adN_zero] at *)
      all_goals first
        | (exfalso; omega)
        | (refine Need.mk ?_; first | rfl | omega)
        | (refine ⟨i + 1, (by refine leT.of ?_ ?_ rfl <;> repeat' (first | exact trivial | refine And.intro rfl ?_ | refine And.intro (by first | rfl | (rw [hst]; rfl)) ?_)), by omega, by first | omega | (dsimp only; omega)⟩)
        | trace_state
    · have hlast : i = o.length := by omega
      subst hlast
      generalize rpN L o (Nat.min o.length n.toNat) = st at *
      obtain ⟨m0, b0⟩ := st
      repeat' (first | exact trivial | refine BS.d (fun h => ?_) (fun h => ?_) | refine BS.e (fun h => ?_) (fun h => ?_) | refine BS.ne (fun h => ?_) (fun h => ?_) | refine BS.n ?_ | refine BS.s (fun h => ?_) (fun h => ?_) | refine And.intro ?_ ?_ | (refine Need.mk ?_; first | with_reducible rfl | (show @Eq TC _ _; rfl) | omega | (simp only [adN_zero]; omega)) | exact OutS.whole rfl rfl | (refine CodeK.seqL 9999 rfl ?_) | (refine CodeK.seqv gOk hE ?_) | (refine CodeK.vc gOk hE ?_) | (refine ListO.step gOk hE ?_) | (refine ListO.done ?_) | refine ListO.go gOk hE ?_)
      all_goals first
        | (exfalso; omega)
        | exact Need.mk rfl
        | exact OutS.whole rfl rfl
        | trace_state
end Go.Proofs.Ytlnlogflhagocaa
end

section
/- The law ReplayTo. -/
namespace Go.Proofs.Ytlnlogflhagocaa
open Go Go.Tr
set_option maxRecDepth 100000
set_option maxHeartbeats 40000000
set_option linter.unusedVariables false
set_option linter.unusedSimpArgs false
theorem ReplayTo_law (xs : List TEvT) (n : Int) (hn : xs.length ≤ 9223372036854775807) (hx : ∀ i, (xs.getD i zTEv).2.2.2.2.1.length ≤ 9223372036854775807 ∧ (xs.getD i zTEv).2.2.2.2.2.length ≤ 9223372036854775807) : RunT Try.prog 10 [.one (.c (tTEv 0 0 0 xs)), ti n] [] [ob true] [] := by
  have z0 := szTEvS_run 0 0 0 xs 1048576 (by omega) (by omega) hn hx
  by_cases hz : szTL xs 1048576 < 0
  · generalize szTL xs 1048576 = zz0 at *
    refine RunT.of_vc gOk Try.func10 rfl rfl (Nat.le_of_ble_eq_true rfl) (by repeat' (first | exact trivial | exact ⟨_, rfl, Nat.le_refl _⟩ | exact Nat.le_of_ble_eq_true rfl | refine And.intro ?_ ?_)) (Nat.le_of_ble_eq_true rfl) rfl (fun F hE => ?_)
    repeat' (first | exact trivial | refine BS.d (fun h => ?_) (fun h => ?_) | refine BS.e (fun h => ?_) (fun h => ?_) | refine BS.ne (fun h => ?_) (fun h => ?_) | refine BS.n ?_ | refine BS.s (fun h => ?_) (fun h => ?_) | refine And.intro ?_ ?_ | (refine Need.mk ?_; first | with_reducible rfl | (show @Eq TC _ _; rfl) | omega | (simp only [adN_zero]; omega)) | exact OutS.whole rfl rfl | (refine OpK.call z0 rfl rfl rfl rfl hE ?_ rfl rfl ?_; focus ((repeat' (first | exact PsA.lit _ | exact PsA.ref rfl rfl | constructor)); all_goals (fail "ps"))) | refine ListO.go gOk hE ?_)
    all_goals first | exact Need.mk rfl | (exfalso; omega) | trace_state
  have htot := szTL_tot hz
  obtain ⟨hm, hy⟩ := szTL_ok hz
  generalize szTL xs 1048576 = zz0 at *
  have c1 := toTEvS_run 0 0 0 xs hm hy
  have c2 := ReplayToS_run 174 247 249 xs n hm hy htot
  have c3 := ReplayToI_run 174 247 249 xs n hm hy htot
  have c4 := eqTEvS_run 174 247 249 xs (by omega) (fun i => by have := hy i; omega)
  have m0 := markTE_run 174 247 249 xs 1 (by omega) (by omega) hm hy
  have ho := offT_bd (m := 1) (xs := xs) (by omega) hy xs.length
  have hg := rpN_all xs (ordN_nd xs xs.length) (Nat.min_le_left (ordN xs xs.length).length n.toNat)
  generalize (rpN xs (ordN xs xs.length) (Nat.min (ordN xs xs.length).length n.toNat)).1 = g at *
  have d1 := eqKVS_run 179 g (by omega)
  have m1 := markKVG_run g 1 (by omega) (by omega) (by omega)
  have k1 := heldKVG_run 179 g 1 (by omega) (by omega) (by omega)
  refine RunT.of_vc gOk Try.func10 rfl rfl (Nat.le_of_ble_eq_true rfl) (by repeat' (first | exact trivial | exact ⟨_, rfl, Nat.le_refl _⟩ | exact Nat.le_of_ble_eq_true rfl | refine And.intro ?_ ?_)) (Nat.le_of_ble_eq_true rfl) rfl (fun F hE => ?_)
  repeat' (first | exact trivial | refine BS.d (fun h => ?_) (fun h => ?_) | refine BS.e (fun h => ?_) (fun h => ?_) | refine BS.ne (fun h => ?_) (fun h => ?_) | refine BS.n ?_ | refine BS.s (fun h => ?_) (fun h => ?_) | refine And.intro ?_ ?_ | (refine Need.mk ?_; first | with_reducible rfl | (show @Eq TC _ _; rfl) | omega | (simp only [adN_zero]; omega)) | exact OutS.whole rfl rfl | (refine OpK.call z0 rfl rfl rfl rfl hE ?_ rfl rfl ?_; focus ((repeat' (first | exact PsA.lit _ | exact PsA.ref rfl rfl | constructor)); all_goals (fail "ps"))) | (refine OpK.call c1 rfl rfl rfl rfl hE ?_ rfl rfl ?_; focus ((repeat' (first | exact PsA.lit _ | exact PsA.ref rfl rfl | constructor)); all_goals (fail "ps"))) | (refine OpK.call c2 rfl rfl rfl rfl hE ?_ rfl rfl ?_; focus ((repeat' (first | exact PsA.lit _ | exact PsA.ref rfl rfl | constructor)); all_goals (fail "ps"))) | (refine OpK.call c3 rfl rfl rfl rfl hE ?_ rfl rfl ?_; focus ((repeat' (first | exact PsA.lit _ | exact PsA.ref rfl rfl | constructor)); all_goals (fail "ps"))) | (refine OpK.call c4 rfl rfl rfl rfl hE ?_ rfl rfl ?_; focus ((repeat' (first | exact PsA.lit _ | exact PsA.ref rfl rfl | constructor)); all_goals (fail "ps"))) | (refine OpK.call d1 rfl rfl rfl rfl hE ?_ rfl rfl ?_; focus ((repeat' (first | exact PsA.lit _ | exact PsA.ref rfl rfl | constructor)); all_goals (fail "ps"))) | (refine OpK.call k1 rfl rfl rfl rfl hE ?_ rfl rfl ?_; focus ((repeat' (first | exact PsA.lit _ | exact PsA.ref rfl rfl | exact PsA.ref rfl (mkL_len _ _ _ _).symm | constructor)); all_goals (fail "ps"))) | (refine OpK.callB (bTEv _ _ _ 2002944 xs (mkL zTEv (gTE 1 xs) xs xs.length)) m0 rfl rfl rfl rfl hE (BtOk.sl rfl (mkL_len _ _ _ _)) rfl (QsVs.cons (.one (.h rfl rfl rfl)) (.cons (.one (.c (.lit _) rfl)) .nil)) rfl rfl ?_) | (refine OpK.callB (bKV 2003328 g (mkL zKV (fKV 1) g g.length)) m1 rfl rfl rfl rfl hE (BtOk.sl rfl (mkL_len _ _ _ _)) rfl (QsVs.cons (.one (.h rfl rfl rfl)) (.cons (.one (.c (.lit _) rfl)) .nil)) rfl rfl ?_) | refine ListO.go gOk hE ?_)
  all_goals first | exact Need.mk rfl | exact absurd rfl h | (exfalso; omega) | (refine Need.mk ?_; omega) | (simp_all; done) | trace_state
end Go.Proofs.Ytlnlogflhagocaa
end
