import Derived.Test.YtpmhkpmkmbkjbaaGreatDoorZT
import Derived.Test.YtpmhkpmkmbkjbaaGreatDoorZH
import Derived.Test.YtpmhkpmkmbkjbaaGreatDoorZS
section
/- Where a number may be stored; a number that does not fit; Fixed in both packages. -/
namespace Go.Tr
open Go Go.RowKit
section
variable {P : Program} {F : Fm} {N : Nat} {G : Gt} {o : Oper} {σ : TS}
theorem PK.eqS {t u : Nat} {x y : Operand} {s r : ByteArray} {kv : V → Prop} (bb : Bool) (hop : o.op = .binOp .eql t x y u) (hx : evS σ x = .a (.lit (.string s))) (hy : evS σ y = .a (.lit (.string r))) (ht : P.underlying t = some .string) (hb : (s.toList == r.toList) = bb) (h : kv (.a (.lit (.bool bb)))) : PK P F N o σ kv := by
  refine ⟨_, h, fun a w ω β hr => ?_⟩
  have ex : a.eval x = .string s := ev_lit hr (by rw [evS_eq, hx]; rfl)
  have ey : a.eval y = .string r := ev_lit hr (by rw [evS_eq, hy]; rfl)
  refine ⟨.bool bb, fun w' => ?_, VRel.lit rfl⟩
  generalize a.eval = ρ at ex ey ⊢
  refine run_bin ρ w' hop (by rw [ex, ey]; rfl) ?_
  rw [ex, ey]
  show (Op.stringOp .eql s r).run P w' = _
  unfold Op.stringOp
  rw [hb]
  rfl
end
end Go.Tr
namespace Go.Proofs.YtpmhkpmkmbkjbaaGreatDoor
open Go Go.Tr
set_option maxRecDepth 100000
set_option maxHeartbeats 4000000
set_option linter.unusedVariables false
set_option linter.unusedSimpArgs false
theorem plN_ok {b c : List Int} {g o : List (List Int)} {x at_ k : Int} (h : (plX b c g o x at_ k).2 = 0) : b.length = 384 ∧ (1 ≤ k ∧ k ≤ 7) ∧ 0 ≤ (plX b c g o x at_ k).1 ∧ (plX b c g o x at_ k).1 + k ≤ 384 := by
  unfold plX at h ⊢
  by_cases h1 : dcB (mmP b c g o) = true ∧ 1 ≤ k ∧ k ≤ 7
  · rw [if_pos h1] at h ⊢
    have hm : mmP b c g o := by
      refine Classical.byContradiction fun hn => ?_
      rw [dcB_false hn] at h1; cases h1.1
    by_cases h2 : vlB b c g o x = true
    · rw [if_pos h2] at h ⊢
      have hs := clIn_some (vl_cl h2)
      by_cases h3 : 0 ≤ at_ ∧ at_ + k ≤ szC (clIn c (hSlot x))
      · rw [if_pos h3]
        refine ⟨hm.1.1.1, h1.2, ?_, ?_⟩
        · show 0 ≤ genA (hSlot x) (clIn c (hSlot x)) + 4 + at_
          omega
        · show genA (hSlot x) (clIn c (hSlot x)) + 4 + at_ + k ≤ 384
          omega
      · rw [if_neg h3] at h; cases h
    · rw [if_neg h2] at h; cases h
  · rw [if_neg h1] at h; cases h
theorem FixedS_run (n k : Int) (h : n ≤ 9223372036854775807) : RunT Tryz.prog 44 [ti n, ti k] [] [.one (.lit (.string (fxS n k)))] [] :=
  RunT.of_below (vs := [.int .i64 n, .int .i64 k]) ⟨_, Tryz.func44, rfl, rfl⟩ rfl (fun w => sFixed_any n k w h)
theorem putNumN_run (e : Nat) (xs : List Int) (q : Nat) (k : Nat) (n : Int) (hok : fxOk n k = false) (hm : n ≤ 9223372036854775807) :
    RunT Tryz.prog 50 [.one (.h 0 xs.length), ti q, ti k, ti n] [.sl e 1 Int encI decI 0 xs] [ob false] [.sl e 1 Int encI decI 0 xs] := by
  have c1 := Fixed_run n k hm
  have hs : fxS n k = ⟨#[]⟩ := by unfold fxS; rw [hok]; rfl
  rw [hs] at c1
  have hsz : (ByteArray.mk #[]).size = 0 := rfl
  have hne : ((ByteArray.mk #[]).toList == (ByteArray.mk #[]).toList) = true := by simp
  generalize hgs : ByteArray.mk #[] = s at c1 hsz
  have hne2 : (s.toList == (ByteArray.mk #[]).toList) = true := by rw [← hgs]; exact hne
  clear hgs
  refine RunT.of_vc gOk Tryz.func50 rfl rfl (Nat.le_of_ble_eq_true rfl) (by repeat' (first | exact trivial | exact ⟨_, rfl, Nat.le_refl _⟩ | exact Nat.le_of_ble_eq_true rfl | refine And.intro ?_ ?_)) (Nat.le_of_ble_eq_true rfl) rfl (fun F hE => ?_)
  repeat' (first | exact trivial | refine BS.d (fun h => ?_) (fun h => ?_) | refine BS.e (fun h => ?_) (fun h => ?_) | refine BS.ne (fun h => ?_) (fun h => ?_) | refine BS.n ?_ | refine BS.s (fun h => ?_) (fun h => ?_) | refine And.intro ?_ ?_ | (refine Need.mk ?_; first | with_reducible rfl | (show @Eq TC _ _; rfl) | omega | (simp only [adN_zero]; omega)) | exact OutS.whole rfl rfl | (refine OpK.call c1 rfl rfl rfl rfl hE ?_ rfl rfl ?_; focus ((repeat' (first | exact PsA.lit _ | exact PsA.ref rfl rfl | constructor)); all_goals (fail "ps"))) | (refine PK.lenS rfl rfl Tryz.underlying9 ?_) | refine ListO.go gOk hE ?_)
  refine CodeK.loop gOk hE (fun i : Nat => ⟨[(0, vr 1000000 xs.length), (1, vi q), (9, .a (.lit (.string s))), (15, vi s.size), (16, vi i)], [(1000000, .ty .own false 0 1 Int encI decI 0 xs)]⟩) (fun i => i ≤ 0) (fun i => 0) 0 (by refine leT.of ?_ ?_ rfl <;> repeat' (first | exact trivial | refine And.intro rfl ?_ | refine And.intro (by first | rfl | (simp; done)) ?_)) (Nat.le_refl _) ?_
  rintro i hi
  repeat' (first | exact trivial | refine BS.d (fun h => ?_) (fun h => ?_) | refine BS.e (fun h => ?_) (fun h => ?_) | refine BS.ne (fun h => ?_) (fun h => ?_) | refine BS.n ?_ | refine BS.s (fun h => ?_) (fun h => ?_) | refine And.intro ?_ ?_ | (refine Need.mk ?_; first | with_reducible rfl | (show @Eq TC _ _; rfl) | omega | (simp only [adN_zero]; omega)) | exact OutS.whole rfl rfl | (refine PK.neS true rfl rfl rfl Tryz.underlying9 hne2 ?_) | (refine OpK.ixS rfl rfl rfl Tryz.underlying9 rfl rfl (by omega) (by exfalso; omega) ?_) | refine ListO.go gOk hE ?_)
  all_goals first | (exfalso; omega) | (refine Need.mk ?_; omega) | exact Need.mk rfl | trace_state
end Go.Proofs.YtpmhkpmkmbkjbaaGreatDoor
end

section
/- StoreIn, both packages. -/
namespace Go.Proofs.YtpmhkpmkmbkjbaaGreatDoor
open Go Go.Tr
set_option maxRecDepth 100000
set_option maxHeartbeats 4000000
set_option linter.unusedVariables false
set_option linter.unusedSimpArgs false
noncomputable def siC (b c : List Int) (g o : List (List Int)) (x a k n : Int) : Int := if (plX b c g o x a k).2 = 0 then (if fxOk n k = true then 0 else 1) else (plX b c g o x a k).2
noncomputable def siL (b c : List Int) (g o : List (List Int)) (x a k n : Int) : List Int := if (plX b c g o x a k).2 = 0 ∧ fxOk n k = true then putL b (plX b c g o x a k).1.toNat (fxd k.toNat n) k.toNat else b
theorem siL_len (b c : List Int) (g o : List (List Int)) (x a k n : Int) : (siL b c g o x a k n).length = b.length := by
  unfold siL
  split
  · exact putL_len _ _ _ _
  · rfl
theorem fxOk_nn {n k : Int} (h : fxOk n k = true) : 0 ≤ n := by unfold fxOk at h; exact (of_decide_eq_true h).2.2.1
theorem fxS_ne {n : Int} {k : Nat} (h : fxOk n k = true) (h1 : 1 ≤ k) : ((fxS n k).toList == (ByteArray.mk #[]).toList) = false := by
  have hs : fxS n k = ⟨(fxd k n).toArray⟩ := by unfold fxS; rw [if_pos h]; rfl
  rw [hs]
  exact ds_ne (by rw [fxd_len]; exact h1)
theorem StoreInI_run (e : Nat) (b c : List Int) (g o : List (List Int)) (x a k n : Int) (h : MmT b c g o) (hx : x ≤ 9223372036854775807) (ha : -9223372036854775808 ≤ a ∧ a ≤ 9223372036854775807) (hn : n ≤ 9223372036854775807) : RunH Tryz.prog hT 14 [aMm e b c g o, ti x, ti a, ti k, ti n] [] [.agg [tI (siL b c g o x a k n), tI c, tSL 136 g, tSL 136 o], oi (siC b c g o x a k n)] [] := by
  have c1 := copyMem_run e b c g o h.ok
  have c2 := placeIn_run e b c g o x a k h hx ha
  unfold siL siC
  by_cases hq : (plX b c g o x a k).2 = 0
  · obtain ⟨hbl, ⟨hk1, hk7⟩, h0, h1⟩ := plN_ok hq
    rw [if_pos hq]
    rw [hq] at c2
    obtain ⟨p, hp⟩ := Int.eq_ofNat_of_zero_le h0
    obtain ⟨kn, rfl⟩ := Int.eq_ofNat_of_zero_le (show 0 ≤ k by omega)
    rw [hp] at c2 h1 ⊢
    simp only [hq, true_and, Int.toNat_natCast]
    cases hf : fxOk n kn with
    | true =>
      rw [if_pos rfl, if_pos rfl]
      have c5 := putNum_run 3 b p kn n (by omega) (by omega) (by omega) hf (by omega) hn
      have hpl := putL_len b p (fxd kn n) kn
      generalize putL b p (fxd kn n) kn = nb at *
      refine RunH.of_vc gOk Tryz.func14 rfl rfl (Nat.le_of_ble_eq_true rfl) (by repeat' (first | exact trivial | exact ⟨_, rfl, Nat.le_refl _⟩ | exact Nat.le_of_ble_eq_true rfl | refine And.intro ?_ ?_)) (Nat.le_of_ble_eq_true rfl) rfl (fun F hE hA => ?_)
      repeat' (first | exact trivial | refine BS.d (fun h => ?_) (fun h => ?_) | refine BS.e (fun h => ?_) (fun h => ?_) | refine BS.ne (fun h => ?_) (fun h => ?_) | refine BS.n ?_ | refine BS.s (fun h => ?_) (fun h => ?_) | refine And.intro ?_ ?_ | (refine Need.mk ?_; first | with_reducible rfl | (show @Eq TC _ _; rfl) | omega | (simp only [adN_zero]; omega)) | exact OutS.whole rfl rfl | (refine OpK.call c1 rfl rfl rfl rfl hE ?_ rfl rfl ?_; focus ((repeat' (first | exact PsA.lit _ | exact PsA.ref rfl rfl | constructor)); all_goals (fail "ps"))) | (refine OpK.callH c2 hA rfl rfl rfl rfl hE ?_ rfl rfl ?_; focus ((repeat' (first | exact PsA.lit _ | exact PsA.ref rfl rfl | constructor)); all_goals (fail "ps"))) | (refine OpK.callB (bInt 3 2002048 b nb) c5 rfl rfl rfl rfl hE (BtOk.sl rfl hpl) rfl (QsVs.cons (.one (.h rfl rfl rfl)) (.cons (.one (.c (.lit _) rfl)) (.cons (.one (.c (.lit _) rfl)) (.cons (.one (.c (.lit _) rfl)) .nil)))) rfl rfl ?_) | refine ListO.go gOk hE ?_)
      all_goals first | exact Need.mk rfl | exact OutS.whole rfl rfl | exact OutS.whole hpl.symm rfl | (exfalso; omega) | trace_state
    | false =>
      rw [if_neg (by decide), if_neg (by decide)]
      have c5 := putNumN_run 3 b p kn n hf hn
      refine RunH.of_vc gOk Tryz.func14 rfl rfl (Nat.le_of_ble_eq_true rfl) (by repeat' (first | exact trivial | exact ⟨_, rfl, Nat.le_refl _⟩ | exact Nat.le_of_ble_eq_true rfl | refine And.intro ?_ ?_)) (Nat.le_of_ble_eq_true rfl) rfl (fun F hE hA => ?_)
      repeat' (first | exact trivial | refine BS.d (fun h => ?_) (fun h => ?_) | refine BS.e (fun h => ?_) (fun h => ?_) | refine BS.ne (fun h => ?_) (fun h => ?_) | refine BS.n ?_ | refine BS.s (fun h => ?_) (fun h => ?_) | refine And.intro ?_ ?_ | (refine Need.mk ?_; first | with_reducible rfl | (show @Eq TC _ _; rfl) | omega | (simp only [adN_zero]; omega)) | exact OutS.whole rfl rfl | (refine OpK.call c1 rfl rfl rfl rfl hE ?_ rfl rfl ?_; focus ((repeat' (first | exact PsA.lit _ | exact PsA.ref rfl rfl | constructor)); all_goals (fail "ps"))) | (refine OpK.callH c2 hA rfl rfl rfl rfl hE ?_ rfl rfl ?_; focus ((repeat' (first | exact PsA.lit _ | exact PsA.ref rfl rfl | constructor)); all_goals (fail "ps"))) | (refine OpK.callB (bInt 3 2002048 b b) c5 rfl rfl rfl rfl hE (BtOk.sl rfl rfl) rfl (QsVs.cons (.one (.h rfl rfl rfl)) (.cons (.one (.c (.lit _) rfl)) (.cons (.one (.c (.lit _) rfl)) (.cons (.one (.c (.lit _) rfl)) .nil)))) rfl rfl ?_) | refine ListO.go gOk hE ?_)
      all_goals first | exact Need.mk rfl | exact OutS.whole rfl rfl | (exfalso; omega) | trace_state
  · rw [if_neg hq, if_neg (fun hh => hq hh.1)]
    generalize plX b c g o x a k = r at *
    obtain ⟨r1, r2⟩ := r
    dsimp only at *
    refine RunH.of_vc gOk Tryz.func14 rfl rfl (Nat.le_of_ble_eq_true rfl) (by repeat' (first | exact trivial | exact ⟨_, rfl, Nat.le_refl _⟩ | exact Nat.le_of_ble_eq_true rfl | refine And.intro ?_ ?_)) (Nat.le_of_ble_eq_true rfl) rfl (fun F hE hA => ?_)
    repeat' (first | exact trivial | refine BS.d (fun h => ?_) (fun h => ?_) | refine BS.e (fun h => ?_) (fun h => ?_) | refine BS.ne (fun h => ?_) (fun h => ?_) | refine BS.n ?_ | refine BS.s (fun h => ?_) (fun h => ?_) | refine And.intro ?_ ?_ | (refine Need.mk ?_; first | with_reducible rfl | (show @Eq TC _ _; rfl) | omega | (simp only [adN_zero]; omega)) | exact OutS.whole rfl rfl | (refine OpK.call c1 rfl rfl rfl rfl hE ?_ rfl rfl ?_; focus ((repeat' (first | exact PsA.lit _ | exact PsA.ref rfl rfl | constructor)); all_goals (fail "ps"))) | (refine OpK.callH c2 hA rfl rfl rfl rfl hE ?_ rfl rfl ?_; focus ((repeat' (first | exact PsA.lit _ | exact PsA.ref rfl rfl | constructor)); all_goals (fail "ps"))) | refine ListO.go gOk hE ?_)
    all_goals first | exact Need.mk rfl | exact OutS.whole rfl rfl | (exfalso; omega) | (exfalso; simp_all; done) | trace_state
theorem StoreInS_run (e : Nat) (b c : List Int) (g o : List (List Int)) (x a k n : Int) (h : MmT b c g o) (ha : -9223372036854775808 ≤ a ∧ a ≤ 9223372036854775807) (hn : n ≤ 9223372036854775807) : RunT Tryz.prog 12 [aMm e b c g o, ti x, ti a, ti k, ti n] [] [.agg [tI (siL b c g o x a k n), tI c, tSL 136 g, tSL 136 o], oi (siC b c g o x a k n)] [] := by
  have c1 := l9Copy_run e b c g o h.ok
  have c2 := l9Spot_run e b c g o x a k h ha
  have c3 := FixedS_run n k hn
  unfold siL siC
  by_cases hq : (plX b c g o x a k).2 = 0
  · obtain ⟨hbl, ⟨hk1, hk7⟩, h0, h1⟩ := plN_ok hq
    rw [if_pos hq]
    rw [hq] at c2
    obtain ⟨p, hp⟩ := Int.eq_ofNat_of_zero_le h0
    obtain ⟨kn, rfl⟩ := Int.eq_ofNat_of_zero_le (show 0 ≤ k by omega)
    rw [hp] at c2 h1 ⊢
    simp only [hq, true_and, Int.toNat_natCast]
    cases hf : fxOk n kn with
    | true =>
      rw [if_pos rfl, if_pos rfl]
      have hne := fxS_ne hf (by omega)
      have c5 := l3Store_run b p kn n (by omega) (by omega) (by omega) (fxOk_nn hf) hn
      have hpl := putL_len b p (fxd kn n) kn
      generalize putL b p (fxd kn n) kn = nb at *
      generalize fxS n kn = s at *
      refine RunT.of_vc gOk Tryz.func12 rfl rfl (Nat.le_of_ble_eq_true rfl) (by repeat' (first | exact trivial | exact ⟨_, rfl, Nat.le_refl _⟩ | exact Nat.le_of_ble_eq_true rfl | refine And.intro ?_ ?_)) (Nat.le_of_ble_eq_true rfl) rfl (fun F hE => ?_)
      repeat' (first | exact trivial | refine BS.d (fun h => ?_) (fun h => ?_) | refine BS.e (fun h => ?_) (fun h => ?_) | refine BS.ne (fun h => ?_) (fun h => ?_) | refine BS.n ?_ | refine BS.s (fun h => ?_) (fun h => ?_) | refine And.intro ?_ ?_ | (refine Need.mk ?_; first | with_reducible rfl | (show @Eq TC _ _; rfl) | omega | (simp only [adN_zero]; omega)) | exact OutS.whole rfl rfl | (refine OpK.call c1 rfl rfl rfl rfl hE ?_ rfl rfl ?_; focus ((repeat' (first | exact PsA.lit _ | exact PsA.ref rfl rfl | constructor)); all_goals (fail "ps"))) | (refine OpK.call c2 rfl rfl rfl rfl hE ?_ rfl rfl ?_; focus ((repeat' (first | exact PsA.lit _ | exact PsA.ref rfl rfl | constructor)); all_goals (fail "ps"))) | (refine OpK.call c3 rfl rfl rfl rfl hE ?_ rfl rfl ?_; focus ((repeat' (first | exact PsA.lit _ | exact PsA.ref rfl rfl | constructor)); all_goals (fail "ps"))) | (refine PK.eqS false rfl rfl rfl Tryz.underlying9 hne ?_) | (refine OpK.callM 2002048 0 0 c5 rfl rfl rfl rfl hE rfl (QsVs.cons (.one (.m rfl rfl (.whole rfl rfl))) (.cons (.one (.c (.lit _) rfl)) (.cons (.one (.c (.lit _) rfl)) (.cons (.one (.c (.lit _) rfl)) .nil)))) rfl rfl ?_) | refine ListO.go gOk hE ?_)
      all_goals first | exact Need.mk rfl | exact OutS.whole rfl rfl | exact OutS.whole hpl.symm rfl | (exfalso; omega) | trace_state
    | false =>
      rw [if_neg (by decide), if_neg (by decide)]
      have hs : fxS n kn = ⟨#[]⟩ := by unfold fxS; rw [hf]; rfl
      have hne : ((ByteArray.mk #[]).toList == (ByteArray.mk #[]).toList) = true := by simp
      rw [hs] at c3
      generalize hgs : ByteArray.mk #[] = s at c3
      have hne2 : (s.toList == (ByteArray.mk #[]).toList) = true := by rw [← hgs]; exact hne
      clear hgs
      refine RunT.of_vc gOk Tryz.func12 rfl rfl (Nat.le_of_ble_eq_true rfl) (by repeat' (first | exact trivial | exact ⟨_, rfl, Nat.le_refl _⟩ | exact Nat.le_of_ble_eq_true rfl | refine And.intro ?_ ?_)) (Nat.le_of_ble_eq_true rfl) rfl (fun F hE => ?_)
      repeat' (first | exact trivial | refine BS.d (fun h => ?_) (fun h => ?_) | refine BS.e (fun h => ?_) (fun h => ?_) | refine BS.ne (fun h => ?_) (fun h => ?_) | refine BS.n ?_ | refine BS.s (fun h => ?_) (fun h => ?_) | refine And.intro ?_ ?_ | (refine Need.mk ?_; first | with_reducible rfl | (show @Eq TC _ _; rfl) | omega | (simp only [adN_zero]; omega)) | exact OutS.whole rfl rfl | (refine OpK.call c1 rfl rfl rfl rfl hE ?_ rfl rfl ?_; focus ((repeat' (first | exact PsA.lit _ | exact PsA.ref rfl rfl | constructor)); all_goals (fail "ps"))) | (refine OpK.call c2 rfl rfl rfl rfl hE ?_ rfl rfl ?_; focus ((repeat' (first | exact PsA.lit _ | exact PsA.ref rfl rfl | constructor)); all_goals (fail "ps"))) | (refine OpK.call c3 rfl rfl rfl rfl hE ?_ rfl rfl ?_; focus ((repeat' (first | exact PsA.lit _ | exact PsA.ref rfl rfl | constructor)); all_goals (fail "ps"))) | (refine PK.eqS true rfl rfl rfl Tryz.underlying9 hne2 ?_) | refine ListO.go gOk hE ?_)
      all_goals first | exact Need.mk rfl | exact OutS.whole rfl rfl | (exfalso; omega) | trace_state
  · rw [if_neg hq, if_neg (fun hh => hq hh.1)]
    generalize plX b c g o x a k = r at *
    obtain ⟨r1, r2⟩ := r
    dsimp only at *
    refine RunT.of_vc gOk Tryz.func12 rfl rfl (Nat.le_of_ble_eq_true rfl) (by repeat' (first | exact trivial | exact ⟨_, rfl, Nat.le_refl _⟩ | exact Nat.le_of_ble_eq_true rfl | refine And.intro ?_ ?_)) (Nat.le_of_ble_eq_true rfl) rfl (fun F hE => ?_)
    repeat' (first | exact trivial | refine BS.d (fun h => ?_) (fun h => ?_) | refine BS.e (fun h => ?_) (fun h => ?_) | refine BS.ne (fun h => ?_) (fun h => ?_) | refine BS.n ?_ | refine BS.s (fun h => ?_) (fun h => ?_) | refine And.intro ?_ ?_ | (refine Need.mk ?_; first | with_reducible rfl | (show @Eq TC _ _; rfl) | omega | (simp only [adN_zero]; omega)) | exact OutS.whole rfl rfl | (refine OpK.call c1 rfl rfl rfl rfl hE ?_ rfl rfl ?_; focus ((repeat' (first | exact PsA.lit _ | exact PsA.ref rfl rfl | constructor)); all_goals (fail "ps"))) | (refine OpK.call c2 rfl rfl rfl rfl hE ?_ rfl rfl ?_; focus ((repeat' (first | exact PsA.lit _ | exact PsA.ref rfl rfl | constructor)); all_goals (fail "ps"))) | refine ListO.go gOk hE ?_)
    all_goals first | exact Need.mk rfl | exact OutS.whole rfl rfl | (exfalso; omega) | (exfalso; simp_all; done) | trace_state
end Go.Proofs.YtpmhkpmkmbkjbaaGreatDoor
end
