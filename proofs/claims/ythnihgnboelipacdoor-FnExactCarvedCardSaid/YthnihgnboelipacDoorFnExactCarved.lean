/- For every heap of at most 1048576 numbers the two Carved give the same slots, leave the heap as it was and give memory of their own, so the law returns true (the table of slot sizes reads as the program lays it); of a larger one it returns true at once. -/
import Derived.Test.YthnihgnboelipacDoorRows
import Derived.WalkKit
import Derived.ProofKit
import Derived.OpenShut
import Derived.ShutString
import Derived.ChangeOld
import Derived.Below
import Derived.Lib.SmallJoins
import Derived.ChangeArms
import Derived.Test.YthnihgnboelipacDoorFrame
import Derived.Test.YthnihgnboelipacDoorTie
import Derived.Test.YthnihgnboelipacDoorCards
import Derived.LaidMore
import Derived.Lay
import Derived.SevenTiedAt
import Derived.Stop.Joined
import Derived.OpenVars
import Derived.Test.YthnihgnboelipacDoorC2
import Derived.Test.YthnihgnboelipacDoorCar
namespace Go.Proofs.YthnihgnboelipacDoor.fnExactCarved
open Go.Proofs.YthnihgnboelipacDoor
open Go.ChangeShapes Go.WideShapes Go.ChangeAt Go.RowKit
open Go.ChangeMaps (open_string shut_string)
set_option linter.unusedVariables false

set_option maxRecDepth 100000 in
set_option maxHeartbeats 2000000 in
theorem walk (a0x : Option Addr) (len0x cap0x : Nat) (z0x : List Int) (a0y : Option Addr) (len0y cap0y : Nat) (z0y : List Int) (w : World) (w0x : IsRow .i64 w a0x len0x cap0x z0x) (w0y : IsRow .i64 w a0y len0y cap0y z0y) (hL : laidMetH Tryd.prog Rows.fnExactCarvedRow.laid w) :
    Calls Tryd.prog 5 #[.agg #[.slice a0x len0x cap0x, .slice a0y len0y cap0y]] w fun e w' => e = .returned (.bool true) ∧ Below w.heap.size w w' := by
  have ht := tab_of_laid hL
  clear hL
  obtain ⟨hr, hm⟩ := RI_of_row w0x
  obtain ⟨hr', hm'⟩ := RI_of_row w0y
  have l0 : len0x ≤ 9223372036854775807 := by unfold maxLen at hm; omega
  have l1 : len0y ≤ 9223372036854775807 := by unfold maxLen at hm'; omega
  generalize z0x.take len0x = xs at hr
  generalize z0y.take len0y = ys at hr'
  by_cases hb : 1048576 < len0x + len0y
  · go_enter Tryd.func5, Tryd.ntmps5
    go_wp2_with fail
    refine (szHeap_big _ _ _ _ _ _ _ l0 l1 hb).mono ?_
    rintro e w1 ⟨rfl, b1⟩
    go_wp2_with fail
    go_ret
    exact ⟨rfl, ((Below.refl _ _).alloc (Nat.le_refl _) _).trans (b1.mono (by simp))⟩
  have hn : len0x ≤ 1048576 := by omega
  have hn' : len0y ≤ 1048576 := by omega
  have hcl := carved_len xs ys
  have cL : (carved xs ys).length ≤ 1048576 := by omega
  have HT := Lib.hid (fun W (hb : Below w.heap.size w W) => toHeap_any a0x a0y len0x cap0x len0y cap0y xs ys W (hr.below hb) (hr'.below hb) hn hn')
  have t0 : Below w.heap.size w (w.alloc (.cells #[.slice a0x len0x cap0x, .slice a0y len0y cap0y] 39)) := (Below.refl _ _).alloc (Nat.le_refl _) _
  have k0 : C2 (w.alloc (.cells #[.slice a0x len0x cap0x, .slice a0y len0y cap0y] 39)) w.heap.size (.slice a0x len0x cap0x) (.slice a0y len0y cap0y) := C2.new w _ _ _
  go_enter Tryd.func5, Tryd.ntmps5
  go_wp2_with fail
  refine (szHeap_small _ _ _ _ _ _ _ (by omega)).mono ?_
  rintro e w1 ⟨l, hl, rfl, b1⟩
  have t1 := t0.trans (b1.mono (by simp))
  have k1 := k0.below b1
  obtain ⟨_, p1, p2⟩ := id k1
  go_wp2_with fail
  refine (HT.out _ t1).mono ?_
  rintro e w2 ⟨A1, c1, A2, c2, rfl, o2, b2⟩
  have t2 := t1.trans (b2.mono t1.size)
  clear p1 p2
  go_wp2_with fail
  refine (sCarved_any _ _ _ _ _ _ _ _ _ o2.1.reads o2.2.1.reads hn hn').mono ?_
  rintro e w3 ⟨AS, cS, rfl, oS, bS⟩
  have t3 := t2.trans (bS.mono t2.size)
  have k3 := (k1.below b2).below bS
  obtain ⟨_, p1, p2⟩ := id k3
  go_wp2_with fail
  refine (HT.out _ t3).mono ?_
  rintro e w4 ⟨A3, c3, A4, c4, rfl, o4, b4⟩
  have t4 := t3.trans (b4.mono t3.size)
  clear p1 p2
  go_wp2_with fail
  have b5 : Below w4.heap.size w4 (w4.alloc (.cells #[.slice A3 len0x c3, .slice A4 len0y c4] 26)) := (Below.refl _ _).alloc (Nat.le_refl _) _
  have t5 := t4.trans (b5.mono t4.size)
  have x5 : C2 (w4.alloc (.cells #[.slice A3 len0x c3, .slice A4 len0y c4] 26)) w4.heap.size (.slice A3 len0x c3) (.slice A4 len0y c4) := C2.new w4 _ _ _
  refine (iCarved_any _ _ _ _ _ _ _ _ _ (o4.below b5).1.reads (o4.below b5).2.1.reads hn hn' (ht.below t5)).mono ?_
  rintro e w6 ⟨AG, cG, rfl, oG, bG⟩
  have b6 : Below w4.heap.size w4 w6 := b5.trans (bG.mono b5.size)
  have t6 := t4.trans (b6.mono t4.size)
  have oS6 := (oS.below b4).below b6
  have o46 := o4.below b6
  have x6 := x5.below bG
  have k6 := ((k3.below b4).below b6)
  go_wp2_with fail
  refine (eqIntS_any _ _ _ _ _ _ _ _ _ oG.reads oS6.reads cL (by omega)).mono ?_
  rintro e w7 ⟨rfl, q7, rfl⟩
  have t7 : Below w.heap.size w (w6.drewN q7) := below_drewN t6 q7
  obtain ⟨_, p1, p2⟩ := id k6
  obtain ⟨s6, y1, y2⟩ := id x6
  go_wp2_with fail
  have o47 : OH (w6.drewN q7) w3.heap.size A3 len0x c3 xs A4 len0y c4 ys := o46
  go_region_with (first | (go_at_call 23; refine (HT.out _ (by first | exact t7 | exact t7.drew | exact below_drewN t6 _)).mono ?_; rintro e w8 ⟨A7, c7, A8, c8, rfl, o8, b8⟩; replace b8 : Below w6.heap.size w6 w8 := (by first | exact below_undrewN b8 | exact below_undrewN (below_undrew b8)); have z1 := (x6.below b8).2.1; have z2 := (x6.below b8).2.2) | (go_at_call 25; refine (eqHeap_same _ _ _ _ _ _ _ _ _ _ _ _ _ (o46.below b8).1.reads (o46.below b8).2.1.reads o8.1.reads o8.2.1.reads hn hn').mono ?_; rintro e w9 ⟨rfl, b9⟩))
  all_goals
    have b9' : Below w6.heap.size w6 w9 := b8.trans (b9.mono b8.size)
    have t9 := t6.trans (b9'.mono t6.size)
    have x9 := x6.below b9'
    obtain ⟨_, v1, v2⟩ := id x9
    have o49 := o46.below b9'
    go_wp2_with fail
    refine (markHeap_any _ _ _ _ _ _ _ _ _ _ w3.heap.size w4.heap.size o49 hn hn' o4.1.in_ o4.2.1.in_).mono ?_
    rintro e wA ⟨rfl, bA⟩
    have hw34 : w3.heap.size ≤ w4.heap.size := b4.size
    have hwx : w4.heap.size ≤ (w4.alloc (.cells #[.slice A3 len0x c3, .slice A4 len0y c4] 26)).heap.size := by simp
    have oGA := (oG.below b9').keepBet bA (fun g e => .inr (Nat.le_trans hwx (oG.lt g e).1))
    have oSA := (oS6.below b9').keepBet bA (fun g e => .inl (oS.lt g e).2)
    have kA := (k6.below b9').bet bA (.inl k3.1)
    have tA := Bet.toBelow t9 bA t9.size t3.size
    go_wp2_with fail
    refine (eqIntS_any _ _ _ _ _ _ _ _ _ oGA.reads oSA.reads cL (by omega)).mono ?_
    rintro e wB ⟨rfl, qB, rfl⟩
    have oGB : OI (wA.drewN qB) _ AG _ cG _ := oGA
    go_wp2_with fail
    refine (markIntS_any _ _ _ _ _ _ _ oGB cL (by omega) (by omega)).mono ?_
    rintro e wC ⟨rfl, oC, gC⟩
    have gC' : wA.grownBy wC (Value.ownBlock (.slice AG (carved xs ys).length cG)) := ⟨gC.os, gC.tape, gC.output, gC.size, gC.block⟩
    have oSC := oSA.keepBefore oS oG (Nat.le_trans hw34 hwx) gC'
    have kC : C2 wC w.heap.size (.slice a0x len0x cap0x) (.slice a0y len0y cap0y) := kA.keep gC'.size (gC'.block _ kA.1 (fun e => by have q1 := (oG.2.lt _ e.symm).1; have q2 := k3.1; omega))
    have tC := below_own tA oG (Nat.le_trans t4.size hwx) tA.size gC'
    go_wp2_with fail
    refine (heldIntS_any _ _ _ _ _ oC.reads cL (by omega) (by omega)).mono ?_
    rintro e w' ⟨rfl, rfl⟩
    obtain ⟨_, m1, m2⟩ := id kC
    go_wp2_with fail
    refine (HT.out _ tC).mono ?_
    rintro e wD ⟨A9, c9, A10, c10, rfl, oD, bD⟩
    have tD := tC.trans (bD.mono tC.size)
    go_wp2_with fail
    refine (iCarved_any _ _ _ _ _ _ _ _ _ oD.1.reads oD.2.1.reads hn hn' (ht.below tD)).mono ?_
    rintro e wE ⟨AE, cE, rfl, oE, bE⟩
    have tE := tD.trans (bE.mono tD.size)
    go_wp2_with fail
    refine (eqIntS_any _ _ _ _ _ _ _ _ _ oE.reads ((oSC.below bD).below bE).reads cL (by omega)).mono ?_
    rintro e wF ⟨rfl, qF, rfl⟩
    go_wp2_with fail
    refine (heldIntS_any _ _ _ _ _ (((oC.below bD).below bE).reads.drewN qF) cL (by omega) (by omega)).mono ?_
    rintro e w' ⟨rfl, rfl⟩
    go_wp2_with fail
    go_ret
    exact ⟨rfl, below_drewN tE qF⟩

theorem door_met (os : Os) (args : Array Value) : laidMetH Tryd.prog Rows.fnExactCarvedRow.laid ((World.doorLaid Tryd.prog 400 os).forCall (fun _ _ => 0) ⟨#[], args, []⟩).memory :=
  laidMetH_of_parts3 (fuel := 8) (laidMet_of_run' 8 (by kernel_rfl) (by kernel_rfl)) (by kernel_rfl) (by kernel_rfl)

set_option maxRecDepth 100000 in
theorem lifted (os : Os) (started : os.Started) (H : Type) (enc : TypeId × Value → H) :
    ReturnsInHanded {} Tryd.checked os 5 .any (fun w args => (Rows.fnExactCarvedSpec.pre enc Tryd.prog Tryd.f5 [] false w args ∧ laidMetH Tryd.prog Rows.fnExactCarvedRow.laid w) ∧ sizedMet enc Tryd.prog Tryd.f5 (OpenSpec.ofChange Rows.fnExactCarvedSpec) false w args) (Rows.fnExactCarvedSpec.post enc Tryd.prog Tryd.f5 false true false false) := by
  refine returnsInHanded_of_change_and (C := Tryd.checked) (X := fun w _ => laidMetH Tryd.prog Rows.fnExactCarvedRow.laid w) (fun _ _ _ hh h => h.of_heap hh) own started (by kernel_rfl) Tryd.func5
    (ChangeSpec.witness_shaped (enc := enc) (C := Tryd.checked) (os := os) (X := fun w _ => laidMetH Tryd.prog Rows.fnExactCarvedRow.laid w) false (World.doorLaid Tryd.prog 400 os) #[.agg #[.slice none 0 0, .slice none 0 0]] 8 rfl (World.shaped_of_RefB (by kernel_rfl) (by kernel_rfl)) (by kernel_rfl) (by kernel_rfl) (by kernel_rfl) (door_met os _)) ?_
  intro W base args ds gs before hval0 hW hcnd _ hL _
  have hval : ∀ (j : Nat) t v, Tryd.f5.params[j]? = some t → args[j]? = some v → Value.okWide Tryd.prog W .any base t v := hval0
  have hW' := hW
  obtain ⟨p, q, hA0, hV, rfl, hfz, hnd⟩ := hW
  have hA : DataW.TrodAll enc Tryd.prog W 0 (fun _ => true) true Tryd.f5.params.toList args.toList ds p := hA0
  rw [Tryd.params5] at hA hval
  obtain ⟨v0, vs0, d0, ds0, p0, q0, hargs, rfl, rfl, h0, r0⟩ := trodAll_cons hA
  obtain ⟨rfl, rfl, rfl⟩ := trodAll_nil r0
  obtain rfl : args = #[v0] := by cases args; simp_all
  obtain ⟨gv0, rfl⟩ : ∃ gv0, gs = [gv0] := by
    match gs, vars_len hV with
    | [gv0], _ => exact ⟨gv0, rfl⟩
  have k0 := h0
  have lt0 : ∀ x ∈ p0, x.block < W.heap.size := by obtain ⟨m, hm⟩ := k0; exact DataW.trod_lt m _ _ _ hm
  obtain ⟨v0x, v0y, y0x, y0y, nn0, rfl, _, _, t0x, t0y⟩ := Joins.open_agg2 Tryd.underlying39 (by kernel_rfl) (by kernel_rfl) (hval 0 39 v0 rfl rfl) h0
  obtain ⟨a0x, len0x, cap0x, z0x, rfl, w0x⟩ := isRow_field Tryd.underlying24 Tryd.underlying3 (by kernel_rfl) t0x
  obtain ⟨a0y, len0y, cap0y, z0y, rfl, w0y⟩ := isRow_field Tryd.underlying24 Tryd.underlying3 (by kernel_rfl) t0y
  clear hA0 hval0
  refine (walk a0x len0x cap0x z0x a0y len0y cap0y z0y W w0x w0y hL).mono fun e W' ⟨he, bel⟩ => ?_
  subst he
  exact ⟨_, rfl, _, _, _, [], _, _, hW', trodAll_mk1 (shut_bool Tryd.underlying4 _), (trodAll_cons_mk (Below.trod laidOut (by kernel_rfl) (of_decide_eq_true (by kernel_rfl)) k0 bel lt0) trodAll_mk0), Below.trodVars laidOut bel (by kernel_rfl) hV, bel.frame _, fun h => by cases h⟩

theorem over : Rows.fnExactCarvedRow.holds Tryd.pinned (OpenSpec.ofChange Rows.fnExactCarvedSpec) :=
  OpenClaim.holds_of_wide 5 Tryd.f5 rfl rfl rfl rfl rfl rfl rfl ⟨rfl, rfl, rfl, rfl, rfl⟩ rfl rfl rfl rfl rfl (by kernel_rfl) Tryd.func5 (by kernel_rfl)
    (of_decide_eq_true (by kernel_rfl)) (by unfold Func.isWrapper; first | (rw [if_pos (by decide +kernel)]; kernel_rfl) | (rw [if_neg (by decide +kernel)]; exact ⟨rfl, rfl⟩))
    (fun os started H enc _ => lifted os started H enc)

theorem proved : Rows.FnExactCarvedCardSaid :=
  Claim7.holds_tied_plain_at .later [] [.data] true (true, "a2fd9010d0708ef8b4e8a11358abd7d67028819677dc5a0b173eda0e28814dea") false over (fun _ h => by cases h) (by kernel_rfl) (fun _ h => by cases h) fnExactCarved_row_tie rfl ⟨rfl, rfl⟩ (by kernel_rfl) rfl
    (fun f fn hf hfn => by
      obtain rfl : f = 5 := Option.some.inj ((show Tryd.prog.funcNamed "loop.example/g01538/laws.FnExactCarved" = some 5 by kernel_rfl).symm.trans hf) |>.symm
      obtain rfl : fn = Tryd.f5 := (Option.some.inj (Tryd.func5.symm.trans hfn)).symm
      exact ⟨by kernel_rfl, fun j t ht => by
        rw [Tryd.params5] at ht
        have hm : t ∈ [39] := by simpa using Array.mem_of_getElem? ht
        have hall : ([39].all fun u => !Tryd.prog.wantsStandIn u) = true := by kernel_rfl
        exact (show Tryd.prog.wantsStandIn t = false by simpa using List.all_eq_true.1 hall t hm)⟩)
    (by kernel_rfl)
end Go.Proofs.YthnihgnboelipacDoor.fnExactCarved
