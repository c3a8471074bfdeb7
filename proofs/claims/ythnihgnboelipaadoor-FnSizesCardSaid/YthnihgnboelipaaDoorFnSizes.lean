/- Whatever size is drawn: its class is the smallest one that suffices, what is wasted is the rest, and as many slots as PerPage says fit into a page but not one more (the table of slot sizes reads as the program lays it); so the law returns true. -/
import Derived.Test.YthnihgnboelipaaDoorRows
import Derived.WalkKit
import Derived.ProofKit
import Derived.OpenShut
import Derived.ShutString
import Derived.ChangeOld
import Derived.Below
import Derived.Test.YthnihgnboelipaaDoorFrame
import Derived.Test.YthnihgnboelipaaDoorTie
import Derived.Test.YthnihgnboelipaaDoorCards
import Derived.LaidMore
import Derived.Lay
import Derived.SevenTiedAt
import Derived.Stop.Joined
import Derived.OpenVars
import Derived.Test.YthnihgnboelipaaDoorDrS
import Derived.Test.YthnihgnboelipaaDoorCls2I
namespace Go.Proofs.YthnihgnboelipaaDoor.fnSizes
open Go.Proofs.YthnihgnboelipaaDoor
open Go.ChangeShapes Go.WideShapes Go.ChangeAt Go.RowKit
open Go.ChangeMaps (open_string shut_string)
set_option linter.unusedVariables false

set_option maxRecDepth 100000 in
set_option maxHeartbeats 2000000 in
theorem walk (a0 : Option Addr) (len0 cap0 : Nat) (z0 : List Int) (w : World) (w0 : IsRow .u8 w a0 len0 cap0 z0) (hL : laidMetH Tryd.prog Rows.fnSizesRow.laid w) :
    Calls Tryd.prog 4 #[.slice a0 len0 cap0] w fun e w' => e = .returned (.bool true) ∧ Below w.heap.size w w' := by
  have ht := tab_of_laid hL
  clear hL
  obtain ⟨bs, hr, hu, hm⟩ := RB_of_row w0
  by_cases hb : (1048576 : Int) < len0
  · go_enter Tryd.func4, Tryd.ntmps4
    go_wp2_with fail
    refine (big_any _ _ _ _).mono ?_
    rintro e w' ⟨rfl, rfl⟩
    go_wp2_with fail
    go_ret
    exact ⟨rfl, Below.refl _ _⟩
  have hn : len0 ≤ 1048576 := by omega
  go_enter Tryd.func4, Tryd.ntmps4
  go_wp2_with fail
  refine (big_any _ _ _ _).mono ?_
  rintro e w' ⟨rfl, rfl⟩
  go_wp2_with fail
  refine (DrawClassOf_any _ _ _ bs _ hr hu hn).mono ?_
  rintro e w1 ⟨n, hn0, rfl, b1⟩
  obtain ⟨hn1, hn2⟩ := hn0
  have ht1 := ht.below b1
  have z0 : szOf 0 = 8 := rfl
  have z1 : szOf 1 = 16 := rfl
  have z2 : szOf 2 = 40 := rfl
  have p0 : perOf 0 = 4 := rfl
  have p1 : perOf 1 = 2 := rfl
  have p2 : perOf 2 = 1 := rfl
  have s0 : strOf 0 = 12 := rfl
  have s1 : strOf 1 = 20 := rfl
  have s2 : strOf 2 = 44 := rfl
  by_cases q0 : n < 1
  · have hc := cls0 q0
    have hw : wstOf n = -1 := by rw [wstOf, hc]; rfl
    go_wp2_with (first | (go_at_call 19; refine (iClassOf_any _ _ ht1).mono ?_; rintro e w' ⟨rfl, rfl⟩) | (go_at_call 20; refine (iWaste_any _ _ ht1).mono ?_; rintro e w' ⟨rfl, rfl⟩) | (go_at_call 21; refine (iPerPage_any _ _ ht1).mono ?_; rintro e w' ⟨rfl, rfl⟩) | (go_at_call 22; refine (iSizeOf_any _ _ ht1).mono ?_; rintro e w' ⟨rfl, rfl⟩) | (go_at_call 23; refine (iStrideOf_any _ _ ht1).mono ?_; rintro e w' ⟨rfl, rfl⟩))
    go_ret
    exact ⟨rfl, b1⟩
  by_cases q1 : n ≤ 8
  · have hc := cls1 q0 q1
    have hw : wstOf n = 8 - n := by rw [wstOf, hc]; rfl
    go_wp2_with (first | (go_at_call 19; refine (iClassOf_any _ _ ht1).mono ?_; rintro e w' ⟨rfl, rfl⟩) | (go_at_call 20; refine (iWaste_any _ _ ht1).mono ?_; rintro e w' ⟨rfl, rfl⟩) | (go_at_call 21; refine (iPerPage_any _ _ ht1).mono ?_; rintro e w' ⟨rfl, rfl⟩) | (go_at_call 22; refine (iSizeOf_any _ _ ht1).mono ?_; rintro e w' ⟨rfl, rfl⟩) | (go_at_call 23; refine (iStrideOf_any _ _ ht1).mono ?_; rintro e w' ⟨rfl, rfl⟩))
    go_ret
    exact ⟨rfl, b1⟩
  by_cases q2 : n ≤ 16
  · have hc := cls2 q0 q1 q2
    have hw : wstOf n = 16 - n := by rw [wstOf, hc]; rfl
    go_wp2_with (first | (go_at_call 19; refine (iClassOf_any _ _ ht1).mono ?_; rintro e w' ⟨rfl, rfl⟩) | (go_at_call 20; refine (iWaste_any _ _ ht1).mono ?_; rintro e w' ⟨rfl, rfl⟩) | (go_at_call 21; refine (iPerPage_any _ _ ht1).mono ?_; rintro e w' ⟨rfl, rfl⟩) | (go_at_call 22; refine (iSizeOf_any _ _ ht1).mono ?_; rintro e w' ⟨rfl, rfl⟩) | (go_at_call 23; refine (iStrideOf_any _ _ ht1).mono ?_; rintro e w' ⟨rfl, rfl⟩))
    go_ret
    exact ⟨rfl, b1⟩
  by_cases q3 : n ≤ 40
  · have hc := cls3 q0 q1 q2 q3
    have hw : wstOf n = 40 - n := by rw [wstOf, hc]; rfl
    go_wp2_with (first | (go_at_call 19; refine (iClassOf_any _ _ ht1).mono ?_; rintro e w' ⟨rfl, rfl⟩) | (go_at_call 20; refine (iWaste_any _ _ ht1).mono ?_; rintro e w' ⟨rfl, rfl⟩) | (go_at_call 21; refine (iPerPage_any _ _ ht1).mono ?_; rintro e w' ⟨rfl, rfl⟩) | (go_at_call 22; refine (iSizeOf_any _ _ ht1).mono ?_; rintro e w' ⟨rfl, rfl⟩) | (go_at_call 23; refine (iStrideOf_any _ _ ht1).mono ?_; rintro e w' ⟨rfl, rfl⟩))
    go_ret
    exact ⟨rfl, b1⟩
  · have hc := cls4 q0 q1 q2 q3
    have hw : wstOf n = -1 := by rw [wstOf, hc]; rfl
    go_wp2_with (first | (go_at_call 19; refine (iClassOf_any _ _ ht1).mono ?_; rintro e w' ⟨rfl, rfl⟩) | (go_at_call 20; refine (iWaste_any _ _ ht1).mono ?_; rintro e w' ⟨rfl, rfl⟩) | (go_at_call 21; refine (iPerPage_any _ _ ht1).mono ?_; rintro e w' ⟨rfl, rfl⟩) | (go_at_call 22; refine (iSizeOf_any _ _ ht1).mono ?_; rintro e w' ⟨rfl, rfl⟩) | (go_at_call 23; refine (iStrideOf_any _ _ ht1).mono ?_; rintro e w' ⟨rfl, rfl⟩))
    go_ret
    exact ⟨rfl, b1⟩

theorem door_met (os : Os) (args : Array Value) : laidMetH Tryd.prog Rows.fnSizesRow.laid ((World.doorLaid Tryd.prog 400 os).forCall (fun _ _ => 0) ⟨#[], args, []⟩).memory :=
  laidMetH_of_parts3 (fuel := 8) (laidMet_of_run' 8 (by kernel_rfl) (by kernel_rfl)) (by kernel_rfl) (by kernel_rfl)

set_option maxRecDepth 100000 in
theorem lifted (os : Os) (started : os.Started) (H : Type) (enc : TypeId × Value → H) :
    ReturnsInHanded {} Tryd.checked os 4 .any (fun w args => (Rows.fnSizesSpec.pre enc Tryd.prog Tryd.f4 [] false w args ∧ laidMetH Tryd.prog Rows.fnSizesRow.laid w) ∧ sizedMet enc Tryd.prog Tryd.f4 (OpenSpec.ofChange Rows.fnSizesSpec) false w args) (Rows.fnSizesSpec.post enc Tryd.prog Tryd.f4 false true false false) := by
  refine returnsInHanded_of_change_and (C := Tryd.checked) (X := fun w _ => laidMetH Tryd.prog Rows.fnSizesRow.laid w) (fun _ _ _ hh h => h.of_heap hh) own started (by kernel_rfl) Tryd.func4
    (ChangeSpec.witness_shaped (enc := enc) (C := Tryd.checked) (os := os) (X := fun w _ => laidMetH Tryd.prog Rows.fnSizesRow.laid w) false (World.doorLaid Tryd.prog 400 os) #[.slice none 0 0] 8 rfl (World.shaped_of_RefB (by kernel_rfl) (by kernel_rfl)) (by kernel_rfl) (by kernel_rfl) (by kernel_rfl) (door_met os _)) ?_
  intro W base args ds gs before hval0 hW hcnd _ hL _
  have hval : ∀ (j : Nat) t v, Tryd.f4.params[j]? = some t → args[j]? = some v → Value.okWide Tryd.prog W .any base t v := hval0
  have hW' := hW
  obtain ⟨p, q, hA0, hV, rfl, hfz, hnd⟩ := hW
  have hA : DataW.TrodAll enc Tryd.prog W 0 (fun _ => true) true Tryd.f4.params.toList args.toList ds p := hA0
  rw [Tryd.params4] at hA hval
  obtain ⟨v0, vs0, d0, ds0, p0, q0, hargs, rfl, rfl, h0, r0⟩ := trodAll_cons hA
  obtain ⟨rfl, rfl, rfl⟩ := trodAll_nil r0
  obtain rfl : args = #[v0] := by cases args; simp_all
  obtain ⟨gv0, rfl⟩ : ∃ gv0, gs = [gv0] := by
    match gs, vars_len hV with
    | [gv0], _ => exact ⟨gv0, rfl⟩
  obtain ⟨a0, len0, cap0, rfl⟩ := okWide_slice Tryd.underlying22 (hval 0 22 v0 rfl rfl)
  have k0 := h0
  have lt0 : ∀ x ∈ p0, x.block < W.heap.size := by obtain ⟨m, hm⟩ := k0; exact DataW.trod_lt m _ _ _ hm
  obtain ⟨z0, w0⟩ : ∃ zs, IsRow .u8 W a0 len0 cap0 zs := isRow_of Tryd.underlying22 Tryd.underlying5 (by kernel_rfl) h0
  clear hA0 hval0
  refine (walk a0 len0 cap0 z0 W w0 hL).mono fun e W' ⟨he, bel⟩ => ?_
  subst he
  exact ⟨_, rfl, _, _, _, [], _, _, hW', trodAll_mk1 (shut_bool Tryd.underlying4 _), (trodAll_cons_mk (Below.trod laidOut (by kernel_rfl) (of_decide_eq_true (by kernel_rfl)) k0 bel lt0) trodAll_mk0), Below.trodVars laidOut bel (by kernel_rfl) hV, bel.frame _, fun h => by cases h⟩

theorem over : Rows.fnSizesRow.holds Tryd.pinned (OpenSpec.ofChange Rows.fnSizesSpec) :=
  OpenClaim.holds_of_wide 4 Tryd.f4 rfl rfl rfl rfl rfl rfl rfl ⟨rfl, rfl, rfl, rfl, rfl⟩ rfl rfl rfl rfl rfl (by kernel_rfl) Tryd.func4 (by kernel_rfl)
    (of_decide_eq_true (by kernel_rfl)) (by unfold Func.isWrapper; first | (rw [if_pos (by decide +kernel)]; kernel_rfl) | (rw [if_neg (by decide +kernel)]; exact ⟨rfl, rfl⟩))
    (fun os started H enc _ => lifted os started H enc)

theorem proved : Rows.FnSizesCardSaid :=
  Claim7.holds_tied_plain_at .later [] [.data] true (true, "51a09f1d781d3059993e05a9e5225890f90e0021c0a8527e9efaceee0730bb0a") true over (fun _ h => by cases h) (by kernel_rfl) (fun _ h => by cases h) fnSizes_row_tie rfl ⟨rfl, rfl⟩ (by kernel_rfl) rfl
    (fun f fn hf hfn => by
      obtain rfl : f = 4 := Option.some.inj ((show Tryd.prog.funcNamed "loop.example/g01538/laws.FnSizes" = some 4 by kernel_rfl).symm.trans hf) |>.symm
      obtain rfl : fn = Tryd.f4 := (Option.some.inj (Tryd.func4.symm.trans hfn)).symm
      exact ⟨by kernel_rfl, fun j t ht => by
        rw [Tryd.params4] at ht
        have hm : t ∈ [22] := by simpa using Array.mem_of_getElem? ht
        have hall : ([22].all fun u => !Tryd.prog.wantsStandIn u) = true := by kernel_rfl
        exact (show Tryd.prog.wantsStandIn t = false by simpa using List.all_eq_true.1 hall t hm)⟩)
    (by kernel_rfl)
end Go.Proofs.YthnihgnboelipaaDoor.fnSizes
