/- For every heap of at most 1048576 numbers and every other argument the two GenIn give the same answer and leave the heap as it was, so the law returns true (the table of slot sizes reads as the program lays it); of a larger one it returns true at once. -/
import Derived.Test.YthnihgnboelipadDoorRows
import Derived.WalkKit
import Derived.ProofKit
import Derived.OpenShut
import Derived.ShutString
import Derived.ChangeOld
import Derived.Below
import Derived.Lib.SmallJoins
import Derived.ChangeArms
import Derived.Test.YthnihgnboelipadDoorFrame
import Derived.Test.YthnihgnboelipadDoorTie
import Derived.Test.YthnihgnboelipadDoorCards
import Derived.LaidMore
import Derived.Lay
import Derived.SevenTiedAt
import Derived.Stop.Joined
import Derived.OpenVars
import Derived.Test.YthnihgnboelipadDoorHp
import Derived.Test.YthnihgnboelipadDoorGin
namespace Go.Proofs.YthnihgnboelipadDoor.fnExactGenIn
open Go.Proofs.YthnihgnboelipadDoor
open Go.ChangeShapes Go.WideShapes Go.ChangeAt Go.RowKit
open Go.ChangeMaps (open_string shut_string)
set_option linter.unusedVariables false

set_option maxRecDepth 100000 in
set_option maxHeartbeats 2000000 in
theorem walk (a0x : Option Addr) (len0x cap0x : Nat) (z0x : List Int) (a0y : Option Addr) (len0y cap0y : Nat) (z0y : List Int) (a1 : Int) (w : World) (w0x : IsRow .i64 w a0x len0x cap0x z0x) (w0y : IsRow .i64 w a0y len0y cap0y z0y) (w1 : (Lit.int .i64 a1).wf = true) (hL : laidMetH Tryd.prog Rows.fnExactGenInRow.laid w) :
    Calls Tryd.prog 3 #[.agg #[.slice a0x len0x cap0x, .slice a0y len0y cap0y], .int .i64 a1] w fun e w' => e = .returned (.bool true) ∧ Below w.heap.size w w' := by
  have ht := tab_of_laid hL
  clear hL
  obtain ⟨hr, hm⟩ := RI_of_row w0x
  obtain ⟨hr', hm'⟩ := RI_of_row w0y
  have l0 : len0x ≤ 9223372036854775807 := by unfold maxLen at hm; omega
  have l1 : len0y ≤ 9223372036854775807 := by unfold maxLen at hm'; omega
  by_cases hb : 1048576 < len0x + len0y
  · go_enter Tryd.func3, Tryd.ntmps3
    go_wp2_with fail
    refine (szHeap_big _ _ _ _ _ _ _ l0 l1 hb).mono ?_
    rintro e w1 ⟨rfl, b1⟩
    go_wp2_with fail
    go_ret
    exact ⟨rfl, ((Below.refl _ _).alloc (Nat.le_refl _) _).trans (b1.mono (by simp))⟩
  have hn : len0x ≤ 1048576 := by omega
  have hn' : len0y ≤ 1048576 := by omega
  have t0 : Below w.heap.size w (w.alloc (.cells #[.slice a0x len0x cap0x, .slice a0y len0y cap0y] 24)) := (Below.refl _ _).alloc (Nat.le_refl _) _
  go_enter Tryd.func3, Tryd.ntmps3
  go_wp2_with fail
  refine (szHeap_small _ _ _ _ _ _ _ (by omega)).mono ?_
  rintro e w1 ⟨l, hl, rfl, b1⟩
  have t1 := t0.trans (b1.mono (by simp))
  have s1 : w.heap.size < w1.heap.size := by have := b1.size; simp at this; omega
  have hB0 : w1.cell? ⟨w.heap.size, 0, none⟩ = some (.slice a0x len0x cap0x) := by rw [b1.cell (p := ⟨w.heap.size, 0, none⟩) (by simp)]; simp [go_sem]
  have hB1 : w1.cell? ⟨w.heap.size, 1, none⟩ = some (.slice a0y len0y cap0y) := by rw [b1.cell (p := ⟨w.heap.size, 1, none⟩) (by simp)]; simp [go_sem]
  go_wp2_with fail
  refine (toHeap_any _ _ _ _ _ _ _ _ _ (hr.below t1) (hr'.below t1) hn hn').mono ?_
  rintro e w2 ⟨A1, c1, A2, c2, rfl, o2, b2⟩
  have t2 := t1.trans (b2.mono t1.size)
  go_wp2_with fail
  refine (sGenIn_any _ _ _ _ _ _ _ _ _ _ o2.1.reads o2.2.1.reads hn hn').mono ?_
  rintro e w3 ⟨rfl, b3⟩
  have b3' : Below w1.heap.size w1 w3 := b2.trans (b3.mono b2.size)
  have t3 := t1.trans (b3'.mono t1.size)
  have iB0 : w3.cell? ⟨w.heap.size, 0, none⟩ = some (.slice a0x len0x cap0x) := (b3'.cell (p := ⟨w.heap.size, 0, none⟩) s1).trans hB0
  have iB1 : w3.cell? ⟨w.heap.size, 1, none⟩ = some (.slice a0y len0y cap0y) := (b3'.cell (p := ⟨w.heap.size, 1, none⟩) s1).trans hB1
  clear hB0 hB1
  have s3 : w.heap.size < w3.heap.size := Nat.lt_of_lt_of_le s1 b3'.size
  go_wp2_with fail
  refine (toHeap_any _ _ _ _ _ _ _ _ _ (hr.below t3) (hr'.below t3) hn hn').mono ?_
  rintro e w4 ⟨A3, c3, A4, c4, rfl, o4, b4⟩
  have t4 := t3.trans (b4.mono t3.size)
  have s4 : w.heap.size < w4.heap.size := Nat.lt_of_lt_of_le s3 b4.size
  have iB0' : w4.cell? ⟨w.heap.size, 0, none⟩ = some (.slice a0x len0x cap0x) := (b4.cell (p := ⟨w.heap.size, 0, none⟩) s3).trans iB0
  have iB1' : w4.cell? ⟨w.heap.size, 1, none⟩ = some (.slice a0y len0y cap0y) := (b4.cell (p := ⟨w.heap.size, 1, none⟩) s3).trans iB1
  clear iB0 iB1
  go_wp2_with fail
  have t5 : Below w.heap.size w (w4.alloc (.cells #[.slice A3 len0x c3, .slice A4 len0y c4] 27)) := t4.alloc t4.size _
  have b5 : Below w4.heap.size w4 (w4.alloc (.cells #[.slice A3 len0x c3, .slice A4 len0y c4] 27)) := (Below.refl _ _).alloc (Nat.le_refl _) _
  refine (iGenIn_any _ _ _ _ _ _ _ _ _ _ (o4.below b5).1.reads (o4.below b5).2.1.reads hn hn' (ht.below t5) o4.1.capLe o4.1.capMax).mono ?_
  rintro e w6 ⟨rfl, b6⟩
  have b6' : Below w4.heap.size w4 w6 := b5.trans (b6.mono b5.size)
  have t6 := t4.trans (b6'.mono t4.size)
  have s6 : w4.heap.size < w6.heap.size := by have := b6.size; simp at this; omega
  have jB0 : w6.cell? ⟨w.heap.size, 0, none⟩ = some (.slice a0x len0x cap0x) := (b6'.cell (p := ⟨w.heap.size, 0, none⟩) s4).trans iB0'
  have jB1 : w6.cell? ⟨w.heap.size, 1, none⟩ = some (.slice a0y len0y cap0y) := (b6'.cell (p := ⟨w.heap.size, 1, none⟩) s4).trans iB1'
  have jX0 : w6.cell? ⟨w4.heap.size, 0, none⟩ = some (.slice A3 len0x c3) := by rw [b6.cell (p := ⟨w4.heap.size, 0, none⟩) (by simp)]; simp [go_sem]
  have jX1 : w6.cell? ⟨w4.heap.size, 1, none⟩ = some (.slice A4 len0y c4) := by rw [b6.cell (p := ⟨w4.heap.size, 1, none⟩) (by simp)]; simp [go_sem]
  clear iB0' iB1'
  have o6 := o4.below b6'
  have s60 : w.heap.size < w6.heap.size := Nat.lt_trans s4 s6
  go_wp2_with fail
  have HT := Lib.hid (fun W (hb : Below w.heap.size w W) => toHeap_any a0x a0y len0x cap0x len0y cap0y _ _ W (hr.below hb) (hr'.below hb) hn hn')
  go_region_with (first | (go_at_call 8; refine (HT.out _ (by first | exact t6.drew | exact t6)).mono ?_; rintro e w7 ⟨A7, c7, A8, c8, rfl, o7, b7⟩; replace b7 : Below w6.heap.size w6 w7 := below_undrew b7; have kX0 := (b7.cell (p := ⟨w4.heap.size, 0, none⟩) s6).trans jX0; have kX1 := (b7.cell (p := ⟨w4.heap.size, 1, none⟩) s6).trans jX1) | (go_at_call 10; refine (eqHeap_same _ _ _ _ _ _ _ _ _ _ _ _ _ (o6.below b7).1.reads (o6.below b7).2.1.reads o7.1.reads o7.2.1.reads hn hn').mono ?_; rintro e w8 ⟨rfl, b8⟩))
  all_goals
    go_wp2_with fail
    go_ret
    have t7 := t6.trans (b7.mono t6.size)
    exact ⟨rfl, t7.trans (b8.mono t7.size)⟩

theorem door_met (os : Os) (args : Array Value) : laidMetH Tryd.prog Rows.fnExactGenInRow.laid ((World.doorLaid Tryd.prog 400 os).forCall (fun _ _ => 0) ⟨#[], args, []⟩).memory :=
  laidMetH_of_parts3 (fuel := 8) (laidMet_of_run' 8 (by kernel_rfl) (by kernel_rfl)) (by kernel_rfl) (by kernel_rfl)

set_option maxRecDepth 100000 in
theorem lifted (os : Os) (started : os.Started) (H : Type) (enc : TypeId × Value → H) :
    ReturnsInHanded {} Tryd.checked os 3 .any (fun w args => (Rows.fnExactGenInSpec.pre enc Tryd.prog Tryd.f3 [] false w args ∧ laidMetH Tryd.prog Rows.fnExactGenInRow.laid w) ∧ sizedMet enc Tryd.prog Tryd.f3 (OpenSpec.ofChange Rows.fnExactGenInSpec) false w args) (Rows.fnExactGenInSpec.post enc Tryd.prog Tryd.f3 false true false false) := by
  refine returnsInHanded_of_change_and (C := Tryd.checked) (X := fun w _ => laidMetH Tryd.prog Rows.fnExactGenInRow.laid w) (fun _ _ _ hh h => h.of_heap hh) own started (by kernel_rfl) Tryd.func3
    (ChangeSpec.witness_shaped (enc := enc) (C := Tryd.checked) (os := os) (X := fun w _ => laidMetH Tryd.prog Rows.fnExactGenInRow.laid w) false (World.doorLaid Tryd.prog 400 os) #[.agg #[.slice none 0 0, .slice none 0 0], .int .i64 0] 8 rfl (World.shaped_of_RefB (by kernel_rfl) (by kernel_rfl)) (by kernel_rfl) (by kernel_rfl) (by kernel_rfl) (door_met os _)) ?_
  intro W base args ds gs before hval0 hW hcnd _ hL _
  have hval : ∀ (j : Nat) t v, Tryd.f3.params[j]? = some t → args[j]? = some v → Value.okWide Tryd.prog W .any base t v := hval0
  have hW' := hW
  obtain ⟨p, q, hA0, hV, rfl, hfz, hnd⟩ := hW
  have hA : DataW.TrodAll enc Tryd.prog W 0 (fun _ => true) true Tryd.f3.params.toList args.toList ds p := hA0
  rw [Tryd.params3] at hA hval
  obtain ⟨v0, vs0, d0, ds0, p0, q0, hargs, rfl, rfl, h0, r0⟩ := trodAll_cons hA
  obtain ⟨v1, vs1, d1, ds1, p1, q1, rfl, rfl, rfl, h1, r1⟩ := trodAll_cons r0
  obtain ⟨rfl, rfl, rfl⟩ := trodAll_nil r1
  obtain rfl : args = #[v0, v1] := by cases args; simp_all
  obtain ⟨gv0, rfl⟩ : ∃ gv0, gs = [gv0] := by
    match gs, vars_len hV with
    | [gv0], _ => exact ⟨gv0, rfl⟩
  have k0 := h0
  have lt0 : ∀ x ∈ p0, x.block < W.heap.size := by obtain ⟨m, hm⟩ := k0; exact DataW.trod_lt m _ _ _ hm
  obtain ⟨v0x, v0y, y0x, y0y, nn0, rfl, _, _, t0x, t0y⟩ := Joins.open_agg2 Tryd.underlying24 (by kernel_rfl) (by kernel_rfl) (hval 0 24 v0 rfl rfl) h0
  obtain ⟨a0x, len0x, cap0x, z0x, rfl, w0x⟩ := isRow_field Tryd.underlying22 Tryd.underlying3 (by kernel_rfl) t0x
  obtain ⟨a0y, len0y, cap0y, z0y, rfl, w0y⟩ := isRow_field Tryd.underlying22 Tryd.underlying3 (by kernel_rfl) t0y
  obtain ⟨a1, rfl, rfl, rfl, w1⟩ := open_int Tryd.underlying3 (hval 1 3 v1 rfl rfl) h1
  clear hA0 hval0
  refine (walk a0x len0x cap0x z0x a0y len0y cap0y z0y a1 W w0x w0y w1 hL).mono fun e W' ⟨he, bel⟩ => ?_
  subst he
  exact ⟨_, rfl, _, _, _, [], _, _, hW', trodAll_mk1 (shut_bool Tryd.underlying4 _), (trodAll_cons_mk (Below.trod laidOut (by kernel_rfl) (of_decide_eq_true (by kernel_rfl)) k0 bel lt0) (trodAll_cons_mk (shut_int Tryd.underlying3 w1) trodAll_mk0)), Below.trodVars laidOut bel (by kernel_rfl) hV, bel.frame _, fun h => by cases h⟩

theorem over : Rows.fnExactGenInRow.holds Tryd.pinned (OpenSpec.ofChange Rows.fnExactGenInSpec) :=
  OpenClaim.holds_of_wide 3 Tryd.f3 rfl rfl rfl rfl rfl rfl rfl ⟨rfl, rfl, rfl, rfl, rfl⟩ rfl rfl rfl rfl rfl (by kernel_rfl) Tryd.func3 (by kernel_rfl)
    (of_decide_eq_true (by kernel_rfl)) (by unfold Func.isWrapper; first | (rw [if_pos (by decide +kernel)]; kernel_rfl) | (rw [if_neg (by decide +kernel)]; exact ⟨rfl, rfl⟩))
    (fun os started H enc _ => lifted os started H enc)

theorem proved : Rows.FnExactGenInCardSaid :=
  Claim7.holds_tied_plain_at .later [] [.data] true (true, "9619ff76c9bf363f1a702420e441f78a3becea693bfa72e0de15a174c8e7602d") false over (fun _ h => by cases h) (by kernel_rfl) (fun _ h => by cases h) fnExactGenIn_row_tie rfl ⟨rfl, rfl⟩ (by kernel_rfl) rfl
    (fun f fn hf hfn => by
      obtain rfl : f = 3 := Option.some.inj ((show Tryd.prog.funcNamed "loop.example/g01538/laws.FnExactGenIn" = some 3 by kernel_rfl).symm.trans hf) |>.symm
      obtain rfl : fn = Tryd.f3 := (Option.some.inj (Tryd.func3.symm.trans hfn)).symm
      exact ⟨by kernel_rfl, fun j t ht => by
        rw [Tryd.params3] at ht
        have hm : t ∈ [24, 3] := by simpa using Array.mem_of_getElem? ht
        have hall : ([24, 3].all fun u => !Tryd.prog.wantsStandIn u) = true := by kernel_rfl
        exact (show Tryd.prog.wantsStandIn t = false by simpa using List.all_eq_true.1 hall t hm)⟩)
    (by kernel_rfl)
end Go.Proofs.YthnihgnboelipadDoor.fnExactGenIn
