import Derived.Test.YtpmhkpmkmbkjbaaGreatDoorZB
import Derived.Test.YtpmhkpmkmbkjbaaGreatDoorZA
import Derived.Test.YtpmhkpmkmbkjbaaGreatDoorZT
import Derived.Test.YtpmhkpmkmbkjbaaGreatDoorZH
import Derived.Test.YtpmhkpmkmbkjbaaGreatDoorZD
import Derived.Test.YtpmhkpmkmbkjbaaGreatDoorZO
import Derived.Test.YtpmhkpmkmbkjbaaGreatDoorPC
import Derived.Test.YtpmhkpmkmbkjbaaGreatDoorZE
import Derived.Test.YtpmhkpmkmbkjbaaGreatDoorZP
section
/- The class of a slot, of any heap. -/
namespace Go.Proofs.YtpmhkpmkmbkjbaaGreatDoor
open Go Go.Tr
set_option maxRecDepth 100000
set_option maxHeartbeats 4000000
set_option linter.unusedVariables false
set_option linter.unusedSimpArgs false
noncomputable def clA (b c : List Int) (s : Int) : Int := @ite _ (shP b c) (Classical.propDecidable _) (clIn c s) (-1)
theorem clA_yes {b c : List Int} (h : shP b c) (s : Int) : clA b c s = clIn c s := by unfold clA; exact if_pos h
theorem clA_no {b c : List Int} (h : ¬ shP b c) (s : Int) : clA b c s = -1 := by unfold clA; exact if_neg h
theorem clA_some {b c : List Int} {s : Int} (h : clA b c s ≠ -1) : shP b c ∧ clIn c s ≠ -1 ∧ clA b c s = clIn c s := by
  by_cases hs : shP b c
  · rw [clA_yes hs] at h; exact ⟨hs, h, clA_yes hs s⟩
  · exact absurd (clA_no hs s) h
theorem ClassAtI_run (b c : List Int) (s : Int) (hb : b.length ≤ 1048576) (hc : c.length ≤ 1048576) : RunH Tryz.prog hT 158 [aHp b c, ti s] [] [oi (clA b c s)] [] := by
  have c1 := shapeOk_run b c hb hc
  by_cases hs : shP b c
  · rw [decide_eq_true hs] at c1
    have c2 := classIn_run b c s hs.2.1
    rw [clA_yes hs]
    refine RunH.of_vc gOk Tryz.func158 rfl rfl (Nat.le_of_ble_eq_true rfl) (by repeat' (first | exact trivial | exact ⟨_, rfl, Nat.le_refl _⟩ | exact Nat.le_of_ble_eq_true rfl | refine And.intro ?_ ?_)) (Nat.le_of_ble_eq_true rfl) rfl (fun F hE hA => ?_)
    repeat' (first | exact trivial | refine BS.d (fun h => ?_) (fun h => ?_) | refine BS.e (fun h => ?_) (fun h => ?_) | refine BS.ne (fun h => ?_) (fun h => ?_) | refine BS.n ?_ | refine BS.s (fun h => ?_) (fun h => ?_) | refine And.intro ?_ ?_ | (refine Need.mk ?_; first | with_reducible rfl | (show @Eq TC _ _; rfl) | omega | (simp only [adN_zero]; omega)) | exact OutS.whole rfl rfl | (refine OpK.call c1 rfl rfl rfl rfl hE ?_ rfl rfl ?_; focus ((repeat' (first | exact PsA.lit _ | exact PsA.ref rfl rfl | constructor)); all_goals (fail "ps"))) | (refine OpK.callH c2 hA rfl rfl rfl rfl hE ?_ rfl rfl ?_; focus ((repeat' (first | exact PsA.lit _ | exact PsA.ref rfl rfl | constructor)); all_goals (fail "ps"))) | refine ListO.go gOk hE ?_)
    all_goals first | exact Need.mk rfl | trace_state
  · rw [decide_eq_false hs] at c1
    rw [clA_no hs]
    refine RunH.of_vc gOk Tryz.func158 rfl rfl (Nat.le_of_ble_eq_true rfl) (by repeat' (first | exact trivial | exact ⟨_, rfl, Nat.le_refl _⟩ | exact Nat.le_of_ble_eq_true rfl | refine And.intro ?_ ?_)) (Nat.le_of_ble_eq_true rfl) rfl (fun F hE hA => ?_)
    repeat' (first | exact trivial | refine BS.d (fun h => ?_) (fun h => ?_) | refine BS.e (fun h => ?_) (fun h => ?_) | refine BS.ne (fun h => ?_) (fun h => ?_) | refine BS.n ?_ | refine BS.s (fun h => ?_) (fun h => ?_) | refine And.intro ?_ ?_ | (refine Need.mk ?_; first | with_reducible rfl | (show @Eq TC _ _; rfl) | omega | (simp only [adN_zero]; omega)) | exact OutS.whole rfl rfl | (refine OpK.call c1 rfl rfl rfl rfl hE ?_ rfl rfl ?_; focus ((repeat' (first | exact PsA.lit _ | exact PsA.ref rfl rfl | constructor)); all_goals (fail "ps"))) | refine ListO.go gOk hE ?_)
    all_goals first | exact Need.mk rfl | trace_state
end Go.Proofs.YtpmhkpmkmbkjbaaGreatDoor
end

section
/- A slot is given back to a list. -/
namespace Go.Tr
open Go Go.RowKit
section
variable {P : Program} {F : Fm} {N : Nat} {G : Gt} {o : Oper} {σ : TS} {k : TS → Prop}
/-- As ListO.open_, of a row that is named. -/
theorem ListO.openK (hG : GOk P G) (hE : F.nE ≤ 1000000) {ops : Array Oper} {l : List Oper} (κ key : Nat) {t m i r e kw e' k' dd : Nat} {kd : TK} {z : List ZC} {x : Operand} {full : Bool} {X Y : Type} {enc : X → Nat → TC} {dec : List Value → Option X} {d : X} {xs : List X} {enc' : Y → Nat → TC} {dec' : List Value → Option Y} {d' : Y} {ys : List Y}
    (hop : o.op = .load t x) (hg : o.guard = none) (hdst : o.dst = some dd) (hd : Nat.blt dd N = true) (hx : evS σ x = .ptr κ i r) (ht : G.T t = some ⟨m, kd, z⟩) (hk : scK kd = true) (hR : lkR σ.r κ = some (.ty .own full e kw X enc dec d xs)) (hi : i < xs.length) (hr : r < kw)
    (hc : enc (xs.getD i d) r = .sl e' k' Y enc' dec' d' ys) (hkey : lkR σ.r key = none) (hkk : (Nat.blt key 1000000 || Nat.ble 2000000 key) = true) (hvw : noVw κ σ.r = true)
    (h : fS ⟨(dd, .a (.ref key 0 ys.length)) :: σ.t, (κ, .tyo full e kw X enc dec d xs i r key ys.length) :: (key, .ty .own true e' k' Y enc' dec' d' ys) :: erl σ.r κ⟩ fun σ => vcL P F N G ops l σ k) : ListO P F N ops (o :: l) σ k :=
  ListO.open_ hG hE key hop hg hdst hd hx ht hk hR hi hr hc hkey hkk hvw h
/-- A struct of one slice is laid down where the slice that was there has been given away. -/
theorem OpK.stNS (hG : GOk P G) {t m : Nat} {kd : TK} {z : List ZC} {x y : Operand} {κ i key key' n : Nat} {full : Bool} {e kw : Nat} {X : Type} {enc : X → Nat → TC} {dec : List Value → Option X} {d : X} {xs : List X} (x' : X) {l : List At} {τ' : TS} (hop : o.op = .store t x y) (hg : o.guard = none) (hd : o.dst = none)
    (hx : evS σ x = .ptr κ i 0) (ht : G.T t = some ⟨m, kd, z⟩) (hy : (stV (evS σ y)).atoms = some l) (hR : lkR σ.r κ = some (.raw ((TRoot.tyo full e kw X enc dec d xs i 0 key n).er.kill key'))) (hl : Nat.beq l.length kw = true) (hm : Nat.beq l.length m = true) (hi : i < xs.length)
    (hs : StN κ enc x' 0 l ⟨σ.t, erl σ.r κ⟩ τ') (h : fS ⟨τ'.t, (κ, .ty .own full e kw X enc dec d (xs.set i x')) :: erl τ'.r κ⟩ k) : OpK P F N o σ k := by
  simp only [beq_dec, decide_eq_true_eq] at hl hm
  rw [fS_eq] at h
  refine ⟨fun ops Q rest kk => ?_⟩
  have hxe : σ.er.ev x = .ptr κ i 0 := by rw [evS_eq, hx]; rfl
  have hye : (σ.er.ev y).atoms = some l := by rw [evS_eq]; exact hy
  refine AL.store hG.T hop hg hd hxe ht hye hm (TS.rt_some hR) rfl hi (by show 0 + m ≤ kw; omega) (liveL_true _ _ _ _) ?_
  have hw := wrL_same i (l.map At.cl) ((TRoot.tyo full e kw X enc dec d xs i 0 key n).er.kill key') 0
  have hle := StN.ok (e := e) (kw := kw) (full := full) (dec := dec) (d := d) hi hs (((TRoot.tyo full e kw X enc dec d xs i 0 key n).er.kill key').wrL i 0 (l.map At.cl)) (by omega) ⟨hw.1, hw.2.1, hw.2.2.1, hw.2.2.2.1, hw.2.2.2.2, fun i' r' hii => by rw [get_wrL_ne hii]; exact tyo_kill_get i' r' hii, fun r' hr' => by omega, fun j x hj => by
    have hjl : j < l.length := (List.getElem?_eq_some_iff.1 hj).1
    rw [get_wrL_eq _ _ _ ⟨by omega, by simp; omega⟩, List.getElem?_map, show 0 + j - 0 = j by omega, hj]; rfl⟩ ⟨σ.t, (κ, .raw (((TRoot.tyo full e kw X enc dec d xs i 0 key n).er.kill key').wrL i 0 (l.map At.cl))) :: erl (erl σ.r κ) κ⟩ rfl rfl
  refine AL.le ?_ (kk _ h)
  refine St.le.trans ?_ hle
  refine le_lk (fun t' => .inr ?_) (fun κ' => ?_)
  · show _ = (look (σ.er.t.map fun p => (p.1, p.2.map (dimA κ) none)) t').getD .any
    rw [St.tv_map σ.er _ rfl, TS.tv_er, dim_st]
  · show OSim (if κ' = κ then some _ else σ.er.rt κ') _
    rw [lkR_cons, lkR_erl, lkR_erl]
    by_cases e1 : κ' = κ
    · rw [if_pos e1, if_pos e1]; exact RSim.rfl _
    · rw [if_neg e1, if_neg e1, if_neg e1, if_neg e1, TS.rt_er]; exact OSim.rfl _
end
end Go.Tr
namespace Go.Proofs.YtpmhkpmkmbkjbaaGreatDoor
open Go Go.Tr
set_option maxRecDepth 100000
set_option maxHeartbeats 4000000
set_option linter.unusedVariables false
set_option linter.unusedSimpArgs false
theorem workerOkG_run (x : Int) : RunT Tryz.prog 91 [ti x] [] [ob (decide (0 ≤ x ∧ x ≤ 2))] [] := by
  refine RunT.of_vc gOk Tryz.func91 rfl rfl (Nat.le_of_ble_eq_true rfl) (by repeat' (first | exact trivial | exact ⟨_, rfl, Nat.le_refl _⟩ | exact Nat.le_of_ble_eq_true rfl | refine And.intro ?_ ?_)) (Nat.le_of_ble_eq_true rfl) rfl (fun F hE => ?_)
  repeat' (first | exact trivial | refine BS.d (fun h => ?_) (fun h => ?_) | refine BS.e (fun h => ?_) (fun h => ?_) | refine BS.ne (fun h => ?_) (fun h => ?_) | refine BS.n ?_ | refine BS.s (fun h => ?_) (fun h => ?_) | refine And.intro ?_ ?_ | (refine Need.mk ?_; first | with_reducible rfl | (show @Eq TC _ _; rfl) | omega | (simp only [adN_zero]; omega)) | exact OutS.whole rfl rfl | refine ListO.go gOk hE ?_)
  all_goals (refine Need.mk ?_; first | rfl | (symm; apply decide_eq_true; omega) | (symm; apply decide_eq_false; omega) | (apply decide_eq_decide.2; omega) | (simp only [beq_iff_eq, Bool.beq_eq_decide_eq] at *; apply decide_eq_decide.2; omega) | (simp; omega))
theorem classOkG_run (x : Int) : RunT Tryz.prog 169 [ti x] [] [ob (decide (0 ≤ x ∧ x ≤ 2))] [] := by
  refine RunT.of_vc gOk Tryz.func169 rfl rfl (Nat.le_of_ble_eq_true rfl) (by repeat' (first | exact trivial | exact ⟨_, rfl, Nat.le_refl _⟩ | exact Nat.le_of_ble_eq_true rfl | refine And.intro ?_ ?_)) (Nat.le_of_ble_eq_true rfl) rfl (fun F hE => ?_)
  repeat' (first | exact trivial | refine BS.d (fun h => ?_) (fun h => ?_) | refine BS.e (fun h => ?_) (fun h => ?_) | refine BS.ne (fun h => ?_) (fun h => ?_) | refine BS.n ?_ | refine BS.s (fun h => ?_) (fun h => ?_) | refine And.intro ?_ ?_ | (refine Need.mk ?_; first | with_reducible rfl | (show @Eq TC _ _; rfl) | omega | (simp only [adN_zero]; omega)) | exact OutS.whole rfl rfl | refine ListO.go gOk hE ?_)
  all_goals (refine Need.mk ?_; first | rfl | (symm; apply decide_eq_true; omega) | (symm; apply decide_eq_false; omega) | (apply decide_eq_decide.2; omega) | (simp only [beq_iff_eq, Bool.beq_eq_decide_eq] at *; apply decide_eq_decide.2; omega) | (simp; omega))
def owX (w c : Int) : Int := if (0 ≤ w ∧ w ≤ 2) ∧ 0 ≤ c ∧ c ≤ 2 then w * 3 + c else -1
theorem OwnAtG_run (w c : Int) : RunT Tryz.prog 161 [ti w, ti c] [] [oi (owX w c)] [] := by
  have c1 := workerOkG_run w
  have c2 := classOkG_run c
  unfold owX
  by_cases h1 : 0 ≤ w ∧ w ≤ 2
  all_goals by_cases h2 : 0 ≤ c ∧ c ≤ 2
  all_goals (simp only [h1, h2, and_true, decide_true, decide_false, if_true, if_false, and_self, true_and, false_and, and_false] at c1 c2 ⊢)
  all_goals (refine RunT.of_vc gOk Tryz.func161 rfl rfl (Nat.le_of_ble_eq_true rfl) (by repeat' (first | exact trivial | exact ⟨_, rfl, Nat.le_refl _⟩ | exact Nat.le_of_ble_eq_true rfl | refine And.intro ?_ ?_)) (Nat.le_of_ble_eq_true rfl) rfl (fun F hE => ?_))
  all_goals (repeat' (first | exact trivial | refine BS.d (fun h => ?_) (fun h => ?_) | refine BS.e (fun h => ?_) (fun h => ?_) | refine BS.ne (fun h => ?_) (fun h => ?_) | refine BS.n ?_ | refine BS.s (fun h => ?_) (fun h => ?_) | refine And.intro ?_ ?_ | (refine Need.mk ?_; first | with_reducible rfl | (show @Eq TC _ _; rfl) | omega | (simp only [adN_zero]; omega)) | exact OutS.whole rfl rfl | (refine OpK.call c1 rfl rfl rfl rfl hE ?_ rfl rfl ?_; focus ((repeat' (first | exact PsA.lit _ | exact PsA.ref rfl rfl | constructor)); all_goals (fail "ps"))) | (refine OpK.call c2 rfl rfl rfl rfl hE ?_ rfl rfl ?_; focus ((repeat' (first | exact PsA.lit _ | exact PsA.ref rfl rfl | constructor)); all_goals (fail "ps"))) | refine ListO.go gOk hE ?_))
  all_goals first | exact Need.mk rfl | (refine Need.mk ?_; omega) | (exfalso; omega) | (exfalso; simp_all; done) | trace_state
theorem lsLen {g o : List (List Int)} (h : lsOk g o = true) : g.length = 3 ∧ o.length = 9 := by
  unfold lsOk at h
  split at h
  · rename_i h2; exact ⟨h2.1, h2.2.1⟩
  · cases h
noncomputable def gvB (g o : List (List Int)) (w c s : Int) : Bool := decide (0 ≤ owX w c) && (decide (0 ≤ s ∧ s < 24) && (lsOk g o && !decide (s ∈ (g ++ o).flatten)))
noncomputable def gvG (g o : List (List Int)) (w c s : Int) : List (List Int) := if gvB g o w c s = true ∧ 2 ≤ (o.getD (owX w c).toNat []).length then g.set c.toNat (g.getD c.toNat [] ++ [s]) else g
noncomputable def gvO (g o : List (List Int)) (w c s : Int) : List (List Int) := if gvB g o w c s = true ∧ ¬ 2 ≤ (o.getD (owX w c).toNat []).length then o.set (owX w c).toNat (o.getD (owX w c).toNat [] ++ [s]) else o
theorem owX_ok {w c : Int} (h : 0 ≤ owX w c) : (0 ≤ w ∧ w ≤ 2) ∧ (0 ≤ c ∧ c ≤ 2) ∧ owX w c = w * 3 + c ∧ owX w c ≤ 8 := by
  unfold owX at h ⊢
  split
  · rename_i h1; exact ⟨h1.1, h1.2, rfl, by omega⟩
  · rename_i h1; rw [if_neg h1] at h; omega
theorem gv_no {g o : List (List Int)} {w c s : Int} (h : gvB g o w c s = false) : gvG g o w c s = g ∧ gvO g o w c s = o := by
  unfold gvG gvO; rw [h]; exact ⟨rfl, rfl⟩
theorem GiveI_run (e : Nat) (g o : List (List Int)) (w c s : Int) (hg : g.length ≤ 1048576) (ho : o.length ≤ 1048576) (hg' : ∀ i, (g.getD i []).length ≤ 1048576) (ho' : ∀ i, (o.getD i []).length ≤ 1048576) (hgo : g.length + o.length ≤ 1048576) (hgx : ∀ i, ((g ++ o).getD i []).length ≤ 1048576) :
    RunT Tryz.prog 95 [.agg [.c (tSL e g), .c (tSL e o)], ti w, ti c, ti s] [] [.agg [tSL 136 (gvG g o w c s), tSL 136 (gvO g o w c s)], ob (gvB g o w c s)] [] := by
  have k2 := copySLists_run e g hg hg'
  have k3 := copySLists_run e o ho ho'
  have c1 : RunT Tryz.prog 116 [.agg [.c (tSL e g), .c (tSL e o)]] [] [.agg [tSL 136 g, tSL 136 o]] [] := by
    refine RunT.of_vc gOk Tryz.func116 rfl rfl (Nat.le_of_ble_eq_true rfl) (by repeat' (first | exact trivial | exact ⟨_, rfl, Nat.le_refl _⟩ | exact Nat.le_of_ble_eq_true rfl | refine And.intro ?_ ?_)) (Nat.le_of_ble_eq_true rfl) rfl (fun F hE => ?_)
    repeat' (first | exact trivial | refine BS.d (fun h => ?_) (fun h => ?_) | refine BS.e (fun h => ?_) (fun h => ?_) | refine BS.ne (fun h => ?_) (fun h => ?_) | refine BS.n ?_ | refine BS.s (fun h => ?_) (fun h => ?_) | refine And.intro ?_ ?_ | (refine Need.mk ?_; first | with_reducible rfl | (show @Eq TC _ _; rfl) | omega | (simp only [adN_zero]; omega)) | exact OutS.whole rfl rfl | (refine OpK.call k2 rfl rfl rfl rfl hE ?_ rfl rfl ?_; focus ((repeat' (first | exact PsA.lit _ | exact PsA.ref rfl rfl | constructor)); all_goals (fail "ps"))) | (refine OpK.call k3 rfl rfl rfl rfl hE ?_ rfl rfl ?_; focus ((repeat' (first | exact PsA.lit _ | exact PsA.ref rfl rfl | constructor)); all_goals (fail "ps"))) | (refine CodeK.draw gOk hE rfl (fun _ _ h => h) (.take 0 (.take 3 (.alt 1 (.alt 2 (.alt 4 (.alt 5 (.alt 6 (.alt 7 .done .stop) .stop) .stop) .stop) (.alt 4 (.alt 2 (.alt 5 (.alt 6 (.alt 7 .done .stop) .stop) .stop) .stop) .stop)) (.alt 4 (.alt 1 (.alt 2 (.alt 5 (.alt 6 (.alt 7 .done .stop) .stop) .stop) .stop) .stop) .stop)))) ?_ ?_; focus (decide +kernel)) | refine ListO.go gOk hE ?_)
    all_goals trace_state
  have c2 := OwnAtG_run w c
  have c3 := slotOkB_run s
  have c4 := ListsOkI_run e e g o hgo hgx
  have c5 := OnListI_run e e g o s hgo hgx
  clear k2 k3
  cases hb : gvB g o w c s with
  | false =>
    obtain ⟨e1, e2⟩ := gv_no hb
    rw [e1, e2]
    unfold gvB at hb
    generalize owX w c = at_ at *
    generalize decide (s ∈ (g ++ o).flatten) = q5 at *
    generalize lsOk g o = q4 at *
    generalize hq3 : decide (0 ≤ s ∧ s < 24) = q3 at *
    cases q3 <;> cases q4 <;> cases q5
    all_goals (refine RunT.of_vc gOk Tryz.func95 rfl rfl (Nat.le_of_ble_eq_true rfl) (by repeat' (first | exact trivial | exact ⟨_, rfl, Nat.le_refl _⟩ | exact Nat.le_of_ble_eq_true rfl | refine And.intro ?_ ?_)) (Nat.le_of_ble_eq_true rfl) rfl (fun F hE => ?_))
    all_goals (repeat' (first | exact trivial | refine BS.d (fun h => ?_) (fun h => ?_) | refine BS.e (fun h => ?_) (fun h => ?_) | refine BS.ne (fun h => ?_) (fun h => ?_) | refine BS.n ?_ | refine BS.s (fun h => ?_) (fun h => ?_) | refine And.intro ?_ ?_ | (refine Need.mk ?_; first | with_reducible rfl | (show @Eq TC _ _; rfl) | omega | (simp only [adN_zero]; omega)) | exact OutS.whole rfl rfl | (refine OpK.call c1 rfl rfl rfl rfl hE ?_ rfl rfl ?_; focus ((repeat' (first | exact PsA.lit _ | exact PsA.ref rfl rfl | constructor)); all_goals (fail "ps"))) | (refine OpK.call c2 rfl rfl rfl rfl hE ?_ rfl rfl ?_; focus ((repeat' (first | exact PsA.lit _ | exact PsA.ref rfl rfl | constructor)); all_goals (fail "ps"))) | (refine OpK.call c3 rfl rfl rfl rfl hE ?_ rfl rfl ?_; focus ((repeat' (first | exact PsA.lit _ | exact PsA.ref rfl rfl | constructor)); all_goals (fail "ps"))) | (refine OpK.call c4 rfl rfl rfl rfl hE ?_ rfl rfl ?_; focus ((repeat' (first | exact PsA.lit _ | exact PsA.ref rfl rfl | constructor)); all_goals (fail "ps"))) | (refine OpK.call c5 rfl rfl rfl rfl hE ?_ rfl rfl ?_; focus ((repeat' (first | exact PsA.lit _ | exact PsA.ref rfl rfl | constructor)); all_goals (fail "ps"))) | refine ListO.go gOk hE ?_))
    all_goals first | exact Need.mk rfl | exact OutS.whole rfl rfl | (exfalso; omega) | (exfalso; simp_all; done) | (exfalso; simp_all; omega) | trace_state
  | true =>
    have hb0 := hb
    unfold gvB at hb0
    simp only [Bool.and_eq_true, decide_eq_true_eq, Bool.not_eq_true'] at hb0
    obtain ⟨h1, h2, h3, h4⟩ := hb0
    obtain ⟨hw, hc, hat, ha8⟩ := owX_ok h1
    obtain ⟨l1, l2⟩ := lsLen h3
    rw [decide_eq_true h2] at c3
    rw [h3] at c4
    rw [h4] at c5
    unfold gvG gvO
    obtain ⟨m, hm⟩ := Int.eq_ofNat_of_zero_le h1
    obtain ⟨cn, rfl⟩ := Int.eq_ofNat_of_zero_le hc.1
    rw [hm] at c2 hat ha8 ⊢
    simp only [Int.toNat_natCast, hb, true_and]
    have hom := ho' m
    have hgm := hg' cn
    by_cases hf : 2 ≤ (o.getD m []).length
    · rw [if_pos hf, if_neg (fun h => h hf)]
      refine RunT.of_vc gOk Tryz.func95 rfl rfl (Nat.le_of_ble_eq_true rfl) (by repeat' (first | exact trivial | exact ⟨_, rfl, Nat.le_refl _⟩ | exact Nat.le_of_ble_eq_true rfl | refine And.intro ?_ ?_)) (Nat.le_of_ble_eq_true rfl) rfl (fun F hE => ?_)
      repeat' (first | exact trivial | refine BS.d (fun h => ?_) (fun h => ?_) | refine BS.e (fun h => ?_) (fun h => ?_) | refine BS.ne (fun h => ?_) (fun h => ?_) | refine BS.n ?_ | refine BS.s (fun h => ?_) (fun h => ?_) | refine And.intro ?_ ?_ | (refine Need.mk ?_; first | with_reducible rfl | (show @Eq TC _ _; rfl) | omega | (simp only [adN_zero]; omega)) | exact OutS.whole rfl rfl | (refine ListO.openK gOk hE 2001792 5000 rfl rfl rfl rfl rfl rfl rfl rfl (by (try simp only [adN_zero]); omega) (by decide) rfl rfl rfl rfl ?_) | (refine OpK.stNS gOk (g.getD cn [] ++ [s]) rfl rfl rfl rfl rfl rfl rfl rfl rfl (by (try simp only [adN_zero]); omega) (StN.ref rfl rfl rfl rfl rfl StN.nil) ?_) | (refine OpK.call c1 rfl rfl rfl rfl hE ?_ rfl rfl ?_; focus ((repeat' (first | exact PsA.lit _ | exact PsA.ref rfl rfl | constructor)); all_goals (fail "ps"))) | (refine OpK.call c2 rfl rfl rfl rfl hE ?_ rfl rfl ?_; focus ((repeat' (first | exact PsA.lit _ | exact PsA.ref rfl rfl | constructor)); all_goals (fail "ps"))) | (refine OpK.call c3 rfl rfl rfl rfl hE ?_ rfl rfl ?_; focus ((repeat' (first | exact PsA.lit _ | exact PsA.ref rfl rfl | constructor)); all_goals (fail "ps"))) | (refine OpK.call c4 rfl rfl rfl rfl hE ?_ rfl rfl ?_; focus ((repeat' (first | exact PsA.lit _ | exact PsA.ref rfl rfl | constructor)); all_goals (fail "ps"))) | (refine OpK.call c5 rfl rfl rfl rfl hE ?_ rfl rfl ?_; focus ((repeat' (first | exact PsA.lit _ | exact PsA.ref rfl rfl | constructor)); all_goals (fail "ps"))) | refine ListO.go gOk hE ?_)
      all_goals (try simp only [adN_zero] at *)
      all_goals first
        | (exfalso; omega)
        | (refine Need.mk ?_; first | omega | (refine ⟨?_, ?_⟩ <;> (try unfold maxLen) <;> omega))
        | exact Need.mk rfl
        | exact OutS.whole rfl rfl
        | exact OutS.whole (by simp) rfl
        | trace_state
    · rw [if_neg hf, if_pos hf]
      refine RunT.of_vc gOk Tryz.func95 rfl rfl (Nat.le_of_ble_eq_true rfl) (by repeat' (first | exact trivial | exact ⟨_, rfl, Nat.le_refl _⟩ | exact Nat.le_of_ble_eq_true rfl | refine And.intro ?_ ?_)) (Nat.le_of_ble_eq_true rfl) rfl (fun F hE => ?_)
      repeat' (first | exact trivial | refine BS.d (fun h => ?_) (fun h => ?_) | refine BS.e (fun h => ?_) (fun h => ?_) | refine BS.ne (fun h => ?_) (fun h => ?_) | refine BS.n ?_ | refine BS.s (fun h => ?_) (fun h => ?_) | refine And.intro ?_ ?_ | (refine Need.mk ?_; first | with_reducible rfl | (show @Eq TC _ _; rfl) | omega | (simp only [adN_zero]; omega)) | exact OutS.whole rfl rfl | (refine ListO.openK gOk hE 2001793 5000 rfl rfl rfl rfl rfl rfl rfl rfl (by (try simp only [adN_zero]); omega) (by decide) rfl rfl rfl rfl ?_) | (refine OpK.ldO gOk rfl rfl rfl rfl rfl rfl rfl (by (try simp only [adN_zero]); omega) (by decide) ?_) | (refine OpK.stNS gOk (o.getD m [] ++ [s]) rfl rfl rfl rfl rfl rfl rfl rfl rfl (by (try simp only [adN_zero]); omega) (StN.ref rfl rfl rfl rfl rfl StN.nil) ?_) | (refine OpK.call c1 rfl rfl rfl rfl hE ?_ rfl rfl ?_; focus ((repeat' (first | exact PsA.lit _ | exact PsA.ref rfl rfl | constructor)); all_goals (fail "ps"))) | (refine OpK.call c2 rfl rfl rfl rfl hE ?_ rfl rfl ?_; focus ((repeat' (first | exact PsA.lit _ | exact PsA.ref rfl rfl | constructor)); all_goals (fail "ps"))) | (refine OpK.call c3 rfl rfl rfl rfl hE ?_ rfl rfl ?_; focus ((repeat' (first | exact PsA.lit _ | exact PsA.ref rfl rfl | constructor)); all_goals (fail "ps"))) | (refine OpK.call c4 rfl rfl rfl rfl hE ?_ rfl rfl ?_; focus ((repeat' (first | exact PsA.lit _ | exact PsA.ref rfl rfl | constructor)); all_goals (fail "ps"))) | (refine OpK.call c5 rfl rfl rfl rfl hE ?_ rfl rfl ?_; focus ((repeat' (first | exact PsA.lit _ | exact PsA.ref rfl rfl | constructor)); all_goals (fail "ps"))) | refine ListO.go gOk hE ?_)
      all_goals (try simp only [adN_zero] at *)
      all_goals first
        | (exfalso; omega)
        | (refine Need.mk ?_; first | omega | (refine ⟨?_, ?_⟩ <;> (try unfold maxLen) <;> omega))
        | exact Need.mk rfl
        | exact OutS.whole rfl rfl
        | exact OutS.whole (by simp) rfl
        | trace_state
end Go.Proofs.YtpmhkpmkmbkjbaaGreatDoor
end

section
/- A slot is given back to a list of one's own. -/
namespace Go.Proofs.YtpmhkpmkmbkjbaaGreatDoor
open Go Go.Tr
set_option maxRecDepth 100000
set_option maxHeartbeats 4000000
set_option linter.unusedVariables false
set_option linter.unusedSimpArgs false
theorem l8Give_run (e e' : Nat) (g o : List (List Int)) (w c : Nat) (s : Int) (hw : w ≤ 2) (hc : c ≤ 2) (hg : g.length = 3) (ho : o.length = 9) (hgc : (g.getD c []).length ≤ 1048576) (how : (o.getD (w * 3 + c) []).length ≤ 1048576) :
    RunT Tryz.prog 157 [.agg [.m (tSL e g), .m (tSL e' o)], ti w, ti c, ti s] [] [.agg [tSL e (if 2 ≤ (o.getD (w * 3 + c) []).length then g.set c (g.getD c [] ++ [s]) else g), tSL e' (if 2 ≤ (o.getD (w * 3 + c) []).length then o else o.set (w * 3 + c) (o.getD (w * 3 + c) [] ++ [s]))]] [] := by
  have c1 := OwnAtH_run w c
  rw [if_pos (by omega), show (w : Int) * 3 + c = ((w * 3 + c : Nat) : Int) by omega] at c1
  have hm8 : w * 3 + c < 9 := by omega
  generalize w * 3 + c = m at *
  by_cases hf : 2 ≤ (o.getD m []).length
  · rw [if_pos hf, if_pos hf]
    refine RunT.of_vc gOk Tryz.func157 rfl rfl (Nat.le_of_ble_eq_true rfl) (by repeat' (first | exact trivial | exact ⟨_, rfl, Nat.le_refl _⟩ | exact Nat.le_of_ble_eq_true rfl | refine And.intro ?_ ?_)) (Nat.le_of_ble_eq_true rfl) rfl (fun F hE => ?_)
    repeat' (first | exact trivial | refine BS.d (fun h => ?_) (fun h => ?_) | refine BS.e (fun h => ?_) (fun h => ?_) | refine BS.ne (fun h => ?_) (fun h => ?_) | refine BS.n ?_ | refine BS.s (fun h => ?_) (fun h => ?_) | refine And.intro ?_ ?_ | (refine Need.mk ?_; first | with_reducible rfl | (show @Eq TC _ _; rfl) | omega | (simp only [adN_zero]; omega)) | exact OutS.whole rfl rfl | (refine CodeK.open_ gOk hE 5000 1000000 (adN 0 (c : Int)) 0 rfl ?_ ?_ rfl rfl rfl rfl ?_) | (refine OpK.ldO gOk rfl rfl rfl rfl rfl rfl rfl (by (try simp only [adN_zero]); omega) (by decide) ?_) | (refine OpK.stNS gOk (g.getD c [] ++ [s]) rfl rfl rfl rfl rfl rfl rfl rfl rfl (by (try simp only [adN_zero]); omega) (StN.ref rfl rfl rfl rfl rfl StN.nil) ?_) | (refine OpK.call c1 rfl rfl rfl rfl hE ?_ rfl rfl ?_; focus ((repeat' (first | exact PsA.lit _ | exact PsA.ref rfl rfl | constructor)); all_goals (fail "ps"))) | (refine CodeK.draw gOk hE rfl (fun _ _ h => h) (.take 0 (.take 2 (.take 3 (.take 5 (.take 9 (.alt 1 (.alt 4 (.take 6 (.take 7 (.alt 8 (.alt 10 (.alt 11 (.take 12 (.take 13 (.alt 14 .done .stop))) .stop) .stop) (.alt 10 (.alt 8 (.alt 11 (.take 12 (.take 13 (.alt 14 .done .stop))) .stop) .stop) .stop)))) (.alt 10 (.alt 4 (.take 6 (.take 7 (.alt 8 (.alt 11 (.take 12 (.take 13 (.alt 14 .done .stop))) .stop) .stop))) .stop) .stop)) (.alt 4 (.take 6 (.take 7 (.alt 1 (.alt 8 (.alt 10 (.alt 11 (.take 12 (.take 13 (.alt 14 .done .stop))) .stop) .stop) (.alt 10 (.alt 8 (.alt 11 (.take 12 (.take 13 (.alt 14 .done .stop))) .stop) .stop) .stop)) (.alt 8 (.alt 1 (.alt 10 (.alt 11 (.take 12 (.take 13 (.alt 14 .done .stop))) .stop) .stop) (.alt 10 (.alt 1 (.alt 11 (.take 12 (.take 13 (.alt 14 .done .stop))) .stop) (.alt 11 (.alt 1 (.take 12 (.take 13 (.alt 14 .done .stop))) .stop) .stop)) .stop)) (.alt 10 (.alt 1 (.alt 8 (.alt 11 (.take 12 (.take 13 (.alt 14 .done .stop))) .stop) .stop) (.alt 8 (.alt 1 (.alt 11 (.take 12 (.take 13 (.alt 14 .done .stop))) .stop) (.alt 11 (.alt 1 (.take 12 (.take 13 (.alt 14 .done .stop))) .stop) .stop)) .stop)) .stop))))) (.alt 10 (.alt 1 (.alt 4 (.take 6 (.take 7 (.alt 8 (.alt 11 (.take 12 (.take 13 (.alt 14 .done .stop))) .stop) .stop))) .stop) (.alt 4 (.take 6 (.take 7 (.alt 1 (.alt 8 (.alt 11 (.take 12 (.take 13 (.alt 14 .done .stop))) .stop) .stop) (.alt 8 (.alt 1 (.alt 11 (.take 12 (.take 13 (.alt 14 .done .stop))) .stop) (.alt 11 (.alt 1 (.take 12 (.take 13 (.alt 14 .done .stop))) .stop) .stop)) .stop)))) .stop)) .stop)))))))) ?_ ?_; focus (decide +kernel)) | refine ListO.go gOk hE ?_)
    all_goals (try simp only [adN_zero] at *)
    all_goals first
      | exact Nat.zero_lt_one
      | omega
      | (exfalso; omega)
      | (refine Need.mk ?_; first | omega | (refine ⟨?_, ?_⟩ <;> (try unfold maxLen) <;> omega))
      | exact Need.mk rfl
      | exact OutS.whole rfl rfl
      | exact OutS.whole (by simp) rfl
      | trace_state
  · rw [if_neg hf, if_neg hf]
    refine RunT.of_vc gOk Tryz.func157 rfl rfl (Nat.le_of_ble_eq_true rfl) (by repeat' (first | exact trivial | exact ⟨_, rfl, Nat.le_refl _⟩ | exact Nat.le_of_ble_eq_true rfl | refine And.intro ?_ ?_)) (Nat.le_of_ble_eq_true rfl) rfl (fun F hE => ?_)
    repeat' (first | exact trivial | refine BS.d (fun h => ?_) (fun h => ?_) | refine BS.e (fun h => ?_) (fun h => ?_) | refine BS.ne (fun h => ?_) (fun h => ?_) | refine BS.n ?_ | refine BS.s (fun h => ?_) (fun h => ?_) | refine And.intro ?_ ?_ | (refine Need.mk ?_; first | with_reducible rfl | (show @Eq TC _ _; rfl) | omega | (simp only [adN_zero]; omega)) | exact OutS.whole rfl rfl | (refine ListO.openK gOk hE 1000001 5000 rfl rfl rfl rfl rfl rfl rfl rfl (by (try simp only [adN_zero]); omega) (by decide) rfl rfl rfl rfl ?_) | (refine OpK.ldO gOk rfl rfl rfl rfl rfl rfl rfl (by (try simp only [adN_zero]); omega) (by decide) ?_) | (refine OpK.stNS gOk (o.getD m [] ++ [s]) rfl rfl rfl rfl rfl rfl rfl rfl rfl (by (try simp only [adN_zero]); omega) (StN.ref rfl rfl rfl rfl rfl StN.nil) ?_) | (refine OpK.call c1 rfl rfl rfl rfl hE ?_ rfl rfl ?_; focus ((repeat' (first | exact PsA.lit _ | exact PsA.ref rfl rfl | constructor)); all_goals (fail "ps"))) | (refine CodeK.draw gOk hE rfl (fun _ _ h => h) (.take 0 (.take 2 (.take 3 (.take 5 (.take 9 (.alt 1 (.alt 4 (.take 6 (.take 7 (.alt 8 (.alt 10 (.alt 11 (.take 12 (.take 13 (.alt 14 .done .stop))) .stop) .stop) (.alt 10 (.alt 8 (.alt 11 (.take 12 (.take 13 (.alt 14 .done .stop))) .stop) .stop) .stop)))) (.alt 10 (.alt 4 (.take 6 (.take 7 (.alt 8 (.alt 11 (.take 12 (.take 13 (.alt 14 .done .stop))) .stop) .stop))) .stop) .stop)) (.alt 4 (.take 6 (.take 7 (.alt 1 (.alt 8 (.alt 10 (.alt 11 (.take 12 (.take 13 (.alt 14 .done .stop))) .stop) .stop) (.alt 10 (.alt 8 (.alt 11 (.take 12 (.take 13 (.alt 14 .done .stop))) .stop) .stop) .stop)) (.alt 8 (.alt 1 (.alt 10 (.alt 11 (.take 12 (.take 13 (.alt 14 .done .stop))) .stop) .stop) (.alt 10 (.alt 1 (.alt 11 (.take 12 (.take 13 (.alt 14 .done .stop))) .stop) (.alt 11 (.alt 1 (.take 12 (.take 13 (.alt 14 .done .stop))) .stop) .stop)) .stop)) (.alt 10 (.alt 1 (.alt 8 (.alt 11 (.take 12 (.take 13 (.alt 14 .done .stop))) .stop) .stop) (.alt 8 (.alt 1 (.alt 11 (.take 12 (.take 13 (.alt 14 .done .stop))) .stop) (.alt 11 (.alt 1 (.take 12 (.take 13 (.alt 14 .done .stop))) .stop) .stop)) .stop)) .stop))))) (.alt 10 (.alt 1 (.alt 4 (.take 6 (.take 7 (.alt 8 (.alt 11 (.take 12 (.take 13 (.alt 14 .done .stop))) .stop) .stop))) .stop) (.alt 4 (.take 6 (.take 7 (.alt 1 (.alt 8 (.alt 11 (.take 12 (.take 13 (.alt 14 .done .stop))) .stop) .stop) (.alt 8 (.alt 1 (.alt 11 (.take 12 (.take 13 (.alt 14 .done .stop))) .stop) (.alt 11 (.alt 1 (.take 12 (.take 13 (.alt 14 .done .stop))) .stop) .stop)) .stop)))) .stop)) .stop)))))))) ?_ ?_; focus (decide +kernel)) | refine ListO.go gOk hE ?_)
    all_goals (try simp only [adN_zero] at *)
    all_goals first
      | exact Nat.zero_lt_one
      | omega
      | (exfalso; omega)
      | (refine Need.mk ?_; first | omega | (refine ⟨?_, ?_⟩ <;> (try unfold maxLen) <;> omega))
      | exact Need.mk rfl
      | exact OutS.whole rfl rfl
      | exact OutS.whole (by simp) rfl
      | trace_state
end Go.Proofs.YtpmhkpmkmbkjbaaGreatDoor
end

section
/- The generation of a slot that is in use is set; FreeNow, impl. -/
namespace Go.Proofs.YtpmhkpmkmbkjbaaGreatDoor
open Go Go.Tr
set_option maxRecDepth 100000
set_option maxHeartbeats 4000000
set_option linter.unusedVariables false
set_option linter.unusedSimpArgs false
theorem genMaySetV_run (x : Int) : RunT Tryz.prog 159 [ti x] [] [ob (decide (1 ≤ x ∧ x ≤ 7))] [] := by
  refine RunT.of_vc gOk Tryz.func159 rfl rfl (Nat.le_of_ble_eq_true rfl) (by repeat' (first | exact trivial | exact ⟨_, rfl, Nat.le_refl _⟩ | exact Nat.le_of_ble_eq_true rfl | refine And.intro ?_ ?_)) (Nat.le_of_ble_eq_true rfl) rfl (fun F hE => ?_)
  repeat' (first | exact trivial | refine BS.d (fun h => ?_) (fun h => ?_) | refine BS.e (fun h => ?_) (fun h => ?_) | refine BS.ne (fun h => ?_) (fun h => ?_) | refine BS.n ?_ | refine BS.s (fun h => ?_) (fun h => ?_) | refine And.intro ?_ ?_ | (refine Need.mk ?_; first | with_reducible rfl | (show @Eq TC _ _; rfl) | omega | (simp only [adN_zero]; omega)) | exact OutS.whole rfl rfl | refine ListO.go gOk hE ?_)
  all_goals (refine Need.mk ?_; first | rfl | (symm; apply decide_eq_true; omega) | (symm; apply decide_eq_false; omega) | (apply decide_eq_decide.2; omega) | (simp only [beq_iff_eq, Bool.beq_eq_decide_eq] at *; apply decide_eq_decide.2; omega) | (simp; omega))
theorem SetGenV_run (b c : List Int) (s gen : Int) (hsh : shP b c) (hcc : clIn c s ≠ -1) (hg : 1 ≤ gen ∧ gen ≤ 7) : RunH Tryz.prog hT 94 [.agg [.c (tI b), .c (tI c)], ti s, ti gen] [] [.agg [tI (putL b (genA s (clIn c s)).toNat (fxd 4 gen) 4), tI c], ob true] [] := by
  have hbl := hsh.1
  have hcl := hsh.2.1
  have c1 := copyHeap_run b c (by omega) (by omega)
  have c2 := ClassAtI_run b c s (by omega) (by omega)
  rw [clA_yes hsh] at c2
  have c3 := genMaySetV_run gen
  have hcs := clIn_some hcc
  have hsz : 0 ≤ szC (clIn c s) := by rcases cls4 (clIn c s) with ⟨_, h, _⟩ | ⟨_, h, _⟩ | ⟨_, h, _⟩ | ⟨_, h, _⟩ <;> rw [h] <;> omega
  rw [decide_eq_true hg] at c3
  have c4 := GenAtI_run s (clIn c s)
  obtain ⟨q, hq⟩ := Int.eq_ofNat_of_zero_le hcs.2.2.2.2.2.1
  rw [hq] at c4 hcs ⊢
  rw [Int.toNat_natCast]
  have c5 := putNum_run 3 b q 4 gen (by omega) (by omega) (by omega) (fxOk_four (by omega)) (by omega) (by omega)
  have hpl := putL_len b q (fxd 4 gen) 4
  generalize clIn c s = cl at *
  generalize putL b q (fxd 4 gen) 4 = nb at *
  refine RunH.of_vc gOk Tryz.func94 rfl rfl (Nat.le_of_ble_eq_true rfl) (by repeat' (first | exact trivial | exact ⟨_, rfl, Nat.le_refl _⟩ | exact Nat.le_of_ble_eq_true rfl | refine And.intro ?_ ?_)) (Nat.le_of_ble_eq_true rfl) rfl (fun F hE hA => ?_)
  repeat' (first | exact trivial | refine BS.d (fun h => ?_) (fun h => ?_) | refine BS.e (fun h => ?_) (fun h => ?_) | refine BS.ne (fun h => ?_) (fun h => ?_) | refine BS.n ?_ | refine BS.s (fun h => ?_) (fun h => ?_) | refine And.intro ?_ ?_ | (refine Need.mk ?_; first | with_reducible rfl | (show @Eq TC _ _; rfl) | omega | (simp only [adN_zero]; omega)) | exact OutS.whole rfl rfl | (refine OpK.call c1 rfl rfl rfl rfl hE ?_ rfl rfl ?_; focus ((repeat' (first | exact PsA.lit _ | exact PsA.ref rfl rfl | constructor)); all_goals (fail "ps"))) | (refine OpK.callH c2 hA rfl rfl rfl rfl hE ?_ rfl rfl ?_; focus ((repeat' (first | exact PsA.lit _ | exact PsA.ref rfl rfl | constructor)); all_goals (fail "ps"))) | (refine OpK.call c3 rfl rfl rfl rfl hE ?_ rfl rfl ?_; focus ((repeat' (first | exact PsA.lit _ | exact PsA.ref rfl rfl | constructor)); all_goals (fail "ps"))) | (refine OpK.callH c4 hA rfl rfl rfl rfl hE ?_ rfl rfl ?_; focus ((repeat' (first | exact PsA.lit _ | exact PsA.ref rfl rfl | constructor)); all_goals (fail "ps"))) | (refine CodeK.draw gOk hE rfl (fun _ _ h => h) (.take 1 (.take 3 (.take 4 (.take 6 (.alt 0 (.alt 2 (.alt 5 (.alt 7 (.alt 8 (.take 9 .done) .stop) .stop) .stop) (.alt 5 (.alt 2 (.alt 7 (.alt 8 (.take 9 .done) .stop) .stop) .stop) .stop)) (.alt 2 (.alt 0 (.alt 5 (.alt 7 (.alt 8 (.take 9 .done) .stop) .stop) .stop) (.alt 5 (.alt 0 (.alt 7 (.alt 8 (.take 9 .done) .stop) .stop) (.alt 7 (.alt 0 (.alt 8 (.take 9 .done) .stop) .stop) .stop)) .stop)) (.alt 5 (.alt 0 (.alt 2 (.alt 7 (.alt 8 (.take 9 .done) .stop) .stop) .stop) (.alt 2 (.alt 0 (.alt 7 (.alt 8 (.take 9 .done) .stop) .stop) (.alt 7 (.alt 0 (.alt 8 (.take 9 .done) .stop) .stop) .stop)) .stop)) .stop))))))) ?_ ?_; focus (decide +kernel)) | (refine OpK.callB (bInt 3 2001408 b nb) c5 rfl rfl rfl rfl hE (BtOk.sl rfl hpl) rfl (QsVs.cons (.one (.h rfl rfl rfl)) (.cons (.one (.c (.lit _) rfl)) (.cons (.one (.c (.lit _) rfl)) (.cons (.one (.c (.lit _) rfl)) .nil)))) rfl rfl ?_) | refine ListO.go gOk hE ?_)
  all_goals first | exact Need.mk rfl | exact OutS.whole rfl rfl | exact OutS.whole hpl.symm rfl | (exfalso; omega) | trace_state
theorem gv_yes {g o : List (List Int)} {w c s : Int} (h : gvB g o w c s = true) : gvG g o w c s = (if 2 ≤ (o.getD (owX w c).toNat []).length then g.set c.toNat (g.getD c.toNat [] ++ [s]) else g) ∧ gvO g o w c s = (if 2 ≤ (o.getD (owX w c).toNat []).length then o else o.set (owX w c).toNat (o.getD (owX w c).toNat [] ++ [s])) := by
  unfold gvG gvO
  by_cases h2 : 2 ≤ (o.getD (owX w c).toNat []).length
  · simp only [h, h2, and_self, if_true, not_true, and_false, if_false]
  · simp only [h, h2, and_self, if_true, not_false_eq_true, and_false, if_false]
/-- What a valid handle's slot is like. -/
theorem vl_facts {b c : List Int} {g o : List (List Int)} {x w : Int} (hm : mmP b c g o) (hv : vlB b c g o x = true) (hw : 0 ≤ w ∧ w ≤ 2) : clIn c (hSlot x) ≠ -1 ∧ gnIn b c (hSlot x) = hGen x ∧ (1 ≤ hGen x ∧ hGen x ≤ 6) ∧ gvB g o w (clIn c (hSlot x)) (hSlot x) = true := by
  unfold vlB at hv
  rw [Bool.and_eq_true, Bool.and_eq_true] at hv
  obtain ⟨⟨h1, h2⟩, h3⟩ := hv
  have h2' := of_decide_eq_true h2
  have h3' := of_decide_eq_true h3
  have hcl := stN_cl h2'
  have hcs := clIn_some hcl
  refine ⟨hcl, h3', ?_, ?_⟩
  · have := hOk_iff.1 h1
    unfold hGen; rw [h1]
    show 1 ≤ x / 32 ∧ x / 32 ≤ 6
    omega
  · have hn : ¬ hSlot x ∈ (g ++ o).flatten := by
      intro hh
      unfold stN at h2'
      rw [if_neg hcl, if_pos hh] at h2'
      cases h2'
    unfold gvB
    have ho : 0 ≤ owX w (clIn c (hSlot x)) := by
      unfold owX; rw [if_pos ⟨hw, hcs.2.2.2.1⟩]; omega
    rw [decide_eq_true ho, decide_eq_true hcs.1, hm.2.1, decide_eq_false hn]; rfl
noncomputable def fnC (b c : List Int) (g o : List (List Int)) (w x : Int) : Int := if dcB (mmP b c g o) = true ∧ 0 ≤ w ∧ w ≤ 2 then (if vlB b c g o x = true then 0 else 4) else 1
noncomputable def fnB (b c : List Int) (g o : List (List Int)) (w x : Int) : List Int := if fnC b c g o w x = 0 then putL b (genA (hSlot x) (clIn c (hSlot x))).toNat (fxd 4 (hGen x + 1)) 4 else b
noncomputable def fnG (b c : List Int) (g o : List (List Int)) (w x : Int) : List (List Int) := if fnC b c g o w x = 0 ∧ hGen x + 1 ≤ 6 then gvG g o w (clIn c (hSlot x)) (hSlot x) else g
noncomputable def fnO (b c : List Int) (g o : List (List Int)) (w x : Int) : List (List Int) := if fnC b c g o w x = 0 ∧ hGen x + 1 ≤ 6 then gvO g o w (clIn c (hSlot x)) (hSlot x) else o
theorem FreeNowI_run (e : Nat) (b c : List Int) (g o : List (List Int)) (w x : Int) (h : MmT b c g o) (hx : x ≤ 9223372036854775807) : RunH Tryz.prog hT 37 [aMm e b c g o, ti w, ti x] [] [.agg [tI (fnB b c g o w x), tI c, tSL 136 (fnG b c g o w x), tSL 136 (fnO b c g o w x)], oi (fnC b c g o w x)] [] := by
  have c1 := copyMem_run e b c g o h.ok
  have c2 := h.I e
  have c3 := workerOkG_run w
  unfold fnB fnG fnO fnC
  by_cases hm : mmP b c g o
  · rw [dcB_true hm] at c2 ⊢
    have c4 := validIn_run e b c g o x h hm.1 hx
    by_cases hw : 0 ≤ w ∧ w ≤ 2
    · rw [decide_eq_true hw] at c3
      simp only [hw, and_self, if_true]
      cases hv : vlB b c g o x with
      | true =>
        rw [hv] at c4
        obtain ⟨hcl, hgn, hge, hgv⟩ := vl_facts hm hv hw
        simp only [if_true, true_and]
        have c5 := iHandleSlot_run x hx
        have c6 := iHandleGen_run x hx
        have c7 := SetGenV_run b c (hSlot x) (hGen x + 1) hm.1.1 hcl (by omega)
        have hpl := putL_len b (genA (hSlot x) (clIn c (hSlot x))).toNat (fxd 4 (hGen x + 1)) 4
        have c8 := classIn_run b c (hSlot x) hm.1.1.2.1
        have c9 := GiveI_run e g o w (clIn c (hSlot x)) (hSlot x) h.ok.hg h.ok.ho h.ok.hg' h.ok.ho' h.n h.x
        rw [hgv] at c9
        generalize putL b (genA (hSlot x) (clIn c (hSlot x))).toNat (fxd 4 (hGen x + 1)) 4 = nb at *
        generalize gvG g o w (clIn c (hSlot x)) (hSlot x) = ng at *
        generalize gvO g o w (clIn c (hSlot x)) (hSlot x) = no at *
        generalize clIn c (hSlot x) = cl at *
        generalize hSlot x = sl at *
        generalize hGen x = gn at *
        by_cases h6 : gn + 1 ≤ 6
        · rw [if_pos h6, if_pos h6]
          refine RunH.of_vc gOk Tryz.func37 rfl rfl (Nat.le_of_ble_eq_true rfl) (by repeat' (first | exact trivial | exact ⟨_, rfl, Nat.le_refl _⟩ | exact Nat.le_of_ble_eq_true rfl | refine And.intro ?_ ?_)) (Nat.le_of_ble_eq_true rfl) rfl (fun F hE hA => ?_)
          repeat' (first | exact trivial | refine BS.d (fun h => ?_) (fun h => ?_) | refine BS.e (fun h => ?_) (fun h => ?_) | refine BS.ne (fun h => ?_) (fun h => ?_) | refine BS.n ?_ | refine BS.s (fun h => ?_) (fun h => ?_) | refine And.intro ?_ ?_ | (refine Need.mk ?_; first | with_reducible rfl | (show @Eq TC _ _; rfl) | omega | (simp only [adN_zero]; omega)) | exact OutS.whole rfl rfl | (refine OpK.call c1 rfl rfl rfl rfl hE ?_ rfl rfl ?_; focus ((repeat' (first | exact PsA.lit _ | exact PsA.ref rfl rfl | constructor)); all_goals (fail "ps"))) | (refine OpK.callH c2 hA rfl rfl rfl rfl hE ?_ rfl rfl ?_; focus ((repeat' (first | exact PsA.lit _ | exact PsA.ref rfl rfl | constructor)); all_goals (fail "ps"))) | (refine OpK.call c3 rfl rfl rfl rfl hE ?_ rfl rfl ?_; focus ((repeat' (first | exact PsA.lit _ | exact PsA.ref rfl rfl | constructor)); all_goals (fail "ps"))) | (refine OpK.callH c4 hA rfl rfl rfl rfl hE ?_ rfl rfl ?_; focus ((repeat' (first | exact PsA.lit _ | exact PsA.ref rfl rfl | constructor)); all_goals (fail "ps"))) | (refine OpK.call c5 rfl rfl rfl rfl hE ?_ rfl rfl ?_; focus ((repeat' (first | exact PsA.lit _ | exact PsA.ref rfl rfl | constructor)); all_goals (fail "ps"))) | (refine OpK.call c6 rfl rfl rfl rfl hE ?_ rfl rfl ?_; focus ((repeat' (first | exact PsA.lit _ | exact PsA.ref rfl rfl | constructor)); all_goals (fail "ps"))) | (refine OpK.callH c7 hA rfl rfl rfl rfl hE ?_ rfl rfl ?_; focus ((repeat' (first | exact PsA.lit _ | exact PsA.ref rfl rfl | constructor)); all_goals (fail "ps"))) | (refine OpK.callH c8 hA rfl rfl rfl rfl hE ?_ rfl rfl ?_; focus ((repeat' (first | exact PsA.lit _ | exact PsA.ref rfl rfl | constructor)); all_goals (fail "ps"))) | (refine OpK.call c9 rfl rfl rfl rfl hE ?_ rfl rfl ?_; focus ((repeat' (first | exact PsA.lit _ | exact PsA.ref rfl rfl | constructor)); all_goals (fail "ps"))) | (refine CodeK.draw gOk hE rfl (fun _ _ h => h) (.take 0 (.take 2 (.take 3 (.take 5 (.take 7 (.alt 1 (.alt 4 (.alt 6 (.alt 8 (.take 9 (.take 10 (.take 11 (.take 12 (.alt 13 .done .stop))))) .stop) .stop) .stop) (.alt 4 (.alt 1 (.alt 6 (.alt 8 (.take 9 (.take 10 (.take 11 (.take 12 (.alt 13 .done .stop))))) .stop) .stop) (.alt 6 (.alt 1 (.alt 8 (.take 9 (.take 10 (.take 11 (.take 12 (.alt 13 .done .stop))))) .stop) .stop) .stop)) .stop))))))) ?_ ?_; focus (decide +kernel)) | refine ListO.go gOk hE ?_)
          all_goals first | exact Need.mk rfl | exact OutS.whole rfl rfl | (exfalso; omega) | (refine Need.mk ?_; omega) | trace_state
        · rw [if_neg h6, if_neg h6]
          refine RunH.of_vc gOk Tryz.func37 rfl rfl (Nat.le_of_ble_eq_true rfl) (by repeat' (first | exact trivial | exact ⟨_, rfl, Nat.le_refl _⟩ | exact Nat.le_of_ble_eq_true rfl | refine And.intro ?_ ?_)) (Nat.le_of_ble_eq_true rfl) rfl (fun F hE hA => ?_)
          repeat' (first | exact trivial | refine BS.d (fun h => ?_) (fun h => ?_) | refine BS.e (fun h => ?_) (fun h => ?_) | refine BS.ne (fun h => ?_) (fun h => ?_) | refine BS.n ?_ | refine BS.s (fun h => ?_) (fun h => ?_) | refine And.intro ?_ ?_ | (refine Need.mk ?_; first | with_reducible rfl | (show @Eq TC _ _; rfl) | omega | (simp only [adN_zero]; omega)) | exact OutS.whole rfl rfl | (refine OpK.call c1 rfl rfl rfl rfl hE ?_ rfl rfl ?_; focus ((repeat' (first | exact PsA.lit _ | exact PsA.ref rfl rfl | constructor)); all_goals (fail "ps"))) | (refine OpK.callH c2 hA rfl rfl rfl rfl hE ?_ rfl rfl ?_; focus ((repeat' (first | exact PsA.lit _ | exact PsA.ref rfl rfl | constructor)); all_goals (fail "ps"))) | (refine OpK.call c3 rfl rfl rfl rfl hE ?_ rfl rfl ?_; focus ((repeat' (first | exact PsA.lit _ | exact PsA.ref rfl rfl | constructor)); all_goals (fail "ps"))) | (refine OpK.callH c4 hA rfl rfl rfl rfl hE ?_ rfl rfl ?_; focus ((repeat' (first | exact PsA.lit _ | exact PsA.ref rfl rfl | constructor)); all_goals (fail "ps"))) | (refine OpK.call c5 rfl rfl rfl rfl hE ?_ rfl rfl ?_; focus ((repeat' (first | exact PsA.lit _ | exact PsA.ref rfl rfl | constructor)); all_goals (fail "ps"))) | (refine OpK.call c6 rfl rfl rfl rfl hE ?_ rfl rfl ?_; focus ((repeat' (first | exact PsA.lit _ | exact PsA.ref rfl rfl | constructor)); all_goals (fail "ps"))) | (refine OpK.callH c7 hA rfl rfl rfl rfl hE ?_ rfl rfl ?_; focus ((repeat' (first | exact PsA.lit _ | exact PsA.ref rfl rfl | constructor)); all_goals (fail "ps"))) | (refine OpK.callH c8 hA rfl rfl rfl rfl hE ?_ rfl rfl ?_; focus ((repeat' (first | exact PsA.lit _ | exact PsA.ref rfl rfl | constructor)); all_goals (fail "ps"))) | (refine OpK.call c9 rfl rfl rfl rfl hE ?_ rfl rfl ?_; focus ((repeat' (first | exact PsA.lit _ | exact PsA.ref rfl rfl | constructor)); all_goals (fail "ps"))) | refine ListO.go gOk hE ?_)
          all_goals first | exact Need.mk rfl | exact OutS.whole rfl rfl | (exfalso; omega) | (refine Need.mk ?_; omega) | trace_state
      | false =>
        rw [hv] at c4
        simp only [Bool.false_eq_true, if_false]
        rw [if_neg (by decide), if_neg (fun hh => absurd hh.1 (by decide)), if_neg (fun hh => absurd hh.1 (by decide))]
        refine RunH.of_vc gOk Tryz.func37 rfl rfl (Nat.le_of_ble_eq_true rfl) (by repeat' (first | exact trivial | exact ⟨_, rfl, Nat.le_refl _⟩ | exact Nat.le_of_ble_eq_true rfl | refine And.intro ?_ ?_)) (Nat.le_of_ble_eq_true rfl) rfl (fun F hE hA => ?_)
        repeat' (first | exact trivial | refine BS.d (fun h => ?_) (fun h => ?_) | refine BS.e (fun h => ?_) (fun h => ?_) | refine BS.ne (fun h => ?_) (fun h => ?_) | refine BS.n ?_ | refine BS.s (fun h => ?_) (fun h => ?_) | refine And.intro ?_ ?_ | (refine Need.mk ?_; first | with_reducible rfl | (show @Eq TC _ _; rfl) | omega | (simp only [adN_zero]; omega)) | exact OutS.whole rfl rfl | (refine OpK.call c1 rfl rfl rfl rfl hE ?_ rfl rfl ?_; focus ((repeat' (first | exact PsA.lit _ | exact PsA.ref rfl rfl | constructor)); all_goals (fail "ps"))) | (refine OpK.callH c2 hA rfl rfl rfl rfl hE ?_ rfl rfl ?_; focus ((repeat' (first | exact PsA.lit _ | exact PsA.ref rfl rfl | constructor)); all_goals (fail "ps"))) | (refine OpK.call c3 rfl rfl rfl rfl hE ?_ rfl rfl ?_; focus ((repeat' (first | exact PsA.lit _ | exact PsA.ref rfl rfl | constructor)); all_goals (fail "ps"))) | (refine OpK.callH c4 hA rfl rfl rfl rfl hE ?_ rfl rfl ?_; focus ((repeat' (first | exact PsA.lit _ | exact PsA.ref rfl rfl | constructor)); all_goals (fail "ps"))) | refine ListO.go gOk hE ?_)
        all_goals first | exact Need.mk rfl | exact OutS.whole rfl rfl | (exfalso; omega) | trace_state
    · rw [decide_eq_false hw] at c3
      simp only [hw, and_false, if_false]
      rw [if_neg (by decide), if_neg (fun hh => absurd hh.1 (by decide)), if_neg (fun hh => absurd hh.1 (by decide))]
      refine RunH.of_vc gOk Tryz.func37 rfl rfl (Nat.le_of_ble_eq_true rfl) (by repeat' (first | exact trivial | exact ⟨_, rfl, Nat.le_refl _⟩ | exact Nat.le_of_ble_eq_true rfl | refine And.intro ?_ ?_)) (Nat.le_of_ble_eq_true rfl) rfl (fun F hE hA => ?_)
      repeat' (first | exact trivial | refine BS.d (fun h => ?_) (fun h => ?_) | refine BS.e (fun h => ?_) (fun h => ?_) | refine BS.ne (fun h => ?_) (fun h => ?_) | refine BS.n ?_ | refine BS.s (fun h => ?_) (fun h => ?_) | refine And.intro ?_ ?_ | (refine Need.mk ?_; first | with_reducible rfl | (show @Eq TC _ _; rfl) | omega | (simp only [adN_zero]; omega)) | exact OutS.whole rfl rfl | (refine OpK.call c1 rfl rfl rfl rfl hE ?_ rfl rfl ?_; focus ((repeat' (first | exact PsA.lit _ | exact PsA.ref rfl rfl | constructor)); all_goals (fail "ps"))) | (refine OpK.callH c2 hA rfl rfl rfl rfl hE ?_ rfl rfl ?_; focus ((repeat' (first | exact PsA.lit _ | exact PsA.ref rfl rfl | constructor)); all_goals (fail "ps"))) | (refine OpK.call c3 rfl rfl rfl rfl hE ?_ rfl rfl ?_; focus ((repeat' (first | exact PsA.lit _ | exact PsA.ref rfl rfl | constructor)); all_goals (fail "ps"))) | refine ListO.go gOk hE ?_)
      all_goals first | exact Need.mk rfl | exact OutS.whole rfl rfl | (exfalso; omega) | trace_state
  · rw [dcB_false hm] at c2 ⊢
    simp only [Bool.false_eq_true, false_and, if_false]
    rw [if_neg (by decide), if_neg (fun hh => absurd hh.1 (by decide)), if_neg (fun hh => absurd hh.1 (by decide))]
    refine RunH.of_vc gOk Tryz.func37 rfl rfl (Nat.le_of_ble_eq_true rfl) (by repeat' (first | exact trivial | exact ⟨_, rfl, Nat.le_refl _⟩ | exact Nat.le_of_ble_eq_true rfl | refine And.intro ?_ ?_)) (Nat.le_of_ble_eq_true rfl) rfl (fun F hE hA => ?_)
    repeat' (first | exact trivial | refine BS.d (fun h => ?_) (fun h => ?_) | refine BS.e (fun h => ?_) (fun h => ?_) | refine BS.ne (fun h => ?_) (fun h => ?_) | refine BS.n ?_ | refine BS.s (fun h => ?_) (fun h => ?_) | refine And.intro ?_ ?_ | (refine Need.mk ?_; first | with_reducible rfl | (show @Eq TC _ _; rfl) | omega | (simp only [adN_zero]; omega)) | exact OutS.whole rfl rfl | (refine OpK.call c1 rfl rfl rfl rfl hE ?_ rfl rfl ?_; focus ((repeat' (first | exact PsA.lit _ | exact PsA.ref rfl rfl | constructor)); all_goals (fail "ps"))) | (refine OpK.callH c2 hA rfl rfl rfl rfl hE ?_ rfl rfl ?_; focus ((repeat' (first | exact PsA.lit _ | exact PsA.ref rfl rfl | constructor)); all_goals (fail "ps"))) | (refine OpK.call c3 rfl rfl rfl rfl hE ?_ rfl rfl ?_; focus ((repeat' (first | exact PsA.lit _ | exact PsA.ref rfl rfl | constructor)); all_goals (fail "ps"))) | refine ListO.go gOk hE ?_)
    all_goals first | exact Need.mk rfl | exact OutS.whole rfl rfl | (exfalso; omega) | trace_state
end Go.Proofs.YtpmhkpmkmbkjbaaGreatDoor
end

section
/- FreeNow, the other package. -/
namespace Go.Proofs.YtpmhkpmkmbkjbaaGreatDoor
open Go Go.Tr
set_option maxRecDepth 100000
set_option maxHeartbeats 4000000
set_option linter.unusedVariables false
set_option linter.unusedSimpArgs false
theorem l9Free_run (e e' : Nat) (b c : List Int) (g o : List (List Int)) (w : Int) (s : Int) (hsh : shP b c) (hcc : clIn c s ≠ -1) (hw : 0 ≤ w ∧ w ≤ 2) (hn : 1 ≤ gnIn b c s ∧ gnIn b c s ≤ 6) (hg : g.length = 3) (ho : o.length = 9) (hg' : ∀ i, (g.getD i []).length ≤ 1048576) (ho' : ∀ i, (o.getD i []).length ≤ 1048576) (hgv : gvB g o w (clIn c s) s = true) :
    RunT Tryz.prog 89 [.agg [.m (tI b), .m (tI c), .m (tSL e g), .m (tSL e' o)], ti w, ti s] [] [.agg [tI (putL b (genA s (clIn c s)).toNat (fxd 4 (gnIn b c s + 1)) 4), tI c, tSL e (if gnIn b c s + 1 ≤ 6 then gvG g o w (clIn c s) s else g), tSL e' (if gnIn b c s + 1 ≤ 6 then gvO g o w (clIn c s) s else o)]] [] := by
  refine RunH.toT ?_
  have hbl := hsh.1
  have c1 := l7Class_run b c s hsh.2.1
  have c2 := l7Gen_run b c s hsh hcc
  have hcs := clIn_some hcc
  have hsz : 0 ≤ szC (clIn c s) := by rcases cls4 (clIn c s) with ⟨_, h, _⟩ | ⟨_, h, _⟩ | ⟨_, h, _⟩ | ⟨_, h, _⟩ <;> rw [h] <;> omega
  have c3 := GenAtS_run s (clIn c s)
  obtain ⟨g1, g2⟩ := gv_yes hgv
  rw [g1, g2]
  obtain ⟨wn, rfl⟩ := Int.eq_ofNat_of_zero_le hw.1
  obtain ⟨cn, hcn⟩ := Int.eq_ofNat_of_zero_le hcs.2.2.2.1.1
  have hcn2 : cn ≤ 2 := by have := hcs.2.2.2.1.2; omega
  have hox : (owX (wn : Int) (clIn c s)).toNat = wn * 3 + cn := by
    rw [hcn]; unfold owX; rw [if_pos (by omega)]; omega
  rw [hox]
  obtain ⟨q, hq⟩ := Int.eq_ofNat_of_zero_le hcs.2.2.2.2.2.1
  rw [hq] at c3 hcs ⊢
  rw [hcn] at c1 c3 hcs hsz ⊢
  simp only [Int.toNat_natCast]
  have c4 := l3Store_run b q 4 (gnIn b c s + 1) (by omega) (by omega) (by omega) (by omega) (by omega)
  have hpl := putL_len b q (fxd 4 (gnIn b c s + 1)) 4
  have c5 := (l8Give_run e e' g o wn cn s (by omega) hcn2 hg ho (hg' cn) (ho' (wn * 3 + cn))).toH hc0
  generalize (if 2 ≤ (o.getD (wn * 3 + cn) []).length then g.set cn (g.getD cn [] ++ [s]) else g) = ng at *
  generalize (if 2 ≤ (o.getD (wn * 3 + cn) []).length then o else o.set (wn * 3 + cn) (o.getD (wn * 3 + cn) [] ++ [s])) = no at *
  generalize putL b q (fxd 4 (gnIn b c s + 1)) 4 = nb at *
  generalize gnIn b c s = gn at *
  clear g1 g2 hgv hcn hcc
  by_cases h6 : gn + 1 ≤ 6
  · rw [if_pos h6, if_pos h6]
    refine RunH.of_vc gOk Tryz.func89 rfl rfl (Nat.le_of_ble_eq_true rfl) (by repeat' (first | exact trivial | exact ⟨_, rfl, Nat.le_refl _⟩ | exact Nat.le_of_ble_eq_true rfl | refine And.intro ?_ ?_)) (Nat.le_of_ble_eq_true rfl) rfl (fun F hE hA => ?_)
    repeat' (first | exact trivial | refine BS.d (fun h => ?_) (fun h => ?_) | refine BS.e (fun h => ?_) (fun h => ?_) | refine BS.ne (fun h => ?_) (fun h => ?_) | refine BS.n ?_ | refine BS.s (fun h => ?_) (fun h => ?_) | refine And.intro ?_ ?_ | (refine Need.mk ?_; first | with_reducible rfl | (show @Eq TC _ _; rfl) | omega | (simp only [adN_zero]; omega)) | exact OutS.whole rfl rfl | (refine OpK.call c1 rfl rfl rfl rfl hE ?_ rfl rfl ?_; focus ((repeat' (first | exact PsA.lit _ | exact PsA.ref rfl rfl | constructor)); all_goals (fail "ps"))) | (refine OpK.call c2 rfl rfl rfl rfl hE ?_ rfl rfl ?_; focus ((repeat' (first | exact PsA.lit _ | exact PsA.ref rfl rfl | constructor)); all_goals (fail "ps"))) | (refine OpK.call c3 rfl rfl rfl rfl hE ?_ rfl rfl ?_; focus ((repeat' (first | exact PsA.lit _ | exact PsA.ref rfl rfl | constructor)); all_goals (fail "ps"))) | (refine CodeK.draw gOk hE rfl (fun _ _ h => h) (.take 0 (.take 1 (.take 3 (.take 4 (.take 6 (.alt 2 (.alt 5 (.alt 7 (.take 8 (.take 9 (.alt 10 .done .stop))) .stop) .stop) (.alt 5 (.alt 2 (.alt 7 (.take 8 (.take 9 (.alt 10 .done .stop))) .stop) .stop) .stop))))))) ?_ ?_; focus (decide +kernel)) | (refine OpK.callM 1000000 0 0 c4 rfl rfl rfl rfl hE rfl (QsVs.cons (.one (.m rfl rfl (.whole rfl rfl))) (.cons (.one (.c (.lit _) rfl)) (.cons (.one (.c (.lit _) rfl)) (.cons (.one (.c (.lit _) rfl)) .nil)))) rfl rfl ?_) | (refine OpK.callG [] [(1000002, 0, 0), (1000003, 0, 1)] c5 hA rfl rfl rfl rfl hE (List.forall_mem_cons.2 ⟨rfl, List.forall_mem_cons.2 ⟨rfl, fun _ h => nomatch h⟩⟩) (fun _ h => nomatch h) (fun _ h => nomatch h) List.nodup_nil (QsVs.cons (.agg (.cons (.m rfl rfl (.whole rfl rfl)) (.cons (.m rfl rfl (.whole rfl rfl)) .nil))) (.cons (.one (.c (.lit _) rfl)) (.cons (.one (.c (.lit _) rfl)) (.cons (.one (.c (.lit _) rfl)) .nil)))) rfl rfl ?_) | refine ListO.go gOk hE ?_)
    all_goals first | exact Need.mk rfl | exact OutS.whole rfl rfl | exact OutS.whole hpl.symm rfl | (exfalso; omega) | (refine Need.mk ?_; omega) | trace_state
  · rw [if_neg h6, if_neg h6]
    refine RunH.of_vc gOk Tryz.func89 rfl rfl (Nat.le_of_ble_eq_true rfl) (by repeat' (first | exact trivial | exact ⟨_, rfl, Nat.le_refl _⟩ | exact Nat.le_of_ble_eq_true rfl | refine And.intro ?_ ?_)) (Nat.le_of_ble_eq_true rfl) rfl (fun F hE hA => ?_)
    repeat' (first | exact trivial | refine BS.d (fun h => ?_) (fun h => ?_) | refine BS.e (fun h => ?_) (fun h => ?_) | refine BS.ne (fun h => ?_) (fun h => ?_) | refine BS.n ?_ | refine BS.s (fun h => ?_) (fun h => ?_) | refine And.intro ?_ ?_ | (refine Need.mk ?_; first | with_reducible rfl | (show @Eq TC _ _; rfl) | omega | (simp only [adN_zero]; omega)) | exact OutS.whole rfl rfl | (refine OpK.call c1 rfl rfl rfl rfl hE ?_ rfl rfl ?_; focus ((repeat' (first | exact PsA.lit _ | exact PsA.ref rfl rfl | constructor)); all_goals (fail "ps"))) | (refine OpK.call c2 rfl rfl rfl rfl hE ?_ rfl rfl ?_; focus ((repeat' (first | exact PsA.lit _ | exact PsA.ref rfl rfl | constructor)); all_goals (fail "ps"))) | (refine OpK.call c3 rfl rfl rfl rfl hE ?_ rfl rfl ?_; focus ((repeat' (first | exact PsA.lit _ | exact PsA.ref rfl rfl | constructor)); all_goals (fail "ps"))) | (refine CodeK.draw gOk hE rfl (fun _ _ h => h) (.take 0 (.take 1 (.take 3 (.take 4 (.take 6 (.alt 2 (.alt 5 (.alt 7 (.take 8 (.take 9 (.alt 10 .done .stop))) .stop) .stop) (.alt 5 (.alt 2 (.alt 7 (.take 8 (.take 9 (.alt 10 .done .stop))) .stop) .stop) .stop))))))) ?_ ?_; focus (decide +kernel)) | (refine OpK.callM 1000000 0 0 c4 rfl rfl rfl rfl hE rfl (QsVs.cons (.one (.m rfl rfl (.whole rfl rfl))) (.cons (.one (.c (.lit _) rfl)) (.cons (.one (.c (.lit _) rfl)) (.cons (.one (.c (.lit _) rfl)) .nil)))) rfl rfl ?_) | refine ListO.go gOk hE ?_)
    all_goals first | exact Need.mk rfl | exact OutS.whole rfl rfl | exact OutS.whole hpl.symm rfl | (exfalso; omega) | (refine Need.mk ?_; omega) | trace_state
theorem FreeNowS_run (e : Nat) (b c : List Int) (g o : List (List Int)) (w x : Int) (h : MmT b c g o) : RunT Tryz.prog 36 [aMm e b c g o, ti w, ti x] [] [.agg [tI (fnB b c g o w x), tI c, tSL 136 (fnG b c g o w x), tSL 136 (fnO b c g o w x)], oi (fnC b c g o w x)] [] := by
  refine RunH.toT ?_
  have c1 := l9Copy_run e b c g o h.ok
  have c2 := h.S e
  have c3 := l1InB_run w 0 2
  unfold fnB fnG fnO fnC
  by_cases hm : mmP b c g o
  · rw [dcB_true hm] at c2 ⊢
    have c4 := l9Valid_run e b c g o x h hm.1
    by_cases hw : 0 ≤ w ∧ w ≤ 2
    · rw [decide_eq_true hw] at c3
      simp only [hw, and_self, if_true]
      cases hv : vlB b c g o x with
      | true =>
        rw [hv] at c4
        obtain ⟨hcl, hgn, hge, hgv⟩ := vl_facts hm hv hw
        obtain ⟨l1, l2⟩ := lsLen hm.2.1
        simp only [if_true, true_and]
        have c5 := sHandleSlot_run x
        have c7 := (l9Free_run 136 136 b c g o w (hSlot x) hm.1.1 hcl hw (by omega) l1 l2 h.ok.hg' h.ok.ho' hgv).toH hc0
        rw [hgn] at c7
        have hpl := putL_len b (genA (hSlot x) (clIn c (hSlot x))).toNat (fxd 4 (hGen x + 1)) 4
        generalize putL b (genA (hSlot x) (clIn c (hSlot x))).toNat (fxd 4 (hGen x + 1)) 4 = nb at *
        generalize (if hGen x + 1 ≤ 6 then gvG g o w (clIn c (hSlot x)) (hSlot x) else g) = ng at *
        generalize (if hGen x + 1 ≤ 6 then gvO g o w (clIn c (hSlot x)) (hSlot x) else o) = no at *
        generalize hSlot x = sl at *
        refine RunH.of_vc gOk Tryz.func36 rfl rfl (Nat.le_of_ble_eq_true rfl) (by repeat' (first | exact trivial | exact ⟨_, rfl, Nat.le_refl _⟩ | exact Nat.le_of_ble_eq_true rfl | refine And.intro ?_ ?_)) (Nat.le_of_ble_eq_true rfl) rfl (fun F hE hA => ?_)
        repeat' (first | exact trivial | refine BS.d (fun h => ?_) (fun h => ?_) | refine BS.e (fun h => ?_) (fun h => ?_) | refine BS.ne (fun h => ?_) (fun h => ?_) | refine BS.n ?_ | refine BS.s (fun h => ?_) (fun h => ?_) | refine And.intro ?_ ?_ | (refine Need.mk ?_; first | with_reducible rfl | (show @Eq TC _ _; rfl) | omega | (simp only [adN_zero]; omega)) | exact OutS.whole rfl rfl | (refine OpK.call c1 rfl rfl rfl rfl hE ?_ rfl rfl ?_; focus ((repeat' (first | exact PsA.lit _ | exact PsA.ref rfl rfl | constructor)); all_goals (fail "ps"))) | (refine OpK.call c2 rfl rfl rfl rfl hE ?_ rfl rfl ?_; focus ((repeat' (first | exact PsA.lit _ | exact PsA.ref rfl rfl | constructor)); all_goals (fail "ps"))) | (refine OpK.call c3 rfl rfl rfl rfl hE ?_ rfl rfl ?_; focus ((repeat' (first | exact PsA.lit _ | exact PsA.ref rfl rfl | constructor)); all_goals (fail "ps"))) | (refine OpK.call c4 rfl rfl rfl rfl hE ?_ rfl rfl ?_; focus ((repeat' (first | exact PsA.lit _ | exact PsA.ref rfl rfl | constructor)); all_goals (fail "ps"))) | (refine OpK.call c5 rfl rfl rfl rfl hE ?_ rfl rfl ?_; focus ((repeat' (first | exact PsA.lit _ | exact PsA.ref rfl rfl | constructor)); all_goals (fail "ps"))) | (refine CodeK.draw gOk hE rfl (fun _ _ h => h) (.take 1 (.take 2 (.alt 0 (.alt 3 (.alt 4 (.alt 5 (.take 6 .done) .stop) .stop) .stop) (.alt 3 (.alt 0 (.alt 4 (.alt 5 (.take 6 .done) .stop) .stop) .stop) .stop)))) ?_ ?_; focus (decide +kernel)) | (refine OpK.callG [] [(2001280, 0, 0), (2001281, 0, 1), (2001282, 0, 2), (2001283, 0, 3)] c7 hA rfl rfl rfl rfl hE (List.forall_mem_cons.2 ⟨rfl, List.forall_mem_cons.2 ⟨rfl, List.forall_mem_cons.2 ⟨rfl, List.forall_mem_cons.2 ⟨rfl, fun _ h => nomatch h⟩⟩⟩⟩) (fun _ h => nomatch h) (fun _ h => nomatch h) List.nodup_nil (QsVs.cons (.agg (.cons (.m rfl rfl (.whole rfl rfl)) (.cons (.m rfl rfl (.whole rfl rfl)) (.cons (.m rfl rfl (.whole rfl rfl)) (.cons (.m rfl rfl (.whole rfl rfl)) .nil))))) (.cons (.one (.c (.lit _) rfl)) (.cons (.one (.c (.lit _) rfl)) .nil))) rfl rfl ?_) | refine ListO.go gOk hE ?_)
        all_goals first | exact Need.mk rfl | exact OutS.whole rfl rfl | exact OutS.whole hpl.symm rfl | (exfalso; omega) | trace_state
      | false =>
        rw [hv] at c4
        simp only [Bool.false_eq_true, if_false]
        rw [if_neg (by decide), if_neg (fun hh => absurd hh.1 (by decide)), if_neg (fun hh => absurd hh.1 (by decide))]
        refine RunH.of_vc gOk Tryz.func36 rfl rfl (Nat.le_of_ble_eq_true rfl) (by repeat' (first | exact trivial | exact ⟨_, rfl, Nat.le_refl _⟩ | exact Nat.le_of_ble_eq_true rfl | refine And.intro ?_ ?_)) (Nat.le_of_ble_eq_true rfl) rfl (fun F hE hA => ?_)
        repeat' (first | exact trivial | refine BS.d (fun h => ?_) (fun h => ?_) | refine BS.e (fun h => ?_) (fun h => ?_) | refine BS.ne (fun h => ?_) (fun h => ?_) | refine BS.n ?_ | refine BS.s (fun h => ?_) (fun h => ?_) | refine And.intro ?_ ?_ | (refine Need.mk ?_; first | with_reducible rfl | (show @Eq TC _ _; rfl) | omega | (simp only [adN_zero]; omega)) | exact OutS.whole rfl rfl | (refine OpK.call c1 rfl rfl rfl rfl hE ?_ rfl rfl ?_; focus ((repeat' (first | exact PsA.lit _ | exact PsA.ref rfl rfl | constructor)); all_goals (fail "ps"))) | (refine OpK.call c2 rfl rfl rfl rfl hE ?_ rfl rfl ?_; focus ((repeat' (first | exact PsA.lit _ | exact PsA.ref rfl rfl | constructor)); all_goals (fail "ps"))) | (refine OpK.call c3 rfl rfl rfl rfl hE ?_ rfl rfl ?_; focus ((repeat' (first | exact PsA.lit _ | exact PsA.ref rfl rfl | constructor)); all_goals (fail "ps"))) | (refine OpK.call c4 rfl rfl rfl rfl hE ?_ rfl rfl ?_; focus ((repeat' (first | exact PsA.lit _ | exact PsA.ref rfl rfl | constructor)); all_goals (fail "ps"))) | refine ListO.go gOk hE ?_)
        all_goals first | exact Need.mk rfl | exact OutS.whole rfl rfl | (exfalso; omega) | trace_state
    · rw [decide_eq_false hw] at c3
      simp only [hw, and_false, if_false]
      rw [if_neg (by decide), if_neg (fun hh => absurd hh.1 (by decide)), if_neg (fun hh => absurd hh.1 (by decide))]
      refine RunH.of_vc gOk Tryz.func36 rfl rfl (Nat.le_of_ble_eq_true rfl) (by repeat' (first | exact trivial | exact ⟨_, rfl, Nat.le_refl _⟩ | exact Nat.le_of_ble_eq_true rfl | refine And.intro ?_ ?_)) (Nat.le_of_ble_eq_true rfl) rfl (fun F hE hA => ?_)
      repeat' (first | exact trivial | refine BS.d (fun h => ?_) (fun h => ?_) | refine BS.e (fun h => ?_) (fun h => ?_) | refine BS.ne (fun h => ?_) (fun h => ?_) | refine BS.n ?_ | refine BS.s (fun h => ?_) (fun h => ?_) | refine And.intro ?_ ?_ | (refine Need.mk ?_; first | with_reducible rfl | (show @Eq TC _ _; rfl) | omega | (simp only [adN_zero]; omega)) | exact OutS.whole rfl rfl | (refine OpK.call c1 rfl rfl rfl rfl hE ?_ rfl rfl ?_; focus ((repeat' (first | exact PsA.lit _ | exact PsA.ref rfl rfl | constructor)); all_goals (fail "ps"))) | (refine OpK.call c2 rfl rfl rfl rfl hE ?_ rfl rfl ?_; focus ((repeat' (first | exact PsA.lit _ | exact PsA.ref rfl rfl | constructor)); all_goals (fail "ps"))) | (refine OpK.call c3 rfl rfl rfl rfl hE ?_ rfl rfl ?_; focus ((repeat' (first | exact PsA.lit _ | exact PsA.ref rfl rfl | constructor)); all_goals (fail "ps"))) | refine ListO.go gOk hE ?_)
      all_goals first | exact Need.mk rfl | exact OutS.whole rfl rfl | (exfalso; omega) | trace_state
  · rw [dcB_false hm] at c2 ⊢
    simp only [Bool.false_eq_true, false_and, if_false]
    rw [if_neg (by decide), if_neg (fun hh => absurd hh.1 (by decide)), if_neg (fun hh => absurd hh.1 (by decide))]
    refine RunH.of_vc gOk Tryz.func36 rfl rfl (Nat.le_of_ble_eq_true rfl) (by repeat' (first | exact trivial | exact ⟨_, rfl, Nat.le_refl _⟩ | exact Nat.le_of_ble_eq_true rfl | refine And.intro ?_ ?_)) (Nat.le_of_ble_eq_true rfl) rfl (fun F hE hA => ?_)
    repeat' (first | exact trivial | refine BS.d (fun h => ?_) (fun h => ?_) | refine BS.e (fun h => ?_) (fun h => ?_) | refine BS.ne (fun h => ?_) (fun h => ?_) | refine BS.n ?_ | refine BS.s (fun h => ?_) (fun h => ?_) | refine And.intro ?_ ?_ | (refine Need.mk ?_; first | with_reducible rfl | (show @Eq TC _ _; rfl) | omega | (simp only [adN_zero]; omega)) | exact OutS.whole rfl rfl | (refine OpK.call c1 rfl rfl rfl rfl hE ?_ rfl rfl ?_; focus ((repeat' (first | exact PsA.lit _ | exact PsA.ref rfl rfl | constructor)); all_goals (fail "ps"))) | (refine OpK.call c2 rfl rfl rfl rfl hE ?_ rfl rfl ?_; focus ((repeat' (first | exact PsA.lit _ | exact PsA.ref rfl rfl | constructor)); all_goals (fail "ps"))) | (refine OpK.call c3 rfl rfl rfl rfl hE ?_ rfl rfl ?_; focus ((repeat' (first | exact PsA.lit _ | exact PsA.ref rfl rfl | constructor)); all_goals (fail "ps"))) | refine ListO.go gOk hE ?_)
    all_goals first | exact Need.mk rfl | exact OutS.whole rfl rfl | (exfalso; omega) | trace_state
end Go.Proofs.YtpmhkpmkmbkjbaaGreatDoor
end

section
/- Two equal answers of FreeNow, in fresh memory: the law. -/
namespace Go.Proofs.YtpmhkpmkmbkjbaaGreatDoor
open Go Go.Tr
set_option maxRecDepth 100000
set_option maxHeartbeats 40000000
set_option linter.unusedVariables false
set_option linter.unusedSimpArgs false
theorem szM_bc {b c : List Int} {g o : List (List Int)} {m : Int} (h0 : 0 ≤ m) (h : ¬ szM b c g o m < 0) : b.length + c.length ≤ m := by
  unfold szM at h
  split at h
  · omega
  · rename_i hh
    unfold szH at hh
    unfold szI at hh
    split at hh <;> (try split at hh) <;> omega
theorem szM_sum {b c : List Int} {g o : List (List Int)} {m : Int} (h0 : 0 ≤ m) (h1 : m ≤ 1048576) (h : ¬ szM b c g o m < 0) : g.length + o.length + g.flatten.length + o.flatten.length ≤ 1048576 := by
  have q := szH_le b c m h0
  unfold szM at h
  split at h
  · omega
  · unfold szG at h
    exact (szL_ok (m := szH b c m) (by omega) (by omega) h).1
theorem flat_app : ∀ (xs : List (List Int)) (i : Nat) (s : Int), i < xs.length → (xs.set i (xs.getD i [] ++ [s])).flatten.length = xs.flatten.length + 1
  | [], i, s, h => by simp at h
  | x :: l, 0, s, h => by simp; omega
  | x :: l, i + 1, s, h => by
    have := flat_app l i s (by simpa using h)
    simp only [List.set_cons_succ, List.flatten_cons, List.length_append, List.getD_cons_succ] at this ⊢
    omega
theorem getD_flat (xs : List (List Int)) (i : Nat) : (xs.getD i []).length ≤ xs.flatten.length := by
  by_cases hi : i < xs.length
  · have : xs.getD i [] = xs[i] := by simp only [List.getD, List.getElem?_eq_getElem hi, Option.getD_some]
    rw [this]; exact flat_mem (List.getElem_mem hi)
  · simp only [List.getD]; rw [List.getElem?_eq_none (by omega)]; exact Nat.zero_le _
theorem fn_bd {b c : List Int} {g o : List (List Int)} {w x : Int} (h : MmT b c g o) (hs : g.length + o.length + g.flatten.length + o.flatten.length ≤ 1048576) : (fnB b c g o w x).length = b.length ∧ (fnG b c g o w x).length = g.length ∧ (fnO b c g o w x).length = o.length ∧ (∀ i, ((fnG b c g o w x).getD i []).length ≤ 1048576) ∧ (∀ i, ((fnO b c g o w x).getD i []).length ≤ 1048576) ∧ (fnG b c g o w x).flatten.length + (fnO b c g o w x).flatten.length ≤ 1048576 := by
  have hB : (fnB b c g o w x).length = b.length := by unfold fnB; split; exact putL_len _ _ _ _; rfl
  have key : (fnG b c g o w x).length = g.length ∧ (fnO b c g o w x).length = o.length ∧ (fnG b c g o w x).flatten.length + (fnO b c g o w x).flatten.length ≤ 1048576 := by
    unfold fnG fnO
    by_cases hf : fnC b c g o w x = 0 ∧ hGen x + 1 ≤ 6
    · rw [if_pos hf, if_pos hf]
      generalize clIn c (hSlot x) = cl
      generalize hSlot x = s
      cases hb : gvB g o w cl s with
      | false => obtain ⟨e1, e2⟩ := gv_no hb; rw [e1, e2]; exact ⟨rfl, rfl, by omega⟩
      | true =>
        obtain ⟨e1, e2⟩ := gv_yes hb
        rw [e1, e2]
        unfold gvB at hb
        simp only [Bool.and_eq_true, decide_eq_true_eq] at hb
        obtain ⟨hw, hc, hat, ha8⟩ := owX_ok hb.1
        obtain ⟨l1, l2⟩ := lsLen hb.2.2.1
        by_cases h2 : 2 ≤ (o.getD (owX w cl).toNat []).length
        · rw [if_pos h2, if_pos h2, flat_app g cl.toNat s (by omega)]
          exact ⟨by simp, rfl, by omega⟩
        · rw [if_neg h2, if_neg h2, flat_app o (owX w cl).toNat s (by omega)]
          exact ⟨rfl, by simp, by omega⟩
    · rw [if_neg hf, if_neg hf]; exact ⟨rfl, rfl, by omega⟩
  obtain ⟨k1, k2, k3⟩ := key
  refine ⟨hB, k1, k2, fun i => ?_, fun i => ?_, k3⟩
  · have := getD_flat (fnG b c g o w x) i; omega
  · have := getD_flat (fnO b c g o w x) i; omega
theorem FreeNow_law (b c : List Int) (g o : List (List Int)) (w x : Int) (h1 : MmOk 9223372036854775807 b c g o) (hx : x ≤ 9223372036854775807) : RunH Tryz.prog hT 9 [aMm 0 b c g o, ti w, ti x] [] [ob true] [] := by
  have c0 := szMem_run 0 0 b c g o 1048576 (by decide) (by decide) h1.hb h1.hc h1.hg h1.hg' h1.ho h1.ho'
  by_cases hz : szM b c g o 1048576 < 0
  · generalize szM b c g o 1048576 = z at *
    refine RunH.of_vc gOk Tryz.func9 rfl rfl (Nat.le_of_ble_eq_true rfl) (by repeat' (first | exact trivial | exact ⟨_, rfl, Nat.le_refl _⟩ | exact Nat.le_of_ble_eq_true rfl | refine And.intro ?_ ?_)) (Nat.le_of_ble_eq_true rfl) rfl (fun F hE hA => ?_)
    repeat' (first | exact trivial | refine BS.d (fun h => ?_) (fun h => ?_) | refine BS.e (fun h => ?_) (fun h => ?_) | refine BS.ne (fun h => ?_) (fun h => ?_) | refine BS.n ?_ | refine BS.s (fun h => ?_) (fun h => ?_) | refine And.intro ?_ ?_ | (refine Need.mk ?_; first | with_reducible rfl | (show @Eq TC _ _; rfl) | omega | (simp only [adN_zero]; omega)) | exact OutS.whole rfl rfl | (refine OpK.call c0 rfl rfl rfl rfl hE ?_ rfl rfl ?_; focus ((repeat' (first | exact PsA.lit _ | exact PsA.ref rfl rfl | constructor)); all_goals (fail "ps"))) | refine ListO.go gOk hE ?_)
    all_goals first | exact Need.mk rfl | (exfalso; omega) | trace_state
  · have ht := MmT.of_sz (m := 1048576) (by decide) (by decide) hz
    have hbc := szM_bc (m := 1048576) (by decide) hz
    have hsum := szM_sum (m := 1048576) (by decide) (by decide) hz
    generalize szM b c g o 1048576 = z at *
    have k := ht.ok
    have k3 := k.le (m' := 4000000) (by decide)
    have c1 := toMem_run 0 b c g o k.hb k.hc k.hg k.hg' k.ho k.ho'
    have c3 := FreeNowS_run 136 b c g o w x ht
    have c4 := FreeNowI_run 136 b c g o w x ht hx
    have c5 := eqMem_run 136 b c g o k3.hb k3.hc k3.hg k3.hg' k3.ho k3.ho'
    obtain ⟨hnl, hng, hno, hgx, hox, hff⟩ := fn_bd (w := w) (x := x) ht hsum
    generalize fnB b c g o w x = nb at *
    generalize fnG b c g o w x = ng at *
    generalize fnO b c g o w x = no at *
    generalize fnC b c g o w x = cc at *
    have hk : MkOk b c g o := ⟨k, by omega, ht.f⟩
    have hk2 : MkOk nb c ng no := ⟨⟨by rw [hnl]; exact k.hb, k.hc, by rw [hng]; exact k.hg, by rw [hno]; exact k.ho, hgx, hox⟩, by omega, hff⟩
    have c6 := eqMem_run 136 nb c ng no (by rw [hnl]; exact k3.hb) k3.hc (by rw [hng]; exact k3.hg) (fun i => Nat.le_trans (hgx i) (by decide)) (by rw [hno]; exact k3.ho) (fun i => Nat.le_trans (hox i) (by decide))
    have m0 := markMemX_run 3 136 136 b c g o hk
    have m1 := markMemX_run 3 136 136 nb c ng no hk2
    have d1 := heldMem_run 136 136 nb c ng no hk2
    have z0 := mZ_bd (b := b) (c := c) (g := g) (o := o)
    have z1 := mZ_bd (b := nb) (c := c) (g := ng) (o := no)
    generalize mZ b c g o = zz0 at *
    generalize mZ nb c ng no = zz1 at *
    refine RunH.of_vc gOk Tryz.func9 rfl rfl (Nat.le_of_ble_eq_true rfl) (by repeat' (first | exact trivial | exact ⟨_, rfl, Nat.le_refl _⟩ | exact Nat.le_of_ble_eq_true rfl | refine And.intro ?_ ?_)) (Nat.le_of_ble_eq_true rfl) rfl (fun F hE hA => ?_)
    repeat' (first | exact trivial | refine BS.d (fun h => ?_) (fun h => ?_) | refine BS.e (fun h => ?_) (fun h => ?_) | refine BS.ne (fun h => ?_) (fun h => ?_) | refine BS.n ?_ | refine BS.s (fun h => ?_) (fun h => ?_) | refine And.intro ?_ ?_ | (refine Need.mk ?_; first | with_reducible rfl | (show @Eq TC _ _; rfl) | omega | (simp only [adN_zero]; omega)) | exact OutS.whole rfl rfl | (refine OpK.call c0 rfl rfl rfl rfl hE ?_ rfl rfl ?_; focus ((repeat' (first | exact PsA.lit _ | exact PsA.ref rfl rfl | constructor)); all_goals (fail "ps"))) | (refine OpK.call c1 rfl rfl rfl rfl hE ?_ rfl rfl ?_; focus ((repeat' (first | exact PsA.lit _ | exact PsA.ref rfl rfl | constructor)); all_goals (fail "ps"))) | (refine OpK.call c3 rfl rfl rfl rfl hE ?_ rfl rfl ?_; focus ((repeat' (first | exact PsA.lit _ | exact PsA.ref rfl rfl | constructor)); all_goals (fail "ps"))) | (refine OpK.callH c4 hA rfl rfl rfl rfl hE ?_ rfl rfl ?_; focus ((repeat' (first | exact PsA.lit _ | exact PsA.ref rfl rfl | constructor)); all_goals (fail "ps"))) | (refine OpK.call c5 rfl rfl rfl rfl hE ?_ rfl rfl ?_; focus ((repeat' (first | exact PsA.lit _ | exact PsA.ref rfl rfl | constructor)); all_goals (fail "ps"))) | (refine OpK.call c6 rfl rfl rfl rfl hE ?_ rfl rfl ?_; focus ((repeat' (first | exact PsA.lit _ | exact PsA.ref rfl rfl | constructor)); all_goals (fail "ps"))) | (refine OpK.call d1 rfl rfl rfl rfl hE ?_ rfl rfl ?_; focus ((repeat' (first | exact PsA.lit _ | exact PsA.ref rfl rfl | exact PsA.ref rfl (mkL_len _ _ _ _).symm | constructor)); all_goals (fail "ps"))) | (refine CodeK.draw gOk hE rfl (fun _ _ h => h) (.alt 0 (.alt 1 (.alt 2 (.alt 3 (.take 4 .done) .stop) .stop) .stop) (.alt 1 (.alt 0 (.alt 2 (.alt 3 (.take 4 .done) .stop) .stop) (.alt 2 (.alt 0 (.alt 3 (.take 4 .done) .stop) .stop) .stop)) .stop)) ?_ ?_; focus (decide +kernel)) | (refine OpK.callBs [bInt 3 2004096 b (mB b), bInt 3 2004097 c (mC b c), bSL 136 2004098 g (mG b c g), bSL 136 2004099 o (mO b c g o)] m0 rfl rfl rfl rfl hE (List.forall_mem_cons.2 ⟨BtOk.sl rfl (mkL_len _ _ _ _), List.forall_mem_cons.2 ⟨BtOk.sl rfl (mkL_len _ _ _ _), List.forall_mem_cons.2 ⟨BtOk.sl rfl (mkL_len _ _ _ _), List.forall_mem_cons.2 ⟨BtOk.sl rfl (mkL_len _ _ _ _), fun _ h => nomatch h⟩⟩⟩⟩) (List.forall_mem_cons.2 ⟨rfl, List.forall_mem_cons.2 ⟨rfl, List.forall_mem_cons.2 ⟨rfl, List.forall_mem_cons.2 ⟨rfl, fun _ h => nomatch h⟩⟩⟩⟩) (show List.Nodup [2004096, 2004097, 2004098, 2004099] by decide) (QsVs.cons (.agg (.cons (.h rfl rfl rfl) (.cons (.h rfl rfl rfl) (.cons (.h rfl rfl rfl) (.cons (.h rfl rfl rfl) .nil))))) (.cons (.one (.c (.lit _) rfl)) .nil)) rfl rfl ?_) | (refine OpK.callBs [bInt 3 2004736 nb (mB nb), bInt 3 2004737 c (mC nb c), bSL 136 2004738 ng (mG nb c ng), bSL 136 2004739 no (mO nb c ng no)] m1 rfl rfl rfl rfl hE (List.forall_mem_cons.2 ⟨BtOk.sl rfl (mkL_len _ _ _ _), List.forall_mem_cons.2 ⟨BtOk.sl rfl (mkL_len _ _ _ _), List.forall_mem_cons.2 ⟨BtOk.sl rfl (mkL_len _ _ _ _), List.forall_mem_cons.2 ⟨BtOk.sl rfl (mkL_len _ _ _ _), fun _ h => nomatch h⟩⟩⟩⟩) (List.forall_mem_cons.2 ⟨rfl, List.forall_mem_cons.2 ⟨rfl, List.forall_mem_cons.2 ⟨rfl, List.forall_mem_cons.2 ⟨rfl, fun _ h => nomatch h⟩⟩⟩⟩) (show List.Nodup [2004736, 2004737, 2004738, 2004739] by decide) (QsVs.cons (.agg (.cons (.h rfl rfl rfl) (.cons (.h rfl rfl rfl) (.cons (.h rfl rfl rfl) (.cons (.h rfl rfl rfl) .nil))))) (.cons (.one (.c (.lit _) rfl)) .nil)) rfl rfl ?_) | refine ListO.go gOk hE ?_)
    all_goals first | exact Need.mk rfl | (exfalso; omega) | exact absurd rfl h | (simp_all; done) | trace_state
end Go.Proofs.YtpmhkpmkmbkjbaaGreatDoor
end
