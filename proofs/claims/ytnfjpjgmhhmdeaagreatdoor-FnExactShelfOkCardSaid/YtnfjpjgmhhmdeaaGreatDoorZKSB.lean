import Derived.Test.YtnfjpjgmhhmdeaaGreatDoorZKSA
import Derived.Test.YtnfjpjgmhhmdeaaGreatDoorVS
import Derived.Test.YtnfjpjgmhhmdeaaGreatDoorVZ
import Derived.Laws.BitsLemmas
section
/- A shelf. -/
namespace Go.Proofs.YtnfjpjgmhhmdeaaGreatDoor
open Go Go.Tr
set_option maxRecDepth 100000
set_option maxHeartbeats 4000000
set_option linter.unusedVariables false
set_option linter.unusedSimpArgs false
abbrev aSf (e eP eR eL eJ eO eQ eE : Nat) (b c : List Int) (g o : List (List Int)) (E : Int) (ps : List PinT) (l : List (List Row)) (z : List Int) (cs : List Int) (js : List JobT) (ts : List (List OpT)) (ev : List EvT) (sn : Int) : TAg := .agg [.c (tI b), .c (tI c), .c (tSL e g), .c (tSL e o), .c (.lit (.int .i64 E)), .c (tPin eP ps), .c (tLL eR eL l), .c (tI z), .c (tI cs), .c (tJob eJ js), .c (tQ eO eQ ts), .c (tEv eE ev), .c (.lit (.int .i64 sn))]
abbrev oSf (e eP eR eL eJ eO eQ eE : Nat) (b c : List Int) (g o : List (List Int)) (E : Int) (ps : List PinT) (l : List (List Row)) (z : List Int) (cs : List Int) (js : List JobT) (ts : List (List OpT)) (ev : List EvT) (sn : Int) : TAr := .agg [tI b, tI c, tSL e g, tSL e o, .lit (.int .i64 E), tPin eP ps, tLL eR eL l, tI z, tI cs, tJob eJ js, tQ eO eQ ts, tEv eE ev, .lit (.int .i64 sn)]
structure SfOk (m : Nat) (b c : List Int) (g o : List (List Int)) (ps : List PinT) (l : List (List Row)) (z : List Int) (cs : List Int) (js : List JobT) (ts : List (List OpT)) (ev : List EvT) : Prop where
  bs : BsOk m b c g o ps l z
  hcs : cs.length ≤ m
  hjs : js.length ≤ m
  hts : ts.length ≤ m
  hts' : ∀ i, (ts.getD i []).length ≤ m
  hev : ev.length ≤ m
theorem SfOk.le {m m' : Nat} {b c : List Int} {g o : List (List Int)} {ps : List PinT} {l : List (List Row)} {z : List Int} {cs : List Int} {js : List JobT} {ts : List (List OpT)} {ev : List EvT} (h : SfOk m b c g o ps l z cs js ts ev) (hm : m ≤ m') : SfOk m' b c g o ps l z cs js ts ev :=
  ⟨h.bs.le hm, Nat.le_trans h.hcs hm, Nat.le_trans h.hjs hm, Nat.le_trans h.hts hm, fun i => Nat.le_trans (h.hts' i) hm, Nat.le_trans h.hev hm⟩
def szSf (b c : List Int) (g o : List (List Int)) (ps : List PinT) (l : List (List Row)) (z : List Int) (cs : List Int) (js : List JobT) (ts : List (List OpT)) (ev : List EvT) (m : Int) : Int := ch (szB b c g o ps l z m) fun x => ch (szI cs x) fun y => ch (szJ js y) fun u => ch (szJLs ts u) fun v => szJ ev v
theorem szSf_ok {m : Int} {b c : List Int} {g o : List (List Int)} {ps : List PinT} {l : List (List Row)} {z : List Int} {cs : List Int} {js : List JobT} {ts : List (List OpT)} {ev : List EvT} (h0 : 0 ≤ m) (h1 : m ≤ 1048576) : szSf b c g o ps l z cs js ts ev m ≤ m ∧ -1 ≤ szSf b c g o ps l z cs js ts ev m ∧ (0 ≤ szSf b c g o ps l z cs js ts ev m → SfOk 1048576 b c g o ps l z cs js ts ev) := by
  unfold szSf ch
  dsimp only
  obtain ⟨a1, a2, a3⟩ := szB_ok (b := b) (c := c) (g := g) (o := o) (ps := ps) (l := l) (z := z) h0 h1
  split
  · exact ⟨by omega, by omega, fun h => by omega⟩
  have k1 := a3 (by omega)
  have b1 := szI_le cs (szB b c g o ps l z m) (by omega)
  split
  · exact ⟨by omega, by omega, fun h => by omega⟩
  have b2 := szJ_bd js (szI cs (szB b c g o ps l z m)) (by omega)
  split
  · exact ⟨by omega, by omega, fun h => by omega⟩
  obtain ⟨d1, d2, d3⟩ := szJLs_le ts (szJ js (szI cs (szB b c g o ps l z m))) (by omega)
  split
  · exact ⟨by omega, by omega, fun h => by omega⟩
  obtain ⟨d4, d5, d6⟩ := d3 (by omega)
  have b4 := szJ_bd ev (szJLs ts (szJ js (szI cs (szB b c g o ps l z m)))) (by omega)
  exact ⟨by omega, by omega, fun h => ⟨k1, by omega, by omega, by omega, getD_leR fun x hx => (by have := d6 x hx; omega), by omega⟩⟩
theorem szShelf_run (b c : List Int) (g o : List (List Int)) (E : Int) (ps : List PinT) (l : List (List Row)) (z : List Int) (cs : List Int) (js : List JobT) (ts : List (List OpT)) (ev : List EvT) (sn : Int) (m : Int) (h0 : 0 ≤ m) (h1 : m ≤ 1048576) (hb : SfOk 9223372036854775807 b c g o ps l z cs js ts ev) : RunT Tryz.prog 10 [aSf 0 0 0 0 0 0 0 0 b c g o E ps l z cs js ts ev sn, ti m] [] [oi (szSf b c g o ps l z cs js ts ev m)] [] := by
  obtain ⟨q1, q2, q0⟩ := szB_ok (b := b) (c := c) (g := g) (o := o) (ps := ps) (l := l) (z := z) h0 h1
  have c1 := szBase_run b c g o E ps l z m h0 h1 hb.bs
  unfold szSf ch
  dsimp only
  generalize szB b c g o ps l z m = s1 at *
  by_cases k1 : s1 < 0
  · rw [if_pos k1]
    refine RunT.of_vc gOk Tryz.func10 rfl rfl (Nat.le_of_ble_eq_true rfl) (by repeat' (first | exact trivial | exact ⟨_, rfl, Nat.le_refl _⟩ | exact Nat.le_of_ble_eq_true rfl | refine And.intro ?_ ?_)) (Nat.le_of_ble_eq_true rfl) rfl (fun F hE => ?_)
    repeat' (first | exact trivial | refine BS.a (fun h => ?_) (fun h => ?_) | refine BS.n ?_ | refine BS.s (fun h => ?_) (fun h => ?_) | refine And.intro ?_ ?_ | exact Need.au | exact OutS.whole rfl rfl | refine OpK.ca c1 hE ?_ | refine ListO.go gOk hE ?_)
    all_goals first | exact Need.mk rfl | (exfalso; omega) | trace_state
  rw [if_neg k1]
  have c2 := szIntS_run cs s1 (by omega) (by omega) hb.hcs
  have r2 := szI_le cs s1 (by omega)
  generalize szI cs s1 = s2 at *
  by_cases k2 : s2 < 0
  · rw [if_pos k2]
    refine RunT.of_vc gOk Tryz.func10 rfl rfl (Nat.le_of_ble_eq_true rfl) (by repeat' (first | exact trivial | exact ⟨_, rfl, Nat.le_refl _⟩ | exact Nat.le_of_ble_eq_true rfl | refine And.intro ?_ ?_)) (Nat.le_of_ble_eq_true rfl) rfl (fun F hE => ?_)
    repeat' (first | exact trivial | refine BS.a (fun h => ?_) (fun h => ?_) | refine BS.n ?_ | refine BS.s (fun h => ?_) (fun h => ?_) | refine And.intro ?_ ?_ | exact Need.au | exact OutS.whole rfl rfl | refine OpK.ca c1 hE ?_ | refine OpK.ca c2 hE ?_ | refine ListO.go gOk hE ?_)
    all_goals first | exact Need.mk rfl | (exfalso; omega) | trace_state
  rw [if_neg k2]
  have c3 := szJobS_run 0 js s2 (by omega) (by omega) hb.hjs
  have r3 := szJ_bd js s2 (by omega)
  generalize szJ js s2 = s3 at *
  by_cases k3 : s3 < 0
  · rw [if_pos k3]
    refine RunT.of_vc gOk Tryz.func10 rfl rfl (Nat.le_of_ble_eq_true rfl) (by repeat' (first | exact trivial | exact ⟨_, rfl, Nat.le_refl _⟩ | exact Nat.le_of_ble_eq_true rfl | refine And.intro ?_ ?_)) (Nat.le_of_ble_eq_true rfl) rfl (fun F hE => ?_)
    repeat' (first | exact trivial | refine BS.a (fun h => ?_) (fun h => ?_) | refine BS.n ?_ | refine BS.s (fun h => ?_) (fun h => ?_) | refine And.intro ?_ ?_ | exact Need.au | exact OutS.whole rfl rfl | refine OpK.ca c1 hE ?_ | refine OpK.ca c2 hE ?_ | refine OpK.ca c3 hE ?_ | refine ListO.go gOk hE ?_)
    all_goals first | exact Need.mk rfl | (exfalso; omega) | trace_state
  rw [if_neg k3]
  have c4 := szQueueS_run 0 0 ts s3 (by omega) (by omega) hb.hts hb.hts'
  have r4 := szJLs_le ts s3 (by omega)
  generalize szJLs ts s3 = s4 at *
  by_cases k4 : s4 < 0
  · rw [if_pos k4]
    refine RunT.of_vc gOk Tryz.func10 rfl rfl (Nat.le_of_ble_eq_true rfl) (by repeat' (first | exact trivial | exact ⟨_, rfl, Nat.le_refl _⟩ | exact Nat.le_of_ble_eq_true rfl | refine And.intro ?_ ?_)) (Nat.le_of_ble_eq_true rfl) rfl (fun F hE => ?_)
    repeat' (first | exact trivial | refine BS.a (fun h => ?_) (fun h => ?_) | refine BS.n ?_ | refine BS.s (fun h => ?_) (fun h => ?_) | refine And.intro ?_ ?_ | exact Need.au | exact OutS.whole rfl rfl | refine OpK.ca c1 hE ?_ | refine OpK.ca c2 hE ?_ | refine OpK.ca c3 hE ?_ | refine OpK.ca c4 hE ?_ | refine ListO.go gOk hE ?_)
    all_goals first | exact Need.mk rfl | (exfalso; omega) | trace_state
  rw [if_neg k4]
  have c5 := szEvS_run 0 ev s4 (by omega) (by omega) hb.hev
  have r5 := szJ_bd ev s4 (by omega)
  generalize szJ ev s4 = s5 at *
  refine RunT.of_vc gOk Tryz.func10 rfl rfl (Nat.le_of_ble_eq_true rfl) (by repeat' (first | exact trivial | exact ⟨_, rfl, Nat.le_refl _⟩ | exact Nat.le_of_ble_eq_true rfl | refine And.intro ?_ ?_)) (Nat.le_of_ble_eq_true rfl) rfl (fun F hE => ?_)
  repeat' (first | exact trivial | refine BS.a (fun h => ?_) (fun h => ?_) | refine BS.n ?_ | refine BS.s (fun h => ?_) (fun h => ?_) | refine And.intro ?_ ?_ | exact Need.au | exact OutS.whole rfl rfl | refine OpK.ca c1 hE ?_ | refine OpK.ca c2 hE ?_ | refine OpK.ca c3 hE ?_ | refine OpK.ca c4 hE ?_ | refine OpK.ca c5 hE ?_ | refine ListO.go gOk hE ?_)
  all_goals first | exact Need.mk rfl | (refine Need.mk ?_; omega) | (exfalso; omega) | trace_state
theorem toShelf_run (b c : List Int) (g o : List (List Int)) (E : Int) (ps : List PinT) (l : List (List Row)) (z : List Int) (cs : List Int) (js : List JobT) (ts : List (List OpT)) (ev : List EvT) (sn : Int) (hb : SfOk 1048576 b c g o ps l z cs js ts ev) : RunT Tryz.prog 12 [aSf 0 0 0 0 0 0 0 0 b c g o E ps l z cs js ts ev sn] [] [oSf 178 99 127 182 82 78 112 138 b c g o E ps l z cs js ts ev sn] [] := by
  have c1 := toBase_run b c g o E ps l z hb.bs
  have c2 := toIntS_run cs hb.hcs
  have c3 := toJobS_run 0 js hb.hjs
  have c4 := toQueueS_run 0 0 ts hb.hts hb.hts'
  have c5 := toEvS_run 0 ev hb.hev
  refine RunT.of_vc gOk Tryz.func12 rfl rfl (Nat.le_of_ble_eq_true rfl) (by repeat' (first | exact trivial | exact ⟨_, rfl, Nat.le_refl _⟩ | exact Nat.le_of_ble_eq_true rfl | refine And.intro ?_ ?_)) (Nat.le_of_ble_eq_true rfl) rfl (fun F hE => ?_)
  repeat' (first | exact trivial | refine BS.a (fun h => ?_) (fun h => ?_) | refine BS.n ?_ | refine BS.s (fun h => ?_) (fun h => ?_) | refine And.intro ?_ ?_ | exact Need.au | exact OutS.whole rfl rfl | refine OpK.ca c1 hE ?_ | refine OpK.ca c2 hE ?_ | refine OpK.ca c3 hE ?_ | refine OpK.ca c4 hE ?_ | refine OpK.ca c5 hE ?_ | refine ListO.go gOk hE ?_)
theorem eqShelf_run (b c : List Int) (g o : List (List Int)) (E : Int) (ps : List PinT) (l : List (List Row)) (z : List Int) (cs : List Int) (js : List JobT) (ts : List (List OpT)) (ev : List EvT) (sn : Int) (hb : SfOk 4000000 b c g o ps l z cs js ts ev) : RunT Tryz.prog 14 [aSf 178 99 127 182 82 78 112 138 b c g o E ps l z cs js ts ev sn, aSf 178 99 127 182 82 78 112 138 b c g o E ps l z cs js ts ev sn] [] [ob true] [] := by
  have c1 := eqBase_run b c g o E ps l z hb.bs
  have c2 := eqIntS_run cs hb.hcs
  have c3 := eqJobS_run 82 js hb.hjs
  have c4 := eqQueueS_run 78 112 ts hb.hts hb.hts'
  have c5 := eqEvS_run 138 ev hb.hev
  refine RunT.of_vc gOk Tryz.func14 rfl rfl (Nat.le_of_ble_eq_true rfl) (by repeat' (first | exact trivial | exact ⟨_, rfl, Nat.le_refl _⟩ | exact Nat.le_of_ble_eq_true rfl | refine And.intro ?_ ?_)) (Nat.le_of_ble_eq_true rfl) rfl (fun F hE => ?_)
  repeat' (first | exact trivial | refine BS.a (fun h => ?_) (fun h => ?_) | refine BS.n ?_ | refine BS.s (fun h => ?_) (fun h => ?_) | refine And.intro ?_ ?_ | exact Need.au | exact OutS.whole rfl rfl | refine OpK.ca c1 hE ?_ | refine OpK.ca c2 hE ?_ | refine OpK.ca c3 hE ?_ | refine OpK.ca c4 hE ?_ | refine OpK.ca c5 hE ?_ | refine ListO.go gOk hE ?_)
  all_goals first | exact absurd rfl h | (simp_all; done) | trace_state
end Go.Proofs.YtnfjpjgmhhmdeaaGreatDoor
end

section
/- Operations, events and jobs are compared. -/
namespace Go.Proofs.YtnfjpjgmhhmdeaaGreatDoor
open Go Go.Tr
set_option maxRecDepth 100000
set_option maxHeartbeats 4000000
set_option linter.unusedVariables false
set_option linter.unusedSimpArgs false
instance dSub8 : DecidableEq (Int × Bool) := @instDecidableEqProd _ _ _ _
instance dSub7 : DecidableEq (Int × Int × Bool) := @instDecidableEqProd _ _ _ dSub8
instance dSub6 : DecidableEq (Int × Int × Int × Bool) := @instDecidableEqProd _ _ _ dSub7
instance dSub5 : DecidableEq (Int × Int × Int × Int × Bool) := @instDecidableEqProd _ _ _ dSub6
instance dSub4 : DecidableEq (Int × Int × Int × Int × Int × Bool) := @instDecidableEqProd _ _ _ dSub5
instance dSub3 : DecidableEq (Int × Int × Int × Int × Int × Int × Bool) := @instDecidableEqProd _ _ _ dSub4
instance dSub2 : DecidableEq (Int × Int × Int × Int × Int × Int × Int × Bool) := @instDecidableEqProd _ _ _ dSub3
instance dSub1 : DecidableEq (Int × Int × Int × Int × Int × Int × Int × Int × Bool) := @instDecidableEqProd _ _ _ dSub2
instance dSub0 : DecidableEq (Int × Int × Int × Int × Int × Int × Int × Int × Int × Bool) := @instDecidableEqProd _ _ _ dSub1
instance dSubT : DecidableEq SubT := dSub0
instance dJob19 : DecidableEq (Int × Int) := @instDecidableEqProd _ _ _ _
instance dJob18 : DecidableEq (Int × Int × Int) := @instDecidableEqProd _ _ _ dJob19
instance dJob17 : DecidableEq (Int × Int × Int × Int) := @instDecidableEqProd _ _ _ dJob18
instance dJob16 : DecidableEq (Bool × Int × Int × Int × Int) := @instDecidableEqProd _ _ _ dJob17
instance dJob15 : DecidableEq (Int × Bool × Int × Int × Int × Int) := @instDecidableEqProd _ _ _ dJob16
instance dJob14 : DecidableEq (Int × Int × Bool × Int × Int × Int × Int) := @instDecidableEqProd _ _ _ dJob15
instance dJob13 : DecidableEq (Int × Int × Int × Bool × Int × Int × Int × Int) := @instDecidableEqProd _ _ _ dJob14
instance dJob12 : DecidableEq (Int × Int × Int × Int × Bool × Int × Int × Int × Int) := @instDecidableEqProd _ _ _ dJob13
instance dJob11 : DecidableEq (Int × Int × Int × Int × Int × Bool × Int × Int × Int × Int) := @instDecidableEqProd _ _ _ dJob12
instance dJob10 : DecidableEq (Int × Int × Int × Int × Int × Int × Bool × Int × Int × Int × Int) := @instDecidableEqProd _ _ _ dJob11
instance dJob9 : DecidableEq (Int × Int × Int × Int × Int × Int × Int × Bool × Int × Int × Int × Int) := @instDecidableEqProd _ _ _ dJob10
instance dJob8 : DecidableEq (Int × Int × Int × Int × Int × Int × Int × Int × Bool × Int × Int × Int × Int) := @instDecidableEqProd _ _ _ dJob9
instance dJob7 : DecidableEq (Int × Int × Int × Int × Int × Int × Int × Int × Int × Bool × Int × Int × Int × Int) := @instDecidableEqProd _ _ _ dJob8
instance dJob6 : DecidableEq (Int × Int × Int × Int × Int × Int × Int × Int × Int × Int × Bool × Int × Int × Int × Int) := @instDecidableEqProd _ _ _ dJob7
instance dJob5 : DecidableEq (Int × Int × Int × Int × Int × Int × Int × Int × Int × Int × Int × Bool × Int × Int × Int × Int) := @instDecidableEqProd _ _ _ dJob6
instance dJob4 : DecidableEq (Int × Int × Int × Int × Int × Int × Int × Int × Int × Int × Int × Int × Bool × Int × Int × Int × Int) := @instDecidableEqProd _ _ _ dJob5
instance dJob3 : DecidableEq (Int × Int × Int × Int × Int × Int × Int × Int × Int × Int × Int × Int × Int × Bool × Int × Int × Int × Int) := @instDecidableEqProd _ _ _ dJob4
instance dJob2 : DecidableEq (Int × Int × Int × Int × Int × Int × Int × Int × Int × Int × Int × Int × Int × Int × Bool × Int × Int × Int × Int) := @instDecidableEqProd _ _ _ dJob3
instance dJob1 : DecidableEq (Int × Int × Int × Int × Int × Int × Int × Int × Int × Int × Int × Int × Int × Int × Int × Bool × Int × Int × Int × Int) := @instDecidableEqProd _ _ _ dJob2
instance dJob0 : DecidableEq (Bool × Int × Int × Int × Int × Int × Int × Int × Int × Int × Int × Int × Int × Int × Int × Int × Bool × Int × Int × Int × Int) := @instDecidableEqProd _ _ _ dJob1
instance dJobT : DecidableEq JobT := dJob0
instance dEv5 : DecidableEq (Int × Int) := @instDecidableEqProd _ _ _ _
instance dEv4 : DecidableEq (Int × Int × Int) := @instDecidableEqProd _ _ _ dEv5
instance dEv3 : DecidableEq (Int × Int × Int × Int) := @instDecidableEqProd _ _ _ dEv4
instance dEv2 : DecidableEq (Int × Int × Int × Int × Int) := @instDecidableEqProd _ _ _ dEv3
instance dEv1 : DecidableEq (Int × Int × Int × Int × Int × Int) := @instDecidableEqProd _ _ _ dEv2
instance dEv0 : DecidableEq (Int × Int × Int × Int × Int × Int × Int) := @instDecidableEqProd _ _ _ dEv1
instance dEvT : DecidableEq EvT := dEv0
abbrev vOp (x : OpT) : List Value := [Value.int .i64 x.1, Value.int .i64 x.2.1, Value.int .i64 x.2.2.1, Value.int .i64 x.2.2.2]
theorem Op_eqD (d : Nat) (p q : OpT) (w : World) : (Op.equalIn (d + 2) 78 (.agg (vOp p).toArray) (.agg (vOp q).toArray)).run Tryz.prog w = .ok (decide (p = q)) w := by
  have u3 := Tryz.underlying3
  obtain ⟨p0, p1, p2, p3⟩ := p
  obtain ⟨q0, q1, q2, q3⟩ := q
  have hS : Tryz.prog.underlying 78 = some (.struct (Tryz.prog.fieldsOf 78)) := by kernel_rfl
  rw [show d + 2 = (d + 1) + 1 from rfl, run_equalIn_agg w (d + 1) 78 _ _ hS (by kernel_rfl)]
  simp only [Program.fieldsOf, Tryz.underlying78]
  go_simp
  by_cases h0 : p0 = q0
  rotate_left
  · simp [h0]
  by_cases h1 : p1 = q1
  rotate_left
  · simp [h0, h1]
  by_cases h2 : p2 = q2
  rotate_left
  · simp [h0, h1, h2]
  by_cases h3 : p3 = q3
  rotate_left
  · simp [h0, h1, h2, h3]
  simp [h0, h1, h2, h3]
theorem Op_eq (p q : OpT) (w : World) : (Op.equalIn 10000 78 (.agg (vOp p).toArray) (.agg (vOp q).toArray)).run Tryz.prog w = .ok (decide (p = q)) w := Op_eqD 9998 p q w
abbrev vSub (x : SubT) : List Value := [Value.int .i64 x.1, Value.int .i64 x.2.1, Value.int .i64 x.2.2.1, Value.int .i64 x.2.2.2.1, Value.int .i64 x.2.2.2.2.1, Value.int .i64 x.2.2.2.2.2.1, Value.int .i64 x.2.2.2.2.2.2.1, Value.int .i64 x.2.2.2.2.2.2.2.1, Value.int .i64 x.2.2.2.2.2.2.2.2.1, Value.bool x.2.2.2.2.2.2.2.2.2]
theorem Sub_eqD (d : Nat) (p q : SubT) (w : World) : (Op.equalIn (d + 2) 80 (.agg (vSub p).toArray) (.agg (vSub q).toArray)).run Tryz.prog w = .ok (decide (p = q)) w := by
  have u3 := Tryz.underlying3
  have u4 := Tryz.underlying4
  obtain ⟨p0, p1, p2, p3, p4, p5, p6, p7, p8, p9⟩ := p
  obtain ⟨q0, q1, q2, q3, q4, q5, q6, q7, q8, q9⟩ := q
  have hS : Tryz.prog.underlying 80 = some (.struct (Tryz.prog.fieldsOf 80)) := by kernel_rfl
  rw [show d + 2 = (d + 1) + 1 from rfl, run_equalIn_agg w (d + 1) 80 _ _ hS (by kernel_rfl)]
  simp only [Program.fieldsOf, Tryz.underlying80]
  go_simp
  by_cases h0 : p0 = q0
  rotate_left
  · simp [h0]
  by_cases h1 : p1 = q1
  rotate_left
  · simp [h0, h1]
  by_cases h2 : p2 = q2
  rotate_left
  · simp [h0, h1, h2]
  by_cases h3 : p3 = q3
  rotate_left
  · simp [h0, h1, h2, h3]
  by_cases h4 : p4 = q4
  rotate_left
  · simp [h0, h1, h2, h3, h4]
  by_cases h5 : p5 = q5
  rotate_left
  · simp [h0, h1, h2, h3, h4, h5]
  by_cases h6 : p6 = q6
  rotate_left
  · simp [h0, h1, h2, h3, h4, h5, h6]
  by_cases h7 : p7 = q7
  rotate_left
  · simp [h0, h1, h2, h3, h4, h5, h6, h7]
  by_cases h8 : p8 = q8
  rotate_left
  · simp [h0, h1, h2, h3, h4, h5, h6, h7, h8]
  by_cases h9 : p9 = q9
  rotate_left
  · simp [h0, h1, h2, h3, h4, h5, h6, h7, h8, h9]
  simp [h0, h1, h2, h3, h4, h5, h6, h7, h8, h9]
theorem Sub_eq (p q : SubT) (w : World) : (Op.equalIn 10000 80 (.agg (vSub p).toArray) (.agg (vSub q).toArray)).run Tryz.prog w = .ok (decide (p = q)) w := Sub_eqD 9998 p q w
abbrev vEv (x : EvT) : List Value := [Value.int .i64 x.1, Value.int .i64 x.2.1, Value.int .i64 x.2.2.1, Value.int .i64 x.2.2.2.1, Value.int .i64 x.2.2.2.2.1, Value.int .i64 x.2.2.2.2.2.1, Value.int .i64 x.2.2.2.2.2.2]
theorem Ev_eqD (d : Nat) (p q : EvT) (w : World) : (Op.equalIn (d + 2) 138 (.agg (vEv p).toArray) (.agg (vEv q).toArray)).run Tryz.prog w = .ok (decide (p = q)) w := by
  have u3 := Tryz.underlying3
  obtain ⟨p0, p1, p2, p3, p4, p5, p6⟩ := p
  obtain ⟨q0, q1, q2, q3, q4, q5, q6⟩ := q
  have hS : Tryz.prog.underlying 138 = some (.struct (Tryz.prog.fieldsOf 138)) := by kernel_rfl
  rw [show d + 2 = (d + 1) + 1 from rfl, run_equalIn_agg w (d + 1) 138 _ _ hS (by kernel_rfl)]
  simp only [Program.fieldsOf, Tryz.underlying138]
  go_simp
  by_cases h0 : p0 = q0
  rotate_left
  · simp [h0]
  by_cases h1 : p1 = q1
  rotate_left
  · simp [h0, h1]
  by_cases h2 : p2 = q2
  rotate_left
  · simp [h0, h1, h2]
  by_cases h3 : p3 = q3
  rotate_left
  · simp [h0, h1, h2, h3]
  by_cases h4 : p4 = q4
  rotate_left
  · simp [h0, h1, h2, h3, h4]
  by_cases h5 : p5 = q5
  rotate_left
  · simp [h0, h1, h2, h3, h4, h5]
  by_cases h6 : p6 = q6
  rotate_left
  · simp [h0, h1, h2, h3, h4, h5, h6]
  simp [h0, h1, h2, h3, h4, h5, h6]
theorem Ev_eq (p q : EvT) (w : World) : (Op.equalIn 10000 138 (.agg (vEv p).toArray) (.agg (vEv q).toArray)).run Tryz.prog w = .ok (decide (p = q)) w := Ev_eqD 9998 p q w
abbrev vJob (x : JobT) : List Value := [Value.bool x.1, Value.int .i64 x.2.1, Value.int .i64 x.2.2.1, Value.int .i64 x.2.2.2.1, Value.int .i64 x.2.2.2.2.1, Value.int .i64 x.2.2.2.2.2.1, Value.int .i64 x.2.2.2.2.2.2.1, Value.int .i64 x.2.2.2.2.2.2.2.1, Value.int .i64 x.2.2.2.2.2.2.2.2.1, Value.int .i64 x.2.2.2.2.2.2.2.2.2.1, Value.int .i64 x.2.2.2.2.2.2.2.2.2.2.1, Value.int .i64 x.2.2.2.2.2.2.2.2.2.2.2.1, Value.int .i64 x.2.2.2.2.2.2.2.2.2.2.2.2.1, Value.int .i64 x.2.2.2.2.2.2.2.2.2.2.2.2.2.1, Value.int .i64 x.2.2.2.2.2.2.2.2.2.2.2.2.2.2.1, Value.int .i64 x.2.2.2.2.2.2.2.2.2.2.2.2.2.2.2.1, Value.bool x.2.2.2.2.2.2.2.2.2.2.2.2.2.2.2.2.1, Value.int .i64 x.2.2.2.2.2.2.2.2.2.2.2.2.2.2.2.2.2.1, Value.int .i64 x.2.2.2.2.2.2.2.2.2.2.2.2.2.2.2.2.2.2.1, Value.int .i64 x.2.2.2.2.2.2.2.2.2.2.2.2.2.2.2.2.2.2.2.1, Value.int .i64 x.2.2.2.2.2.2.2.2.2.2.2.2.2.2.2.2.2.2.2.2]
theorem Job_eq (p q : JobT) (w : World) : (Op.equalIn 10000 82 (.agg (vJob p).toArray) (.agg (vJob q).toArray)).run Tryz.prog w = .ok (decide (p = q)) w := by
  have u3 := Tryz.underlying3
  have u4 := Tryz.underlying4
  obtain ⟨p0, p1, p2, p3, p4, p5, p6, p7, p8, p9, p10, p11, p12, p13, p14, p15, p16, p17, p18, p19, p20⟩ := p
  obtain ⟨q0, q1, q2, q3, q4, q5, q6, q7, q8, q9, q10, q11, q12, q13, q14, q15, q16, q17, q18, q19, q20⟩ := q
  have e1 := Op_eqD 9997 (p1, p2, p3, p4) (q1, q2, q3, q4)
  have e2 := Sub_eqD 9997 (p7, p8, p9, p10, p11, p12, p13, p14, p15, p16) (q7, q8, q9, q10, q11, q12, q13, q14, q15, q16)
  have hS : Tryz.prog.underlying 82 = some (.struct (Tryz.prog.fieldsOf 82)) := by kernel_rfl
  rw [show (10000 : Nat) = 9999 + 1 from rfl, run_equalIn_agg w 9999 82 _ _ hS (by kernel_rfl)]
  simp only [Program.fieldsOf, Tryz.underlying82]
  go_simp
  by_cases h0 : p0 = q0
  rotate_left
  · simp [h0]
  by_cases h1 : p1 = q1
  rotate_left
  · simp [h0, h1]
  by_cases h2 : p2 = q2
  rotate_left
  · simp [h0, h1, h2]
  by_cases h3 : p3 = q3
  rotate_left
  · simp [h0, h1, h2, h3]
  by_cases h4 : p4 = q4
  rotate_left
  · simp [h0, h1, h2, h3, h4]
  by_cases h5 : p5 = q5
  rotate_left
  · simp [h0, h1, h2, h3, h4, h5]
  by_cases h6 : p6 = q6
  rotate_left
  · simp [h0, h1, h2, h3, h4, h5, h6]
  by_cases h7 : p7 = q7
  rotate_left
  · simp [h0, h1, h2, h3, h4, h5, h6, h7]
  by_cases h8 : p8 = q8
  rotate_left
  · simp [h0, h1, h2, h3, h4, h5, h6, h7, h8]
  by_cases h9 : p9 = q9
  rotate_left
  · simp [h0, h1, h2, h3, h4, h5, h6, h7, h8, h9]
  by_cases h10 : p10 = q10
  rotate_left
  · simp [h0, h1, h2, h3, h4, h5, h6, h7, h8, h9, h10]
  by_cases h11 : p11 = q11
  rotate_left
  · simp [h0, h1, h2, h3, h4, h5, h6, h7, h8, h9, h10, h11]
  by_cases h12 : p12 = q12
  rotate_left
  · simp [h0, h1, h2, h3, h4, h5, h6, h7, h8, h9, h10, h11, h12]
  by_cases h13 : p13 = q13
  rotate_left
  · simp [h0, h1, h2, h3, h4, h5, h6, h7, h8, h9, h10, h11, h12, h13]
  by_cases h14 : p14 = q14
  rotate_left
  · simp [h0, h1, h2, h3, h4, h5, h6, h7, h8, h9, h10, h11, h12, h13, h14]
  by_cases h15 : p15 = q15
  rotate_left
  · simp [h0, h1, h2, h3, h4, h5, h6, h7, h8, h9, h10, h11, h12, h13, h14, h15]
  by_cases h16 : p16 = q16
  rotate_left
  · simp [h0, h1, h2, h3, h4, h5, h6, h7, h8, h9, h10, h11, h12, h13, h14, h15, h16]
  by_cases h17 : p17 = q17
  rotate_left
  · simp [h0, h1, h2, h3, h4, h5, h6, h7, h8, h9, h10, h11, h12, h13, h14, h15, h16, h17]
  by_cases h18 : p18 = q18
  rotate_left
  · simp [h0, h1, h2, h3, h4, h5, h6, h7, h8, h9, h10, h11, h12, h13, h14, h15, h16, h17, h18]
  by_cases h19 : p19 = q19
  rotate_left
  · simp [h0, h1, h2, h3, h4, h5, h6, h7, h8, h9, h10, h11, h12, h13, h14, h15, h16, h17, h18, h19]
  by_cases h20 : p20 = q20
  rotate_left
  · simp [h0, h1, h2, h3, h4, h5, h6, h7, h8, h9, h10, h11, h12, h13, h14, h15, h16, h17, h18, h19, h20]
  simp [h0, h1, h2, h3, h4, h5, h6, h7, h8, h9, h10, h11, h12, h13, h14, h15, h16, h17, h18, h19, h20]
end Go.Proofs.YtnfjpjgmhhmdeaaGreatDoor
end

section
/- Operations are checked, over the shelf. -/
namespace Go.Proofs.YtnfjpjgmhhmdeaaGreatDoor
open Go Go.Tr
set_option maxRecDepth 100000
set_option maxHeartbeats 4000000
set_option linter.unusedVariables false
set_option linter.unusedSimpArgs false
theorem l1InT_run (x a b : Int) : RunT Tryz.prog 39 [ti x, ti a, ti b] [] [ob (decide (a ≤ x ∧ x ≤ b))] [] := by
  refine RunT.of_vc gOk Tryz.func39 rfl rfl (Nat.le_of_ble_eq_true rfl) (by repeat' (first | exact trivial | exact ⟨_, rfl, Nat.le_refl _⟩ | exact Nat.le_of_ble_eq_true rfl | refine And.intro ?_ ?_)) (Nat.le_of_ble_eq_true rfl) rfl (fun F hE => ?_)
  repeat' (first | exact trivial | refine BS.a (fun h => ?_) (fun h => ?_) | refine BS.n ?_ | refine BS.s (fun h => ?_) (fun h => ?_) | refine And.intro ?_ ?_ | exact Need.au | exact OutS.whole rfl rfl | refine ListO.go gOk hE ?_)
  all_goals (refine Need.mk ?_; simp [*])
def opOk (x : OpT) : Bool := decide ((0 ≤ x.2.1 ∧ x.2.1 ≤ 1) ∧ ((x.1 = 1 ∧ (0 ≤ x.2.2.1 ∧ x.2.2.1 ≤ 100) ∧ 0 ≤ x.2.2.2 ∧ x.2.2.2 ≤ 65535) ∨ ((x.1 = 2 ∨ x.1 = 3 ∨ x.1 = 7) ∧ x.2.2.1 = 0 ∧ x.2.2.2 = 0) ∨ ((x.1 = 4 ∨ x.1 = 5 ∨ x.1 = 6) ∧ x.2.1 = 0 ∧ x.2.2.1 = 0 ∧ x.2.2.2 = 0)))
theorem celledT_run (x : Int) : RunT Tryz.prog 92 [ti x] [] [ob (decide (x = 1 ∨ x = 2 ∨ x = 3 ∨ x = 7))] [] := by
  refine RunT.of_vc gOk Tryz.func92 rfl rfl (Nat.le_of_ble_eq_true rfl) (by repeat' (first | exact trivial | exact ⟨_, rfl, Nat.le_refl _⟩ | exact Nat.le_of_ble_eq_true rfl | refine And.intro ?_ ?_)) (Nat.le_of_ble_eq_true rfl) rfl (fun F hE => ?_)
  repeat' (first | exact trivial | refine BS.a (fun h => ?_) (fun h => ?_) | refine BS.n ?_ | refine BS.s (fun h => ?_) (fun h => ?_) | refine And.intro ?_ ?_ | exact Need.au | exact OutS.whole rfl rfl | refine ListO.go gOk hE ?_)
  all_goals first | (refine Need.mk ?_; first | rfl | (symm; apply decide_eq_true; omega) | (symm; apply decide_eq_false; omega) | (apply decide_eq_decide.2; omega) | (simp only [beq_iff_eq, Bool.beq_eq_decide_eq] at *; apply decide_eq_decide.2; omega) | (simp; omega)) | (refine Need.mk ?_; simp_all)
theorem cellOkT_run (x : Int) : RunT Tryz.prog 162 [ti x] [] [ob (decide (0 ≤ x ∧ x < 2))] [] := by
  refine RunT.of_vc gOk Tryz.func162 rfl rfl (Nat.le_of_ble_eq_true rfl) (by repeat' (first | exact trivial | exact ⟨_, rfl, Nat.le_refl _⟩ | exact Nat.le_of_ble_eq_true rfl | refine And.intro ?_ ?_)) (Nat.le_of_ble_eq_true rfl) rfl (fun F hE => ?_)
  repeat' (first | exact trivial | refine BS.a (fun h => ?_) (fun h => ?_) | refine BS.n ?_ | refine BS.s (fun h => ?_) (fun h => ?_) | refine And.intro ?_ ?_ | exact Need.au | exact OutS.whole rfl rfl | refine ListO.go gOk hE ?_)
  all_goals (refine Need.mk ?_; first | rfl | (symm; apply decide_eq_true; omega) | (symm; apply decide_eq_false; omega) | (apply decide_eq_decide.2; omega) | (simp only [beq_iff_eq, Bool.beq_eq_decide_eq] at *; apply decide_eq_decide.2; omega) | (simp; omega))
theorem OpOkS_run (x : OpT) : RunT Tryz.prog 41 [aOp x] [] [ob (opOk x)] [] := by
  unfold opOk
  refine RunT.of_vc gOk Tryz.func41 rfl rfl (Nat.le_of_ble_eq_true rfl) (by repeat' (first | exact trivial | exact ⟨_, rfl, Nat.le_refl _⟩ | exact Nat.le_of_ble_eq_true rfl | refine And.intro ?_ ?_)) (Nat.le_of_ble_eq_true rfl) rfl (fun F hE => ?_)
  repeat' (first | exact trivial | refine BS.a (fun h => ?_) (fun h => ?_) | refine BS.n ?_ | refine BS.s (fun h => ?_) (fun h => ?_) | refine And.intro ?_ ?_ | exact Need.au | exact OutS.whole rfl rfl | (refine OpK.call (l1InT_run ?_ ?_ ?_) rfl rfl rfl rfl hE ?_ rfl rfl ?_; rotate_left 3; focus ((repeat' (first | exact PsA.lit _ | exact PsA.ref rfl rfl | constructor)); all_goals (fail "ps"))) | (refine OpK.call (celledT_run ?_) rfl rfl rfl rfl hE ?_ rfl rfl ?_; rotate_left 1; focus ((repeat' (first | exact PsA.lit _ | exact PsA.ref rfl rfl | constructor)); all_goals (fail "ps"))) | refine ListO.go gOk hE ?_)
  all_goals first | (refine Need.mk ?_; first | rfl | (symm; apply decide_eq_true; omega) | (symm; apply decide_eq_false; omega) | (apply decide_eq_decide.2; omega) | (simp only [beq_iff_eq, Bool.beq_eq_decide_eq] at *; apply decide_eq_decide.2; omega) | (simp; omega)) | (refine Need.mk ?_; simp_all; done) | (refine Need.mk ?_; simp_all; omega)
theorem OpOkI_run (x : OpT) : RunT Tryz.prog 100 [aOp x] [] [ob (opOk x)] [] := by
  have q : ∀ a b c d : Int, decide (x = (a, b, c, d)) = decide (x.1 = a ∧ x.2.1 = b ∧ x.2.2.1 = c ∧ x.2.2.2 = d) := by
    intro a b c d; obtain ⟨x1, x2, x3, x4⟩ := x; simp
  unfold opOk
  refine RunT.of_vc gOk Tryz.func100 rfl rfl (Nat.le_of_ble_eq_true rfl) (by repeat' (first | exact trivial | exact ⟨_, rfl, Nat.le_refl _⟩ | exact Nat.le_of_ble_eq_true rfl | refine And.intro ?_ ?_)) (Nat.le_of_ble_eq_true rfl) rfl (fun F hE => ?_)
  repeat' (first | exact trivial | refine BS.a (fun h => ?_) (fun h => ?_) | refine BS.n ?_ | refine BS.s (fun h => ?_) (fun h => ?_) | refine And.intro ?_ ?_ | exact Need.au | exact OutS.whole rfl rfl | (refine OpK.call (cellOkT_run ?_) rfl rfl rfl rfl hE ?_ rfl rfl ?_; rotate_left 1; focus ((repeat' (first | exact PsA.lit _ | exact PsA.ref rfl rfl | constructor)); all_goals (fail "ps"))) | (refine PK.eqA (vOp x) (vOp (x.1, x.2.1, 0, 0)) rfl rfl rfl rfl rfl (by kernel_rfl) (Op_eq _ _) ?_) | (refine PK.eqA (vOp x) (vOp (x.1, 0, 0, 0)) rfl rfl rfl rfl rfl (by kernel_rfl) (Op_eq _ _) ?_) | refine ListO.go gOk hE ?_)
  all_goals first | (refine Need.mk ?_; first | rfl | (symm; apply decide_eq_true; omega) | (symm; apply decide_eq_false; omega) | (apply decide_eq_decide.2; omega) | (simp only [beq_iff_eq, Bool.beq_eq_decide_eq] at *; apply decide_eq_decide.2; omega) | (simp; omega)) | (refine Need.mk ?_; rw [q]; apply decide_eq_decide.2; omega) | (refine Need.mk ?_; simp_all; done) | (refine Need.mk ?_; simp_all; omega)
end Go.Proofs.YtnfjpjgmhhmdeaaGreatDoor
end

section
namespace Go.Proofs.YtnfjpjgmhhmdeaaGreatDoor
open Go Go.Tr
set_option maxRecDepth 100000
set_option maxHeartbeats 4000000
set_option linter.unusedVariables false
set_option linter.unusedSimpArgs false
theorem l1InB_run (x a b : Int) : RunT Tryz.prog 39 [ti x, ti a, ti b] [] [ob (decide (a ≤ x ∧ x ≤ b))] [] := by
  refine RunT.of_vc gOk Tryz.func39 rfl rfl (Nat.le_of_ble_eq_true rfl) (by repeat' (first | exact trivial | exact ⟨_, rfl, Nat.le_refl _⟩ | exact Nat.le_of_ble_eq_true rfl | refine And.intro ?_ ?_)) (Nat.le_of_ble_eq_true rfl) rfl (fun F hE => ?_)
  repeat' (first | exact trivial | refine BS.a (fun h => ?_) (fun h => ?_) | refine BS.n ?_ | refine BS.s (fun h => ?_) (fun h => ?_) | refine And.intro ?_ ?_ | exact Need.au | exact OutS.whole rfl rfl | refine ListO.go gOk hE ?_)
  all_goals (refine Need.mk ?_; simp [*])
theorem slotOkB_run (x : Int) : RunT Tryz.prog 128 [ti x] [] [ob (decide (0 ≤ x ∧ x < 24))] [] := by
  refine RunT.of_vc gOk Tryz.func128 rfl rfl (Nat.le_of_ble_eq_true rfl) (by repeat' (first | exact trivial | exact ⟨_, rfl, Nat.le_refl _⟩ | exact Nat.le_of_ble_eq_true rfl | refine And.intro ?_ ?_)) (Nat.le_of_ble_eq_true rfl) rfl (fun F hE => ?_)
  repeat' (first | exact trivial | refine BS.a (fun h => ?_) (fun h => ?_) | refine BS.n ?_ | refine BS.s (fun h => ?_) (fun h => ?_) | refine And.intro ?_ ?_ | exact Need.au | exact OutS.whole rfl rfl | refine ListO.go gOk hE ?_)
  all_goals (refine Need.mk ?_; first | rfl | (symm; apply decide_eq_true; omega) | (symm; apply decide_eq_false; omega) | (apply decide_eq_decide.2; omega))
end Go.Proofs.YtnfjpjgmhhmdeaaGreatDoor
end

section
/- Handles. -/
namespace Go.Proofs.YtnfjpjgmhhmdeaaGreatDoor
open Go Go.Tr
set_option maxRecDepth 100000
set_option maxHeartbeats 4000000
set_option linter.unusedVariables false
set_option linter.unusedSimpArgs false
def hOk (h : Int) : Bool := decide (32 ≤ h ∧ h ≤ 223 ∧ h % 32 < 24)
def hSlot (h : Int) : Int := if hOk h then h % 32 else -1
def hGen (h : Int) : Int := if hOk h then h / 32 else 0
theorem hOk_iff {h : Int} : hOk h = true ↔ 32 ≤ h ∧ h ≤ 223 ∧ h % 32 < 24 := by unfold hOk; exact decide_eq_true_iff
theorem sHandleOk_run (x : Int) : RunT Tryz.prog 91 [ti x] [] [ob (hOk x)] [] := by
  unfold hOk
  refine RunT.of_vc gOk Tryz.func91 rfl rfl (Nat.le_of_ble_eq_true rfl) (by repeat' (first | exact trivial | exact ⟨_, rfl, Nat.le_refl _⟩ | exact Nat.le_of_ble_eq_true rfl | refine And.intro ?_ ?_)) (Nat.le_of_ble_eq_true rfl) rfl (fun F hE => ?_)
  repeat' (first | exact trivial | refine BS.a (fun h => ?_) (fun h => ?_) | refine BS.n ?_ | refine BS.s (fun h => ?_) (fun h => ?_) | refine And.intro ?_ ?_ | exact Need.au | exact OutS.whole rfl rfl | refine ListO.go gOk hE ?_)
  refine OpK.call (l1InB_run _ _ _) rfl rfl rfl rfl hE (by repeat' (first | exact PsA.lit _ | exact PsA.ref rfl rfl | constructor)) rfl rfl ?_
  repeat' (first | exact trivial | refine BS.a (fun h => ?_) (fun h => ?_) | refine BS.n ?_ | refine BS.s (fun h => ?_) (fun h => ?_) | refine And.intro ?_ ?_ | exact Need.au | exact OutS.whole rfl rfl | refine ListO.go gOk hE ?_)
  all_goals first
    | (refine Need.mk ?_; rw [Int.tmod_eq_emod_of_nonneg (by omega)]; apply decide_eq_decide.2; omega)
    | (refine Need.mk ?_; first | rfl | (symm; apply decide_eq_true; omega) | (symm; apply decide_eq_false; omega) | (apply decide_eq_decide.2; omega) | (simp only [beq_iff_eq, Bool.beq_eq_decide_eq] at *; apply decide_eq_decide.2; omega) | (simp; omega))
theorem genOk_run (x : Int) : RunT Tryz.prog 244 [ti x] [] [ob (decide (1 ≤ x ∧ x ≤ 6))] [] := by
  refine RunT.of_vc gOk Tryz.func244 rfl rfl (Nat.le_of_ble_eq_true rfl) (by repeat' (first | exact trivial | exact ⟨_, rfl, Nat.le_refl _⟩ | exact Nat.le_of_ble_eq_true rfl | refine And.intro ?_ ?_)) (Nat.le_of_ble_eq_true rfl) rfl (fun F hE => ?_)
  repeat' (first | exact trivial | refine BS.a (fun h => ?_) (fun h => ?_) | refine BS.n ?_ | refine BS.s (fun h => ?_) (fun h => ?_) | refine And.intro ?_ ?_ | exact Need.au | exact OutS.whole rfl rfl | refine ListO.go gOk hE ?_)
  all_goals (refine Need.mk ?_; first | rfl | (symm; apply decide_eq_true; omega) | (symm; apply decide_eq_false; omega) | (apply decide_eq_decide.2; omega) | (simp only [beq_iff_eq, Bool.beq_eq_decide_eq] at *; apply decide_eq_decide.2; omega) | (simp; omega))
theorem iHandleOf_run (s g : Int) : RunT Tryz.prog 192 [ti s, ti g] [] [oi (if (0 ≤ s ∧ s < 24) ∧ 1 ≤ g ∧ g ≤ 6 then g * 32 + s else 0)] [] := by
  refine RunT.of_vc gOk Tryz.func192 rfl rfl (Nat.le_of_ble_eq_true rfl) (by repeat' (first | exact trivial | exact ⟨_, rfl, Nat.le_refl _⟩ | exact Nat.le_of_ble_eq_true rfl | refine And.intro ?_ ?_)) (Nat.le_of_ble_eq_true rfl) rfl (fun F hE => ?_)
  repeat' (first | exact trivial | refine BS.a (fun h => ?_) (fun h => ?_) | refine BS.n ?_ | refine BS.s (fun h => ?_) (fun h => ?_) | refine And.intro ?_ ?_ | exact Need.au | exact OutS.whole rfl rfl | (refine OpK.call (slotOkB_run ?_) rfl rfl rfl rfl hE ?_ rfl rfl ?_; rotate_left 1; focus ((repeat' (first | exact PsA.lit _ | exact PsA.ref rfl rfl | constructor)); all_goals (fail "ps"))) | (refine OpK.call (genOk_run ?_) rfl rfl rfl rfl hE ?_ rfl rfl ?_; rotate_left 1; focus ((repeat' (first | exact PsA.lit _ | exact PsA.ref rfl rfl | constructor)); all_goals (fail "ps"))) | refine ListO.go gOk hE ?_)
  all_goals (refine Need.mk ?_; first | omega | (rw [if_pos (by omega)]) | (rw [if_neg (by omega)]))
theorem iHandleOk_run (x : Int) (hm : x ≤ 9223372036854775807) : RunT Tryz.prog 131 [ti x] [] [ob (hOk x)] [] := by
  unfold hOk
  refine RunT.of_vc gOk Tryz.func131 rfl rfl (Nat.le_of_ble_eq_true rfl) (by repeat' (first | exact trivial | exact ⟨_, rfl, Nat.le_refl _⟩ | exact Nat.le_of_ble_eq_true rfl | refine And.intro ?_ ?_)) (Nat.le_of_ble_eq_true rfl) rfl (fun F hE => ?_)
  repeat' (first | exact trivial | refine BS.a (fun h => ?_) (fun h => ?_) | refine BS.n ?_ | refine BS.s (fun h => ?_) (fun h => ?_) | refine And.intro ?_ ?_ | exact Need.au | exact OutS.whole rfl rfl | (refine OpK.call (iHandleOf_run ?_ ?_) rfl rfl rfl rfl hE ?_ rfl rfl ?_; rotate_left 2; focus ((repeat' (first | exact PsA.lit _ | exact PsA.ref rfl rfl | constructor)); all_goals (fail "ps"))) | refine ListO.go gOk hE ?_)
  all_goals first
    | (refine Need.mk ?_; rw [Int.tmod_eq_emod_of_nonneg (by omega), Int.tdiv_eq_ediv_of_nonneg (by omega), wr_in (by omega)]; split <;> (rw [Bool.beq_eq_decide_eq]; apply decide_eq_decide.2; omega))
    | (refine Need.mk ?_; first | rfl | (symm; apply decide_eq_true; omega) | (symm; apply decide_eq_false; omega) | (apply decide_eq_decide.2; omega) | (simp only [beq_iff_eq, Bool.beq_eq_decide_eq] at *; apply decide_eq_decide.2; omega) | (simp; omega))
theorem sHandleSlot_run (x : Int) : RunT Tryz.prog 68 [ti x] [] [oi (hSlot x)] [] := by
  have c1 := sHandleOk_run x
  unfold hSlot
  cases hk : hOk x with
  | true =>
    have := hOk_iff.1 hk
    rw [hk] at c1
    refine RunT.of_vc gOk Tryz.func68 rfl rfl (Nat.le_of_ble_eq_true rfl) (by repeat' (first | exact trivial | exact ⟨_, rfl, Nat.le_refl _⟩ | exact Nat.le_of_ble_eq_true rfl | refine And.intro ?_ ?_)) (Nat.le_of_ble_eq_true rfl) rfl (fun F hE => ?_)
    repeat' (first | exact trivial | refine BS.a (fun h => ?_) (fun h => ?_) | refine BS.n ?_ | refine BS.s (fun h => ?_) (fun h => ?_) | refine And.intro ?_ ?_ | exact Need.au | exact OutS.whole rfl rfl | refine OpK.ca c1 hE ?_ | refine ListO.go gOk hE ?_)
    all_goals (refine Need.mk ?_; rw [Int.tmod_eq_emod_of_nonneg (by omega)]; rfl)
  | false =>
    rw [hk] at c1
    refine RunT.of_vc gOk Tryz.func68 rfl rfl (Nat.le_of_ble_eq_true rfl) (by repeat' (first | exact trivial | exact ⟨_, rfl, Nat.le_refl _⟩ | exact Nat.le_of_ble_eq_true rfl | refine And.intro ?_ ?_)) (Nat.le_of_ble_eq_true rfl) rfl (fun F hE => ?_)
    repeat' (first | exact trivial | refine BS.a (fun h => ?_) (fun h => ?_) | refine BS.n ?_ | refine BS.s (fun h => ?_) (fun h => ?_) | refine And.intro ?_ ?_ | exact Need.au | exact OutS.whole rfl rfl | refine OpK.ca c1 hE ?_ | refine ListO.go gOk hE ?_)
    all_goals exact Need.mk rfl
theorem iHandleSlot_run (x : Int) (hm : x ≤ 9223372036854775807) : RunT Tryz.prog 71 [ti x] [] [oi (hSlot x)] [] := by
  have c1 := iHandleOk_run x hm
  unfold hSlot
  cases hk : hOk x with
  | true =>
    have := hOk_iff.1 hk
    rw [hk] at c1
    refine RunT.of_vc gOk Tryz.func71 rfl rfl (Nat.le_of_ble_eq_true rfl) (by repeat' (first | exact trivial | exact ⟨_, rfl, Nat.le_refl _⟩ | exact Nat.le_of_ble_eq_true rfl | refine And.intro ?_ ?_)) (Nat.le_of_ble_eq_true rfl) rfl (fun F hE => ?_)
    repeat' (first | exact trivial | refine BS.a (fun h => ?_) (fun h => ?_) | refine BS.n ?_ | refine BS.s (fun h => ?_) (fun h => ?_) | refine And.intro ?_ ?_ | exact Need.au | exact OutS.whole rfl rfl | refine OpK.ca c1 hE ?_ | refine ListO.go gOk hE ?_)
    all_goals (refine Need.mk ?_; rw [Int.tmod_eq_emod_of_nonneg (by omega)]; rfl)
  | false =>
    rw [hk] at c1
    refine RunT.of_vc gOk Tryz.func71 rfl rfl (Nat.le_of_ble_eq_true rfl) (by repeat' (first | exact trivial | exact ⟨_, rfl, Nat.le_refl _⟩ | exact Nat.le_of_ble_eq_true rfl | refine And.intro ?_ ?_)) (Nat.le_of_ble_eq_true rfl) rfl (fun F hE => ?_)
    repeat' (first | exact trivial | refine BS.a (fun h => ?_) (fun h => ?_) | refine BS.n ?_ | refine BS.s (fun h => ?_) (fun h => ?_) | refine And.intro ?_ ?_ | exact Need.au | exact OutS.whole rfl rfl | refine OpK.ca c1 hE ?_ | refine ListO.go gOk hE ?_)
    all_goals exact Need.mk rfl
end Go.Proofs.YtnfjpjgmhhmdeaaGreatDoor
end

section
namespace Go.Proofs.YtnfjpjgmhhmdeaaGreatDoor
open Go Go.Tr
set_option maxRecDepth 100000
set_option maxHeartbeats 4000000
set_option linter.unusedVariables false
set_option linter.unusedSimpArgs false
/-- All of the first n have the property. -/
noncomputable def allP (n : Nat) (p : Nat → Prop) : Bool := @decide (∀ j, j < n → p j) (Classical.propDecidable _)
theorem allP_false {n i : Nat} {p : Nat → Prop} (hi : i < n) (h : ¬ p i) : allP n p = false := by
  unfold allP; exact @decide_eq_false _ (Classical.propDecidable _) (fun k => h (k i hi))
theorem allP_true {n : Nat} {p : Nat → Prop} (h : ∀ j, j < n → p j) : allP n p = true := by
  unfold allP; exact @decide_eq_true _ (Classical.propDecidable _) h
end Go.Proofs.YtnfjpjgmhhmdeaaGreatDoor
end

section
/- Hazard pointers: whether they are right. -/
namespace Go.Proofs.YtnfjpjgmhhmdeaaGreatDoor
open Go Go.Tr
set_option maxRecDepth 100000
set_option maxHeartbeats 4000000
set_option linter.unusedVariables false
set_option linter.unusedSimpArgs false
abbrev hzQ (z : List Int) (j : Nat) : Prop := z.getD j 0 = 0 ∨ hOk (z.getD j 0) = true
noncomputable def hzA (z : List Int) : Bool := allP z.length (hzQ z)
noncomputable def hzB (z : List Int) : Bool := decide (z.length = 3) && hzA z
theorem handleOrNone_run (x : Int) (hm : x ≤ 9223372036854775807) : RunT Tryz.prog 99 [ti x] [] [ob (decide (x = 0) || hOk x)] [] := by
  have c1 := iHandleOk_run x hm
  cases hk : hOk x
  all_goals (rw [hk] at c1)
  all_goals (refine RunT.of_vc gOk Tryz.func99 rfl rfl (Nat.le_of_ble_eq_true rfl) (by repeat' (first | exact trivial | exact ⟨_, rfl, Nat.le_refl _⟩ | exact Nat.le_of_ble_eq_true rfl | refine And.intro ?_ ?_)) (Nat.le_of_ble_eq_true rfl) rfl (fun F hE => ?_))
  all_goals (repeat' (first | exact trivial | refine BS.a (fun h => ?_) (fun h => ?_) | refine BS.n ?_ | refine BS.s (fun h => ?_) (fun h => ?_) | refine And.intro ?_ ?_ | exact Need.au | exact OutS.whole rfl rfl | refine OpK.ca c1 hE ?_ | refine ListO.go gOk hE ?_))
  all_goals (refine Need.mk ?_; simp_all)
theorem hzNone_run (z : List Int) (hn : z.length ≤ 4000000) (hm : ∀ i, z.getD i 0 ≤ 9223372036854775807) : RunT Tryz.prog 47 [.one (.c (tI z))] [] [ob (hzA z)] [] := by
  refine RunT.of_vc gOk Tryz.func47 rfl rfl (Nat.le_of_ble_eq_true rfl) (by repeat' (first | exact trivial | exact ⟨_, rfl, Nat.le_refl _⟩ | exact Nat.le_of_ble_eq_true rfl | refine And.intro ?_ ?_)) (Nat.le_of_ble_eq_true rfl) rfl (fun F hE => ?_)
  repeat' (first | exact trivial | refine BS.a (fun h => ?_) (fun h => ?_) | refine BS.n ?_ | refine BS.s (fun h => ?_) (fun h => ?_) | refine And.intro ?_ ?_ | exact Need.au | exact OutS.whole rfl rfl | refine ListO.go gOk hE ?_)
  refine CodeK.loop gOk hE (fun i : Nat => ⟨[(5, vr 1000000 z.length), (6, vi z.length), (7, vi i)], [(1000000, rI .fro false z)]⟩) (fun i => i ≤ z.length ∧ ∀ j, j < i → hzQ z j) (fun i => z.length - i) 0 (by refine leT.of ?_ ?_ rfl <;> repeat' (first | exact trivial | refine And.intro rfl ?_ | refine And.intro (by simp) ?_)) ⟨Nat.zero_le _, fun j hj => absurd hj (Nat.not_lt_zero _)⟩ ?_
  rintro i ⟨hi, hs⟩
  have c1 := handleOrNone_run (z.getD i 0) (hm i)
  by_cases hp : hzQ z i
  · have hb : (decide (z.getD i 0 = 0) || hOk (z.getD i 0)) = true := by rw [Bool.or_eq_true, decide_eq_true_eq]; exact hp
    rw [hb] at c1
    repeat' (first | exact trivial | refine BS.a (fun h => ?_) (fun h => ?_) | refine BS.n ?_ | refine BS.s (fun h => ?_) (fun h => ?_) | refine And.intro ?_ ?_ | exact Need.au | exact OutS.whole rfl rfl | refine OpK.ca c1 hE ?_ | refine ListO.go gOk hE ?_)
    all_goals (try simp only [adN_zero] at *)
    all_goals first
      | (exfalso; omega)
      | (refine Need.mk ?_; omega)
      | (refine Need.mk ?_; exact (allP_true (fun j hj => hs j (by omega))).symm)
      | (refine ⟨i + 1, (by refine leT.of ?_ ?_ rfl <;> repeat' (first | exact trivial | refine And.intro rfl ?_ | refine And.intro (by simp) ?_)), ⟨by omega, fun j hj => (Nat.lt_or_ge j i).elim (hs j) (fun h9 => (show j = i by omega) ▸ hp)⟩, by first | omega | (dsimp only; omega)⟩)
      | (exfalso; simp_all; done)
      | trace_state
  · have hb : (decide (z.getD i 0 = 0) || hOk (z.getD i 0)) = false := by
      cases hq : hOk (z.getD i 0) <;> by_cases h9 : z.getD i 0 = 0 <;> simp_all [hzQ]
    rw [hb] at c1
    repeat' (first | exact trivial | refine BS.a (fun h => ?_) (fun h => ?_) | refine BS.n ?_ | refine BS.s (fun h => ?_) (fun h => ?_) | refine And.intro ?_ ?_ | exact Need.au | exact OutS.whole rfl rfl | refine OpK.ca c1 hE ?_ | refine ListO.go gOk hE ?_)
    all_goals (try simp only [adN_zero] at *)
    all_goals first
      | (exfalso; omega)
      | (refine Need.mk ?_; omega)
      | (refine Need.mk ?_; exact (allP_false (i := i) (by omega) hp).symm)
      | (refine Need.mk ?_; exact (allP_true (fun j hj => hs j (by omega))).symm)
      | (exfalso; simp_all; done)
      | trace_state
theorem HazOkI_run (z : List Int) (hn : z.length ≤ 4000000) (hm : ∀ i, z.getD i 0 ≤ 9223372036854775807) : RunT Tryz.prog 104 [.one (.c (tI z))] [] [ob (hzB z)] [] := by
  have c1 := hzNone_run z hn hm
  unfold hzB
  generalize hzA z = bb at *
  refine RunT.of_vc gOk Tryz.func104 rfl rfl (Nat.le_of_ble_eq_true rfl) (by repeat' (first | exact trivial | exact ⟨_, rfl, Nat.le_refl _⟩ | exact Nat.le_of_ble_eq_true rfl | refine And.intro ?_ ?_)) (Nat.le_of_ble_eq_true rfl) rfl (fun F hE => ?_)
  repeat' (first | exact trivial | refine BS.a (fun h => ?_) (fun h => ?_) | refine BS.n ?_ | refine BS.s (fun h => ?_) (fun h => ?_) | refine And.intro ?_ ?_ | exact Need.au | exact OutS.whole rfl rfl | refine OpK.ca c1 hE ?_ | refine ListO.go gOk hE ?_)
  all_goals (refine Need.mk ?_; first | (rw [decide_eq_true (by omega)]; rfl) | (rw [decide_eq_false (by omega)]; rfl) | (simp_all; done))
theorem HazOkS_run (z : List Int) (hn : z.length ≤ 4000000) : RunT Tryz.prog 89 [.one (.c (tI z))] [] [ob (hzB z)] [] := by
  refine RunT.of_vc gOk Tryz.func89 rfl rfl (Nat.le_of_ble_eq_true rfl) (by repeat' (first | exact trivial | exact ⟨_, rfl, Nat.le_refl _⟩ | exact Nat.le_of_ble_eq_true rfl | refine And.intro ?_ ?_)) (Nat.le_of_ble_eq_true rfl) rfl (fun F hE => ?_)
  repeat' (first | exact trivial | refine BS.a (fun h => ?_) (fun h => ?_) | refine BS.n ?_ | refine BS.s (fun h => ?_) (fun h => ?_) | refine And.intro ?_ ?_ | exact Need.au | exact OutS.whole rfl rfl | refine ListO.go gOk hE ?_)
  refine CodeK.loop gOk hE (fun i : Nat => ⟨[(0, vr 1000000 z.length), (3, vi i)], [(1000000, rI .fro false z)]⟩) (fun i => i ≤ z.length ∧ ∀ j, j < i → hzQ z j) (fun i => z.length - i) 0 (by refine leT.of ?_ ?_ rfl <;> repeat' (first | exact trivial | refine And.intro rfl ?_ | refine And.intro (by simp) ?_)) ⟨Nat.zero_le _, fun j hj => absurd hj (Nat.not_lt_zero _)⟩ ?_
  rintro i ⟨hi, hs⟩
  have c1 := sHandleOk_run (z.getD i 0)
  by_cases hp : hzQ z i
  · cases hk : hOk (z.getD i 0)
    all_goals (rw [hk] at c1)
    all_goals (repeat' (first | exact trivial | refine BS.a (fun h => ?_) (fun h => ?_) | refine BS.n ?_ | refine BS.s (fun h => ?_) (fun h => ?_) | refine And.intro ?_ ?_ | exact Need.au | exact OutS.whole rfl rfl | refine OpK.ca c1 hE ?_ | refine ListO.go gOk hE ?_))
    all_goals (try simp only [adN_zero] at *)
    all_goals first
      | (exfalso; omega)
      | (refine Need.mk ?_; omega)
      | (refine Need.mk ?_; unfold hzB hzA; rw [allP_true (fun j hj => hs j (by omega)), Bool.and_true, Bool.beq_eq_decide_eq]; apply decide_eq_decide.2; omega)
      | (refine ⟨i + 1, (by refine leT.of ?_ ?_ rfl <;> repeat' (first | exact trivial | refine And.intro rfl ?_ | refine And.intro (by simp) ?_)), ⟨by omega, fun j hj => (Nat.lt_or_ge j i).elim (hs j) (fun h9 => (show j = i by omega) ▸ hp)⟩, by first | omega | (dsimp only; omega)⟩)
      | (exfalso; rcases hp with h | h <;> simp_all; done)
      | trace_state
  · have hk : hOk (z.getD i 0) = false := by cases hk : hOk (z.getD i 0); rfl; exact absurd (Or.inr hk) hp
    have hz : z.getD i 0 ≠ 0 := fun h => hp (.inl h)
    rw [hk] at c1
    repeat' (first | exact trivial | refine BS.a (fun h => ?_) (fun h => ?_) | refine BS.n ?_ | refine BS.s (fun h => ?_) (fun h => ?_) | refine And.intro ?_ ?_ | exact Need.au | exact OutS.whole rfl rfl | refine OpK.ca c1 hE ?_ | refine ListO.go gOk hE ?_)
    all_goals (try simp only [adN_zero] at *)
    all_goals first
      | (exfalso; omega)
      | (refine Need.mk ?_; omega)
      | (refine Need.mk ?_; unfold hzB hzA; rw [allP_false (i := i) (by omega) hp]; simp; done)
      | (refine Need.mk ?_; unfold hzB hzA; rw [allP_true (fun j hj => hs j (by omega)), Bool.and_true, Bool.beq_eq_decide_eq]; apply decide_eq_decide.2; omega)
      | (exfalso; simp_all; done)
      | trace_state
end Go.Proofs.YtnfjpjgmhhmdeaaGreatDoor
end

section
/- Jobs are checked. -/
namespace Go.Proofs.YtnfjpjgmhhmdeaaGreatDoor
open Go Go.Tr
set_option maxRecDepth 100000
set_option maxHeartbeats 4000000
set_option linter.unusedVariables false
set_option linter.unusedSimpArgs false
abbrev opJ (x : JobT) : OpT := (x.2.1, x.2.2.1, x.2.2.2.1, x.2.2.2.2.1)
abbrev hJ (x : JobT) : Int := x.2.2.2.2.2.2.2.2.2.2.2.2.2.2.2.2.2.1
abbrev oJ (x : JobT) : Int := x.2.2.2.2.2.2.2.2.2.2.2.2.2.2.2.2.2.2.1
def sm (x : Int) : Bool := decide (x = 0) || hOk x
def jbB (x : JobT) : Bool := bif x.1 then opOk (opJ x) && (sm (hJ x) && sm (oJ x)) else decide (x = zJob)
theorem sm_z : sm 0 = true := rfl
theorem jb_t {x : JobT} (h : x.1 = true) (h1 : opOk (opJ x) = true) (h2 : sm (hJ x) = true) (h3 : sm (oJ x) = true) : jbB x = true := by unfold jbB; rw [h, h1, h2, h3]; rfl
theorem jb_f {x : JobT} (h : x.1 = false) (h1 : x = zJob) : jbB x = true := by unfold jbB; rw [h]; exact decide_eq_true h1
theorem jb_op {x : JobT} (h : x.1 = true) (h1 : opOk (opJ x) = false) : jbB x = false := by unfold jbB; rw [h, h1]; rfl
theorem jb_z {x : JobT} (h : x.1 = false) (h1 : ¬ x = zJob) : jbB x = false := by unfold jbB; rw [h]; exact decide_eq_false h1
theorem jb_h {x : JobT} (h1 : sm (hJ x) = false) : jbB x = false := by
  unfold jbB; rw [h1]
  cases hb : x.1
  · refine decide_eq_false fun e => ?_
    rw [e] at h1; cases h1
  · simp
theorem jb_o {x : JobT} (h1 : sm (oJ x) = false) : jbB x = false := by
  unfold jbB; rw [h1]
  cases hb : x.1
  · refine decide_eq_false fun e => ?_
    rw [e] at h1; cases h1
  · simp
theorem smS_run (x : Int) : RunT Tryz.prog 40 [ti x] [] [ob (sm x)] [] := by
  have c1 := sHandleOk_run x
  unfold sm
  cases hk : hOk x
  all_goals (rw [hk] at c1)
  all_goals (refine RunT.of_vc gOk Tryz.func40 rfl rfl (Nat.le_of_ble_eq_true rfl) (by repeat' (first | exact trivial | exact ⟨_, rfl, Nat.le_refl _⟩ | exact Nat.le_of_ble_eq_true rfl | refine And.intro ?_ ?_)) (Nat.le_of_ble_eq_true rfl) rfl (fun F hE => ?_))
  all_goals (repeat' (first | exact trivial | refine BS.a (fun h => ?_) (fun h => ?_) | refine BS.n ?_ | refine BS.s (fun h => ?_) (fun h => ?_) | refine And.intro ?_ ?_ | exact Need.au | exact OutS.whole rfl rfl | refine OpK.ca c1 hE ?_ | refine ListO.go gOk hE ?_))
  all_goals (refine Need.mk ?_; simp_all)
theorem smI_run (x : Int) (hm : x ≤ 9223372036854775807) : RunT Tryz.prog 99 [ti x] [] [ob (sm x)] [] := handleOrNone_run x hm
theorem jobOkX (x0 : Bool) (x1 : Int) (x2 : Int) (x3 : Int) (x4 : Int) (x5 : Int) (x6 : Int) (x7 : Int) (x8 : Int) (x9 : Int) (x10 : Int) (x11 : Int) (x12 : Int) (x13 : Int) (x14 : Int) (x15 : Int) (x16 : Bool) (x17 : Int) (x18 : Int) (x19 : Int) (x20 : Int) (h1 : x17 ≤ 9223372036854775807) (h2 : x18 ≤ 9223372036854775807) : RunT Tryz.prog 48 [.agg [.c (.lit (.bool x0)), .c (.lit (.int .i64 x1)), .c (.lit (.int .i64 x2)), .c (.lit (.int .i64 x3)), .c (.lit (.int .i64 x4)), .c (.lit (.int .i64 x5)), .c (.lit (.int .i64 x6)), .c (.lit (.int .i64 x7)), .c (.lit (.int .i64 x8)), .c (.lit (.int .i64 x9)), .c (.lit (.int .i64 x10)), .c (.lit (.int .i64 x11)), .c (.lit (.int .i64 x12)), .c (.lit (.int .i64 x13)), .c (.lit (.int .i64 x14)), .c (.lit (.int .i64 x15)), .c (.lit (.bool x16)), .c (.lit (.int .i64 x17)), .c (.lit (.int .i64 x18)), .c (.lit (.int .i64 x19)), .c (.lit (.int .i64 x20))]] [] [ob (jbB (x0, x1, x2, x3, x4, x5, x6, x7, x8, x9, x10, x11, x12, x13, x14, x15, x16, x17, x18, x19, x20))] [] := by
  have c1 := OpOkI_run (x1, x2, x3, x4)
  have c2 := smI_run x17 h1
  have c3 := smI_run x18 h2
  have k : jbB (x0, x1, x2, x3, x4, x5, x6, x7, x8, x9, x10, x11, x12, x13, x14, x15, x16, x17, x18, x19, x20) = bif x0 then opOk (x1, x2, x3, x4) && (sm x17 && sm x18) else decide ((x0, x1, x2, x3, x4, x5, x6, x7, x8, x9, x10, x11, x12, x13, x14, x15, x16, x17, x18, x19, x20) = zJob) := rfl
  rw [k]
  clear k
  generalize opOk (x1, x2, x3, x4) = v1 at *
  generalize sm x17 = v2 at *
  generalize sm x18 = v3 at *
  cases x0
  · refine RunT.of_vc gOk Tryz.func48 rfl rfl (Nat.le_of_ble_eq_true rfl) (by repeat' (first | exact trivial | exact ⟨_, rfl, Nat.le_refl _⟩ | exact Nat.le_of_ble_eq_true rfl | refine And.intro ?_ ?_)) (Nat.le_of_ble_eq_true rfl) rfl (fun F hE => ?_)
    repeat' (first | exact trivial | refine BS.a (fun h => ?_) (fun h => ?_) | refine BS.n ?_ | refine BS.s (fun h => ?_) (fun h => ?_) | refine And.intro ?_ ?_ | exact Need.au | exact OutS.whole rfl rfl | (refine PK.eqA (vJob (false, x1, x2, x3, x4, x5, x6, x7, x8, x9, x10, x11, x12, x13, x14, x15, x16, x17, x18, x19, x20)) (vJob zJob) rfl rfl rfl rfl rfl (by kernel_rfl) (Job_eq _ _) ?_) | refine ListO.go gOk hE ?_)
    all_goals first | exact Need.mk rfl | (refine Need.mk ?_; simp_all; done) | trace_state
  · refine RunT.of_vc gOk Tryz.func48 rfl rfl (Nat.le_of_ble_eq_true rfl) (by repeat' (first | exact trivial | exact ⟨_, rfl, Nat.le_refl _⟩ | exact Nat.le_of_ble_eq_true rfl | refine And.intro ?_ ?_)) (Nat.le_of_ble_eq_true rfl) rfl (fun F hE => ?_)
    repeat' (first | exact trivial | refine BS.a (fun h => ?_) (fun h => ?_) | refine BS.n ?_ | refine BS.s (fun h => ?_) (fun h => ?_) | refine And.intro ?_ ?_ | exact Need.au | exact OutS.whole rfl rfl | refine OpK.ca c1 hE ?_ | refine OpK.ca c2 hE ?_ | refine OpK.ca c3 hE ?_ | refine ListO.go gOk hE ?_)
    all_goals first | exact Need.mk rfl | (refine Need.mk ?_; simp_all; done) | trace_state
theorem jobOk_run (x : JobT) (h1 : hJ x ≤ 9223372036854775807) (h2 : oJ x ≤ 9223372036854775807) : RunT Tryz.prog 48 [aJob x] [] [ob (jbB x)] [] := jobOkX x.1 x.2.1 x.2.2.1 x.2.2.2.1 x.2.2.2.2.1 x.2.2.2.2.2.1 x.2.2.2.2.2.2.1 x.2.2.2.2.2.2.2.1 x.2.2.2.2.2.2.2.2.1 x.2.2.2.2.2.2.2.2.2.1 x.2.2.2.2.2.2.2.2.2.2.1 x.2.2.2.2.2.2.2.2.2.2.2.1 x.2.2.2.2.2.2.2.2.2.2.2.2.1 x.2.2.2.2.2.2.2.2.2.2.2.2.2.1 x.2.2.2.2.2.2.2.2.2.2.2.2.2.2.1 x.2.2.2.2.2.2.2.2.2.2.2.2.2.2.2.1 x.2.2.2.2.2.2.2.2.2.2.2.2.2.2.2.2.1 x.2.2.2.2.2.2.2.2.2.2.2.2.2.2.2.2.2.1 x.2.2.2.2.2.2.2.2.2.2.2.2.2.2.2.2.2.2.1 x.2.2.2.2.2.2.2.2.2.2.2.2.2.2.2.2.2.2.2.1 x.2.2.2.2.2.2.2.2.2.2.2.2.2.2.2.2.2.2.2.2 h1 h2
end Go.Proofs.YtnfjpjgmhhmdeaaGreatDoor
end

section
/- A workload is checked by spec. -/
namespace Go.Proofs.YtnfjpjgmhhmdeaaGreatDoor
open Go Go.Tr
set_option maxRecDepth 100000
set_option maxHeartbeats 4000000
set_option linter.unusedVariables false
set_option linter.unusedSimpArgs false
abbrev qOk (q : List OpT) : Prop := q.length ≤ 12 ∧ ∀ k, k < q.length → opOk (q.getD k zOp) = true
abbrev tdP (ts : List (List OpT)) : Prop := ts.length = 3 ∧ ∀ j, j < ts.length → qOk (ts.getD j [])
def tdB (ts : List (List OpT)) : Bool := decide (tdP ts)
theorem l15Todo_run (eO eQ : Nat) (ts : List (List OpT)) (hn : ts.length ≤ 1048576) (hx : ∀ i, (ts.getD i []).length ≤ 1048576) : RunT Tryz.prog 38 [.one (.c (tQ eO eQ ts))] [] [ob (tdB ts)] [] := by
  cases hr : tdB ts
  all_goals
    unfold tdB at hr
    first | (have hI : tdP ts := of_decide_eq_true hr) | (have hI : ¬ tdP ts := of_decide_eq_false hr)
    clear hr
    refine RunT.of_vc gOk Tryz.func38 rfl rfl (Nat.le_of_ble_eq_true rfl) (by repeat' (first | exact trivial | exact ⟨_, rfl, Nat.le_refl _⟩ | exact Nat.le_of_ble_eq_true rfl | refine And.intro ?_ ?_)) (Nat.le_of_ble_eq_true rfl) rfl (fun F hE => ?_)
    repeat' (first | exact trivial | refine BS.a (fun h => ?_) (fun h => ?_) | refine BS.n ?_ | refine BS.s (fun h => ?_) (fun h => ?_) | refine And.intro ?_ ?_ | exact Need.au | exact OutS.whole rfl rfl | refine ListO.go gOk hE ?_)
    refine CodeK.loop gOk hE (fun i : Nat => ⟨[(0, vr 1000000 ts.length), (3, vi i)], [(1000000, rQ .fro false eO eQ ts)]⟩) (fun i => i ≤ ts.length ∧ ∀ j, j < i → qOk (ts.getD j [])) (fun i => ts.length - i) 0 (by refine leT.of ?_ ?_ rfl <;> repeat' (first | exact trivial | refine And.intro rfl ?_ | refine And.intro (by first | rfl | (simp; done) | (simp <;> rfl)) ?_)) ⟨Nat.zero_le _, fun j hj => absurd hj (Nat.not_lt_zero _)⟩ ?_
    rintro i ⟨hi, hs⟩
    have hxi := hx i
    repeat' (first | exact trivial | refine BS.a (fun h => ?_) (fun h => ?_) | refine BS.n ?_ | refine BS.s (fun h => ?_) (fun h => ?_) | refine And.intro ?_ ?_ | exact Need.au | exact OutS.whole rfl rfl | refine ListO.go gOk hE ?_)
    all_goals (try simp only [adN_zero] at *)
    all_goals first
      | (exfalso; omega)
      | (exfalso; have q := (hI.2 i (by omega)).1; omega)
      | (exfalso; have q := hI.1; omega)
      | exact Need.mk rfl
      | (refine Need.mk ?_; have q : ¬ ts.length = 3 := (fun e => hI ⟨e, fun j hj => hs j (by omega)⟩); first | (rw [decide_eq_false (by omega)]; done) | (simp; omega))
      | (refine Need.mk ?_; have q : ts.length = 3 := hI.1; first | (rw [decide_eq_true (by omega)]; done) | (simp; omega))
      | skip
    all_goals
      refine CodeK.loop gOk hE (fun k : Nat => ⟨[(0, vr 1000000 ts.length), (3, vi i), (4, vi k)], [(1000000, rQ .fro false eO eQ ts)]⟩) (fun k => k ≤ (ts.getD i []).length ∧ ∀ j, j < k → opOk ((ts.getD i []).getD j zOp) = true) (fun k => (ts.getD i []).length - k) 0 (by refine leT.of ?_ ?_ rfl <;> repeat' (first | exact trivial | refine And.intro rfl ?_ | refine And.intro (by first | rfl | (simp; done) | (simp <;> rfl)) ?_)) ⟨Nat.zero_le _, fun j hj => absurd hj (Nat.not_lt_zero _)⟩ ?_
      rintro k ⟨hk, ht⟩
      (repeat' (first | exact trivial | refine BS.a (fun h => ?_) (fun h => ?_) | refine BS.n ?_ | refine BS.s (fun h => ?_) (fun h => ?_) | refine And.intro ?_ ?_ | exact Need.au | exact OutS.whole rfl rfl | (refine OpK.call (OpOkS_run ?_) rfl rfl rfl rfl hE ?_ rfl rfl ?_; rotate_left 1; focus ((repeat' (first | exact PsA.lit _ | exact PsA.ref rfl rfl | constructor)); all_goals (fail "ps"))) | refine ListO.go gOk hE ?_))
      all_goals (try simp only [adN_zero] at *)
      all_goals first
        | (exfalso; omega)
        | (exfalso; have q := (hI.2 i (by omega)).2 k (by omega); simp_all; done)
        | exact Need.mk rfl
        | (refine Need.mk ?_; omega)
        | (refine ⟨k + 1, (by refine leT.of ?_ ?_ rfl <;> repeat' (first | exact trivial | refine And.intro rfl ?_ | refine And.intro (by first | rfl | (simp; done) | (simp <;> rfl)) ?_)), ⟨by omega, fun j hj => by by_cases e : j = k; (subst e; first | assumption | (simp_all; done)); exact ht j (by omega)⟩, by first | omega | (dsimp only; omega)⟩)
        | (refine ⟨i + 1, (by refine leT.of ?_ ?_ rfl <;> repeat' (first | exact trivial | refine And.intro rfl ?_ | refine And.intro (by first | rfl | (simp; done) | (simp <;> rfl)) ?_)), ⟨by omega, fun j hj => by by_cases e : j = i; (subst e; exact ⟨by omega, fun m hm => ht m (by omega)⟩); exact hs j (by omega)⟩, by first | omega | (dsimp only; omega)⟩)
        | trace_state
end Go.Proofs.YtnfjpjgmhhmdeaaGreatDoor
end

section
namespace Go.Proofs.YtnfjpjgmhhmdeaaGreatDoor
open Go Go.Tr
set_option maxRecDepth 100000
set_option maxHeartbeats 4000000
set_option linter.unusedVariables false
set_option linter.unusedSimpArgs false
abbrev pnP (E : Int) (p : PinT) : Prop := (p.1 = true ∨ p = (false, 0, false, 0)) ∧ (0 ≤ p.2.1 ∧ p.2.1 ≤ E) ∧ 0 ≤ p.2.2.2 ∧ p.2.2.2 ≤ 2
noncomputable def clk (E : Int) (ps : List PinT) : Bool := decide ((0 ≤ E ∧ E ≤ 100000) ∧ ps.length = 3) && allP 3 (fun j => pnP E (ps.getD j zPin))
theorem clk_no {E : Int} {ps : List PinT} (h : ¬ ((0 ≤ E ∧ E ≤ 100000) ∧ ps.length = 3)) : false = clk E ps := by unfold clk; rw [decide_eq_false h]; rfl
theorem clk_bad {E : Int} {ps : List PinT} (i : Nat) (hi : i < 3) (h : ¬ pnP E (ps.getD i zPin)) : false = clk E ps := by unfold clk; rw [allP_false hi h]; simp
theorem clk_yes {E : Int} {ps : List PinT} (h : (0 ≤ E ∧ E ≤ 100000) ∧ ps.length = 3) (h2 : ∀ j, j < 3 → pnP E (ps.getD j zPin)) : true = clk E ps := by unfold clk; rw [decide_eq_true h, allP_true h2]; rfl
theorem pn_split (p : PinT) : decide (p = (false, 0, false, 0)) = (!p.1 && decide (p.2.1 = 0) && !p.2.2.1 && decide (p.2.2.2 = 0)) := by
  obtain ⟨a, b, c, d⟩ := p; cases a <;> cases c <;> simp
theorem epochOk_run (x : Int) : RunT Tryz.prog 166 [ti x] [] [ob (decide (0 ≤ x ∧ x ≤ 100000))] [] := by
  refine RunT.of_vc gOk Tryz.func166 rfl rfl (Nat.le_of_ble_eq_true rfl) (by repeat' (first | exact trivial | exact ⟨_, rfl, Nat.le_refl _⟩ | exact Nat.le_of_ble_eq_true rfl | refine And.intro ?_ ?_)) (Nat.le_of_ble_eq_true rfl) rfl (fun F hE => ?_)
  repeat' (first | exact trivial | refine BS.a (fun h => ?_) (fun h => ?_) | refine BS.n ?_ | refine BS.s (fun h => ?_) (fun h => ?_) | refine And.intro ?_ ?_ | exact Need.au | exact OutS.whole rfl rfl | refine ListO.go gOk hE ?_)
  all_goals (refine Need.mk ?_; first | rfl | (symm; apply decide_eq_true; omega) | (symm; apply decide_eq_false; omega) | (apply decide_eq_decide.2; omega) | (simp only [beq_iff_eq, Bool.beq_eq_decide_eq] at *; apply decide_eq_decide.2; omega) | (simp; omega))
theorem pinOk_run (p : PinT) (E : Int) (hE0 : 0 ≤ E) : RunT Tryz.prog 167 [aPin p, ti E] [] [ob (decide (pnP E p))] [] := by
  refine RunT.of_vc gOk Tryz.func167 rfl rfl (Nat.le_of_ble_eq_true rfl) (by repeat' (first | exact trivial | exact ⟨_, rfl, Nat.le_refl _⟩ | exact Nat.le_of_ble_eq_true rfl | refine And.intro ?_ ?_)) (Nat.le_of_ble_eq_true rfl) rfl (fun F hE => ?_)
  repeat' (first | exact trivial | refine BS.a (fun h => ?_) (fun h => ?_) | refine BS.n ?_ | refine BS.s (fun h => ?_) (fun h => ?_) | refine And.intro ?_ ?_ | exact Need.au | exact OutS.whole rfl rfl | (refine PK.eqA (vPin p) (vPin (false, 0, false, 0)) rfl rfl rfl rfl rfl (by kernel_rfl) (Pin_eq _ _) ?_) | refine ListO.go gOk hE ?_)
  all_goals (refine Need.mk ?_)
  all_goals first
    | (symm; apply decide_eq_true; exact ⟨.inl (by assumption), by omega⟩)
    | (symm; apply decide_eq_false; rintro ⟨_, h2, h3⟩; omega)
    | (apply decide_eq_decide.2; exact ⟨fun h9 => ⟨.inl (by assumption), by omega, by omega⟩, fun h9 => h9.2.2.2⟩)
    | (apply decide_eq_decide.2; refine ⟨fun h9 => ?_, fun h9 => ?_⟩; (subst h9; exact ⟨.inr rfl, ⟨Int.le_refl _, hE0⟩, Int.le_refl _, (by decide)⟩); (rcases h9.1 with h8 | h8 <;> first | exact h8 | (simp_all; done)))
theorem ClockOkS_run (E : Int) (e : Nat) (ps : List PinT) (hn : ps.length ≤ 1048576) : RunT Tryz.prog 87 [aClk E e ps] [] [ob (clk E ps)] [] := by
  refine RunT.of_vc gOk Tryz.func87 rfl rfl (Nat.le_of_ble_eq_true rfl) (by repeat' (first | exact trivial | exact ⟨_, rfl, Nat.le_refl _⟩ | exact Nat.le_of_ble_eq_true rfl | refine And.intro ?_ ?_)) (Nat.le_of_ble_eq_true rfl) rfl (fun F hE => ?_)
  have c0 := l1InB_run E 0 100000
  repeat' (first | exact trivial | refine BS.a (fun h => ?_) (fun h => ?_) | refine BS.n ?_ | refine BS.s (fun h => ?_) (fun h => ?_) | refine And.intro ?_ ?_ | exact Need.au | exact OutS.whole rfl rfl | refine OpK.ca c0 hE ?_ | refine ListO.go gOk hE ?_)
  all_goals first | (refine Need.mk ?_; exact clk_no (by omega)) | skip
  all_goals refine CodeK.loop gOk hE (fun i : Nat => ⟨[(1, .ptr 1 0 0), (3, vi i)], [(1, .box 51 [.cl (.lit (.int .i64 E)), .ref 1000000 0 ps.length]), (1000000, rPin .fro false e ps)]⟩) (fun i => i ≤ 3 ∧ ∀ j, j < i → pnP E (ps.getD j zPin)) (fun i => 3 - i) 0 (by refine leT.of ?_ ?_ rfl <;> repeat' (first | exact trivial | refine And.intro rfl ?_ | refine And.intro (by simp) ?_)) ⟨Nat.zero_le _, fun j hj => absurd hj (Nat.not_lt_zero _)⟩ ?_
  all_goals rintro i ⟨hi, hs⟩
  all_goals have c1 := l1InB_run (ps.getD i zPin).2.1 0 E
  all_goals have c2 := l1InB_run (ps.getD i zPin).2.2.2 0 2
  all_goals (repeat' (first | exact trivial | refine BS.a (fun h => ?_) (fun h => ?_) | refine BS.n ?_ | refine BS.s (fun h => ?_) (fun h => ?_) | refine And.intro ?_ ?_ | exact Need.au | exact OutS.whole rfl rfl | refine OpK.ca c1 hE ?_ | refine OpK.ca c2 hE ?_ | (refine PK.neA (vPin (ps.getD i zPin)) (vPin (false, 0, false, 0)) rfl rfl rfl rfl rfl (by kernel_rfl) (Pin_eq _ _) ?_) | refine ListO.go gOk hE ?_))
  all_goals (try simp only [adN_zero] at *)
  all_goals first
    | (exfalso; omega)
    | (refine Need.mk ?_; omega)
    | (refine Need.mk ?_; refine clk_bad i ?_ ?_; (omega); (assumption); done)
    | (refine Need.mk ?_; refine clk_bad i (by omega) (fun hp => ?_); obtain ⟨p1, p2, p3⟩ := hp; first | omega | (rcases p1 with p1 | p1 <;> simp_all; done))
    | (refine Need.mk ?_; exact clk_yes (by omega) (fun j hj => hs j (by omega)))
    | (have hpm : pnP E (ps.getD i zPin) := ?_; rotate_left; (first | assumption | (refine ⟨?_, ?_, ?_⟩; (first | exact .inl (by assumption) | exact .inr (by assumption)); omega; omega)); refine ⟨i + 1, (by refine leT.of ?_ ?_ rfl <;> repeat' (first | exact trivial | refine And.intro rfl ?_ | refine And.intro (by simp) ?_)), ⟨by omega, fun j hj => (Nat.lt_or_ge j i).elim (hs j) (fun h9 => (show j = i by omega) ▸ hpm)⟩, by first | omega | (dsimp only; omega)⟩)
theorem ClockOkI_run (E : Int) (e : Nat) (ps : List PinT) (hn : ps.length ≤ 1048576) : RunT Tryz.prog 102 [aClk E e ps] [] [ob (clk E ps)] [] := by
  refine RunT.of_vc gOk Tryz.func102 rfl rfl (Nat.le_of_ble_eq_true rfl) (by repeat' (first | exact trivial | exact ⟨_, rfl, Nat.le_refl _⟩ | exact Nat.le_of_ble_eq_true rfl | refine And.intro ?_ ?_)) (Nat.le_of_ble_eq_true rfl) rfl (fun F hE => ?_)
  have c0 := epochOk_run E
  repeat' (first | exact trivial | refine BS.a (fun h => ?_) (fun h => ?_) | refine BS.n ?_ | refine BS.s (fun h => ?_) (fun h => ?_) | refine And.intro ?_ ?_ | exact Need.au | exact OutS.whole rfl rfl | refine OpK.ca c0 hE ?_ | refine ListO.go gOk hE ?_)
  all_goals first | (refine Need.mk ?_; exact clk_no (by omega)) | skip
  all_goals refine CodeK.loop gOk hE (fun i : Nat => ⟨[(1, .ptr 1 0 0), (16, vr 1000000 ps.length), (17, vi ps.length), (18, vi i)], [(1, .box 51 [.cl (.lit (.int .i64 E)), .ref 1000000 0 ps.length]), (1000000, rPin .fro false e ps)]⟩) (fun i => i ≤ 3 ∧ ∀ j, j < i → pnP E (ps.getD j zPin)) (fun i => 3 - i) 0 (by refine leT.of ?_ ?_ rfl <;> repeat' (first | exact trivial | refine And.intro rfl ?_ | refine And.intro (by simp) ?_)) ⟨Nat.zero_le _, fun j hj => absurd hj (Nat.not_lt_zero _)⟩ ?_
  all_goals rintro i ⟨hi, hs⟩
  all_goals have c1 := pinOk_run (ps.getD i zPin) E (by omega)
  all_goals (repeat' (first | exact trivial | refine BS.a (fun h => ?_) (fun h => ?_) | refine BS.n ?_ | refine BS.s (fun h => ?_) (fun h => ?_) | refine And.intro ?_ ?_ | exact Need.au | exact OutS.whole rfl rfl | refine OpK.ca c1 hE ?_ | refine ListO.go gOk hE ?_))
  all_goals (try simp only [adN_zero] at *)
  all_goals first
    | (exfalso; omega)
    | (refine Need.mk ?_; omega)
    | (refine Need.mk ?_; refine clk_bad i ?_ ?_; (omega); (assumption); done)
    | (refine Need.mk ?_; refine clk_bad i (by omega) (fun hp => ?_); obtain ⟨p1, p2, p3⟩ := hp; first | omega | (rcases p1 with p1 | p1 <;> simp_all; done))
    | (refine Need.mk ?_; exact clk_yes (by omega) (fun j hj => hs j (by omega)))
    | (have hpm : pnP E (ps.getD i zPin) := ?_; rotate_left; (first | assumption | (refine ⟨?_, ?_, ?_⟩; (first | exact .inl (by assumption) | exact .inr (by assumption)); omega; omega)); refine ⟨i + 1, (by refine leT.of ?_ ?_ rfl <;> repeat' (first | exact trivial | refine And.intro rfl ?_ | refine And.intro (by simp) ?_)), ⟨by omega, fun j hj => (Nat.lt_or_ge j i).elim (hs j) (fun h9 => (show j = i by omega) ▸ hpm)⟩, by first | omega | (dsimp only; omega)⟩)
end Go.Proofs.YtnfjpjgmhhmdeaaGreatDoor
end

section
namespace Go.Proofs.YtnfjpjgmhhmdeaaGreatDoor
open Go Go.Tr
set_option maxRecDepth 100000
set_option maxHeartbeats 4000000
set_option linter.unusedVariables false
set_option linter.unusedSimpArgs false
/-- The number of all rows. -/
def cnt : List (List Row) → Int
  | [] => 0
  | x :: l => x.length + cnt l
theorem cnt_nn : ∀ xs : List (List Row), 0 ≤ cnt xs
  | [] => Int.le_refl _
  | x :: l => by have := cnt_nn l; unfold cnt; omega
theorem cnt_drop {xs : List (List Row)} {i : Nat} (h : i < xs.length) : cnt (xs.drop i) = (xs.getD i []).length + cnt (xs.drop (i + 1)) := by
  rw [drop_cons [] h]; rfl
theorem LimboSizeI_run (e' e : Nat) (xs : List (List Row)) (hn : xs.length ≤ 1048576) (hcn : cnt xs ≤ 1048576) : RunT Tryz.prog 168 [.one (.c (tLL e' e xs))] [] [oi (cnt xs)] [] := by
  refine RunT.of_vc gOk Tryz.func168 rfl rfl (Nat.le_of_ble_eq_true rfl) (by repeat' (first | exact trivial | exact ⟨_, rfl, Nat.le_refl _⟩ | exact Nat.le_of_ble_eq_true rfl | refine And.intro ?_ ?_)) (Nat.le_of_ble_eq_true rfl) rfl (fun F hE => ?_)
  repeat' (first | exact trivial | refine BS.a (fun h => ?_) (fun h => ?_) | refine BS.n ?_ | refine BS.s (fun h => ?_) (fun h => ?_) | refine And.intro ?_ ?_ | exact Need.au | exact OutS.whole rfl rfl | refine ListO.go gOk hE ?_)
  refine CodeK.loop gOk hE (fun i : Nat × Int => ⟨[(0, vr 1000000 xs.length), (6, vr 1000000 xs.length), (7, vi xs.length), (3, vi i.2), (8, vi i.1)], [(1000000, rLL .fro false e' e xs)]⟩) (fun i => i.1 ≤ xs.length ∧ 0 ≤ i.2 ∧ cnt xs = i.2 + cnt (xs.drop i.1)) (fun i => xs.length - i.1) (0, 0) (by refine leT.of ?_ ?_ rfl <;> repeat' (first | exact trivial | refine And.intro rfl ?_ | refine And.intro (by simp) ?_)) ⟨Nat.zero_le _, by omega, by simp⟩ ?_
  rintro ⟨i, b⟩ ⟨hi, hb, hs⟩
  dsimp only at hi hb hs
  have nn := cnt_nn (xs.drop (i + 1))
  repeat' (first | exact trivial | refine BS.a (fun h => ?_) (fun h => ?_) | refine BS.n ?_ | refine BS.s (fun h => ?_) (fun h => ?_) | refine And.intro ?_ ?_ | exact Need.au | exact OutS.whole rfl rfl | refine ListO.go gOk hE ?_)
  · have hc := cnt_drop (xs := xs) (i := i) (by omega)
    refine Need.mk ?_
    simp only [adN_zero]; omega
  · have hc := cnt_drop (xs := xs) (i := i) (by omega)
    refine ⟨(i + 1, b + (xs.getD i []).length), (by refine leT.of ?_ ?_ rfl <;> repeat' (first | exact trivial | refine And.intro rfl ?_ | refine And.intro (by simp) ?_)), ⟨?_, ?_, ?_⟩, ?_⟩
    · dsimp only; omega
    · dsimp only; omega
    · dsimp only; omega
    · dsimp only; omega
  · refine Need.mk ?_
    rw [hs, List.drop_eq_nil_of_le (by omega)]; simp [cnt]
theorem rowFlat : ∀ (x : Row) (r : Nat), r < 2 → ∃ v, encR x r = .lit v ∧ encR x r = .lit v := fun x r _ => by cases r <;> exact ⟨_, rfl, rfl⟩
theorem rtake_flat {xs : List (List Row)} {i : Nat} (h : i < xs.length) : (xs.take (i + 1)).flatten = (xs.take i).flatten ++ xs.getD i [] := by
  rw [List.take_succ_eq_append_getElem h, List.flatten_append]
  congr 1
  simp [List.getD, h]
theorem flat_len (xs : List (List Row)) : (xs.flatten.length : Int) = cnt xs := by
  induction xs with
  | nil => rfl
  | cons x l ih => simp [cnt, ← ih]
theorem flat_le (xs : List (List Row)) (i : Nat) : ((xs.take i).flatten.length : Int) + cnt (xs.drop i) = cnt xs := by
  have h : cnt xs = cnt (xs.take i ++ xs.drop i) := by rw [List.take_append_drop]
  rw [h, ← flat_len, ← flat_len, List.flatten_append, List.length_append]; rfl
theorem l11All_run (e' e : Nat) (xs : List (List Row)) (hn : xs.length ≤ 1048576) (hcn : cnt xs ≤ 1048576) : RunT Tryz.prog 90 [.one (.c (tLL e' e xs))] [] [.one (tR 127 xs.flatten)] [] := by
  refine RunT.of_vc gOk Tryz.func90 rfl rfl (Nat.le_of_ble_eq_true rfl) (by repeat' (first | exact trivial | exact ⟨_, rfl, Nat.le_refl _⟩ | exact Nat.le_of_ble_eq_true rfl | refine And.intro ?_ ?_)) (Nat.le_of_ble_eq_true rfl) rfl (fun F hE => ?_)
  repeat' (first | exact trivial | refine BS.a (fun h => ?_) (fun h => ?_) | refine BS.n ?_ | refine BS.s (fun h => ?_) (fun h => ?_) | refine And.intro ?_ ?_ | exact Need.au | exact OutS.whole rfl rfl | refine ListO.go gOk hE ?_)
  refine CodeK.loop gOk hE (fun i : Nat => ⟨[(0, vr 1000000 xs.length), (3, vr 5 (xs.take i).flatten.length), (4, vi i)], [(5, rR .own true 127 (xs.take i).flatten), (1000000, rLL .fro false e' e xs)]⟩) (fun i => i ≤ xs.length) (fun i => xs.length - i) 0 (by refine leT.of ?_ ?_ rfl <;> repeat' (first | exact trivial | refine And.intro rfl ?_ | refine And.intro (by simp) ?_)) (Nat.zero_le _) ?_
  rintro i hi
  have hf := flat_le xs i
  have nn := cnt_nn (xs.drop (i + 1))
  repeat' (first | exact trivial | refine BS.a (fun h => ?_) (fun h => ?_) | refine BS.n ?_ | refine BS.s (fun h => ?_) (fun h => ?_) | refine And.intro ?_ ?_ | exact Need.au | exact OutS.whole rfl rfl | refine ListO.go gOk hE ?_)
  · have hc := cnt_drop (xs := xs) (i := i) (by omega)
    refine OpK.apps gOk (by rfl) (by rfl) (by rfl) (by rfl) (by rfl) (by rfl) (by rfl) (by rfl) (by rfl) (by rfl) (by first | rfl | simp) (by exact rowFlat) (by rfl) (by refine ⟨?_, ?_⟩ <;> (try unfold maxLen) <;> (try simp only [adN_zero]) <;> omega) ?_
    repeat' (first | exact trivial | refine BS.a (fun h => ?_) (fun h => ?_) | refine BS.n ?_ | refine BS.s (fun h => ?_) (fun h => ?_) | refine And.intro ?_ ?_ | exact Need.au | exact OutS.whole rfl rfl | refine ListO.go gOk hE ?_)
    all_goals (refine ⟨i + 1, (by refine leT.of ?_ ?_ rfl <;> repeat' (first | exact trivial | refine And.intro rfl ?_ | refine And.intro (by rw [rtake_flat (by omega)] <;> rfl) ?_)), ?_⟩; (refine And.intro ?_ ?_) <;> (first | omega | (dsimp only; omega) | trivial))
  · exact OutS.whole rfl (by rw [List.take_of_length_le (by omega)]; rfl)
end Go.Proofs.YtnfjpjgmhhmdeaaGreatDoor
end

section
namespace Go.Proofs.YtnfjpjgmhhmdeaaGreatDoor
open Go Go.Tr
set_option maxRecDepth 100000
set_option maxHeartbeats 4000000
set_option linter.unusedVariables false
set_option linter.unusedSimpArgs false
theorem l8HasB_run (xs : List Int) (x : Int) (hn : xs.length ≤ 4000000) : RunT Tryz.prog 154 [.one (.c (tI xs)), ti x] [] [ob (decide (x ∈ xs))] [] := by
  refine RunT.of_vc gOk Tryz.func154 rfl rfl (Nat.le_of_ble_eq_true rfl) (by repeat' (first | exact trivial | exact ⟨_, rfl, Nat.le_refl _⟩ | exact Nat.le_of_ble_eq_true rfl | refine And.intro ?_ ?_)) (Nat.le_of_ble_eq_true rfl) rfl (fun F hE => ?_)
  repeat' (first | exact trivial | refine BS.a (fun h => ?_) (fun h => ?_) | refine BS.n ?_ | refine BS.s (fun h => ?_) (fun h => ?_) | refine And.intro ?_ ?_ | exact Need.au | exact OutS.whole rfl rfl | refine ListO.go gOk hE ?_)
  refine CodeK.loop gOk hE (fun i : Nat => ⟨[(0, vr 1000000 xs.length), (1, vi x), (5, vi i)], [(1000000, rI .fro false xs)]⟩) (fun i => i ≤ xs.length ∧ ∀ j, j < i → xs.getD j 0 ≠ x) (fun i => xs.length - i) 0 (by refine leT.of ?_ ?_ rfl <;> repeat' (first | exact trivial | refine And.intro rfl ?_ | refine And.intro (by simp) ?_)) ⟨Nat.zero_le _, fun j hj => absurd hj (Nat.not_lt_zero _)⟩ ?_
  rintro i ⟨hi, hq⟩
  by_cases hp : xs.getD i 0 = x
  all_goals (repeat' (first | exact trivial | refine BS.a (fun h => ?_) (fun h => ?_) | refine BS.n ?_ | refine BS.s (fun h => ?_) (fun h => ?_) | refine And.intro ?_ ?_ | exact Need.au | exact OutS.whole rfl rfl | refine ListO.go gOk hE ?_))
  all_goals (try simp only [adN_zero] at *)
  all_goals first
    | (exfalso; first | omega | (simp_all; done))
    | (refine Need.mk ?_; symm; apply decide_eq_true; rw [← hp, List.getD_eq_getElem?_getD, List.getElem?_eq_getElem (by omega)]; exact List.getElem_mem _)
    | (refine Need.mk ?_; symm; apply decide_eq_false; intro hm; obtain ⟨j, hj, hj2⟩ := List.getElem_of_mem hm; exact hq j (by omega) (by rw [List.getD_eq_getElem?_getD, List.getElem?_eq_getElem hj]; exact hj2))
    | (refine ⟨i + 1, (by refine leT.of ?_ ?_ rfl <;> repeat' (first | exact trivial | refine And.intro rfl ?_ | refine And.intro (by simp) ?_)), ⟨by omega, fun j hj => (Nat.lt_or_ge j i).elim (hq j) (fun h9 => (show j = i by omega) ▸ hp)⟩, by first | omega | (dsimp only; omega)⟩)
end Go.Proofs.YtnfjpjgmhhmdeaaGreatDoor
end

section
namespace Go.Proofs.YtnfjpjgmhhmdeaaGreatDoor
open Go Go.Tr
set_option maxRecDepth 100000
set_option maxHeartbeats 4000000
set_option linter.unusedVariables false
set_option linter.unusedSimpArgs false
theorem epochOkL_run (x : Int) : RunT Tryz.prog 166 [ti x] [] [ob (decide (0 ≤ x ∧ x ≤ 100000))] [] := by
  refine RunT.of_vc gOk Tryz.func166 rfl rfl (Nat.le_of_ble_eq_true rfl) (by repeat' (first | exact trivial | exact ⟨_, rfl, Nat.le_refl _⟩ | exact Nat.le_of_ble_eq_true rfl | refine And.intro ?_ ?_)) (Nat.le_of_ble_eq_true rfl) rfl (fun F hE => ?_)
  repeat' (first | exact trivial | refine BS.a (fun h => ?_) (fun h => ?_) | refine BS.n ?_ | refine BS.s (fun h => ?_) (fun h => ?_) | refine And.intro ?_ ?_ | exact Need.au | exact OutS.whole rfl rfl | refine ListO.go gOk hE ?_)
  all_goals (refine Need.mk ?_; first | rfl | (symm; apply decide_eq_true; omega) | (symm; apply decide_eq_false; omega) | (apply decide_eq_decide.2; omega) | (simp only [beq_iff_eq, Bool.beq_eq_decide_eq] at *; apply decide_eq_decide.2; omega) | (simp; omega))
theorem allRows_run (e' e : Nat) (xs : List (List Row)) (hn : xs.length ≤ 1048576) (hcn : cnt xs ≤ 1048576) : RunT Tryz.prog 105 [.one (.c (tLL e' e xs))] [] [.one (tR 127 xs.flatten)] [] := by
  refine RunT.of_vc gOk Tryz.func105 rfl rfl (Nat.le_of_ble_eq_true rfl) (by repeat' (first | exact trivial | exact ⟨_, rfl, Nat.le_refl _⟩ | exact Nat.le_of_ble_eq_true rfl | refine And.intro ?_ ?_)) (Nat.le_of_ble_eq_true rfl) rfl (fun F hE => ?_)
  repeat' (first | exact trivial | refine BS.a (fun h => ?_) (fun h => ?_) | refine BS.n ?_ | refine BS.s (fun h => ?_) (fun h => ?_) | refine And.intro ?_ ?_ | exact Need.au | exact OutS.whole rfl rfl | refine ListO.go gOk hE ?_)
  refine CodeK.nilT gOk hE 3 900000 127 2 Row encR decR (0, 0) (by rfl) (by rfl) (by decide) ?_
  repeat' (first | exact trivial | refine BS.a (fun h => ?_) (fun h => ?_) | refine BS.n ?_ | refine BS.s (fun h => ?_) (fun h => ?_) | refine And.intro ?_ ?_ | exact Need.au | exact OutS.whole rfl rfl | refine ListO.go gOk hE ?_)
  refine CodeK.loop gOk hE (fun i : Nat => ⟨[(6, vr 1000000 xs.length), (3, vr 900000 (xs.take i).flatten.length), (7, vi xs.length), (8, vi i)], [(900000, rR .own true 127 (xs.take i).flatten), (1000000, rLL .fro false e' e xs)]⟩) (fun i => i ≤ xs.length) (fun i => xs.length - i) 0 (by refine leT.of ?_ ?_ rfl <;> repeat' (first | exact trivial | refine And.intro rfl ?_ | refine And.intro (by simp) ?_)) (Nat.zero_le _) ?_
  rintro i hi
  have hf := flat_le xs i
  have nn := cnt_nn (xs.drop (i + 1))
  repeat' (first | exact trivial | refine BS.a (fun h => ?_) (fun h => ?_) | refine BS.n ?_ | refine BS.s (fun h => ?_) (fun h => ?_) | refine And.intro ?_ ?_ | exact Need.au | exact OutS.whole rfl rfl | refine ListO.go gOk hE ?_)
  · have hc := cnt_drop (xs := xs) (i := i) (by omega)
    refine OpK.apps gOk (by rfl) (by rfl) (by rfl) (by rfl) (by rfl) (by rfl) (by rfl) (by rfl) (by rfl) (by rfl) (by first | rfl | simp) (by exact rowFlat) (by rfl) (by refine ⟨?_, ?_⟩ <;> (try unfold maxLen) <;> (try simp only [adN_zero]) <;> omega) ?_
    repeat' (first | exact trivial | refine BS.a (fun h => ?_) (fun h => ?_) | refine BS.n ?_ | refine BS.s (fun h => ?_) (fun h => ?_) | refine And.intro ?_ ?_ | exact Need.au | exact OutS.whole rfl rfl | refine ListO.go gOk hE ?_)
    all_goals (refine ⟨i + 1, (by refine leT.of ?_ ?_ rfl <;> repeat' (first | exact trivial | refine And.intro rfl ?_ | refine And.intro (by rw [rtake_flat (by omega)] <;> rfl) ?_)), ?_⟩; (refine And.intro ?_ ?_) <;> (first | omega | (dsimp only; omega) | trivial))
  · exact OutS.whole rfl (by rw [List.take_of_length_le (by omega)]; rfl)
end Go.Proofs.YtnfjpjgmhhmdeaaGreatDoor
end

section
namespace Go.Proofs.YtnfjpjgmhhmdeaaGreatDoor
open Go Go.Tr
set_option maxRecDepth 100000
set_option linter.unusedVariables false
set_option linter.unusedSimpArgs false
theorem hSlot_bd (x : Int) : hSlot x = -1 ∨ (0 ≤ hSlot x ∧ hSlot x < 24) := by
  unfold hSlot
  rcases hp : hOk x
  · exact .inl rfl
  · unfold hOk at hp
    have := of_decide_eq_true hp
    exact .inr (by simp only [if_true]; omega)
/-- Rows whose slots are told apart, the slots before them being these. -/
def okR : List Int → List Row → Bool
  | _, [] => true
  | s, r :: l => if hSlot r.1 = -1 ∨ ¬ (0 ≤ r.2 ∧ r.2 ≤ 100000) ∨ hSlot r.1 ∈ s then false else okR (s ++ [hSlot r.1]) l
def lOk (xs : List (List Row)) : Bool := if xs.length = 3 ∧ cnt xs ≤ 24 then okR [] xs.flatten else false
theorem okR_no {s : List Int} {r : Row} {l : List Row} (h : hSlot r.1 = -1 ∨ ¬ (0 ≤ r.2 ∧ r.2 ≤ 100000) ∨ hSlot r.1 ∈ s) : okR s (r :: l) = false := by
  rw [okR, if_pos h]
theorem okR_yes {s : List Int} {r : Row} {l : List Row} (h : ¬ (hSlot r.1 = -1 ∨ ¬ (0 ≤ r.2 ∧ r.2 ≤ 100000) ∨ hSlot r.1 ∈ s)) : okR s (r :: l) = okR (s ++ [hSlot r.1]) l := by
  rw [okR, if_neg h]
set_option maxHeartbeats 4000000 in
theorem LimboOkS_run (e' e : Nat) (xs : List (List Row)) (hn : xs.length ≤ 1048576) (hcn : cnt xs ≤ 1048576) : RunT Tryz.prog 88 [.one (.c (tLL e' e xs))] [] [ob (lOk xs)] [] := by
  have hfl := flat_len xs
  refine RunT.of_vc gOk Tryz.func88 rfl rfl (Nat.le_of_ble_eq_true rfl) (by repeat' (first | exact trivial | exact ⟨_, rfl, Nat.le_refl _⟩ | exact Nat.le_of_ble_eq_true rfl | refine And.intro ?_ ?_)) (Nat.le_of_ble_eq_true rfl) rfl (fun F hE => ?_)
  repeat' (first | exact trivial | refine BS.a (fun h => ?_) (fun h => ?_) | refine BS.n ?_ | refine BS.s (fun h => ?_) (fun h => ?_) | refine And.intro ?_ ?_ | exact Need.au | exact OutS.whole rfl rfl | refine ListO.go gOk hE ?_)
  refine OpK.call (l11All_run e' e xs hn hcn) rfl rfl rfl rfl hE (by repeat' (first | exact PsA.lit _ | exact PsA.ref rfl rfl | constructor)) rfl rfl ?_
  repeat' (first | exact trivial | refine BS.a (fun h => ?_) (fun h => ?_) | refine BS.n ?_ | refine BS.s (fun h => ?_) (fun h => ?_) | refine And.intro ?_ ?_ | exact Need.au | exact OutS.whole rfl rfl | refine ListO.go gOk hE ?_)
  · refine Need.mk ?_
    unfold lOk; rw [if_neg (by omega)]
  · refine Need.mk ?_
    unfold lOk; rw [if_neg (by omega)]
  · rename_i h1
    repeat' (first | exact trivial | refine BS.a (fun h => ?_) (fun h => ?_) | refine BS.n ?_ | refine BS.s (fun h => ?_) (fun h => ?_) | refine And.intro ?_ ?_ | exact Need.au | exact OutS.whole rfl rfl | refine ListO.go gOk hE ?_)
    have hlo : lOk xs = okR [] xs.flatten := by unfold lOk; rw [if_pos (by omega)]
    rw [hlo]
    generalize xs.flatten = R at *
    refine CodeK.loop gOk hE (fun i : Nat × List Int => ⟨[(3, vr 2001024 R.length), (4, vr 17 i.2.length), (5, vi i.1)], [(2001024, rR .own true 127 R), (17, rI .own true i.2)]⟩) (fun i => i.1 ≤ R.length ∧ i.2.length = i.1 ∧ okR [] R = okR i.2 (R.drop i.1)) (fun i => R.length - i.1) (0, []) (by refine leT.of ?_ ?_ rfl <;> repeat' (first | exact trivial | refine And.intro rfl ?_ | refine And.intro (by simp) ?_)) ⟨Nat.zero_le _, rfl, rfl⟩ ?_
    rintro ⟨i, s⟩ ⟨hi, hsl, hq⟩
    dsimp only at hi hsl hq
    by_cases hi2 : i < R.length
    · rw [drop_cons (0, 0) hi2] at hq
      have c1 := sHandleSlot_run (R.getD i (0, 0)).1
      have c2 := l1InB_run (R.getD i (0, 0)).2 0 100000
      have c3 := l8HasB_run s (hSlot (R.getD i (0, 0)).1) (by omega)
      have hb := hSlot_bd (R.getD i (0, 0)).1
      rcases hb with hb | hb
      · rw [hb] at c1 c3
        rw [okR_no (.inl hb)] at hq
        repeat' (first | exact trivial | refine BS.a (fun h => ?_) (fun h => ?_) | refine BS.n ?_ | refine BS.s (fun h => ?_) (fun h => ?_) | refine And.intro ?_ ?_ | exact Need.au | exact OutS.whole rfl rfl | refine OpK.ca c1 hE ?_ | refine OpK.ca c2 hE ?_ | refine OpK.ca c3 hE ?_ | refine ListO.go gOk hE ?_)
        all_goals first | exact Need.mk hq.symm | exact Need.mk hq | (exfalso; omega) | trace_state
      · by_cases hep : 0 ≤ (R.getD i (0, 0)).2 ∧ (R.getD i (0, 0)).2 ≤ 100000
        · rw [decide_eq_true hep] at c2
          by_cases hin : hSlot (R.getD i (0, 0)).1 ∈ s
          · rw [decide_eq_true hin] at c3
            rw [okR_no (.inr (.inr hin))] at hq
            repeat' (first | exact trivial | refine BS.a (fun h => ?_) (fun h => ?_) | refine BS.n ?_ | refine BS.s (fun h => ?_) (fun h => ?_) | refine And.intro ?_ ?_ | exact Need.au | exact OutS.whole rfl rfl | refine OpK.ca c1 hE ?_ | refine OpK.ca c2 hE ?_ | refine OpK.ca c3 hE ?_ | refine ListO.go gOk hE ?_)
            all_goals first | exact Need.mk hq.symm | exact Need.mk hq | (exfalso; omega) | trace_state
          · rw [decide_eq_false hin] at c3
            rw [okR_yes (by rintro (h | h | h) <;> first | omega | exact h hep | exact hin h)] at hq
            repeat' (first | exact trivial | refine BS.a (fun h => ?_) (fun h => ?_) | refine BS.n ?_ | refine BS.s (fun h => ?_) (fun h => ?_) | refine And.intro ?_ ?_ | exact Need.au | exact OutS.whole rfl rfl | refine OpK.ca c1 hE ?_ | refine OpK.ca c2 hE ?_ | refine OpK.ca c3 hE ?_ | refine ListO.go gOk hE ?_)
            all_goals first | (exfalso; omega) | (exact ⟨by dsimp only; unfold maxLen; omega, by show (s.length + 1) * 8 ≤ 140737488355328; omega⟩) | skip
            repeat' (first | exact trivial | refine BS.a (fun h => ?_) (fun h => ?_) | refine BS.n ?_ | refine BS.s (fun h => ?_) (fun h => ?_) | refine And.intro ?_ ?_ | exact Need.au | exact OutS.whole rfl rfl | refine ListO.go gOk hE ?_)
            all_goals first | (exfalso; omega) | (exact ⟨by dsimp only; unfold maxLen; omega, by show (s.length + 1) * 8 ≤ 140737488355328; omega⟩) | skip
            exact ⟨(i + 1, s ++ [hSlot (R.getD i (0, 0)).1]), (by refine leT.of ?_ ?_ rfl <;> repeat' (first | exact trivial | refine And.intro rfl ?_ | refine And.intro (by simp) ?_)), ⟨hi2, by simp [hsl], hq⟩, by dsimp only; omega⟩
        · rw [decide_eq_false hep] at c2
          rw [okR_no (.inr (.inl hep))] at hq
          repeat' (first | exact trivial | refine BS.a (fun h => ?_) (fun h => ?_) | refine BS.n ?_ | refine BS.s (fun h => ?_) (fun h => ?_) | refine And.intro ?_ ?_ | exact Need.au | exact OutS.whole rfl rfl | refine OpK.ca c1 hE ?_ | refine OpK.ca c2 hE ?_ | refine OpK.ca c3 hE ?_ | refine ListO.go gOk hE ?_)
          all_goals first | exact Need.mk hq.symm | exact Need.mk hq | (exfalso; omega) | trace_state
    · rw [List.drop_eq_nil_of_le (by omega)] at hq
      repeat' (first | exact trivial | refine BS.a (fun h => ?_) (fun h => ?_) | refine BS.n ?_ | refine BS.s (fun h => ?_) (fun h => ?_) | refine And.intro ?_ ?_ | exact Need.au | exact OutS.whole rfl rfl | refine OpK.ca (l11All_run e' e xs hn hcn) hE ?_ | refine ListO.go gOk hE ?_)
      all_goals first | exact Need.mk hq.symm | exact Need.mk hq | (exfalso; omega) | trace_state
end Go.Proofs.YtnfjpjgmhhmdeaaGreatDoor
end

section
namespace Go.Proofs.YtnfjpjgmhhmdeaaGreatDoor
open Go Go.Tr
set_option maxRecDepth 100000
set_option linter.unusedVariables false
set_option linter.unusedSimpArgs false
theorem rseen_step {bs : List Bool} {s : List Int} {v : Int} (hbl : bs.length = 24) (hv : 0 ≤ v ∧ v < 24) (hbs : ∀ z : Nat, z < 24 → bs.getD z false = decide ((z : Int) ∈ s)) : ∀ z : Nat, z < 24 → (bs.set v.toNat true).getD z false = decide ((z : Int) ∈ s ++ [v]) := by
  intro z hz
  obtain ⟨n, rfl⟩ := Int.eq_ofNat_of_zero_le hv.1
  simp only [Int.toNat_natCast]
  by_cases e1 : n = z
  · subst e1
    rw [List.getD_eq_getElem?_getD, List.getElem?_set_self (by omega)]
    simp
  · rw [List.getD_eq_getElem?_getD, List.getElem?_set_ne e1, ← List.getD_eq_getElem?_getD, hbs z hz]
    apply decide_eq_decide.2
    simp; omega
set_option maxHeartbeats 4000000 in
theorem LimboOkI_run (e' e : Nat) (xs : List (List Row)) (hn : xs.length ≤ 1048576) (hcn : cnt xs ≤ 1048576) (hm : ∀ i, (xs.flatten.getD i (0, 0)).1 ≤ 9223372036854775807) : RunT Tryz.prog 103 [.one (.c (tLL e' e xs))] [] [ob (lOk xs)] [] := by
  have hfl := flat_len xs
  have c1 := LimboSizeI_run e' e xs hn hcn
  refine RunT.of_vc gOk Tryz.func103 rfl rfl (Nat.le_of_ble_eq_true rfl) (by repeat' (first | exact trivial | exact ⟨_, rfl, Nat.le_refl _⟩ | exact Nat.le_of_ble_eq_true rfl | refine And.intro ?_ ?_)) (Nat.le_of_ble_eq_true rfl) rfl (fun F hE => ?_)
  repeat' (first | exact trivial | refine BS.a (fun h => ?_) (fun h => ?_) | refine BS.n ?_ | refine BS.s (fun h => ?_) (fun h => ?_) | refine And.intro ?_ ?_ | exact Need.au | exact OutS.whole rfl rfl | refine OpK.ca c1 hE ?_ | refine ListO.go gOk hE ?_)
  · refine Need.mk ?_
    unfold lOk; rw [if_neg (by omega)]
  · refine Need.mk ?_
    unfold lOk; rw [if_neg (by omega)]
  · repeat' (first | exact trivial | refine BS.a (fun h => ?_) (fun h => ?_) | refine BS.n ?_ | refine BS.s (fun h => ?_) (fun h => ?_) | refine And.intro ?_ ?_ | exact Need.au | exact OutS.whole rfl rfl | refine ListO.go gOk hE ?_)
    have hlo : lOk xs = okR [] xs.flatten := by unfold lOk; rw [if_pos (by omega)]
    rw [hlo]
    refine OpK.call (allRows_run e' e xs hn hcn) rfl rfl rfl rfl hE (by repeat' (first | exact PsA.lit _ | exact PsA.ref rfl rfl | constructor)) rfl rfl ?_
    repeat' (first | exact trivial | refine BS.a (fun h => ?_) (fun h => ?_) | refine BS.n ?_ | refine BS.s (fun h => ?_) (fun h => ?_) | refine And.intro ?_ ?_ | exact Need.au | exact OutS.whole rfl rfl | refine ListO.go gOk hE ?_)
    refine CodeK.arr gOk hE (κ := 3) 24 (by rfl) (by rfl) ?_
    generalize xs.flatten = R at *
    refine CodeK.loop gOk hE (fun i : Nat × List Int × List Bool => ⟨[(3, .ptr 3 0 0), (16, vr 2002048 R.length), (17, vi R.length), (18, vi i.1)], [(2002048, rR .own true 127 R), (3, arrR 193 24 i.2.2)]⟩) (fun i => i.1 ≤ R.length ∧ i.2.2.length = 24 ∧ (∀ z : Nat, z < 24 → i.2.2.getD z false = decide ((z : Int) ∈ i.2.1)) ∧ okR [] R = okR i.2.1 (R.drop i.1)) (fun i => R.length - i.1) (0, [], List.replicate 24 false) (by refine leT.of ?_ ?_ rfl <;> repeat' (first | exact trivial | refine And.intro rfl ?_ | refine And.intro (by first | rfl | (simp; done) | (simp <;> rfl)) ?_)) ⟨Nat.zero_le _, rfl, by decide, rfl⟩ ?_
    rintro ⟨i, s, bs⟩ ⟨hi, hbl, hbs, hq⟩
    dsimp only at hi hbl hbs hq
    by_cases hi2 : i < R.length
    · rw [drop_cons (0, 0) hi2] at hq
      have c2 := iHandleSlot_run (R.getD i (0, 0)).1 (hm i)
      have c3 := epochOkL_run (R.getD i (0, 0)).2
      have hb := hSlot_bd (R.getD i (0, 0)).1
      rcases hb with hb | hb
      · rw [hb] at c2
        rw [okR_no (.inl hb)] at hq
        repeat' (first | exact trivial | refine BS.a (fun h => ?_) (fun h => ?_) | refine BS.n ?_ | refine BS.s (fun h => ?_) (fun h => ?_) | refine And.intro ?_ ?_ | exact Need.au | exact OutS.whole rfl rfl | refine OpK.ca c2 hE ?_ | refine OpK.ca c3 hE ?_ | refine ListO.go gOk hE ?_)
        all_goals first | exact Need.mk hq.symm | exact Need.mk hq | (exfalso; omega) | trace_state
      · have hz := hbs (hSlot (R.getD i (0, 0)).1).toNat (by omega)
        rw [Int.toNat_of_nonneg hb.1] at hz
        repeat' (first | exact trivial | refine BS.a (fun h => ?_) (fun h => ?_) | refine BS.n ?_ | refine BS.s (fun h => ?_) (fun h => ?_) | refine And.intro ?_ ?_ | exact Need.au | exact OutS.whole rfl rfl | refine OpK.ca c2 hE ?_ | refine OpK.ca c3 hE ?_ | refine ListO.go gOk hE ?_)
        all_goals first | (exfalso; omega) | skip
        refine OpK.ldA gOk (by rfl) (by rfl) (by rfl) (by rfl) (by rfl) (by rfl) (by rfl) (by omega) ?_
        rw [show 0 + (hSlot (R.getD i (0, 0)).1).toNat * 1 = (hSlot (R.getD i (0, 0)).1).toNat by omega, hz]
        by_cases hin : hSlot (R.getD i (0, 0)).1 ∈ s
        · rw [decide_eq_true hin]
          rw [okR_no (.inr (.inr hin))] at hq
          rw [hq]
          repeat' (first | exact trivial | refine BS.a (fun h => ?_) (fun h => ?_) | refine BS.n ?_ | refine BS.s (fun h => ?_) (fun h => ?_) | refine And.intro ?_ ?_ | exact Need.au | exact OutS.whole rfl rfl | refine OpK.ca c2 hE ?_ | refine OpK.ca c3 hE ?_ | refine ListO.go gOk hE ?_)
          all_goals first | rfl | exact Need.mk rfl | (exfalso; omega) | trace_state
        · rw [decide_eq_false hin]
          by_cases hep : 0 ≤ (R.getD i (0, 0)).2 ∧ (R.getD i (0, 0)).2 ≤ 100000
          · rw [decide_eq_true hep] at c3
            rw [okR_yes (by rintro (h | h | h) <;> first | omega | exact h hep | exact hin h)] at hq
            repeat' (first | exact trivial | refine BS.a (fun h => ?_) (fun h => ?_) | refine BS.n ?_ | refine BS.s (fun h => ?_) (fun h => ?_) | refine And.intro ?_ ?_ | exact Need.au | exact OutS.whole rfl rfl | refine OpK.ca c2 hE ?_ | refine OpK.ca c3 hE ?_ | refine ListO.go gOk hE ?_)
            all_goals first | (exfalso; omega) | skip
            refine OpK.stA gOk (by rfl) (by rfl) (by rfl) (by rfl) (by rfl) (by rfl) (by rfl) (by omega) (by exact hbl.symm) ?_
            rw [show 0 + (hSlot (R.getD i (0, 0)).1).toNat * 1 = (hSlot (R.getD i (0, 0)).1).toNat by omega]
            repeat' (first | exact trivial | refine BS.a (fun h => ?_) (fun h => ?_) | refine BS.n ?_ | refine BS.s (fun h => ?_) (fun h => ?_) | refine And.intro ?_ ?_ | exact Need.au | exact OutS.whole rfl rfl | refine ListO.go gOk hE ?_)
            exact ⟨(i + 1, s ++ [hSlot (R.getD i (0, 0)).1], bs.set (hSlot (R.getD i (0, 0)).1).toNat true), (by refine leT.of ?_ ?_ rfl <;> repeat' (first | exact trivial | refine And.intro rfl ?_ | refine And.intro (by first | rfl | (simp; done) | (simp <;> rfl)) ?_)), ⟨hi2, by simp [hbl], rseen_step hbl hb hbs, hq⟩, by dsimp only; omega⟩
          · rw [decide_eq_false hep] at c3
            rw [okR_no (.inr (.inl hep))] at hq
            rw [hq]
            repeat' (first | exact trivial | refine BS.a (fun h => ?_) (fun h => ?_) | refine BS.n ?_ | refine BS.s (fun h => ?_) (fun h => ?_) | refine And.intro ?_ ?_ | exact Need.au | exact OutS.whole rfl rfl | refine OpK.ca c2 hE ?_ | refine OpK.ca c3 hE ?_ | refine ListO.go gOk hE ?_)
            all_goals first | rfl | exact Need.mk rfl | (exfalso; omega) | trace_state
    · rw [List.drop_eq_nil_of_le (by omega)] at hq
      repeat' (first | exact trivial | refine BS.a (fun h => ?_) (fun h => ?_) | refine BS.n ?_ | refine BS.s (fun h => ?_) (fun h => ?_) | refine And.intro ?_ ?_ | exact Need.au | exact OutS.whole rfl rfl | refine OpK.ca c1 hE ?_ | refine ListO.go gOk hE ?_)
      all_goals first | exact Need.mk hq.symm | exact Need.mk hq | (exfalso; omega) | trace_state
end Go.Proofs.YtnfjpjgmhhmdeaaGreatDoor
end

section
namespace Go.Proofs.YtnfjpjgmhhmdeaaGreatDoor
open Go Go.Tr
set_option maxRecDepth 100000
set_option maxHeartbeats 4000000
set_option linter.unusedVariables false
set_option linter.unusedSimpArgs false
/-- The first of n places, from place i on, that has the property. -/
def rfirstP (p : Nat → Bool) : Nat → Nat → Option Nat
  | _, 0 => none
  | i, m + 1 => if p i then some i else rfirstP p (i + 1) m
theorem rfirstP_yes {p : Nat → Bool} {i m : Nat} (hm : 0 < m) (h : p i = true) : rfirstP p i m = some i := by
  cases m with
  | zero => omega
  | succ m => unfold rfirstP; rw [if_pos h]
theorem rfirstP_no {p : Nat → Bool} {i m : Nat} (hm : 0 < m) (h : p i = false) : rfirstP p i m = rfirstP p (i + 1) (m - 1) := by
  cases m with
  | zero => omega
  | succ m => rw [rfirstP, if_neg (by simp [h])]; rfl
theorem rfirstP_lt {p : Nat → Bool} : ∀ {m i j : Nat}, rfirstP p i m = some j → i ≤ j ∧ j < i + m ∧ p j = true
  | 0, i, j, h => by cases h
  | m + 1, i, j, h => by
    unfold rfirstP at h
    split at h
    · injection h with h; subst h; exact ⟨Nat.le_refl _, by omega, by assumption⟩
    · have := rfirstP_lt h; exact ⟨by omega, by omega, this.2.2⟩
theorem rfirstP_none {p : Nat → Bool} : ∀ {m i : Nat}, rfirstP p i m = none → ∀ j, i ≤ j → j < i + m → p j = false
  | 0, i, h, j, h1, h2 => by omega
  | m + 1, i, h, j, h1, h2 => by
    unfold rfirstP at h
    split at h
    · cases h
    · rename_i hp
      by_cases e : j = i
      · subst e; simpa using hp
      · exact rfirstP_none h j (by omega) (by omega)
def rplR : Option Nat → Int
  | some j => (j : Int)
  | none => -1
/-- The row's handle is one of this slot. -/
def rowAt (s : Int) (r : Row) : Bool := hOk r.1 && decide (hSlot r.1 = s)
def inLb (xs : List (List Row)) (s : Int) : Bool := (rfirstP (fun j => rowAt s (xs.flatten.getD j (0, 0))) 0 xs.flatten.length).isSome
theorem InLimbo1_run (x : Row) (s : Int) (g1 j1 : Nat) (hm : x.1 ≤ 9223372036854775807) (hs : 0 ≤ s) : RunH Tryz.prog (hcL [(g1, j1, .int .i64 s)]) 130 [.agg [.c (.lit (.int .i64 x.1)), .c (.lit (.int .i64 x.2))], .one (.c (.lit (.pointer (some ⟨g1, j1, none⟩))))] [] [ob (rowAt s x)] [] := by
  have c1 := iHandleSlot_run x.1 hm
  have hb : hSlot x.1 = if hOk x.1 then x.1 % 32 else -1 := rfl
  have hq : rowAt s x = decide (hSlot x.1 = s) := by
    unfold rowAt
    cases hk : hOk x.1 <;> rw [hk] at hb <;> simp at hb
    · rw [hb]; simp; omega
    · simp
  rw [hq]
  refine RunH.of_vc gOk Tryz.func130 rfl rfl (Nat.le_of_ble_eq_true rfl) (by repeat' (first | exact trivial | exact ⟨_, rfl, Nat.le_refl _⟩ | exact Nat.le_of_ble_eq_true rfl | refine And.intro ?_ ?_)) (Nat.le_of_ble_eq_true rfl) rfl (fun F hE hA => ?_)
  repeat' (first | exact trivial | refine BS.a (fun h => ?_) (fun h => ?_) | refine BS.n ?_ | refine BS.s (fun h => ?_) (fun h => ?_) | refine And.intro ?_ ?_ | exact Need.au | exact OutS.whole rfl rfl | (refine CodeK.draw gOk hE rfl (fun _ _ h => h) (.take 0 (.alt 1 (.alt 2 (.alt 3 (.take 4 (.take 5 .done)) .stop) (.alt 3 (.alt 2 (.take 4 (.take 5 .done)) .stop) .stop)) (.alt 3 (.alt 1 (.alt 2 (.take 4 (.take 5 .done)) .stop) .stop) .stop))) ?_ ?_; focus (decide +kernel)) | refine OpK.ca c1 hE ?_ | (first | refine OpK.ldI gOk 0 hA rfl rfl rfl rfl rfl rfl rfl ?_ | refine OpK.ldI gOk 1 hA rfl rfl rfl rfl rfl rfl rfl ?_ | refine OpK.ldI gOk 2 hA rfl rfl rfl rfl rfl rfl rfl ?_) | refine ListO.go gOk hE ?_)
  all_goals (refine Need.mk ?_; simp_all [Bool.beq_eq_decide_eq])
theorem IndexRow_run {hc : Hc} {cf : Nat} {caps : Array Value} (p : Row → Bool) (e : Nat) (xs : List Row) (hn : xs.length ≤ 1048576) (hcs : ∀ v ∈ caps, scal v = true) (hf : ∀ i, RunH Tryz.prog hc cf ([.agg [.c (.lit (.int .i64 (xs.getD i (0, 0)).1)), .c (.lit (.int .i64 (xs.getD i (0, 0)).2))]] ++ capA caps) [] [ob (p (xs.getD i (0, 0)))] []) :
    RunH Tryz.prog hc 191 [.one (.c (tR e xs)), .one (.c (.lit (.func (.func cf) #[] caps)))] [] [oi (rplR (rfirstP (fun j => p (xs.getD j (0, 0))) 0 xs.length))] [] := by
  refine RunH.of_vc gOk Tryz.func191 rfl rfl (Nat.le_of_ble_eq_true rfl) (by repeat' (first | exact trivial | exact ⟨_, rfl, Nat.le_refl _⟩ | exact Nat.le_of_ble_eq_true rfl | refine And.intro ?_ ?_)) (Nat.le_of_ble_eq_true rfl) rfl (fun F hE hA => ?_)
  repeat' (first | exact trivial | refine BS.a (fun h => ?_) (fun h => ?_) | refine BS.n ?_ | refine BS.s (fun h => ?_) (fun h => ?_) | refine And.intro ?_ ?_ | exact Need.au | exact OutS.whole rfl rfl | refine ListO.go gOk hE ?_)
  refine CodeK.loop gOk hE (fun i : Nat => ⟨[(0, vr 1000000 xs.length), (1, .a (.lit (.func (.func cf) #[] caps))), (7, vi xs.length), (8, vi i)], [(1000000, rR .fro false e xs)]⟩) (fun i => i ≤ xs.length ∧ rfirstP (fun j => p (xs.getD j (0, 0))) 0 xs.length = rfirstP (fun j => p (xs.getD j (0, 0))) i (xs.length - i)) (fun i => xs.length - i) 0 (by refine leT.of ?_ ?_ rfl <;> repeat' (first | exact trivial | refine And.intro rfl ?_ | refine And.intro (by simp) ?_)) ⟨Nat.zero_le _, rfl⟩ ?_
  rintro i ⟨hi, hs⟩
  rcases hp : p (xs.getD i (0, 0))
  all_goals (have c1 := hf i; rw [hp] at c1)
  all_goals (repeat' (first | exact trivial | refine BS.a (fun h => ?_) (fun h => ?_) | refine BS.n ?_ | refine BS.s (fun h => ?_) (fun h => ?_) | refine And.intro ?_ ?_ | exact Need.au | exact OutS.whole rfl rfl | (refine OpK.callC c1 hA hcs rfl rfl rfl rfl hE ?_ rfl rfl ?_; focus ((repeat' (first | exact PsA.lit _ | exact PsA.ref rfl rfl | constructor)); all_goals (fail "ps"))) | refine ListO.go gOk hE ?_))
  all_goals (try simp only [adN_zero] at *)
  all_goals first
    | (exfalso; first | omega | (simp_all; done))
    | (refine Need.mk ?_; omega)
    | (refine Need.mk ?_; rw [hs, rfirstP_yes (by omega) hp]; rfl)
    | (refine Need.mk ?_; rw [hs, show xs.length - i = 0 by omega]; rfl)
    | (refine ⟨i + 1, (by refine leT.of ?_ ?_ rfl <;> repeat' (first | exact trivial | refine And.intro rfl ?_ | refine And.intro (by simp) ?_)), ⟨by omega, by rw [hs, rfirstP_no (by omega) hp, show xs.length - i - 1 = xs.length - (i + 1) by omega]⟩, by first | omega | (dsimp only; omega)⟩)
theorem ContainsRow_run {hc : Hc} {cf : Nat} {caps : Array Value} (p : Row → Bool) (e : Nat) (xs : List Row) (hn : xs.length ≤ 1048576) (hcs : ∀ v ∈ caps, scal v = true) (hf : ∀ i, RunH Tryz.prog hc cf ([.agg [.c (.lit (.int .i64 (xs.getD i (0, 0)).1)), .c (.lit (.int .i64 (xs.getD i (0, 0)).2))]] ++ capA caps) [] [ob (p (xs.getD i (0, 0)))] []) :
    RunH Tryz.prog hc 129 [.one (.c (tR e xs)), .one (.c (.lit (.func (.func cf) #[] caps)))] [] [ob (rfirstP (fun j => p (xs.getD j (0, 0))) 0 xs.length).isSome] [] := by
  have c1 := IndexRow_run p e xs hn hcs hf
  generalize rfirstP (fun j => p (xs.getD j (0, 0))) 0 xs.length = r at *
  refine RunH.of_vc gOk Tryz.func129 rfl rfl (Nat.le_of_ble_eq_true rfl) (by repeat' (first | exact trivial | exact ⟨_, rfl, Nat.le_refl _⟩ | exact Nat.le_of_ble_eq_true rfl | refine And.intro ?_ ?_)) (Nat.le_of_ble_eq_true rfl) rfl (fun F hE hA => ?_)
  repeat' (first | exact trivial | refine BS.a (fun h => ?_) (fun h => ?_) | refine BS.n ?_ | refine BS.s (fun h => ?_) (fun h => ?_) | refine And.intro ?_ ?_ | exact Need.au | exact OutS.whole rfl rfl | refine OpK.ha c1 hA hE ?_ | refine ListO.go gOk hE ?_)
  all_goals (refine Need.mk ?_; cases r <;> simp [rplR])
theorem InLimboI_run (e' e : Nat) (xs : List (List Row)) (s : Int) (hn : xs.length ≤ 1048576) (hcn : cnt xs ≤ 1048576) (hm : ∀ i, (xs.flatten.getD i (0, 0)).1 ≤ 9223372036854775807) : RunT Tryz.prog 70 [.one (.c (tLL e' e xs)), ti s] [] [ob (if 0 ≤ s ∧ s < 24 then inLb xs s else false)] [] := by
  refine RunH.toT ?_
  have c0 := slotOkB_run s
  by_cases hs : 0 ≤ s ∧ s < 24
  · rw [if_pos hs]
    rw [decide_eq_true hs] at c0
    have c2 := allRows_run e' e xs hn hcn
    have c1 : ∀ ps : List (Nat × Nat), ps.length = 1 → RunH Tryz.prog (hcU (hcL (hcOf ps [.int .i64 s])) hc0) 129 [.one (.c (tR 127 xs.flatten)), .one (.c (.lit (.func (.func 130) #[] (ptrs ps))))] [] [ob (inLb xs s)] [] := by
      intro ps hps
      match ps, hps with
      | [(g1, j1)], _ =>
        exact (ContainsRow_run (caps := ptrs [(g1, j1)]) (rowAt s) _ xs.flatten (by have := flat_len xs; omega) (ptrs_scal _) (fun i => InLimbo1_run _ s g1 j1 (hm i) hs.1)).mono (fun g j v hm => .inl hm)
    refine RunH.of_vc gOk Tryz.func70 rfl rfl (Nat.le_of_ble_eq_true rfl) (by repeat' (first | exact trivial | exact ⟨_, rfl, Nat.le_refl _⟩ | exact Nat.le_of_ble_eq_true rfl | refine And.intro ?_ ?_)) (Nat.le_of_ble_eq_true rfl) rfl (fun F hE hA => ?_)
    repeat' (first | exact trivial | refine BS.a (fun h => ?_) (fun h => ?_) | refine BS.n ?_ | refine BS.s (fun h => ?_) (fun h => ?_) | refine And.intro ?_ ?_ | exact Need.au | exact OutS.whole rfl rfl | refine OpK.ca c0 hE ?_ | refine OpK.ca c2 hE ?_ | refine ListO.go gOk hE ?_)
    all_goals first | exact absurd rfl h | skip
    (refine ListK.mkCall (args := (fun v => [.one (.c (tR 127 xs.flatten)), .one (.c (.lit v))])) rfl rfl rfl rfl (.cons rfl rfl .nil) hA c1 rfl rfl rfl rfl rfl hE ?_ rfl rfl ?_ gOk; focus (intro v; (repeat' (first | exact PsA.lit _ | exact PsA.ref rfl rfl | constructor)); all_goals (fail "ps")))
    repeat' (first | exact trivial | refine BS.a (fun h => ?_) (fun h => ?_) | refine BS.n ?_ | refine BS.s (fun h => ?_) (fun h => ?_) | refine And.intro ?_ ?_ | exact Need.au | exact OutS.whole rfl rfl | refine ListO.go gOk hE ?_)
  · rw [if_neg hs]
    rw [decide_eq_false hs] at c0
    refine RunH.of_vc gOk Tryz.func70 rfl rfl (Nat.le_of_ble_eq_true rfl) (by repeat' (first | exact trivial | exact ⟨_, rfl, Nat.le_refl _⟩ | exact Nat.le_of_ble_eq_true rfl | refine And.intro ?_ ?_)) (Nat.le_of_ble_eq_true rfl) rfl (fun F hE hA => ?_)
    repeat' (first | exact trivial | refine BS.a (fun h => ?_) (fun h => ?_) | refine BS.n ?_ | refine BS.s (fun h => ?_) (fun h => ?_) | refine And.intro ?_ ?_ | exact Need.au | exact OutS.whole rfl rfl | refine OpK.ca c0 hE ?_ | refine ListO.go gOk hE ?_)
    all_goals first | exact absurd rfl h | trace_state
theorem hSlot_bdL {h : Int} (hk : hOk h = true) : 0 ≤ hSlot h ∧ hSlot h < 24 := by
  unfold hSlot; rw [hk]; simp
  unfold hOk at hk
  simp only [decide_eq_true_eq] at hk
  omega
theorem inLb_out (xs : List (List Row)) (s : Int) (hs : ¬ (0 ≤ s ∧ s < 24)) : inLb xs s = false := by
  unfold inLb
  cases h : rfirstP (fun j => rowAt s (xs.flatten.getD j (0, 0))) 0 xs.flatten.length with
  | none => rfl
  | some j =>
    exfalso
    obtain ⟨_, _, h3⟩ := rfirstP_lt h
    unfold rowAt at h3
    simp only [Bool.and_eq_true, decide_eq_true_eq] at h3
    have := hSlot_bdL h3.1
    omega
theorem InLimboS_run (e' e : Nat) (xs : List (List Row)) (s : Int) (hn : xs.length ≤ 1048576) (hcn : cnt xs ≤ 1048576) : RunT Tryz.prog 67 [.one (.c (tLL e' e xs)), ti s] [] [ob (inLb xs s)] [] := by
  have hfl := flat_len xs
  have c0 := l11All_run e' e xs hn hcn
  unfold inLb
  refine RunT.of_vc gOk Tryz.func67 rfl rfl (Nat.le_of_ble_eq_true rfl) (by repeat' (first | exact trivial | exact ⟨_, rfl, Nat.le_refl _⟩ | exact Nat.le_of_ble_eq_true rfl | refine And.intro ?_ ?_)) (Nat.le_of_ble_eq_true rfl) rfl (fun F hE => ?_)
  repeat' (first | exact trivial | refine BS.a (fun h => ?_) (fun h => ?_) | refine BS.n ?_ | refine BS.s (fun h => ?_) (fun h => ?_) | refine And.intro ?_ ?_ | exact Need.au | exact OutS.whole rfl rfl | refine OpK.ca c0 hE ?_ | refine ListO.go gOk hE ?_)
  generalize xs.flatten = R at *
  refine CodeK.loop gOk hE (fun i : Nat => ⟨[(1, vi s), (5, vr 2001024 R.length), (6, vi i)], [(2001024, rR .own true 127 R)]⟩) (fun i => i ≤ R.length ∧ rfirstP (fun j => rowAt s (R.getD j (0, 0))) 0 R.length = rfirstP (fun j => rowAt s (R.getD j (0, 0))) i (R.length - i)) (fun i => R.length - i) 0 (by refine leT.of ?_ ?_ rfl <;> repeat' (first | exact trivial | refine And.intro rfl ?_ | refine And.intro (by simp) ?_)) ⟨Nat.zero_le _, rfl⟩ ?_
  rintro i ⟨hi, hs⟩
  have c1 := sHandleOk_run (R.getD i (0, 0)).1
  have c2 := sHandleSlot_run (R.getD i (0, 0)).1
  have hpq : rowAt s (R.getD i (0, 0)) = (hOk (R.getD i (0, 0)).1 && decide (hSlot (R.getD i (0, 0)).1 = s)) := rfl
  rcases hk : hOk (R.getD i (0, 0)).1 <;> by_cases hp : hSlot (R.getD i (0, 0)).1 = s
  all_goals (rw [hk] at c1 hpq; first | rw [decide_eq_true hp] at hpq | rw [decide_eq_false hp] at hpq)
  all_goals (have hp0 := hpq; simp only [Bool.and_true, Bool.and_false, Bool.true_and, Bool.false_and] at hp0)
  all_goals (repeat' (first | exact trivial | refine BS.a (fun h => ?_) (fun h => ?_) | refine BS.n ?_ | refine BS.s (fun h => ?_) (fun h => ?_) | refine And.intro ?_ ?_ | exact Need.au | exact OutS.whole rfl rfl | refine OpK.ca c1 hE ?_ | refine OpK.ca c2 hE ?_ | refine ListO.go gOk hE ?_))
  all_goals (try simp only [adN_zero] at *)
  all_goals first
    | (exfalso; first | omega | (simp_all; done))
    | (refine Need.mk ?_; omega)
    | (refine Need.mk ?_; rw [hs, rfirstP_yes (by omega) hp0]; rfl)
    | (refine Need.mk ?_; rw [hs, show R.length - i = 0 by omega]; rfl)
    | (refine ⟨i + 1, (by refine leT.of ?_ ?_ rfl <;> repeat' (first | exact trivial | refine And.intro rfl ?_ | refine And.intro (by simp) ?_)), ⟨by omega, by rw [hs, rfirstP_no (by omega) hp0, show R.length - i - 1 = R.length - (i + 1) by omega]⟩, by first | omega | (dsimp only; omega)⟩)
end Go.Proofs.YtnfjpjgmhhmdeaaGreatDoor
end

section
/- Classes, places: contracts over the table of slot sizes. -/
namespace Go.Proofs.YtnfjpjgmhhmdeaaGreatDoor
open Go Go.Tr
set_option maxRecDepth 100000
set_option maxHeartbeats 4000000
set_option linter.unusedVariables false
set_option linter.unusedSimpArgs false
def szC (c : Int) : Int := if c = 0 then 8 else if c = 1 then 16 else if c = 2 then 40 else 0
def strC (c : Int) : Int := if c = 0 then 12 else if c = 1 then 20 else if c = 2 then 44 else 0
def perC (c : Int) : Int := if c = 0 then 4 else if c = 1 then 2 else if c = 2 then 1 else 0
def pgS (s : Int) : Int := if 0 ≤ s ∧ s < 24 then s / 4 else -1
def ixS (s : Int) : Int := if 0 ≤ s ∧ s < 24 then s % 4 else -1
def slA (p i : Int) : Int := if (0 ≤ p ∧ p < 6) ∧ 0 ≤ i ∧ i < 4 then p * 4 + i else -1
def genA (s c : Int) : Int := if (0 ≤ s ∧ s < 24) ∧ s % 4 < perC c then s / 4 * 64 + 8 + s % 4 * strC c else -1
theorem cls4 (c : Int) : (c = 0 ∧ szC c = 8 ∧ strC c = 12 ∧ perC c = 4) ∨ (c = 1 ∧ szC c = 16 ∧ strC c = 20 ∧ perC c = 2) ∨ (c = 2 ∧ szC c = 40 ∧ strC c = 44 ∧ perC c = 1) ∨ ((c < 0 ∨ 2 < c) ∧ szC c = 0 ∧ strC c = 0 ∧ perC c = 0) := by
  by_cases h0 : c = 0
  · subst h0; exact .inl ⟨rfl, rfl, rfl, rfl⟩
  by_cases h1 : c = 1
  · subst h1; exact .inr (.inl ⟨rfl, rfl, rfl, rfl⟩)
  by_cases h2 : c = 2
  · subst h2; exact .inr (.inr (.inl ⟨rfl, rfl, rfl, rfl⟩))
  · refine .inr (.inr (.inr ⟨by omega, ?_, ?_, ?_⟩)) <;> simp [szC, strC, perC, h0, h1, h2]
/-- The table of slot sizes. -/
abbrev hT : Hc := hcL [(0, 0, .int .i64 8), (0, 1, .int .i64 16), (0, 2, .int .i64 40)]
theorem inH_run (x a b : Int) : RunT Tryz.prog 39 [ti x, ti a, ti b] [] [ob (decide (a ≤ x ∧ x ≤ b))] [] := by
  refine RunT.of_vc gOk Tryz.func39 rfl rfl (Nat.le_of_ble_eq_true rfl) (by repeat' (first | exact trivial | exact ⟨_, rfl, Nat.le_refl _⟩ | exact Nat.le_of_ble_eq_true rfl | refine And.intro ?_ ?_)) (Nat.le_of_ble_eq_true rfl) rfl (fun F hE => ?_)
  repeat' (first | exact trivial | refine BS.a (fun h => ?_) (fun h => ?_) | refine BS.n ?_ | refine BS.s (fun h => ?_) (fun h => ?_) | refine And.intro ?_ ?_ | exact Need.au | exact OutS.whole rfl rfl | refine ListO.go gOk hE ?_)
  all_goals (refine Need.mk ?_; simp [*])
theorem slotH_run (x : Int) : RunT Tryz.prog 128 [ti x] [] [ob (decide (0 ≤ x ∧ x < 24))] [] := by
  refine RunT.of_vc gOk Tryz.func128 rfl rfl (Nat.le_of_ble_eq_true rfl) (by repeat' (first | exact trivial | exact ⟨_, rfl, Nat.le_refl _⟩ | exact Nat.le_of_ble_eq_true rfl | refine And.intro ?_ ?_)) (Nat.le_of_ble_eq_true rfl) rfl (fun F hE => ?_)
  repeat' (first | exact trivial | refine BS.a (fun h => ?_) (fun h => ?_) | refine BS.n ?_ | refine BS.s (fun h => ?_) (fun h => ?_) | refine And.intro ?_ ?_ | exact Need.au | exact OutS.whole rfl rfl | refine ListO.go gOk hE ?_)
  all_goals (refine Need.mk ?_; first | rfl | (symm; apply decide_eq_true; omega) | (symm; apply decide_eq_false; omega) | (apply decide_eq_decide.2; omega) | (simp only [beq_iff_eq, Bool.beq_eq_decide_eq] at *; apply decide_eq_decide.2; omega) | (simp; omega))
theorem clsH_run (x : Int) : RunT Tryz.prog 257 [ti x] [] [ob (decide (0 ≤ x ∧ x < 3))] [] := by
  refine RunT.of_vc gOk Tryz.func257 rfl rfl (Nat.le_of_ble_eq_true rfl) (by repeat' (first | exact trivial | exact ⟨_, rfl, Nat.le_refl _⟩ | exact Nat.le_of_ble_eq_true rfl | refine And.intro ?_ ?_)) (Nat.le_of_ble_eq_true rfl) rfl (fun F hE => ?_)
  repeat' (first | exact trivial | refine BS.a (fun h => ?_) (fun h => ?_) | refine BS.n ?_ | refine BS.s (fun h => ?_) (fun h => ?_) | refine And.intro ?_ ?_ | exact Need.au | exact OutS.whole rfl rfl | refine ListO.go gOk hE ?_)
  all_goals (refine Need.mk ?_; first | rfl | (symm; apply decide_eq_true; omega) | (symm; apply decide_eq_false; omega) | (apply decide_eq_decide.2; omega) | (simp only [beq_iff_eq, Bool.beq_eq_decide_eq] at *; apply decide_eq_decide.2; omega) | (simp; omega))
theorem SizeOfS_run (c : Int) : RunT Tryz.prog 268 [ti c] [] [oi (szC c)] [] := by
  rcases cls4 c with ⟨h, e, -, -⟩ | ⟨h, e, -, -⟩ | ⟨h, e, -, -⟩ | ⟨h, e, -, -⟩ <;> rw [e] <;> try subst h
  all_goals (refine RunT.of_vc gOk Tryz.func268 rfl rfl (Nat.le_of_ble_eq_true rfl) (by repeat' (first | exact trivial | exact ⟨_, rfl, Nat.le_refl _⟩ | exact Nat.le_of_ble_eq_true rfl | refine And.intro ?_ ?_)) (Nat.le_of_ble_eq_true rfl) rfl (fun F hE => ?_))
  all_goals (repeat' (first | exact trivial | refine BS.a (fun h => ?_) (fun h => ?_) | refine BS.n ?_ | refine BS.s (fun h => ?_) (fun h => ?_) | refine And.intro ?_ ?_ | exact Need.au | exact OutS.whole rfl rfl | refine ListO.go gOk hE ?_))
  all_goals first | (exfalso; omega) | exact Need.mk rfl | trace_state
theorem SizeOfI_run (c : Int) : RunH Tryz.prog hT 271 [ti c] [] [oi (szC c)] [] := by
  have c1 := clsH_run c
  rcases cls4 c with ⟨h, e, -, -⟩ | ⟨h, e, -, -⟩ | ⟨h, e, -, -⟩ | ⟨h, e, -, -⟩ <;> rw [e] <;> try subst h
  · refine RunH.of_vc gOk Tryz.func271 rfl rfl (Nat.le_of_ble_eq_true rfl) (by repeat' (first | exact trivial | exact ⟨_, rfl, Nat.le_refl _⟩ | exact Nat.le_of_ble_eq_true rfl | refine And.intro ?_ ?_)) (Nat.le_of_ble_eq_true rfl) rfl (fun F hE hA => ?_)
    repeat' (first | exact trivial | refine BS.a (fun h => ?_) (fun h => ?_) | refine BS.n ?_ | refine BS.s (fun h => ?_) (fun h => ?_) | refine And.intro ?_ ?_ | exact Need.au | exact OutS.whole rfl rfl | refine OpK.ca c1 hE ?_ | (refine PK.ixH gOk rfl rfl rfl rfl (by decide) ?_) | (refine OpK.ldI gOk 0 hA rfl rfl rfl rfl rfl rfl rfl ?_) | refine ListO.go gOk hE ?_)
    all_goals first | (exfalso; omega) | exact Need.mk rfl | trace_state
  · refine RunH.of_vc gOk Tryz.func271 rfl rfl (Nat.le_of_ble_eq_true rfl) (by repeat' (first | exact trivial | exact ⟨_, rfl, Nat.le_refl _⟩ | exact Nat.le_of_ble_eq_true rfl | refine And.intro ?_ ?_)) (Nat.le_of_ble_eq_true rfl) rfl (fun F hE hA => ?_)
    repeat' (first | exact trivial | refine BS.a (fun h => ?_) (fun h => ?_) | refine BS.n ?_ | refine BS.s (fun h => ?_) (fun h => ?_) | refine And.intro ?_ ?_ | exact Need.au | exact OutS.whole rfl rfl | refine OpK.ca c1 hE ?_ | (refine PK.ixH gOk rfl rfl rfl rfl (by decide) ?_) | (refine OpK.ldI gOk 1 hA rfl rfl rfl rfl rfl rfl rfl ?_) | refine ListO.go gOk hE ?_)
    all_goals first | (exfalso; omega) | exact Need.mk rfl | trace_state
  · refine RunH.of_vc gOk Tryz.func271 rfl rfl (Nat.le_of_ble_eq_true rfl) (by repeat' (first | exact trivial | exact ⟨_, rfl, Nat.le_refl _⟩ | exact Nat.le_of_ble_eq_true rfl | refine And.intro ?_ ?_)) (Nat.le_of_ble_eq_true rfl) rfl (fun F hE hA => ?_)
    repeat' (first | exact trivial | refine BS.a (fun h => ?_) (fun h => ?_) | refine BS.n ?_ | refine BS.s (fun h => ?_) (fun h => ?_) | refine And.intro ?_ ?_ | exact Need.au | exact OutS.whole rfl rfl | refine OpK.ca c1 hE ?_ | (refine PK.ixH gOk rfl rfl rfl rfl (by decide) ?_) | (refine OpK.ldI gOk 2 hA rfl rfl rfl rfl rfl rfl rfl ?_) | refine ListO.go gOk hE ?_)
    all_goals first | (exfalso; omega) | exact Need.mk rfl | trace_state
  · rw [decide_eq_false (by omega)] at c1
    refine RunH.of_vc gOk Tryz.func271 rfl rfl (Nat.le_of_ble_eq_true rfl) (by repeat' (first | exact trivial | exact ⟨_, rfl, Nat.le_refl _⟩ | exact Nat.le_of_ble_eq_true rfl | refine And.intro ?_ ?_)) (Nat.le_of_ble_eq_true rfl) rfl (fun F hE hA => ?_)
    repeat' (first | exact trivial | refine BS.a (fun h => ?_) (fun h => ?_) | refine BS.n ?_ | refine BS.s (fun h => ?_) (fun h => ?_) | refine And.intro ?_ ?_ | exact Need.au | exact OutS.whole rfl rfl | refine OpK.ca c1 hE ?_ | refine ListO.go gOk hE ?_)
    all_goals first | (exfalso; omega) | exact Need.mk rfl | trace_state
end Go.Proofs.YtnfjpjgmhhmdeaaGreatDoor
end

section
namespace Go.Proofs.YtnfjpjgmhhmdeaaGreatDoor
open Go Go.Tr
set_option maxRecDepth 100000
set_option maxHeartbeats 4000000
set_option linter.unusedVariables false
set_option linter.unusedSimpArgs false
theorem StrideOfS_run (c : Int) : RunT Tryz.prog 237 [ti c] [] [oi (strC c)] [] := by
  have c1 := inH_run c 0 2
  have c2 := SizeOfS_run c
  rcases cls4 c with ⟨h, e, e1, -⟩ | ⟨h, e, e1, -⟩ | ⟨h, e, e1, -⟩ | ⟨h, e, e1, -⟩ <;> rw [e1] <;> rw [e] at c2 <;> try subst h
  all_goals first | rw [decide_eq_true (by omega)] at c1 | rw [decide_eq_false (by omega)] at c1
  all_goals (refine RunT.of_vc gOk Tryz.func237 rfl rfl (Nat.le_of_ble_eq_true rfl) (by repeat' (first | exact trivial | exact ⟨_, rfl, Nat.le_refl _⟩ | exact Nat.le_of_ble_eq_true rfl | refine And.intro ?_ ?_)) (Nat.le_of_ble_eq_true rfl) rfl (fun F hE => ?_))
  all_goals (repeat' (first | exact trivial | refine BS.a (fun h => ?_) (fun h => ?_) | refine BS.n ?_ | refine BS.s (fun h => ?_) (fun h => ?_) | refine And.intro ?_ ?_ | exact Need.au | exact OutS.whole rfl rfl | refine OpK.ca c1 hE ?_ | refine OpK.ca c2 hE ?_ | refine ListO.go gOk hE ?_))
  all_goals first | (exfalso; omega) | exact Need.mk rfl | (refine Need.mk ?_; rw [wr_in (by decide)]; rfl) | (exfalso; simp_all; done) | trace_state
theorem StrideOfI_run (c : Int) : RunH Tryz.prog hT 243 [ti c] [] [oi (strC c)] [] := by
  have c1 := clsH_run c
  have c2 := SizeOfI_run c
  rcases cls4 c with ⟨h, e, e1, -⟩ | ⟨h, e, e1, -⟩ | ⟨h, e, e1, -⟩ | ⟨h, e, e1, -⟩ <;> rw [e1] <;> rw [e] at c2 <;> try subst h
  all_goals first | rw [decide_eq_true (by omega)] at c1 | rw [decide_eq_false (by omega)] at c1
  all_goals (refine RunH.of_vc gOk Tryz.func243 rfl rfl (Nat.le_of_ble_eq_true rfl) (by repeat' (first | exact trivial | exact ⟨_, rfl, Nat.le_refl _⟩ | exact Nat.le_of_ble_eq_true rfl | refine And.intro ?_ ?_)) (Nat.le_of_ble_eq_true rfl) rfl (fun F hE hA => ?_))
  all_goals (repeat' (first | exact trivial | refine BS.a (fun h => ?_) (fun h => ?_) | refine BS.n ?_ | refine BS.s (fun h => ?_) (fun h => ?_) | refine And.intro ?_ ?_ | exact Need.au | exact OutS.whole rfl rfl | refine OpK.ca c1 hE ?_ | refine OpK.ha c2 hA hE ?_ | refine ListO.go gOk hE ?_))
  all_goals first | (exfalso; omega) | exact Need.mk rfl | (refine Need.mk ?_; rw [wr_in (by decide)]; rfl) | (exfalso; simp_all; done) | trace_state
theorem PerPageS_run (c : Int) : RunT Tryz.prog 236 [ti c] [] [oi (perC c)] [] := by
  have c1 := inH_run c 0 2
  have c2 := StrideOfS_run c
  rcases cls4 c with ⟨h, -, e, e1⟩ | ⟨h, -, e, e1⟩ | ⟨h, -, e, e1⟩ | ⟨h, -, e, e1⟩ <;> rw [e1] <;> rw [e] at c2 <;> try subst h
  all_goals first | rw [decide_eq_true (by omega)] at c1 | rw [decide_eq_false (by omega)] at c1
  all_goals (refine RunT.of_vc gOk Tryz.func236 rfl rfl (Nat.le_of_ble_eq_true rfl) (by repeat' (first | exact trivial | exact ⟨_, rfl, Nat.le_refl _⟩ | exact Nat.le_of_ble_eq_true rfl | refine And.intro ?_ ?_)) (Nat.le_of_ble_eq_true rfl) rfl (fun F hE => ?_))
  all_goals (repeat' (first | exact trivial | refine BS.a (fun h => ?_) (fun h => ?_) | refine BS.n ?_ | refine BS.s (fun h => ?_) (fun h => ?_) | refine And.intro ?_ ?_ | exact Need.au | exact OutS.whole rfl rfl | refine OpK.ca c1 hE ?_ | refine OpK.ca c2 hE ?_ | refine ListO.go gOk hE ?_))
  all_goals first | (exfalso; omega) | exact Need.mk rfl | (refine Need.mk ?_; rw [wr_in (by decide)]; rfl) | (exfalso; simp_all; done) | trace_state
theorem PerPageI_run (c : Int) : RunH Tryz.prog hT 242 [ti c] [] [oi (perC c)] [] := by
  have c1 := clsH_run c
  have c2 := StrideOfI_run c
  rcases cls4 c with ⟨h, -, e, e1⟩ | ⟨h, -, e, e1⟩ | ⟨h, -, e, e1⟩ | ⟨h, -, e, e1⟩ <;> rw [e1] <;> rw [e] at c2 <;> try subst h
  all_goals first | rw [decide_eq_true (by omega)] at c1 | rw [decide_eq_false (by omega)] at c1
  all_goals (refine RunH.of_vc gOk Tryz.func242 rfl rfl (Nat.le_of_ble_eq_true rfl) (by repeat' (first | exact trivial | exact ⟨_, rfl, Nat.le_refl _⟩ | exact Nat.le_of_ble_eq_true rfl | refine And.intro ?_ ?_)) (Nat.le_of_ble_eq_true rfl) rfl (fun F hE hA => ?_))
  all_goals (repeat' (first | exact trivial | refine BS.a (fun h => ?_) (fun h => ?_) | refine BS.n ?_ | refine BS.s (fun h => ?_) (fun h => ?_) | refine And.intro ?_ ?_ | exact Need.au | exact OutS.whole rfl rfl | refine OpK.ca c1 hE ?_ | refine OpK.ha c2 hA hE ?_ | refine ListO.go gOk hE ?_))
  all_goals first | (exfalso; omega) | exact Need.mk rfl | (refine Need.mk ?_; rw [wr_in (by decide)]; rfl) | (exfalso; simp_all; done) | trace_state
theorem PageOfS_run (s : Int) : RunT Tryz.prog 234 [ti s] [] [oi (pgS s)] [] := by
  have c1 := inH_run s 0 23
  unfold pgS
  refine RunT.of_vc gOk Tryz.func234 rfl rfl (Nat.le_of_ble_eq_true rfl) (by repeat' (first | exact trivial | exact ⟨_, rfl, Nat.le_refl _⟩ | exact Nat.le_of_ble_eq_true rfl | refine And.intro ?_ ?_)) (Nat.le_of_ble_eq_true rfl) rfl (fun F hE => ?_)
  repeat' (first | exact trivial | refine BS.a (fun h => ?_) (fun h => ?_) | refine BS.n ?_ | refine BS.s (fun h => ?_) (fun h => ?_) | refine And.intro ?_ ?_ | exact Need.au | exact OutS.whole rfl rfl | refine OpK.ca c1 hE ?_ | refine ListO.go gOk hE ?_)
  all_goals first | (refine Need.mk ?_; first | (rw [if_pos (by omega), Int.tdiv_eq_ediv_of_nonneg (by omega), wr_in (by omega)]; done) | (rw [if_neg (by omega)]; done)) | trace_state
theorem PageOfI_run (s : Int) : RunT Tryz.prog 238 [ti s] [] [oi (pgS s)] [] := by
  have c1 := slotH_run s
  unfold pgS
  refine RunT.of_vc gOk Tryz.func238 rfl rfl (Nat.le_of_ble_eq_true rfl) (by repeat' (first | exact trivial | exact ⟨_, rfl, Nat.le_refl _⟩ | exact Nat.le_of_ble_eq_true rfl | refine And.intro ?_ ?_)) (Nat.le_of_ble_eq_true rfl) rfl (fun F hE => ?_)
  repeat' (first | exact trivial | refine BS.a (fun h => ?_) (fun h => ?_) | refine BS.n ?_ | refine BS.s (fun h => ?_) (fun h => ?_) | refine And.intro ?_ ?_ | exact Need.au | exact OutS.whole rfl rfl | refine OpK.ca c1 hE ?_ | refine ListO.go gOk hE ?_)
  all_goals first | (refine Need.mk ?_; first | (rw [if_pos (by omega), Int.tdiv_eq_ediv_of_nonneg (by omega), wr_in (by omega)]; done) | (rw [if_neg (by omega)]; done)) | trace_state
theorem IndexOfS_run (s : Int) : RunT Tryz.prog 235 [ti s] [] [oi (ixS s)] [] := by
  have c1 := inH_run s 0 23
  unfold ixS
  refine RunT.of_vc gOk Tryz.func235 rfl rfl (Nat.le_of_ble_eq_true rfl) (by repeat' (first | exact trivial | exact ⟨_, rfl, Nat.le_refl _⟩ | exact Nat.le_of_ble_eq_true rfl | refine And.intro ?_ ?_)) (Nat.le_of_ble_eq_true rfl) rfl (fun F hE => ?_)
  repeat' (first | exact trivial | refine BS.a (fun h => ?_) (fun h => ?_) | refine BS.n ?_ | refine BS.s (fun h => ?_) (fun h => ?_) | refine And.intro ?_ ?_ | exact Need.au | exact OutS.whole rfl rfl | refine OpK.ca c1 hE ?_ | refine ListO.go gOk hE ?_)
  all_goals first | (refine Need.mk ?_; first | (rw [if_pos (by omega), Int.tmod_eq_emod_of_nonneg (by omega)]; done) | (rw [if_neg (by omega)]; done)) | trace_state
theorem IndexOfI_run (s : Int) : RunT Tryz.prog 241 [ti s] [] [oi (ixS s)] [] := by
  have c1 := slotH_run s
  unfold ixS
  refine RunT.of_vc gOk Tryz.func241 rfl rfl (Nat.le_of_ble_eq_true rfl) (by repeat' (first | exact trivial | exact ⟨_, rfl, Nat.le_refl _⟩ | exact Nat.le_of_ble_eq_true rfl | refine And.intro ?_ ?_)) (Nat.le_of_ble_eq_true rfl) rfl (fun F hE => ?_)
  repeat' (first | exact trivial | refine BS.a (fun h => ?_) (fun h => ?_) | refine BS.n ?_ | refine BS.s (fun h => ?_) (fun h => ?_) | refine And.intro ?_ ?_ | exact Need.au | exact OutS.whole rfl rfl | refine OpK.ca c1 hE ?_ | refine ListO.go gOk hE ?_)
  all_goals first | (refine Need.mk ?_; first | (rw [if_pos (by omega), Int.tmod_eq_emod_of_nonneg (by omega)]; done) | (rw [if_neg (by omega)]; done)) | trace_state
theorem SlotAtS_run (p i : Int) : RunT Tryz.prog 253 [ti p, ti i] [] [oi (slA p i)] [] := by
  have c1 := inH_run p 0 5
  have c2 := inH_run i 0 3
  unfold slA
  refine RunT.of_vc gOk Tryz.func253 rfl rfl (Nat.le_of_ble_eq_true rfl) (by repeat' (first | exact trivial | exact ⟨_, rfl, Nat.le_refl _⟩ | exact Nat.le_of_ble_eq_true rfl | refine And.intro ?_ ?_)) (Nat.le_of_ble_eq_true rfl) rfl (fun F hE => ?_)
  repeat' (first | exact trivial | refine BS.a (fun h => ?_) (fun h => ?_) | refine BS.n ?_ | refine BS.s (fun h => ?_) (fun h => ?_) | refine And.intro ?_ ?_ | exact Need.au | exact OutS.whole rfl rfl | refine OpK.ca c1 hE ?_ | refine OpK.ca c2 hE ?_ | refine ListO.go gOk hE ?_)
  all_goals first | (refine Need.mk ?_; first | (rw [if_pos (by omega)]; done) | (rw [if_neg (by omega)]; done)) | trace_state
theorem SlotAtI_run (p i : Int) : RunT Tryz.prog 259 [ti p, ti i] [] [oi (slA p i)] [] := by
  unfold slA
  refine RunT.of_vc gOk Tryz.func259 rfl rfl (Nat.le_of_ble_eq_true rfl) (by repeat' (first | exact trivial | exact ⟨_, rfl, Nat.le_refl _⟩ | exact Nat.le_of_ble_eq_true rfl | refine And.intro ?_ ?_)) (Nat.le_of_ble_eq_true rfl) rfl (fun F hE => ?_)
  repeat' (first | exact trivial | refine BS.a (fun h => ?_) (fun h => ?_) | refine BS.n ?_ | refine BS.s (fun h => ?_) (fun h => ?_) | refine And.intro ?_ ?_ | exact Need.au | exact OutS.whole rfl rfl | refine ListO.go gOk hE ?_)
  all_goals first | (exfalso; omega) | (refine Need.mk ?_; first | (rw [if_pos (by omega)]; done) | (rw [if_neg (by omega)]; done)) | trace_state
end Go.Proofs.YtnfjpjgmhhmdeaaGreatDoor
end

section
namespace Go.Proofs.YtnfjpjgmhhmdeaaGreatDoor
open Go Go.Tr
set_option maxRecDepth 100000
set_option maxHeartbeats 4000000
set_option linter.unusedVariables false
set_option linter.unusedSimpArgs false
theorem genA_yes {s c : Int} (hs : 0 ≤ s ∧ s < 24) (h : s % 4 < perC c) : genA s c = s / 4 * 64 + 8 + s % 4 * strC c := if_pos ⟨hs, h⟩
theorem genA_no {s c : Int} (h : ¬ ((0 ≤ s ∧ s < 24) ∧ s % 4 < perC c)) : genA s c = -1 := if_neg h
theorem pg_yes {s : Int} (h : 0 ≤ s ∧ s < 24) : pgS s = s / 4 := if_pos h
theorem pg_no {s : Int} (h : ¬ (0 ≤ s ∧ s < 24)) : pgS s = -1 := if_neg h
theorem ix_yes {s : Int} (h : 0 ≤ s ∧ s < 24) : ixS s = s % 4 := if_pos h
theorem ix_no {s : Int} (h : ¬ (0 ≤ s ∧ s < 24)) : ixS s = -1 := if_neg h
theorem GenAtS_run (s c : Int) : RunT Tryz.prog 186 [ti s, ti c] [] [oi (genA s c)] [] := by
  have c1 := PageOfS_run s
  have c2 := IndexOfS_run s
  have c3 := PerPageS_run c
  have c4 := StrideOfS_run c
  by_cases hs : 0 ≤ s ∧ s < 24
  · rw [pg_yes hs] at c1
    rw [ix_yes hs] at c2
    have h9 : genA s c = if s % 4 < perC c then s / 4 * 64 + 8 + s % 4 * strC c else -1 := by
      by_cases h : s % 4 < perC c
      · rw [genA_yes hs h, if_pos h]
      · rw [genA_no (fun hh => h hh.2), if_neg h]
    rw [h9]
    rcases cls4 c with ⟨h, -, e, e1⟩ | ⟨h, -, e, e1⟩ | ⟨h, -, e, e1⟩ | ⟨h, -, e, e1⟩ <;> rw [e1] <;> rw [e] <;> rw [e1] at c3 <;> rw [e] at c4
    all_goals (refine RunT.of_vc gOk Tryz.func186 rfl rfl (Nat.le_of_ble_eq_true rfl) (by repeat' (first | exact trivial | exact ⟨_, rfl, Nat.le_refl _⟩ | exact Nat.le_of_ble_eq_true rfl | refine And.intro ?_ ?_)) (Nat.le_of_ble_eq_true rfl) rfl (fun F hE => ?_))
    all_goals (repeat' (first | exact trivial | refine BS.a (fun h => ?_) (fun h => ?_) | refine BS.n ?_ | refine BS.s (fun h => ?_) (fun h => ?_) | refine And.intro ?_ ?_ | exact Need.au | exact OutS.whole rfl rfl | refine OpK.ca c1 hE ?_ | refine OpK.ca c2 hE ?_ | refine OpK.ca c3 hE ?_ | refine OpK.ca c4 hE ?_ | (refine OpK.call (inH_run ?_ ?_ ?_) rfl rfl rfl rfl hE ?_ rfl rfl ?_; rotate_left 3; focus ((repeat' (first | exact PsA.lit _ | exact PsA.ref rfl rfl | constructor)); all_goals (fail "ps"))) | refine ListO.go gOk hE ?_))
    all_goals first | (exfalso; omega) | (refine Need.mk ?_; first | omega | (rw [if_pos (by omega)]; done) | (rw [if_neg (by omega)]; done)) | trace_state
  · rw [pg_no hs] at c1
    rw [genA_no (fun hh => hs hh.1)]
    refine RunT.of_vc gOk Tryz.func186 rfl rfl (Nat.le_of_ble_eq_true rfl) (by repeat' (first | exact trivial | exact ⟨_, rfl, Nat.le_refl _⟩ | exact Nat.le_of_ble_eq_true rfl | refine And.intro ?_ ?_)) (Nat.le_of_ble_eq_true rfl) rfl (fun F hE => ?_)
    repeat' (first | exact trivial | refine BS.a (fun h => ?_) (fun h => ?_) | refine BS.n ?_ | refine BS.s (fun h => ?_) (fun h => ?_) | refine And.intro ?_ ?_ | exact Need.au | exact OutS.whole rfl rfl | refine OpK.ca c1 hE ?_ | refine ListO.go gOk hE ?_)
    all_goals first | exact Need.mk rfl | (exfalso; omega) | trace_state
theorem GenAtI_run (s c : Int) : RunH Tryz.prog hT 190 [ti s, ti c] [] [oi (genA s c)] [] := by
  have c0 := slotH_run s
  have c1 := PageOfI_run s
  have c2 := IndexOfI_run s
  have c3 := PerPageI_run c
  have c4 := StrideOfI_run c
  by_cases hs : 0 ≤ s ∧ s < 24
  · rw [pg_yes hs] at c1
    rw [ix_yes hs] at c2
    rw [decide_eq_true hs] at c0
    have h9 : genA s c = if s % 4 < perC c then s / 4 * 64 + 8 + s % 4 * strC c else -1 := by
      by_cases h : s % 4 < perC c
      · rw [genA_yes hs h, if_pos h]
      · rw [genA_no (fun hh => h hh.2), if_neg h]
    rw [h9]
    rcases cls4 c with ⟨h, -, e, e1⟩ | ⟨h, -, e, e1⟩ | ⟨h, -, e, e1⟩ | ⟨h, -, e, e1⟩ <;> rw [e1] <;> rw [e] <;> rw [e1] at c3 <;> rw [e] at c4
    all_goals (refine RunH.of_vc gOk Tryz.func190 rfl rfl (Nat.le_of_ble_eq_true rfl) (by repeat' (first | exact trivial | exact ⟨_, rfl, Nat.le_refl _⟩ | exact Nat.le_of_ble_eq_true rfl | refine And.intro ?_ ?_)) (Nat.le_of_ble_eq_true rfl) rfl (fun F hE hA => ?_))
    all_goals (repeat' (first | exact trivial | refine BS.a (fun h => ?_) (fun h => ?_) | refine BS.n ?_ | refine BS.s (fun h => ?_) (fun h => ?_) | refine And.intro ?_ ?_ | exact Need.au | exact OutS.whole rfl rfl | refine OpK.ca c0 hE ?_ | refine OpK.ca c1 hE ?_ | refine OpK.ca c2 hE ?_ | refine OpK.ha c3 hA hE ?_ | refine OpK.ha c4 hA hE ?_ | refine ListO.go gOk hE ?_))
    all_goals first | (exfalso; omega) | (refine Need.mk ?_; first | omega | (rw [if_pos (by omega)]; done) | (rw [if_neg (by omega)]; done)) | trace_state
  · rw [decide_eq_false hs] at c0
    rw [genA_no (fun hh => hs hh.1)]
    refine RunH.of_vc gOk Tryz.func190 rfl rfl (Nat.le_of_ble_eq_true rfl) (by repeat' (first | exact trivial | exact ⟨_, rfl, Nat.le_refl _⟩ | exact Nat.le_of_ble_eq_true rfl | refine And.intro ?_ ?_)) (Nat.le_of_ble_eq_true rfl) rfl (fun F hE hA => ?_)
    repeat' (first | exact trivial | refine BS.a (fun h => ?_) (fun h => ?_) | refine BS.n ?_ | refine BS.s (fun h => ?_) (fun h => ?_) | refine And.intro ?_ ?_ | exact Need.au | exact OutS.whole rfl rfl | refine OpK.ca c0 hE ?_ | refine ListO.go gOk hE ?_)
    all_goals first | exact Need.mk rfl | (exfalso; omega) | trace_state
end Go.Proofs.YtnfjpjgmhhmdeaaGreatDoor
end

section
/- Shifts by a constant. -/
set_option linter.unusedVariables false
set_option linter.unusedSimpArgs false
universe u
namespace Go.Tr
open Go Go.RowKit
section
variable {P : Program} {F : Fm} {N : Nat} {G : Gt} {o : Oper} {τ σ : TS} {k : TS → Prop}
theorem PK.shl8 {t u : Nat} {x y : Operand} {k' : IntKind} {i : Int} {kv : V → Prop} (hop : o.op = .binOp .shl t x y u) (hx : evS σ x = .a (.lit (.int .i64 i))) (hy : evS σ y = .a (.lit (.int k' 8))) (hb : -36028797018963968 ≤ i ∧ i ≤ 36028797018963967)
    (h : kv (.a (.lit (.int .i64 (i * 256))))) : PK P F N o σ kv := by
  refine ⟨_, h, fun a w ω β hr => ?_⟩
  have ex : a.eval x = .int .i64 i := ev_lit hr (by rw [evS_eq, hx]; rfl)
  have ey : a.eval y = .int k' 8 := ev_lit hr (by rw [evS_eq, hy]; rfl)
  refine ⟨.int .i64 (i * 256), fun w' => ?_, rfl, rfl⟩
  generalize a.eval = ρ at ex ey ⊢
  refine run_bin ρ w' hop (by rw [ex, ey]; exact run_guard_int w' _ _ _ _ _ _ _ _) ?_
  rw [ex, ey]
  show (Op.shift .shl .i64 i k' 8).run P w' = _
  unfold Op.shift
  rw [if_neg (by omega)]
  show Result.ok (Value.int .i64 (IntKind.i64.wrap (i * 2 ^ 8))) w' = _
  rw [show i * 2 ^ 8 = i * 256 by omega, IntWalk.i64_in _ (by omega)]
theorem or8 (x y : Int) (h0 : 0 ≤ x) (h1 : x ≤ 281474976710655) (h2 : 0 ≤ y) (h3 : y ≤ 255) : wr .i64 ((BitVec.ofInt IntKind.i64.bits (x * 256) ||| BitVec.ofInt IntKind.i64.bits y).toNat) = x * 256 + y := by
  rw [wr_eq]
  exact bits_join .i64 63 (by decide) (fun n h₀ h₁ => by rw [IntKind.wrap_i64]; omega) 8 (x * 256) y (by omega) (by omega) (by omega) h2 (by omega) (by omega)
end
end Go.Tr
end
