import Derived.Test.YtjlphbhmjicdhaaZKWD
import Derived.Test.YtjlphbhmjicdhaaZKWA
/- Two shelves are compared by spec. -/
namespace Go.Proofs.Ytjlphbhmjicdhaa
open Go Go.Tr
set_option maxRecDepth 100000
set_option maxHeartbeats 4000000
set_option linter.unusedVariables false
set_option linter.unusedSimpArgs false
abbrev ssR (b c : List Int) (g o : List (List Int)) (E : Int) (ps : List PinT) (l : List (List Row)) (z : List Int) (cs : List Int) (js : List JobT) (ts : List (List OpT)) (ev : List EvT) (sn : Int) (b' c' : List Int) (g' o' : List (List Int)) (E' : Int) (ps' : List PinT) (l' : List (List Row)) (z' : List Int) (cs' : List Int) (js' : List JobT) (ts' : List (List OpT)) (ev' : List EvT) (sn' : Int) : List (Nat × TRoot) := [(2, .box 42 [.ref 1000000 0 b.length, .ref 1000001 0 c.length, .ref 1000002 0 g.length, .ref 1000003 0 o.length, .cl (.lit (.int .i64 E)), .ref 1000004 0 ps.length, .ref 1000005 0 l.length, .ref 1000006 0 z.length, .ref 1000007 0 cs.length, .ref 1000008 0 js.length, .ref 1000009 0 ts.length, .ref 1000010 0 ev.length, .cl (.lit (.int .i64 sn))]), (3, .box 42 [.ref 1000011 0 b'.length, .ref 1000012 0 c'.length, .ref 1000013 0 g'.length, .ref 1000014 0 o'.length, .cl (.lit (.int .i64 E')), .ref 1000015 0 ps'.length, .ref 1000016 0 l'.length, .ref 1000017 0 z'.length, .ref 1000018 0 cs'.length, .ref 1000019 0 js'.length, .ref 1000020 0 ts'.length, .ref 1000021 0 ev'.length, .cl (.lit (.int .i64 sn'))]), (1000000, rI .fro false b), (1000001, rI .fro false c), (1000002, rSL .fro false 280 g), (1000003, rSL .fro false 280 o), (1000004, rPin .fro false 240 ps), (1000005, rLL .fro false 130 186 l), (1000006, rI .fro false z), (1000007, rI .fro false cs), (1000008, rJob .fro false 118 js), (1000009, rQ .fro false 114 102 ts), (1000010, rEv .fro false 120 ev), (1000011, rI .fro false b'), (1000012, rI .fro false c'), (1000013, rSL .fro false 280 g'), (1000014, rSL .fro false 280 o'), (1000015, rPin .fro false 240 ps'), (1000016, rLL .fro false 130 186 l'), (1000017, rI .fro false z'), (1000018, rI .fro false cs'), (1000019, rJob .fro false 118 js'), (1000020, rQ .fro false 114 102 ts'), (1000021, rEv .fro false 120 ev')]
theorem ssV_split {b c : List Int} {g o : List (List Int)} {E : Int} {ps : List PinT} {l : List (List Row)} {z : List Int} {cs : List Int} {js : List JobT} {ts : List (List OpT)} {ev : List EvT} {sn : Int} {b' c' : List Int} {g' o' : List (List Int)} {E' : Int} {ps' : List PinT} {l' : List (List Row)} {z' : List Int} {cs' : List Int} {js' : List JobT} {ts' : List (List OpT)} {ev' : List EvT} {sn' : Int} {r : Bool} (hr : r = ssV b c g o E ps l z cs js ts ev sn b' c' g' o' E' ps' l' z' cs' js' ts' ev' sn') (v1 v2 : Bool) (e1 : sbV b c g o E ps l z b' c' g' o' E' ps' l' z' = v1) (e2 : decide (cs = cs') = v2) : (v1 = false → r = false) ∧ (v2 = false → r = false) ∧ (¬ (js.length : Int) = js'.length → r = false) ∧ (¬ (ts.length : Int) = ts'.length → r = false) ∧ (¬ (ev.length : Int) = ev'.length → r = false) ∧ (¬ sn = sn' → r = false) ∧ (∀ i, ¬ js.getD i zJob = js'.getD i zJob → r = false) ∧ (∀ i, ¬ ((ts.getD i []).length : Int) = (ts'.getD i []).length → r = false) ∧ (∀ i k, ¬ (ts.getD i []).getD k zOp = (ts'.getD i []).getD k zOp → r = false) ∧ (∀ i, ¬ ev.getD i zEv = ev'.getD i zEv → r = false) := by
  have hF : ∀ p : Prop, ¬ p → (js = js' ∧ ts = ts' ∧ ev = ev' ∧ sn = sn' → p) → r = false := fun p hp h => by
    subst hr
    unfold ssV
    by_cases q1 : js = js'
    · by_cases q2 : ts = ts'
      · by_cases q3 : ev = ev'
        · by_cases q4 : sn = sn'
          · exact absurd (h ⟨q1, q2, q3, q4⟩) hp
          · rw [decide_eq_false q4, Bool.and_false]
        · rw [decide_eq_false q3, Bool.and_false, Bool.false_and]
      · rw [decide_eq_false q2, Bool.and_false, Bool.false_and, Bool.false_and]
    · rw [decide_eq_false q1, Bool.and_false, Bool.false_and, Bool.false_and, Bool.false_and]
  refine ⟨fun h => ?_, fun h => ?_, fun h => hF _ h fun e => by rw [e.1], fun h => hF _ h fun e => by rw [e.2.1], fun h => hF _ h fun e => by rw [e.2.2.1], fun h => hF _ h fun e => e.2.2.2, fun i h => hF _ h fun e => by rw [e.1], fun i h => hF _ h fun e => by rw [e.2.1], fun i k h => hF _ h fun e => by rw [e.2.1], fun i h => hF _ h fun e => by rw [e.2.2.1]⟩
  · subst hr; unfold ssV; rw [e1, h]; rfl
  · subst hr; unfold ssV; rw [e2, h, Bool.and_false]; rfl
theorem list_ext {α : Type} (d : α) {xs ys : List α} (hl : xs.length = ys.length) (h : ∀ j, j < xs.length → xs.getD j d = ys.getD j d) : xs = ys := by
  refine List.ext_getElem hl fun j h1 h2 => ?_
  have := h j h1
  simpa [List.getD, h1, h2] using this
theorem SameShelfS_run (b c : List Int) (g o : List (List Int)) (E : Int) (ps : List PinT) (l : List (List Row)) (z : List Int) (cs : List Int) (js : List JobT) (ts : List (List OpT)) (ev : List EvT) (sn : Int) (b' c' : List Int) (g' o' : List (List Int)) (E' : Int) (ps' : List PinT) (l' : List (List Row)) (z' : List Int) (cs' : List Int) (js' : List JobT) (ts' : List (List OpT)) (ev' : List EvT) (sn' : Int) (h1 : SfOk 1048576 b c g o ps l z cs js ts ev) (h2 : SfOk 1048576 b' c' g' o' ps' l' z' cs' js' ts' ev') : RunT Try.prog 18 [aSf 280 240 130 186 118 114 102 120 b c g o E ps l z cs js ts ev sn, aSf 280 240 130 186 118 114 102 120 b' c' g' o' E' ps' l' z' cs' js' ts' ev' sn'] [] [ob (ssV b c g o E ps l z cs js ts ev sn b' c' g' o' E' ps' l' z' cs' js' ts' ev' sn')] [] := by
  have c1 := SameBaseS_run b c g o E ps l z b' c' g' o' E' ps' l' z' h1.bs h2.bs
  have c2 := SameBytes_run cs cs' (h1.le (m' := 4000000) (by decide)).hcs (h2.le (m' := 4000000) (by decide)).hcs
  obtain ⟨r, hr⟩ : ∃ r, r = ssV b c g o E ps l z cs js ts ev sn b' c' g' o' E' ps' l' z' cs' js' ts' ev' sn' := ⟨_, rfl⟩
  obtain ⟨n1, n2, n3, n4, n5, n6, n7, n8, n9, n10⟩ := ssV_split hr _ _ rfl rfl
  have hT : sbV b c g o E ps l z b' c' g' o' E' ps' l' z' = true → decide (cs = cs') = true → js = js' → ts = ts' → ev = ev' → sn = sn' → r = true := fun g1 g2 g3 g4 g5 g6 => by
    subst hr; unfold ssV; rw [g1, g2, decide_eq_true g3, decide_eq_true g4, decide_eq_true g5, decide_eq_true g6]; rfl
  rw [← hr]
  clear hr
  generalize sbV b c g o E ps l z b' c' g' o' E' ps' l' z' = v1 at *
  generalize decide (cs = cs') = v2 at *
  have a1 := h1.hjs
  have a2 := h2.hjs
  have a3 := h1.hts
  have a4 := h2.hts
  have a5 := h1.hts'
  have a6 := h2.hts'
  have a7 := h1.hev
  have a8 := h2.hev
  clear h1 h2
  refine RunT.of_vc gOk Try.func18 rfl rfl (Nat.le_of_ble_eq_true rfl) (by repeat' (first | exact trivial | exact ⟨_, rfl, Nat.le_refl _⟩ | exact Nat.le_of_ble_eq_true rfl | refine And.intro ?_ ?_)) (Nat.le_of_ble_eq_true rfl) rfl (fun F hE => ?_)
  repeat' (first | exact trivial | refine BS.a (fun h => ?_) (fun h => ?_) | refine BS.n ?_ | refine BS.s (fun h => ?_) (fun h => ?_) | refine And.intro ?_ ?_ | exact Need.au | exact OutS.whole rfl rfl | refine OpK.ca c1 hE ?_ | refine OpK.ca c2 hE ?_ | refine ListO.go gOk hE ?_)
  all_goals first
    | (refine Need.mk ?_; first | rw [n1 (by assumption)] | rw [n2 (by assumption)] | rw [n3 (by first | assumption | omega)] | rw [n4 (by first | assumption | omega)] | rw [n5 (by first | assumption | omega)] | rw [n6 (by first | assumption | omega)]; done)
    | skip
  have l1 : js.length = js'.length := by omega
  have l2 : ts.length = ts'.length := by omega
  have l3 : ev.length = ev'.length := by omega
  have l4 : sn = sn' := by assumption
  have l5 : v1 = true := by assumption
  have l6 : v2 = true := by assumption
  refine CodeK.loop gOk hE (fun i : Nat => ⟨[(2, .ptr 2 0 0), (3, .ptr 3 0 0), (5, vi i)], ssR b c g o E ps l z cs js ts ev sn b' c' g' o' E' ps' l' z' cs' js' ts' ev' sn'⟩) (fun i => i ≤ js.length ∧ ∀ j, j < i → js.getD j zJob = js'.getD j zJob) (fun i => js.length - i) 0 (by refine leT.of ?_ ?_ rfl <;> repeat' (first | exact trivial | refine And.intro rfl ?_ | refine And.intro (by first | rfl | (simp; done)) ?_)) ⟨Nat.zero_le _, fun j hj => absurd hj (Nat.not_lt_zero _)⟩ ?_
  rintro i ⟨hi, hs⟩
  by_cases hi2 : i < js.length
  · repeat' (first | exact trivial | refine BS.a (fun h => ?_) (fun h => ?_) | refine BS.n ?_ | refine BS.s (fun h => ?_) (fun h => ?_) | refine And.intro ?_ ?_ | exact Need.au | exact OutS.whole rfl rfl | (refine CodeK.draw gOk hE rfl (fun _ _ h => h) (.take 0 (.take 2 (.take 5 (.take 7 (.alt 1 (.take 3 (.alt 4 (.alt 6 (.take 8 (.alt 9 (.take 10 .done) .stop)) .stop) (.alt 6 (.take 8 (.alt 4 (.alt 9 (.take 10 .done) .stop) (.alt 9 (.alt 4 (.take 10 .done) .stop) .stop))) .stop))) (.alt 6 (.take 8 (.alt 1 (.take 3 (.alt 4 (.alt 9 (.take 10 .done) .stop) (.alt 9 (.alt 4 (.take 10 .done) .stop) .stop))) (.alt 9 (.alt 1 (.take 3 (.alt 4 (.take 10 .done) .stop)) .stop) .stop))) .stop)))))) ?_ ?_; focus (decide +kernel)) | (refine PK.neA (vJob (js.getD i zJob)) (vJob (js'.getD i zJob)) rfl rfl rfl rfl rfl (by kernel_rfl) (Job_eq _ _) ?_) | refine ListO.go gOk hE ?_)
    all_goals (try simp only [adN_zero] at *)
    all_goals first
      | (exfalso; omega)
      | (refine Need.mk ?_; omega)
      | (refine Need.mk ?_; rw [n7 i (by assumption)])
      | (refine ⟨i + 1, (by refine leT.of ?_ ?_ rfl <;> repeat' (first | exact trivial | refine And.intro rfl ?_ | refine And.intro (by first | rfl | (simp; done)) ?_)), ⟨by omega, fun j hj => (Nat.lt_or_ge j i).elim (hs j) (fun h9 => (show j = i by omega) ▸ (by assumption))⟩, by first | omega | (dsimp only; omega)⟩)
      | trace_state
  have ej : js = js' := list_ext zJob l1 fun j hj => hs j (by omega)
  repeat' (first | exact trivial | refine BS.a (fun h => ?_) (fun h => ?_) | refine BS.n ?_ | refine BS.s (fun h => ?_) (fun h => ?_) | refine And.intro ?_ ?_ | exact Need.au | exact OutS.whole rfl rfl | refine ListO.go gOk hE ?_)
  all_goals first | (exfalso; omega) | skip
  refine CodeK.loopN (fun i : Nat => ⟨[(2, .ptr 2 0 0), (3, .ptr 3 0 0), (6, vi i)], ssR b c g o E ps l z cs js ts ev sn b' c' g' o' E' ps' l' z' cs' js' ts' ev' sn'⟩) (fun i => i ≤ ts.length ∧ ∀ j, j < i → ts.getD j [] = ts'.getD j []) (fun i => ts.length - i) 0 (by refine leT.of ?_ ?_ rfl <;> repeat' (first | exact trivial | refine And.intro rfl ?_ | refine And.intro (by first | rfl | (simp; done)) ?_)) ⟨Nat.zero_le _, fun j hj => absurd hj (Nat.not_lt_zero _)⟩ ?_
  rintro u ⟨hu, hq⟩
  have b5 := a5 u
  have b6 := a6 u
  by_cases hu2 : u < ts.length
  · by_cases hlu : ((ts.getD u []).length : Int) = (ts'.getD u []).length
    rotate_left
    · have hr0 := n8 u hlu
      repeat' (first | exact trivial | refine BS.a (fun h => ?_) (fun h => ?_) | refine BS.n ?_ | refine BS.s (fun h => ?_) (fun h => ?_) | refine And.intro ?_ ?_ | exact Need.au | exact OutS.whole rfl rfl | (refine CodeK.draw gOk hE rfl (fun _ _ h => h) (.take 0 (.take 2 (.take 7 (.take 9 (.alt 1 (.take 3 (.take 4 (.alt 5 (.take 6 (.alt 8 (.take 10 (.take 11 (.alt 12 (.take 13 (.take 14 .done)) .stop))) .stop)) (.alt 8 (.take 10 (.take 11 (.alt 5 (.take 6 (.alt 12 (.take 13 (.take 14 .done)) .stop)) (.alt 12 (.take 13 (.alt 5 (.take 6 (.take 14 .done)) .stop)) .stop)))) .stop)))) (.alt 8 (.take 10 (.take 11 (.alt 1 (.take 3 (.take 4 (.alt 5 (.take 6 (.alt 12 (.take 13 (.take 14 .done)) .stop)) (.alt 12 (.take 13 (.alt 5 (.take 6 (.take 14 .done)) .stop)) .stop)))) (.alt 12 (.take 13 (.alt 1 (.take 3 (.take 4 (.alt 5 (.take 6 (.take 14 .done)) .stop))) .stop)) .stop)))) .stop)))))) ?_ ?_; focus (decide +kernel)) | (refine CodeK.cnd (by rfl) (fun h => ?_) (fun h => ?_)) | (refine CodeK.blk ?_) | (refine CodeK.seqk ?_) | (refine CodeK.vcR gOk hE ?_) | (refine CodeK.vcE gOk hE ?_) | (refine CodeK.vcS gOk hE ?_) | (refine CodeK.vcT gOk hE ?_) | refine ListO.go gOk hE ?_)
      all_goals (try simp only [adN_zero] at *)
      all_goals first
        | (exfalso; omega)
        | (exfalso; exact absurd (of_decide_eq_false h) (by omega))
        | (refine Need.mk ?_; omega)
        | (refine Need.mk ?_; rw [hr0])
        | (exfalso; simp_all; done)
        | trace_state
    have lu : (ts.getD u []).length = (ts'.getD u []).length := by omega
    repeat' (first | exact trivial | refine BS.a (fun h => ?_) (fun h => ?_) | refine BS.n ?_ | refine BS.s (fun h => ?_) (fun h => ?_) | refine And.intro ?_ ?_ | exact Need.au | exact OutS.whole rfl rfl | (refine CodeK.draw gOk hE rfl (fun _ _ h => h) (.take 0 (.take 2 (.take 7 (.take 9 (.alt 1 (.take 3 (.take 4 (.alt 5 (.take 6 (.alt 8 (.take 10 (.take 11 (.alt 12 (.take 13 (.take 14 .done)) .stop))) .stop)) (.alt 8 (.take 10 (.take 11 (.alt 5 (.take 6 (.alt 12 (.take 13 (.take 14 .done)) .stop)) (.alt 12 (.take 13 (.alt 5 (.take 6 (.take 14 .done)) .stop)) .stop)))) .stop)))) (.alt 8 (.take 10 (.take 11 (.alt 1 (.take 3 (.take 4 (.alt 5 (.take 6 (.alt 12 (.take 13 (.take 14 .done)) .stop)) (.alt 12 (.take 13 (.alt 5 (.take 6 (.take 14 .done)) .stop)) .stop)))) (.alt 12 (.take 13 (.alt 1 (.take 3 (.take 4 (.alt 5 (.take 6 (.take 14 .done)) .stop))) .stop)) .stop)))) .stop)))))) ?_ ?_; focus (decide +kernel)) | (refine CodeK.seqD 11 (⟨[(2, .ptr 2 0 0), (3, .ptr 3 0 0), (6, vi u), (96, .a (.lit (.bool false)))], ssR b c g o E ps l z cs js ts ev sn b' c' g' o' E' ps' l' z' cs' js' ts' ev' sn'⟩) rfl ?_ ?_) | (refine CodeK.cnd (by rfl) (fun h => ?_) (fun h => ?_)) | (refine CodeK.blk ?_) | (refine CodeK.seqk ?_) | (refine CodeK.vcR gOk hE ?_) | (refine CodeK.vcE gOk hE ?_) | (refine CodeK.vcS gOk hE ?_) | (refine CodeK.vcT gOk hE ?_) | refine ListO.go gOk hE ?_)
    all_goals (try simp only [adN_zero] at *)
    all_goals first
      | exact (by refine leT.of ?_ ?_ rfl <;> repeat' (first | exact trivial | refine And.intro rfl ?_ | refine And.intro (by first | rfl | (refine congrArg (fun x => V.a (At.lit (Value.bool x))) ?_; rw [hlu]; simp; done) | (simp; done)) ?_))
      | (exfalso; omega)
      | (exfalso; exact absurd (of_decide_eq_false h) (by omega))
      | (exfalso; cases h; done)
      | (refine Need.mk ?_; omega)
      | (refine CodeK.loopN (fun k : Nat => ⟨[(2, .ptr 2 0 0), (3, .ptr 3 0 0), (6, vi u), (7, vi k)], ssR b c g o E ps l z cs js ts ev sn b' c' g' o' E' ps' l' z' cs' js' ts' ev' sn'⟩) (fun k => k ≤ (ts.getD u []).length ∧ ∀ j, j < k → (ts.getD u []).getD j zOp = (ts'.getD u []).getD j zOp) (fun k => (ts.getD u []).length - k) 0 (by refine leT.of ?_ ?_ rfl <;> repeat' (first | exact trivial | refine And.intro rfl ?_ | refine And.intro (by first | rfl | (simp; done)) ?_)) ⟨Nat.zero_le _, fun j hj => absurd hj (Nat.not_lt_zero _)⟩ ?_)
      | trace_state
    all_goals rintro k ⟨hk, hw⟩
    by_cases hk2 : k < (ts.getD u []).length
    · by_cases hee : (ts.getD u []).getD k zOp = (ts'.getD u []).getD k zOp
      rotate_left
      · have hr9 := n9 u k hee
        repeat' (first | exact trivial | refine BS.a (fun h => ?_) (fun h => ?_) | refine BS.n ?_ | refine BS.s (fun h => ?_) (fun h => ?_) | refine And.intro ?_ ?_ | exact Need.au | exact OutS.whole rfl rfl | (refine CodeK.draw gOk hE rfl (fun _ _ h => h) (.take 0 (.take 2 (.take 6 (.take 9 (.take 11 (.take 15 (.alt 1 (.take 3 (.take 4 (.alt 5 (.take 7 (.alt 8 (.alt 10 (.take 12 (.take 13 (.alt 14 (.take 16 (.alt 17 (.take 18 .done) .stop)) .stop))) .stop) (.alt 10 (.take 12 (.take 13 (.alt 8 (.alt 14 (.take 16 (.alt 17 (.take 18 .done) .stop)) .stop) (.alt 14 (.take 16 (.alt 8 (.alt 17 (.take 18 .done) .stop) (.alt 17 (.alt 8 (.take 18 .done) .stop) .stop))) .stop)))) .stop))) (.alt 10 (.take 12 (.take 13 (.alt 5 (.take 7 (.alt 8 (.alt 14 (.take 16 (.alt 17 (.take 18 .done) .stop)) .stop) (.alt 14 (.take 16 (.alt 8 (.alt 17 (.take 18 .done) .stop) (.alt 17 (.alt 8 (.take 18 .done) .stop) .stop))) .stop))) (.alt 14 (.take 16 (.alt 5 (.take 7 (.alt 8 (.alt 17 (.take 18 .done) .stop) (.alt 17 (.alt 8 (.take 18 .done) .stop) .stop))) (.alt 17 (.alt 5 (.take 7 (.alt 8 (.take 18 .done) .stop)) .stop) .stop))) .stop)))) .stop)))) (.alt 10 (.take 12 (.take 13 (.alt 1 (.take 3 (.take 4 (.alt 5 (.take 7 (.alt 8 (.alt 14 (.take 16 (.alt 17 (.take 18 .done) .stop)) .stop) (.alt 14 (.take 16 (.alt 8 (.alt 17 (.take 18 .done) .stop) (.alt 17 (.alt 8 (.take 18 .done) .stop) .stop))) .stop))) (.alt 14 (.take 16 (.alt 5 (.take 7 (.alt 8 (.alt 17 (.take 18 .done) .stop) (.alt 17 (.alt 8 (.take 18 .done) .stop) .stop))) (.alt 17 (.alt 5 (.take 7 (.alt 8 (.take 18 .done) .stop)) .stop) .stop))) .stop)))) (.alt 14 (.take 16 (.alt 1 (.take 3 (.take 4 (.alt 5 (.take 7 (.alt 8 (.alt 17 (.take 18 .done) .stop) (.alt 17 (.alt 8 (.take 18 .done) .stop) .stop))) (.alt 17 (.alt 5 (.take 7 (.alt 8 (.take 18 .done) .stop)) .stop) .stop)))) (.alt 17 (.alt 1 (.take 3 (.take 4 (.alt 5 (.take 7 (.alt 8 (.take 18 .done) .stop)) .stop))) .stop) .stop))) .stop)))) .stop)))))))) ?_ ?_; focus (decide +kernel)) | (refine PK.neA (vOp ((ts.getD u []).getD k zOp)) (vOp ((ts'.getD u []).getD k zOp)) rfl rfl rfl rfl rfl (by kernel_rfl) (Op_eq _ _) ?_) | (refine CodeK.cnd (by rfl) (fun h => ?_) (fun h => ?_)) | (refine CodeK.blk ?_) | (refine CodeK.seqk ?_) | (refine CodeK.vcR gOk hE ?_) | (refine CodeK.vcE gOk hE ?_) | (refine CodeK.vcS gOk hE ?_) | (refine CodeK.vcT gOk hE ?_) | refine ListO.go gOk hE ?_)
        all_goals (try simp only [adN_zero] at *)
        all_goals first
          | (exfalso; omega)
          | (exfalso; exact absurd (of_decide_eq_false h) (by omega))
          | (refine Need.mk ?_; omega)
          | (refine Need.mk ?_; rw [hr9]; done)
          | (exfalso; simp_all; done)
          | trace_state
      repeat' (first | exact trivial | refine BS.a (fun h => ?_) (fun h => ?_) | refine BS.n ?_ | refine BS.s (fun h => ?_) (fun h => ?_) | refine And.intro ?_ ?_ | exact Need.au | exact OutS.whole rfl rfl | (refine CodeK.draw gOk hE rfl (fun _ _ h => h) (.take 0 (.take 2 (.take 6 (.take 9 (.take 11 (.take 15 (.alt 1 (.take 3 (.take 4 (.alt 5 (.take 7 (.alt 8 (.alt 10 (.take 12 (.take 13 (.alt 14 (.take 16 (.alt 17 (.take 18 .done) .stop)) .stop))) .stop) (.alt 10 (.take 12 (.take 13 (.alt 8 (.alt 14 (.take 16 (.alt 17 (.take 18 .done) .stop)) .stop) (.alt 14 (.take 16 (.alt 8 (.alt 17 (.take 18 .done) .stop) (.alt 17 (.alt 8 (.take 18 .done) .stop) .stop))) .stop)))) .stop))) (.alt 10 (.take 12 (.take 13 (.alt 5 (.take 7 (.alt 8 (.alt 14 (.take 16 (.alt 17 (.take 18 .done) .stop)) .stop) (.alt 14 (.take 16 (.alt 8 (.alt 17 (.take 18 .done) .stop) (.alt 17 (.alt 8 (.take 18 .done) .stop) .stop))) .stop))) (.alt 14 (.take 16 (.alt 5 (.take 7 (.alt 8 (.alt 17 (.take 18 .done) .stop) (.alt 17 (.alt 8 (.take 18 .done) .stop) .stop))) (.alt 17 (.alt 5 (.take 7 (.alt 8 (.take 18 .done) .stop)) .stop) .stop))) .stop)))) .stop)))) (.alt 10 (.take 12 (.take 13 (.alt 1 (.take 3 (.take 4 (.alt 5 (.take 7 (.alt 8 (.alt 14 (.take 16 (.alt 17 (.take 18 .done) .stop)) .stop) (.alt 14 (.take 16 (.alt 8 (.alt 17 (.take 18 .done) .stop) (.alt 17 (.alt 8 (.take 18 .done) .stop) .stop))) .stop))) (.alt 14 (.take 16 (.alt 5 (.take 7 (.alt 8 (.alt 17 (.take 18 .done) .stop) (.alt 17 (.alt 8 (.take 18 .done) .stop) .stop))) (.alt 17 (.alt 5 (.take 7 (.alt 8 (.take 18 .done) .stop)) .stop) .stop))) .stop)))) (.alt 14 (.take 16 (.alt 1 (.take 3 (.take 4 (.alt 5 (.take 7 (.alt 8 (.alt 17 (.take 18 .done) .stop) (.alt 17 (.alt 8 (.take 18 .done) .stop) .stop))) (.alt 17 (.alt 5 (.take 7 (.alt 8 (.take 18 .done) .stop)) .stop) .stop)))) (.alt 17 (.alt 1 (.take 3 (.take 4 (.alt 5 (.take 7 (.alt 8 (.take 18 .done) .stop)) .stop))) .stop) .stop))) .stop)))) .stop)))))))) ?_ ?_; focus (decide +kernel)) | (refine PK.neA (vOp ((ts.getD u []).getD k zOp)) (vOp ((ts'.getD u []).getD k zOp)) rfl rfl rfl rfl rfl (by kernel_rfl) (Op_eq _ _) ?_) | (refine CodeK.seqD 16 (⟨[(2, .ptr 2 0 0), (3, .ptr 3 0 0), (6, vi u), (7, vi k), (126, .a (.lit (.bool false)))], ssR b c g o E ps l z cs js ts ev sn b' c' g' o' E' ps' l' z' cs' js' ts' ev' sn'⟩) rfl ?_ ?_) | (refine CodeK.cnd (by rfl) (fun h => ?_) (fun h => ?_)) | (refine CodeK.blk ?_) | (refine CodeK.seqk ?_) | (refine CodeK.vcR gOk hE ?_) | (refine CodeK.vcE gOk hE ?_) | (refine CodeK.vcS gOk hE ?_) | (refine CodeK.vcT gOk hE ?_) | refine ListO.go gOk hE ?_)
      all_goals (try simp only [adN_zero] at *)
      all_goals first
        | exact (by refine leT.of ?_ ?_ rfl <;> repeat' (first | exact trivial | refine And.intro rfl ?_ | refine And.intro (by first | rfl | (refine congrArg (fun x => V.a (At.lit (Value.bool x))) ?_; rw [decide_eq_true hee]; rfl) | (simp; done)) ?_))
        | (exfalso; omega)
        | (exfalso; exact absurd (of_decide_eq_false h) (by omega))
        | (exfalso; cases h; done)
        | (refine Need.mk ?_; omega)
        | (refine ⟨k + 1, (by refine leT.of ?_ ?_ rfl <;> repeat' (first | exact trivial | refine And.intro rfl ?_ | refine And.intro (by first | rfl | (simp; done)) ?_)), ⟨by omega, fun j hj => (Nat.lt_or_ge j k).elim (hw j) (fun h9 => (show j = k by omega) ▸ hee)⟩, by first | omega | (dsimp only; omega)⟩)
        | trace_state
    · repeat' (first | exact trivial | refine BS.a (fun h => ?_) (fun h => ?_) | refine BS.n ?_ | refine BS.s (fun h => ?_) (fun h => ?_) | refine And.intro ?_ ?_ | exact Need.au | exact OutS.whole rfl rfl | (refine CodeK.cnd (by rfl) (fun h => absurd (of_decide_eq_true h) (by omega)) (fun h => ?_)) | (refine CodeK.cnd (by rfl) (fun h => ?_) (fun h => ?_)) | (refine CodeK.blk ?_) | (refine CodeK.seqk ?_) | (refine CodeK.vcR gOk hE ?_) | (refine CodeK.vcE gOk hE ?_) | (refine CodeK.vcS gOk hE ?_) | (refine CodeK.vcT gOk hE ?_) | refine ListO.go gOk hE ?_)
      all_goals (try simp only [adN_zero] at *)
      all_goals first
        | (exfalso; omega)
        | (refine Need.mk ?_; omega)
        | (refine ⟨u + 1, (by refine leT.of ?_ ?_ rfl <;> repeat' (first | exact trivial | refine And.intro rfl ?_ | refine And.intro (by first | rfl | (simp; done)) ?_)), ⟨by omega, fun j hj => (Nat.lt_or_ge j u).elim (hq j) (fun h9 => (show j = u by omega) ▸ list_ext zOp lu fun m hm => hw m (by omega))⟩, by first | omega | (dsimp only; omega)⟩)
        | trace_state
  have et : ts = ts' := list_ext [] l2 fun j hj => hq j (by omega)
  repeat' (first | exact trivial | refine BS.a (fun h => ?_) (fun h => ?_) | refine BS.n ?_ | refine BS.s (fun h => ?_) (fun h => ?_) | refine And.intro ?_ ?_ | exact Need.au | exact OutS.whole rfl rfl | (refine CodeK.cnd (by rfl) (fun h => absurd (of_decide_eq_true h) (by omega)) (fun h => ?_)) | (refine CodeK.cnd (by rfl) (fun h => ?_) (fun h => ?_)) | (refine CodeK.blk ?_) | (refine CodeK.seqk ?_) | (refine CodeK.vcR gOk hE ?_) | (refine CodeK.vcE gOk hE ?_) | (refine CodeK.vcS gOk hE ?_) | (refine CodeK.vcT gOk hE ?_) | refine ListO.go gOk hE ?_)
  refine CodeK.loopN (fun i : Nat => ⟨[(2, .ptr 2 0 0), (3, .ptr 3 0 0), (8, vi i)], ssR b c g o E ps l z cs js ts ev sn b' c' g' o' E' ps' l' z' cs' js' ts' ev' sn'⟩) (fun i => i ≤ ev.length ∧ ∀ j, j < i → ev.getD j zEv = ev'.getD j zEv) (fun i => ev.length - i) 0 (by refine leT.of ?_ ?_ rfl <;> repeat' (first | exact trivial | refine And.intro rfl ?_ | refine And.intro (by first | rfl | (simp; done)) ?_)) ⟨Nat.zero_le _, fun j hj => absurd hj (Nat.not_lt_zero _)⟩ ?_
  rintro y ⟨hy, hp⟩
  by_cases hy2 : y < ev.length
  · repeat' (first | exact trivial | refine BS.a (fun h => ?_) (fun h => ?_) | refine BS.n ?_ | refine BS.s (fun h => ?_) (fun h => ?_) | refine And.intro ?_ ?_ | exact Need.au | exact OutS.whole rfl rfl | (refine CodeK.draw gOk hE rfl (fun _ _ h => h) (.take 0 (.take 2 (.take 5 (.take 7 (.alt 1 (.take 3 (.alt 4 (.alt 6 (.take 8 (.alt 9 (.take 10 .done) .stop)) .stop) (.alt 6 (.take 8 (.alt 4 (.alt 9 (.take 10 .done) .stop) (.alt 9 (.alt 4 (.take 10 .done) .stop) .stop))) .stop))) (.alt 6 (.take 8 (.alt 1 (.take 3 (.alt 4 (.alt 9 (.take 10 .done) .stop) (.alt 9 (.alt 4 (.take 10 .done) .stop) .stop))) (.alt 9 (.alt 1 (.take 3 (.alt 4 (.take 10 .done) .stop)) .stop) .stop))) .stop)))))) ?_ ?_; focus (decide +kernel)) | (refine PK.neA (vEv (ev.getD y zEv)) (vEv (ev'.getD y zEv)) rfl rfl rfl rfl rfl (by kernel_rfl) (Ev_eq _ _) ?_) | (refine CodeK.cnd (by rfl) (fun h => ?_) (fun h => ?_)) | (refine CodeK.blk ?_) | (refine CodeK.seqk ?_) | (refine CodeK.vcR gOk hE ?_) | (refine CodeK.vcE gOk hE ?_) | (refine CodeK.vcS gOk hE ?_) | (refine CodeK.vcT gOk hE ?_) | refine ListO.go gOk hE ?_)
    all_goals (try simp only [adN_zero] at *)
    all_goals first
      | (exfalso; omega)
      | (refine Need.mk ?_; omega)
      | (refine Need.mk ?_; rw [n10 y (by assumption)])
      | (refine ⟨y + 1, (by refine leT.of ?_ ?_ rfl <;> repeat' (first | exact trivial | refine And.intro rfl ?_ | refine And.intro (by first | rfl | (simp; done)) ?_)), ⟨by omega, fun j hj => (Nat.lt_or_ge j y).elim (hp j) (fun h9 => (show j = y by omega) ▸ (by assumption))⟩, by first | omega | (dsimp only; omega)⟩)
      | trace_state
  have hrt := hT l5 l6 ej et (list_ext zEv l3 fun j hj => hp j (by omega)) l4
  repeat' (first | exact trivial | refine BS.a (fun h => ?_) (fun h => ?_) | refine BS.n ?_ | refine BS.s (fun h => ?_) (fun h => ?_) | refine And.intro ?_ ?_ | exact Need.au | exact OutS.whole rfl rfl | (refine CodeK.cnd (by rfl) (fun h => absurd (of_decide_eq_true h) (by omega)) (fun h => ?_)) | (refine CodeK.cnd (by rfl) (fun h => ?_) (fun h => ?_)) | (refine CodeK.blk ?_) | (refine CodeK.seqk ?_) | (refine CodeK.vcR gOk hE ?_) | (refine CodeK.vcE gOk hE ?_) | (refine CodeK.vcS gOk hE ?_) | (refine CodeK.vcT gOk hE ?_) | refine ListO.go gOk hE ?_)
  all_goals first | (refine Need.mk ?_; rw [hrt]; done) | exact Need.mk rfl | (exfalso; omega) | trace_state
end Go.Proofs.Ytjlphbhmjicdhaa
