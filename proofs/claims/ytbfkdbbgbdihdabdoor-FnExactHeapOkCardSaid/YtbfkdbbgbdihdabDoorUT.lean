/- An array out of a slice: a run of literal elements read together. -/
import Derived.Test.YtbfkdbbgbdihdabDoorUS
import Derived.Test.YtbfkdbbgbdihdabDoorVS
import Derived.ChangeKeysEq
set_option linter.unusedVariables false
set_option linter.unusedSimpArgs false
universe u
namespace Go.Tr
open Go Go.RowKit
section
variable {P : Program} {F : Fm} {N : Nat} {G : Gt} {o : Oper} {τ σ : TS} {k : TS → Prop}
theorem OpK.toArr (hG : GOk P G) {t m e ke kt : Nat} {z : List ZC} {x : Operand} {κ lo n : Nat} {R : TRoot} (hop : o.op = .sliceToArrayPointer t x) (hg : o.guard = none) (hd : okD N o.dst = true) (hx : evS σ x = .a (.ref κ lo n)) (ht : G.T t = some ⟨kt, .arr m e ke, z⟩) (hR : lkR σ.r κ = some R) (hm : 0 < n ∧ m ≤ n)
    (h : stO o σ (.ptr κ lo 0) k) : OpK P F N o σ k :=
  ⟨fun ops Q rest kk => by
    obtain ⟨h1, inf, h2, h3⟩ := (hG.T t _ ht).kind
    refine AL.val hg hd (fun a w ω β hr => ?_) (stO_ok hd kk h)
    have hv := hr.ev x
    rw [evS_eq, hx] at hv
    obtain ⟨R', e1, _, A, c, e2, e3, _, _, _, e5⟩ := hv
    obtain ⟨g, o', e6, e7⟩ := e5 (by omega)
    refine ⟨.pointer A, ?_, R', g, _, e1, ⟨o', e6, rfl⟩, by rw [e7]; rfl⟩
    generalize a.eval = ρ at e2 ⊢
    simp [execOp, hop, go_sem, e2, e7, Instr.arrayAt, underlying, h1]
    omega⟩
theorem OpK.ldArr (hG : GOk P G) {t m κ lo e : Nat} {oo : RO} {f : Bool} {kd : TK} {z : List ZC} {x : Operand} {X : Type} {enc : X → Nat → TC} {dec : List Value → Option X} {d : X} {xs : List X} (v : X → Value) (hop : o.op = .load t x) (hg : o.guard = none) (hd : okD N o.dst = true) (hx : evS σ x = .ptr κ lo 0) (ht : G.T t = some ⟨m, kd, z⟩) (hk : agK kd = true)
    (hR : lkR σ.r κ = some (.ty oo f e 1 X enc dec d xs)) (hl : lo + m ≤ xs.length) (he : ∀ x, enc x 0 = .lit (v x))
    (h : stO o σ (.agg ((List.range m).map fun q => .lit (v (xs.getD (lo + q) d)))) k) : OpK P F N o σ k :=
  ⟨fun ops Q rest kk => by
    have hF := hG.T t _ ht
    obtain ⟨D, h1, h2⟩ : ∃ D, P.underlying t = some D ∧ scD D = false := by
      have h := hF.kind
      cases kd with
      | st pl => obtain ⟨fs, h1, _⟩ := h; exact ⟨_, h1, rfl⟩
      | arr n e ke => exact ⟨_, h.1, rfl⟩
      | sc => cases hk
      | sl _ _ _ => cases hk
      | ot => cases hk
    obtain ⟨inf, zv, h3, h4, _⟩ := hF.info
    have hRe := TS.rt_some hR
    refine AL.val hg hd (fun a w ω β hr => ?_) (stO_ok hd kk h)
    have hv := hr.ev x
    rw [evS_eq, hx] at hv
    obtain ⟨R', g, j, e1, ⟨o', e2, e3⟩, e4⟩ := hv
    rw [hRe] at e1; injection e1 with e1; subst e1
    have hcell : ∀ q, q < m → w.cell? ⟨g, j + q, none⟩ = some (v (xs.getD (lo + q) d)) ∧ scal (v (xs.getD (lo + q) d)) = true := by
      intro q hq
      obtain ⟨g', j', u, ⟨o2, f1, f2⟩, k2, k3⟩ := hr.load hRe (i := lo + q) (r := 0) (show lo + q < xs.length by omega) (show 0 < 1 by omega) rfl
      rw [e2] at f1; injection f1 with f1; injection f1 with f3 f4 _
      subst f3 f4
      have e5 : j = o' + (lo * 1 + 0) := e3
      have f5 : j' = o' + ((lo + q) * 1 + 0) := f2
      have : j' = j + q := by omega
      subst this
      have ha : (TRoot.ty oo f e 1 X enc dec d xs).er.atom κ (lo + q) 0 = .lit (v (xs.getD (lo + q) d)) := by
        show (match Cl.cl ((enc (xs.getD (lo + q) d) 0).er (owOf oo)) with
          | .ref κ' lo n => At.ref κ' lo n
          | .cl (.lit v) => .lit v
          | .cl (.sl _ _ _ _ _) => .spot κ (lo + q) 0
          | .cl _ => .any) = _
        rw [he]; rfl
      rw [ha] at k3
      obtain ⟨rfl, k4⟩ := k3
      exact ⟨k2, k4⟩
    refine ⟨.agg ((List.range m).map fun q => v (xs.getD (lo + q) d)).toArray, run_load _ w hop e4 (run_loadVar_agg (P := P) (w := w) (g := g) (j := j) h1 h2 h3 (show inf.size = m from h4) (fun q => v (xs.getD (lo + q) d)) (fun q hq => (hcell q hq).1)), _, rfl, by simp, fun i x hi => ?_⟩
    rw [List.getElem?_map, List.getElem?_map] at hi
    by_cases hlt : i < m
    · rw [List.getElem?_range hlt] at hi
      injection hi with hi; subst hi
      refine ⟨v (xs.getD (lo + i) d), ?_, rfl, (hcell i hlt).2⟩
      simp [List.getElem?_range hlt]
    · rw [List.getElem?_eq_none (by simp; omega)] at hi
      cases hi⟩
theorem OpK.buildArr (hG : GOk P G) {t m n e ke : Nat} {z : List ZC} {parts : Array (Nat × Operand)} {qs : List (Nat × List At)} (hop : o.op = .build t parts) (hg : o.guard = none) (hd : okD N o.dst = true)
    (ht : G.T t = some ⟨m, .arr n e ke, z⟩) (hz : z.all ZC.ok = true) (hq : partsQ σ (fun i => some (i * ke, ke)) parts.toList = some qs) (hok : fillOk m qs = true) (h : stO o σ (.agg (fillA (z.map ZC.at_) qs)) k) : OpK P F N o σ k :=
  ⟨fun ops Q rest kk => by
    have hp := partsQ_ok hq
    have hF := hG.T t _ ht
    obtain ⟨inf, zv, h3, h4, h5, h6⟩ := hF.info
    have hlen : z.length = m := hF.zl
    obtain ⟨h1, ie, h7, h8⟩ := hF.kind
    refine AL.val hg hd (fun a w ω β h => ?_) (stO_ok hd kk h)
    have hr0 : FillR σ.er β w zv.cells (z.map ZC.at_) := by
      refine ⟨by rw [← Array.length_toList, h6]; simp, fun j x hj => ?_⟩
      rw [List.getElem?_map] at hj
      cases hq : z[j]? with
      | none => rw [hq] at hj; cases hj
      | some zc =>
        rw [hq] at hj; injection hj with hj
        subst hj
        refine ⟨zc.val, ?_, ZC.arel (List.all_eq_true.1 hz _ (List.mem_of_getElem? hq))⟩
        rw [← Array.getElem?_toList, h6]
        show (z.map ZC.val)[j]? = _
        rw [List.getElem?_map, hq]; rfl
    obtain ⟨c', k1, k2, k3⟩ := fill_rel h parts.toList qs zv.cells (z.map ZC.at_) hp (by simpa [hlen] using hok) hr0
    have est := fillA_st _ _ (zat_st z) (partsQ_st hq)
    refine ⟨.agg c', ?_, c', rfl, by rw [est]; exact k2.1, by rw [est]; exact k2.2⟩
    have hbuilt : P.built t ((parts.map fun (i, x) => (i, a.eval x)).toList) = some c' := by
      unfold Program.built
      rw [h3, h1]
      simp only [h5, h7, h8]
      rw [Array.toList_map, ← k1]
    have hrun := run_build w t (parts.map fun (i, x) => (i, a.eval x)) c' hbuilt
    unfold execOp
    rw [hop]
    show ((Instr.build t (parts.map fun (i, x) => (i, a.eval x)) >>= fun v => pure (Next.value v)) : Sem Next).run P w = _
    rw [Sem.run_bind, hrun]
    rfl⟩
theorem arr_items {e : TypeId} {d : Nat} {w : World} (he : P.underlying e = some (.int .i64)) (f g : Nat → Int) (n : Nat) (xs ys : Array Value) (hx : ∀ i, i < n → xs[i]? = some (.int .i64 (f i))) (hy : ∀ i, i < n → ys[i]? = some (.int .i64 (g i))) :
    ∀ is : List Nat, (∀ i ∈ is, i < n) → (Op.eqItems (d + 1) e 1 xs ys is).run P w = .ok (decide (∀ i ∈ is, f i = g i)) w
  | [], _ => by simp [Op.eqItems]
  | i :: is, h => by
    have h1 := hx i (h i (by simp))
    have h2 := hy i (h i (by simp))
    have p1 : (part e xs (i * 1)).run P w = .ok (.int .i64 (f i)) w := by simp [part, isAgg, he, go_sem, run_underlying, h1]
    have p2 : (part e ys (i * 1)).run P w = .ok (.int .i64 (g i)) w := by simp [part, isAgg, he, go_sem, run_underlying, h2]
    have ih := arr_items (d := d) (w := w) he f g n xs ys hx hy is (fun j hj => h j (by simp [hj]))
    simp only [Op.eqItems, Sem.run_bind, p1, p2, Result.andThen_ok, run_equalIn_int w d e .i64 .i64 (f i) (g i) he]
    by_cases e1 : f i = g i
    · simp [e1, ih]
    · simp [e1]
theorem arr_eq {t e : TypeId} {n : Nat} {w : World} {inf : TypeInfo} (ht : P.underlying t = some (.array n e)) (he : P.underlying e = some (.int .i64)) (hi : P.info? e = some inf) (hc : P.cellsOf e = 1) (f g : Nat → Int) (xs ys : Array Value) (hx : ∀ i, i < n → xs[i]? = some (.int .i64 (f i))) (hy : ∀ i, i < n → ys[i]? = some (.int .i64 (g i))) :
    (Op.equalIn 10000 t (.agg xs) (.agg ys)).run P w = .ok (decide (∀ i ∈ List.range n, f i = g i)) w := by
  rw [show (10000 : Nat) = 9999 + 1 from rfl, run_equalIn_array w 9999 xs ys ht hi, hc]
  exact arr_items (d := 9998) he f g n xs ys hx hy _ (fun i hi => List.mem_range.1 hi)
end
end Go.Tr
