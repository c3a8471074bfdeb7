import Derived.Test.YtpmhkpmkmbkjbaaGreatDoorVZ
import Derived.Laws.BitsLemmas
import Derived.Test.YtpmhkpmkmbkjbaaGreatDoorVS
import Derived.ChangeKeysEq
import Derived.Test.YtpmhkpmkmbkjbaaGreatDoorZA
section
/- Shifts by a constant. -/
set_option linter.unusedVariables false
set_option linter.unusedSimpArgs false
universe u
namespace Go.Tr
open Go Go.RowKit
section
variable {P : Program} {F : Fm} {N : Nat} {G : Gt} {o : Oper} {τ σ : TS} {k : TS → Prop}
theorem PK.shl8 {t u : Nat} {x y : Operand} {k' : IntKind} {i : Int} {kv : V → Prop} (hop : o.op = .binOp .shl t x y u) (hx : evS σ x = .a (.lit (.int .i64 i))) (hy : evS σ y = .a (.lit (.int k' 8))) (hb : -36028797018963968 ≤ i ∧ i ≤ 36028797018963967)
    (h : kv (.a (.lit (.int .i64 (i * 256))))) : PK P F N o σ kv := by
  refine ⟨_, h, fun a w ω β hr => ?_⟩
  have ex : a.eval x = .int .i64 i := ev_lit hr (by rw [evS_eq, hx]; rfl)
  have ey : a.eval y = .int k' 8 := ev_lit hr (by rw [evS_eq, hy]; rfl)
  refine ⟨.int .i64 (i * 256), fun w' => ?_, rfl, rfl⟩
  generalize a.eval = ρ at ex ey ⊢
  refine run_bin ρ w' hop (by rw [ex, ey]; exact run_guard_int w' _ _ _ _ _ _ _ _) ?_
  rw [ex, ey]
  show (Op.shift .shl .i64 i k' 8).run P w' = _
  unfold Op.shift
  rw [if_neg (by omega)]
  show Result.ok (Value.int .i64 (IntKind.i64.wrap (i * 2 ^ 8))) w' = _
  rw [show i * 2 ^ 8 = i * 256 by omega, IntWalk.i64_in _ (by omega)]
theorem or8 (x y : Int) (h0 : 0 ≤ x) (h1 : x ≤ 281474976710655) (h2 : 0 ≤ y) (h3 : y ≤ 255) : wr .i64 ((BitVec.ofInt IntKind.i64.bits (x * 256) ||| BitVec.ofInt IntKind.i64.bits y).toNat) = x * 256 + y := by
  rw [wr_eq]
  exact bits_join .i64 63 (by decide) (fun n h₀ h₁ => by rw [IntKind.wrap_i64]; omega) 8 (x * 256) y (by omega) (by omega) (by omega) h2 (by omega) (by omega)
end
end Go.Tr
end

section
/- An array out of a slice: a run of literal elements read together. -/
set_option linter.unusedVariables false
set_option linter.unusedSimpArgs false
universe u
namespace Go.Tr
open Go Go.RowKit
section
variable {P : Program} {F : Fm} {N : Nat} {G : Gt} {o : Oper} {τ σ : TS} {k : TS → Prop}
theorem OpK.toArr (hG : GOk P G) {t m e ke kt : Nat} {z : List ZC} {x : Operand} {κ lo n : Nat} {R : TRoot} (hop : o.op = .sliceToArrayPointer t x) (hg : o.guard = none) (hd : okD N o.dst = true) (hx : evS σ x = .a (.ref κ lo n)) (ht : G.T t = some ⟨kt, .arr m e ke, z⟩) (hR : lkR σ.r κ = some R) (hm : 0 < n ∧ m ≤ n)
    (h : stO o σ (.ptr κ lo 0) k) : OpK P F N o σ k :=
  ⟨fun ops Q rest kk => by
    obtain ⟨h1, inf, h2, h3⟩ := (hG.T t _ ht).kind
    refine AL.val hg hd (fun a w ω β hr => ?_) (stO_ok hd kk h)
    have hv := hr.ev x
    rw [evS_eq, hx] at hv
    obtain ⟨R', e1, _, A, c, e2, e3, _, _, _, e5⟩ := hv
    obtain ⟨g, o', e6, e7⟩ := e5 (by omega)
    refine ⟨.pointer A, ?_, R', g, _, e1, ⟨o', e6, rfl⟩, by rw [e7]; rfl⟩
    generalize a.eval = ρ at e2 ⊢
    simp [execOp, hop, go_sem, e2, e7, Instr.arrayAt, underlying, h1]
    omega⟩
theorem OpK.ldArr (hG : GOk P G) {t m κ lo e : Nat} {oo : RO} {f : Bool} {kd : TK} {z : List ZC} {x : Operand} {X : Type} {enc : X → Nat → TC} {dec : List Value → Option X} {d : X} {xs : List X} (v : X → Value) (hop : o.op = .load t x) (hg : o.guard = none) (hd : okD N o.dst = true) (hx : evS σ x = .ptr κ lo 0) (ht : G.T t = some ⟨m, kd, z⟩) (hk : agK kd = true)
    (hR : lkR σ.r κ = some (.ty oo f e 1 X enc dec d xs)) (hl : lo + m ≤ xs.length) (he : ∀ x, enc x 0 = .lit (v x))
    (h : stO o σ (.agg ((List.range m).map fun q => .lit (v (xs.getD (lo + q) d)))) k) : OpK P F N o σ k :=
  ⟨fun ops Q rest kk => by
    have hF := hG.T t _ ht
    obtain ⟨D, h1, h2⟩ : ∃ D, P.underlying t = some D ∧ scD D = false := by
      have h := hF.kind
      cases kd with
      | st pl => obtain ⟨fs, h1, _⟩ := h; exact ⟨_, h1, rfl⟩
      | arr n e ke => exact ⟨_, h.1, rfl⟩
      | sc => cases hk
      | sl _ _ _ => cases hk
      | ot => cases hk
    obtain ⟨inf, zv, h3, h4, _⟩ := hF.info
    have hRe := TS.rt_some hR
    refine AL.val hg hd (fun a w ω β hr => ?_) (stO_ok hd kk h)
    have hv := hr.ev x
    rw [evS_eq, hx] at hv
    obtain ⟨R', g, j, e1, ⟨o', e2, e3⟩, e4⟩ := hv
    rw [hRe] at e1; injection e1 with e1; subst e1
    have hcell : ∀ q, q < m → w.cell? ⟨g, j + q, none⟩ = some (v (xs.getD (lo + q) d)) ∧ scal (v (xs.getD (lo + q) d)) = true := by
      intro q hq
      obtain ⟨g', j', u, ⟨o2, f1, f2⟩, k2, k3⟩ := hr.load hRe (i := lo + q) (r := 0) (show lo + q < xs.length by omega) (show 0 < 1 by omega) rfl
      rw [e2] at f1; injection f1 with f1; injection f1 with f3 f4 _
      subst f3 f4
      have e5 : j = o' + (lo * 1 + 0) := e3
      have f5 : j' = o' + ((lo + q) * 1 + 0) := f2
      have : j' = j + q := by omega
      subst this
      have ha : (TRoot.ty oo f e 1 X enc dec d xs).er.atom κ (lo + q) 0 = .lit (v (xs.getD (lo + q) d)) := by
        show (match Cl.cl ((enc (xs.getD (lo + q) d) 0).er (owOf oo)) with
          | .ref κ' lo n => At.ref κ' lo n
          | .cl (.lit v) => .lit v
          | .cl (.sl _ _ _ _ _) => .spot κ (lo + q) 0
          | .cl _ => .any) = _
        rw [he]; rfl
      rw [ha] at k3
      obtain ⟨rfl, k4⟩ := k3
      exact ⟨k2, k4⟩
    refine ⟨.agg ((List.range m).map fun q => v (xs.getD (lo + q) d)).toArray, run_load _ w hop e4 (run_loadVar_agg (P := P) (w := w) (g := g) (j := j) h1 h2 h3 (show inf.size = m from h4) (fun q => v (xs.getD (lo + q) d)) (fun q hq => (hcell q hq).1)), _, rfl, by simp, fun i x hi => ?_⟩
    rw [List.getElem?_map, List.getElem?_map] at hi
    by_cases hlt : i < m
    · rw [List.getElem?_range hlt] at hi
      injection hi with hi; subst hi
      refine ⟨v (xs.getD (lo + i) d), ?_, rfl, (hcell i hlt).2⟩
      simp [List.getElem?_range hlt]
    · rw [List.getElem?_eq_none (by simp; omega)] at hi
      cases hi⟩
theorem OpK.buildArr (hG : GOk P G) {t m n e ke : Nat} {z : List ZC} {parts : Array (Nat × Operand)} {qs : List (Nat × List At)} (hop : o.op = .build t parts) (hg : o.guard = none) (hd : okD N o.dst = true)
    (ht : G.T t = some ⟨m, .arr n e ke, z⟩) (hz : z.all ZC.ok = true) (hq : partsQ σ (fun i => some (i * ke, ke)) parts.toList = some qs) (hok : fillOk m qs = true) (h : stO o σ (.agg (fillA (z.map ZC.at_) qs)) k) : OpK P F N o σ k :=
  ⟨fun ops Q rest kk => by
    have hp := partsQ_ok hq
    have hF := hG.T t _ ht
    obtain ⟨inf, zv, h3, h4, h5, h6⟩ := hF.info
    have hlen : z.length = m := hF.zl
    obtain ⟨h1, ie, h7, h8⟩ := hF.kind
    refine AL.val hg hd (fun a w ω β h => ?_) (stO_ok hd kk h)
    have hr0 : FillR σ.er β w zv.cells (z.map ZC.at_) := by
      refine ⟨by rw [← Array.length_toList, h6]; simp, fun j x hj => ?_⟩
      rw [List.getElem?_map] at hj
      cases hq : z[j]? with
      | none => rw [hq] at hj; cases hj
      | some zc =>
        rw [hq] at hj; injection hj with hj
        subst hj
        refine ⟨zc.val, ?_, ZC.arel (List.all_eq_true.1 hz _ (List.mem_of_getElem? hq))⟩
        rw [← Array.getElem?_toList, h6]
        show (z.map ZC.val)[j]? = _
        rw [List.getElem?_map, hq]; rfl
    obtain ⟨c', k1, k2, k3⟩ := fill_rel h parts.toList qs zv.cells (z.map ZC.at_) hp (by simpa [hlen] using hok) hr0
    have est := fillA_st _ _ (zat_st z) (partsQ_st hq)
    refine ⟨.agg c', ?_, c', rfl, by rw [est]; exact k2.1, by rw [est]; exact k2.2⟩
    have hbuilt : P.built t ((parts.map fun (i, x) => (i, a.eval x)).toList) = some c' := by
      unfold Program.built
      rw [h3, h1]
      simp only [h5, h7, h8]
      rw [Array.toList_map, ← k1]
    have hrun := run_build w t (parts.map fun (i, x) => (i, a.eval x)) c' hbuilt
    unfold execOp
    rw [hop]
    show ((Instr.build t (parts.map fun (i, x) => (i, a.eval x)) >>= fun v => pure (Next.value v)) : Sem Next).run P w = _
    rw [Sem.run_bind, hrun]
    rfl⟩
theorem arr_items {e : TypeId} {d : Nat} {w : World} (he : P.underlying e = some (.int .i64)) (f g : Nat → Int) (n : Nat) (xs ys : Array Value) (hx : ∀ i, i < n → xs[i]? = some (.int .i64 (f i))) (hy : ∀ i, i < n → ys[i]? = some (.int .i64 (g i))) :
    ∀ is : List Nat, (∀ i ∈ is, i < n) → (Op.eqItems (d + 1) e 1 xs ys is).run P w = .ok (decide (∀ i ∈ is, f i = g i)) w
  | [], _ => by simp [Op.eqItems]
  | i :: is, h => by
    have h1 := hx i (h i (by simp))
    have h2 := hy i (h i (by simp))
    have p1 : (part e xs (i * 1)).run P w = .ok (.int .i64 (f i)) w := by simp [part, isAgg, he, go_sem, run_underlying, h1]
    have p2 : (part e ys (i * 1)).run P w = .ok (.int .i64 (g i)) w := by simp [part, isAgg, he, go_sem, run_underlying, h2]
    have ih := arr_items (d := d) (w := w) he f g n xs ys hx hy is (fun j hj => h j (by simp [hj]))
    simp only [Op.eqItems, Sem.run_bind, p1, p2, Result.andThen_ok, run_equalIn_int w d e .i64 .i64 (f i) (g i) he]
    by_cases e1 : f i = g i
    · simp [e1, ih]
    · simp [e1]
theorem arr_eq {t e : TypeId} {n : Nat} {w : World} {inf : TypeInfo} (ht : P.underlying t = some (.array n e)) (he : P.underlying e = some (.int .i64)) (hi : P.info? e = some inf) (hc : P.cellsOf e = 1) (f g : Nat → Int) (xs ys : Array Value) (hx : ∀ i, i < n → xs[i]? = some (.int .i64 (f i))) (hy : ∀ i, i < n → ys[i]? = some (.int .i64 (g i))) :
    (Op.equalIn 10000 t (.agg xs) (.agg ys)).run P w = .ok (decide (∀ i ∈ List.range n, f i = g i)) w := by
  rw [show (10000 : Nat) = 9999 + 1 from rfl, run_equalIn_array w 9999 xs ys ht hi, hc]
  exact arr_items (d := 9998) he f g n xs ys hx hy _ (fun i hi => List.mem_range.1 hi)
end
end Go.Tr
end

section
/- Classes, places: contracts over the table of slot sizes. -/
namespace Go.Proofs.YtpmhkpmkmbkjbaaGreatDoor
open Go Go.Tr
set_option maxRecDepth 100000
set_option maxHeartbeats 4000000
set_option linter.unusedVariables false
set_option linter.unusedSimpArgs false
def szC (c : Int) : Int := if c = 0 then 8 else if c = 1 then 16 else if c = 2 then 40 else 0
def strC (c : Int) : Int := if c = 0 then 12 else if c = 1 then 20 else if c = 2 then 44 else 0
def perC (c : Int) : Int := if c = 0 then 4 else if c = 1 then 2 else if c = 2 then 1 else 0
def pgS (s : Int) : Int := if 0 ≤ s ∧ s < 24 then s / 4 else -1
def ixS (s : Int) : Int := if 0 ≤ s ∧ s < 24 then s % 4 else -1
def slA (p i : Int) : Int := if (0 ≤ p ∧ p < 6) ∧ 0 ≤ i ∧ i < 4 then p * 4 + i else -1
def genA (s c : Int) : Int := if (0 ≤ s ∧ s < 24) ∧ s % 4 < perC c then s / 4 * 64 + 8 + s % 4 * strC c else -1
theorem cls4 (c : Int) : (c = 0 ∧ szC c = 8 ∧ strC c = 12 ∧ perC c = 4) ∨ (c = 1 ∧ szC c = 16 ∧ strC c = 20 ∧ perC c = 2) ∨ (c = 2 ∧ szC c = 40 ∧ strC c = 44 ∧ perC c = 1) ∨ ((c < 0 ∨ 2 < c) ∧ szC c = 0 ∧ strC c = 0 ∧ perC c = 0) := by
  by_cases h0 : c = 0
  · subst h0; exact .inl ⟨rfl, rfl, rfl, rfl⟩
  by_cases h1 : c = 1
  · subst h1; exact .inr (.inl ⟨rfl, rfl, rfl, rfl⟩)
  by_cases h2 : c = 2
  · subst h2; exact .inr (.inr (.inl ⟨rfl, rfl, rfl, rfl⟩))
  · refine .inr (.inr (.inr ⟨by omega, ?_, ?_, ?_⟩)) <;> simp [szC, strC, perC, h0, h1, h2]
/-- The table of slot sizes. -/
abbrev hT : Hc := hcL [(0, 0, .int .i64 8), (0, 1, .int .i64 16), (0, 2, .int .i64 40)]
theorem inH_run (x a b : Int) : RunT Tryz.prog 88 [ti x, ti a, ti b] [] [ob (decide (a ≤ x ∧ x ≤ b))] [] := by
  refine RunT.of_vc gOk Tryz.func88 rfl rfl (Nat.le_of_ble_eq_true rfl) (by repeat' (first | exact trivial | exact ⟨_, rfl, Nat.le_refl _⟩ | exact Nat.le_of_ble_eq_true rfl | refine And.intro ?_ ?_)) (Nat.le_of_ble_eq_true rfl) rfl (fun F hE => ?_)
  repeat' (first | exact trivial | refine BS.d (fun h => ?_) (fun h => ?_) | refine BS.e (fun h => ?_) (fun h => ?_) | refine BS.ne (fun h => ?_) (fun h => ?_) | refine BS.n ?_ | refine BS.s (fun h => ?_) (fun h => ?_) | refine And.intro ?_ ?_ | (refine Need.mk ?_; first | with_reducible rfl | (show @Eq TC _ _; rfl) | omega | (simp only [adN_zero]; omega)) | exact OutS.whole rfl rfl | refine ListO.go gOk hE ?_)
  all_goals (refine Need.mk ?_; simp [*])
theorem slotH_run (x : Int) : RunT Tryz.prog 162 [ti x] [] [ob (decide (0 ≤ x ∧ x < 24))] [] := by
  refine RunT.of_vc gOk Tryz.func162 rfl rfl (Nat.le_of_ble_eq_true rfl) (by repeat' (first | exact trivial | exact ⟨_, rfl, Nat.le_refl _⟩ | exact Nat.le_of_ble_eq_true rfl | refine And.intro ?_ ?_)) (Nat.le_of_ble_eq_true rfl) rfl (fun F hE => ?_)
  repeat' (first | exact trivial | refine BS.d (fun h => ?_) (fun h => ?_) | refine BS.e (fun h => ?_) (fun h => ?_) | refine BS.ne (fun h => ?_) (fun h => ?_) | refine BS.n ?_ | refine BS.s (fun h => ?_) (fun h => ?_) | refine And.intro ?_ ?_ | (refine Need.mk ?_; first | with_reducible rfl | (show @Eq TC _ _; rfl) | omega | (simp only [adN_zero]; omega)) | exact OutS.whole rfl rfl | refine ListO.go gOk hE ?_)
  all_goals (refine Need.mk ?_; first | rfl | (symm; apply decide_eq_true; omega) | (symm; apply decide_eq_false; omega) | (apply decide_eq_decide.2; omega) | (simp only [beq_iff_eq, Bool.beq_eq_decide_eq] at *; apply decide_eq_decide.2; omega) | (simp; omega))
theorem clsH_run (x : Int) : RunT Tryz.prog 169 [ti x] [] [ob (decide (0 ≤ x ∧ x < 3))] [] := by
  refine RunT.of_vc gOk Tryz.func169 rfl rfl (Nat.le_of_ble_eq_true rfl) (by repeat' (first | exact trivial | exact ⟨_, rfl, Nat.le_refl _⟩ | exact Nat.le_of_ble_eq_true rfl | refine And.intro ?_ ?_)) (Nat.le_of_ble_eq_true rfl) rfl (fun F hE => ?_)
  repeat' (first | exact trivial | refine BS.d (fun h => ?_) (fun h => ?_) | refine BS.e (fun h => ?_) (fun h => ?_) | refine BS.ne (fun h => ?_) (fun h => ?_) | refine BS.n ?_ | refine BS.s (fun h => ?_) (fun h => ?_) | refine And.intro ?_ ?_ | (refine Need.mk ?_; first | with_reducible rfl | (show @Eq TC _ _; rfl) | omega | (simp only [adN_zero]; omega)) | exact OutS.whole rfl rfl | refine ListO.go gOk hE ?_)
  all_goals (refine Need.mk ?_; first | rfl | (symm; apply decide_eq_true; omega) | (symm; apply decide_eq_false; omega) | (apply decide_eq_decide.2; omega) | (simp only [beq_iff_eq, Bool.beq_eq_decide_eq] at *; apply decide_eq_decide.2; omega) | (simp; omega))
theorem SizeOfS_run (c : Int) : RunT Tryz.prog 112 [ti c] [] [oi (szC c)] [] := by
  rcases cls4 c with ⟨h, e, -, -⟩ | ⟨h, e, -, -⟩ | ⟨h, e, -, -⟩ | ⟨h, e, -, -⟩ <;> rw [e] <;> try subst h
  all_goals (refine RunT.of_vc gOk Tryz.func112 rfl rfl (Nat.le_of_ble_eq_true rfl) (by repeat' (first | exact trivial | exact ⟨_, rfl, Nat.le_refl _⟩ | exact Nat.le_of_ble_eq_true rfl | refine And.intro ?_ ?_)) (Nat.le_of_ble_eq_true rfl) rfl (fun F hE => ?_))
  all_goals (repeat' (first | exact trivial | refine BS.d (fun h => ?_) (fun h => ?_) | refine BS.e (fun h => ?_) (fun h => ?_) | refine BS.ne (fun h => ?_) (fun h => ?_) | refine BS.n ?_ | refine BS.s (fun h => ?_) (fun h => ?_) | refine And.intro ?_ ?_ | (refine Need.mk ?_; first | with_reducible rfl | (show @Eq TC _ _; rfl) | omega | (simp only [adN_zero]; omega)) | exact OutS.whole rfl rfl | refine ListO.go gOk hE ?_))
  all_goals first | (exfalso; omega) | exact Need.mk rfl | trace_state
theorem SizeOfI_run (c : Int) : RunH Tryz.prog hT 119 [ti c] [] [oi (szC c)] [] := by
  have c1 := clsH_run c
  rcases cls4 c with ⟨h, e, -, -⟩ | ⟨h, e, -, -⟩ | ⟨h, e, -, -⟩ | ⟨h, e, -, -⟩ <;> rw [e] <;> try subst h
  · refine RunH.of_vc gOk Tryz.func119 rfl rfl (Nat.le_of_ble_eq_true rfl) (by repeat' (first | exact trivial | exact ⟨_, rfl, Nat.le_refl _⟩ | exact Nat.le_of_ble_eq_true rfl | refine And.intro ?_ ?_)) (Nat.le_of_ble_eq_true rfl) rfl (fun F hE hA => ?_)
    repeat' (first | exact trivial | refine BS.d (fun h => ?_) (fun h => ?_) | refine BS.e (fun h => ?_) (fun h => ?_) | refine BS.ne (fun h => ?_) (fun h => ?_) | refine BS.n ?_ | refine BS.s (fun h => ?_) (fun h => ?_) | refine And.intro ?_ ?_ | (refine Need.mk ?_; first | with_reducible rfl | (show @Eq TC _ _; rfl) | omega | (simp only [adN_zero]; omega)) | exact OutS.whole rfl rfl | (refine OpK.call c1 rfl rfl rfl rfl hE ?_ rfl rfl ?_; focus ((repeat' (first | exact PsA.lit _ | exact PsA.ref rfl rfl | constructor)); all_goals (fail "ps"))) | (refine PK.ixH gOk rfl rfl rfl rfl (by decide) ?_) | (refine OpK.ldI gOk 0 hA rfl rfl rfl rfl rfl rfl rfl ?_) | refine ListO.go gOk hE ?_)
    all_goals first | (exfalso; omega) | exact Need.mk rfl | trace_state
  · refine RunH.of_vc gOk Tryz.func119 rfl rfl (Nat.le_of_ble_eq_true rfl) (by repeat' (first | exact trivial | exact ⟨_, rfl, Nat.le_refl _⟩ | exact Nat.le_of_ble_eq_true rfl | refine And.intro ?_ ?_)) (Nat.le_of_ble_eq_true rfl) rfl (fun F hE hA => ?_)
    repeat' (first | exact trivial | refine BS.d (fun h => ?_) (fun h => ?_) | refine BS.e (fun h => ?_) (fun h => ?_) | refine BS.ne (fun h => ?_) (fun h => ?_) | refine BS.n ?_ | refine BS.s (fun h => ?_) (fun h => ?_) | refine And.intro ?_ ?_ | (refine Need.mk ?_; first | with_reducible rfl | (show @Eq TC _ _; rfl) | omega | (simp only [adN_zero]; omega)) | exact OutS.whole rfl rfl | (refine OpK.call c1 rfl rfl rfl rfl hE ?_ rfl rfl ?_; focus ((repeat' (first | exact PsA.lit _ | exact PsA.ref rfl rfl | constructor)); all_goals (fail "ps"))) | (refine PK.ixH gOk rfl rfl rfl rfl (by decide) ?_) | (refine OpK.ldI gOk 1 hA rfl rfl rfl rfl rfl rfl rfl ?_) | refine ListO.go gOk hE ?_)
    all_goals first | (exfalso; omega) | exact Need.mk rfl | trace_state
  · refine RunH.of_vc gOk Tryz.func119 rfl rfl (Nat.le_of_ble_eq_true rfl) (by repeat' (first | exact trivial | exact ⟨_, rfl, Nat.le_refl _⟩ | exact Nat.le_of_ble_eq_true rfl | refine And.intro ?_ ?_)) (Nat.le_of_ble_eq_true rfl) rfl (fun F hE hA => ?_)
    repeat' (first | exact trivial | refine BS.d (fun h => ?_) (fun h => ?_) | refine BS.e (fun h => ?_) (fun h => ?_) | refine BS.ne (fun h => ?_) (fun h => ?_) | refine BS.n ?_ | refine BS.s (fun h => ?_) (fun h => ?_) | refine And.intro ?_ ?_ | (refine Need.mk ?_; first | with_reducible rfl | (show @Eq TC _ _; rfl) | omega | (simp only [adN_zero]; omega)) | exact OutS.whole rfl rfl | (refine OpK.call c1 rfl rfl rfl rfl hE ?_ rfl rfl ?_; focus ((repeat' (first | exact PsA.lit _ | exact PsA.ref rfl rfl | constructor)); all_goals (fail "ps"))) | (refine PK.ixH gOk rfl rfl rfl rfl (by decide) ?_) | (refine OpK.ldI gOk 2 hA rfl rfl rfl rfl rfl rfl rfl ?_) | refine ListO.go gOk hE ?_)
    all_goals first | (exfalso; omega) | exact Need.mk rfl | trace_state
  · rw [decide_eq_false (by omega)] at c1
    refine RunH.of_vc gOk Tryz.func119 rfl rfl (Nat.le_of_ble_eq_true rfl) (by repeat' (first | exact trivial | exact ⟨_, rfl, Nat.le_refl _⟩ | exact Nat.le_of_ble_eq_true rfl | refine And.intro ?_ ?_)) (Nat.le_of_ble_eq_true rfl) rfl (fun F hE hA => ?_)
    repeat' (first | exact trivial | refine BS.d (fun h => ?_) (fun h => ?_) | refine BS.e (fun h => ?_) (fun h => ?_) | refine BS.ne (fun h => ?_) (fun h => ?_) | refine BS.n ?_ | refine BS.s (fun h => ?_) (fun h => ?_) | refine And.intro ?_ ?_ | (refine Need.mk ?_; first | with_reducible rfl | (show @Eq TC _ _; rfl) | omega | (simp only [adN_zero]; omega)) | exact OutS.whole rfl rfl | (refine OpK.call c1 rfl rfl rfl rfl hE ?_ rfl rfl ?_; focus ((repeat' (first | exact PsA.lit _ | exact PsA.ref rfl rfl | constructor)); all_goals (fail "ps"))) | refine ListO.go gOk hE ?_)
    all_goals first | (exfalso; omega) | exact Need.mk rfl | trace_state
end Go.Proofs.YtpmhkpmkmbkjbaaGreatDoor
end

section
namespace Go.Proofs.YtpmhkpmkmbkjbaaGreatDoor
open Go Go.Tr
set_option maxRecDepth 100000
set_option maxHeartbeats 4000000
set_option linter.unusedVariables false
set_option linter.unusedSimpArgs false
theorem StrideOfS_run (c : Int) : RunT Tryz.prog 200 [ti c] [] [oi (strC c)] [] := by
  have c1 := inH_run c 0 2
  have c2 := SizeOfS_run c
  rcases cls4 c with ⟨h, e, e1, -⟩ | ⟨h, e, e1, -⟩ | ⟨h, e, e1, -⟩ | ⟨h, e, e1, -⟩ <;> rw [e1] <;> rw [e] at c2 <;> try subst h
  all_goals first | rw [decide_eq_true (by omega)] at c1 | rw [decide_eq_false (by omega)] at c1
  all_goals (refine RunT.of_vc gOk Tryz.func200 rfl rfl (Nat.le_of_ble_eq_true rfl) (by repeat' (first | exact trivial | exact ⟨_, rfl, Nat.le_refl _⟩ | exact Nat.le_of_ble_eq_true rfl | refine And.intro ?_ ?_)) (Nat.le_of_ble_eq_true rfl) rfl (fun F hE => ?_))
  all_goals (repeat' (first | exact trivial | refine BS.d (fun h => ?_) (fun h => ?_) | refine BS.e (fun h => ?_) (fun h => ?_) | refine BS.ne (fun h => ?_) (fun h => ?_) | refine BS.n ?_ | refine BS.s (fun h => ?_) (fun h => ?_) | refine And.intro ?_ ?_ | (refine Need.mk ?_; first | with_reducible rfl | (show @Eq TC _ _; rfl) | omega | (simp only [adN_zero]; omega)) | exact OutS.whole rfl rfl | (refine OpK.call c1 rfl rfl rfl rfl hE ?_ rfl rfl ?_; focus ((repeat' (first | exact PsA.lit _ | exact PsA.ref rfl rfl | constructor)); all_goals (fail "ps"))) | (refine OpK.call c2 rfl rfl rfl rfl hE ?_ rfl rfl ?_; focus ((repeat' (first | exact PsA.lit _ | exact PsA.ref rfl rfl | constructor)); all_goals (fail "ps"))) | refine ListO.go gOk hE ?_))
  all_goals first | (exfalso; omega) | exact Need.mk rfl | (refine Need.mk ?_; rw [wr_in (by decide)]; rfl) | (exfalso; simp_all; done) | trace_state
theorem StrideOfI_run (c : Int) : RunH Tryz.prog hT 203 [ti c] [] [oi (strC c)] [] := by
  have c1 := clsH_run c
  have c2 := SizeOfI_run c
  rcases cls4 c with ⟨h, e, e1, -⟩ | ⟨h, e, e1, -⟩ | ⟨h, e, e1, -⟩ | ⟨h, e, e1, -⟩ <;> rw [e1] <;> rw [e] at c2 <;> try subst h
  all_goals first | rw [decide_eq_true (by omega)] at c1 | rw [decide_eq_false (by omega)] at c1
  all_goals (refine RunH.of_vc gOk Tryz.func203 rfl rfl (Nat.le_of_ble_eq_true rfl) (by repeat' (first | exact trivial | exact ⟨_, rfl, Nat.le_refl _⟩ | exact Nat.le_of_ble_eq_true rfl | refine And.intro ?_ ?_)) (Nat.le_of_ble_eq_true rfl) rfl (fun F hE hA => ?_))
  all_goals (repeat' (first | exact trivial | refine BS.d (fun h => ?_) (fun h => ?_) | refine BS.e (fun h => ?_) (fun h => ?_) | refine BS.ne (fun h => ?_) (fun h => ?_) | refine BS.n ?_ | refine BS.s (fun h => ?_) (fun h => ?_) | refine And.intro ?_ ?_ | (refine Need.mk ?_; first | with_reducible rfl | (show @Eq TC _ _; rfl) | omega | (simp only [adN_zero]; omega)) | exact OutS.whole rfl rfl | (refine OpK.call c1 rfl rfl rfl rfl hE ?_ rfl rfl ?_; focus ((repeat' (first | exact PsA.lit _ | exact PsA.ref rfl rfl | constructor)); all_goals (fail "ps"))) | (refine OpK.callH c2 hA rfl rfl rfl rfl hE ?_ rfl rfl ?_; focus ((repeat' (first | exact PsA.lit _ | exact PsA.ref rfl rfl | constructor)); all_goals (fail "ps"))) | refine ListO.go gOk hE ?_))
  all_goals first | (exfalso; omega) | exact Need.mk rfl | (refine Need.mk ?_; rw [wr_in (by decide)]; rfl) | (exfalso; simp_all; done) | trace_state
theorem PerPageS_run (c : Int) : RunT Tryz.prog 178 [ti c] [] [oi (perC c)] [] := by
  have c1 := inH_run c 0 2
  have c2 := StrideOfS_run c
  rcases cls4 c with ⟨h, -, e, e1⟩ | ⟨h, -, e, e1⟩ | ⟨h, -, e, e1⟩ | ⟨h, -, e, e1⟩ <;> rw [e1] <;> rw [e] at c2 <;> try subst h
  all_goals first | rw [decide_eq_true (by omega)] at c1 | rw [decide_eq_false (by omega)] at c1
  all_goals (refine RunT.of_vc gOk Tryz.func178 rfl rfl (Nat.le_of_ble_eq_true rfl) (by repeat' (first | exact trivial | exact ⟨_, rfl, Nat.le_refl _⟩ | exact Nat.le_of_ble_eq_true rfl | refine And.intro ?_ ?_)) (Nat.le_of_ble_eq_true rfl) rfl (fun F hE => ?_))
  all_goals (repeat' (first | exact trivial | refine BS.d (fun h => ?_) (fun h => ?_) | refine BS.e (fun h => ?_) (fun h => ?_) | refine BS.ne (fun h => ?_) (fun h => ?_) | refine BS.n ?_ | refine BS.s (fun h => ?_) (fun h => ?_) | refine And.intro ?_ ?_ | (refine Need.mk ?_; first | with_reducible rfl | (show @Eq TC _ _; rfl) | omega | (simp only [adN_zero]; omega)) | exact OutS.whole rfl rfl | (refine OpK.call c1 rfl rfl rfl rfl hE ?_ rfl rfl ?_; focus ((repeat' (first | exact PsA.lit _ | exact PsA.ref rfl rfl | constructor)); all_goals (fail "ps"))) | (refine OpK.call c2 rfl rfl rfl rfl hE ?_ rfl rfl ?_; focus ((repeat' (first | exact PsA.lit _ | exact PsA.ref rfl rfl | constructor)); all_goals (fail "ps"))) | refine ListO.go gOk hE ?_))
  all_goals first | (exfalso; omega) | exact Need.mk rfl | (refine Need.mk ?_; rw [wr_in (by decide)]; rfl) | (exfalso; simp_all; done) | trace_state
theorem PerPageI_run (c : Int) : RunH Tryz.prog hT 202 [ti c] [] [oi (perC c)] [] := by
  have c1 := clsH_run c
  have c2 := StrideOfI_run c
  rcases cls4 c with ⟨h, -, e, e1⟩ | ⟨h, -, e, e1⟩ | ⟨h, -, e, e1⟩ | ⟨h, -, e, e1⟩ <;> rw [e1] <;> rw [e] at c2 <;> try subst h
  all_goals first | rw [decide_eq_true (by omega)] at c1 | rw [decide_eq_false (by omega)] at c1
  all_goals (refine RunH.of_vc gOk Tryz.func202 rfl rfl (Nat.le_of_ble_eq_true rfl) (by repeat' (first | exact trivial | exact ⟨_, rfl, Nat.le_refl _⟩ | exact Nat.le_of_ble_eq_true rfl | refine And.intro ?_ ?_)) (Nat.le_of_ble_eq_true rfl) rfl (fun F hE hA => ?_))
  all_goals (repeat' (first | exact trivial | refine BS.d (fun h => ?_) (fun h => ?_) | refine BS.e (fun h => ?_) (fun h => ?_) | refine BS.ne (fun h => ?_) (fun h => ?_) | refine BS.n ?_ | refine BS.s (fun h => ?_) (fun h => ?_) | refine And.intro ?_ ?_ | (refine Need.mk ?_; first | with_reducible rfl | (show @Eq TC _ _; rfl) | omega | (simp only [adN_zero]; omega)) | exact OutS.whole rfl rfl | (refine OpK.call c1 rfl rfl rfl rfl hE ?_ rfl rfl ?_; focus ((repeat' (first | exact PsA.lit _ | exact PsA.ref rfl rfl | constructor)); all_goals (fail "ps"))) | (refine OpK.callH c2 hA rfl rfl rfl rfl hE ?_ rfl rfl ?_; focus ((repeat' (first | exact PsA.lit _ | exact PsA.ref rfl rfl | constructor)); all_goals (fail "ps"))) | refine ListO.go gOk hE ?_))
  all_goals first | (exfalso; omega) | exact Need.mk rfl | (refine Need.mk ?_; rw [wr_in (by decide)]; rfl) | (exfalso; simp_all; done) | trace_state
theorem PageOfS_run (s : Int) : RunT Tryz.prog 176 [ti s] [] [oi (pgS s)] [] := by
  have c1 := inH_run s 0 23
  unfold pgS
  refine RunT.of_vc gOk Tryz.func176 rfl rfl (Nat.le_of_ble_eq_true rfl) (by repeat' (first | exact trivial | exact ⟨_, rfl, Nat.le_refl _⟩ | exact Nat.le_of_ble_eq_true rfl | refine And.intro ?_ ?_)) (Nat.le_of_ble_eq_true rfl) rfl (fun F hE => ?_)
  repeat' (first | exact trivial | refine BS.d (fun h => ?_) (fun h => ?_) | refine BS.e (fun h => ?_) (fun h => ?_) | refine BS.ne (fun h => ?_) (fun h => ?_) | refine BS.n ?_ | refine BS.s (fun h => ?_) (fun h => ?_) | refine And.intro ?_ ?_ | (refine Need.mk ?_; first | with_reducible rfl | (show @Eq TC _ _; rfl) | omega | (simp only [adN_zero]; omega)) | exact OutS.whole rfl rfl | (refine OpK.call c1 rfl rfl rfl rfl hE ?_ rfl rfl ?_; focus ((repeat' (first | exact PsA.lit _ | exact PsA.ref rfl rfl | constructor)); all_goals (fail "ps"))) | refine ListO.go gOk hE ?_)
  all_goals first | (refine Need.mk ?_; first | (rw [if_pos (by omega), Int.tdiv_eq_ediv_of_nonneg (by omega), wr_in (by omega)]; done) | (rw [if_neg (by omega)]; done)) | trace_state
theorem PageOfI_run (s : Int) : RunT Tryz.prog 164 [ti s] [] [oi (pgS s)] [] := by
  have c1 := slotH_run s
  unfold pgS
  refine RunT.of_vc gOk Tryz.func164 rfl rfl (Nat.le_of_ble_eq_true rfl) (by repeat' (first | exact trivial | exact ⟨_, rfl, Nat.le_refl _⟩ | exact Nat.le_of_ble_eq_true rfl | refine And.intro ?_ ?_)) (Nat.le_of_ble_eq_true rfl) rfl (fun F hE => ?_)
  repeat' (first | exact trivial | refine BS.d (fun h => ?_) (fun h => ?_) | refine BS.e (fun h => ?_) (fun h => ?_) | refine BS.ne (fun h => ?_) (fun h => ?_) | refine BS.n ?_ | refine BS.s (fun h => ?_) (fun h => ?_) | refine And.intro ?_ ?_ | (refine Need.mk ?_; first | with_reducible rfl | (show @Eq TC _ _; rfl) | omega | (simp only [adN_zero]; omega)) | exact OutS.whole rfl rfl | (refine OpK.call c1 rfl rfl rfl rfl hE ?_ rfl rfl ?_; focus ((repeat' (first | exact PsA.lit _ | exact PsA.ref rfl rfl | constructor)); all_goals (fail "ps"))) | refine ListO.go gOk hE ?_)
  all_goals first | (refine Need.mk ?_; first | (rw [if_pos (by omega), Int.tdiv_eq_ediv_of_nonneg (by omega), wr_in (by omega)]; done) | (rw [if_neg (by omega)]; done)) | trace_state
theorem IndexOfS_run (s : Int) : RunT Tryz.prog 177 [ti s] [] [oi (ixS s)] [] := by
  have c1 := inH_run s 0 23
  unfold ixS
  refine RunT.of_vc gOk Tryz.func177 rfl rfl (Nat.le_of_ble_eq_true rfl) (by repeat' (first | exact trivial | exact ⟨_, rfl, Nat.le_refl _⟩ | exact Nat.le_of_ble_eq_true rfl | refine And.intro ?_ ?_)) (Nat.le_of_ble_eq_true rfl) rfl (fun F hE => ?_)
  repeat' (first | exact trivial | refine BS.d (fun h => ?_) (fun h => ?_) | refine BS.e (fun h => ?_) (fun h => ?_) | refine BS.ne (fun h => ?_) (fun h => ?_) | refine BS.n ?_ | refine BS.s (fun h => ?_) (fun h => ?_) | refine And.intro ?_ ?_ | (refine Need.mk ?_; first | with_reducible rfl | (show @Eq TC _ _; rfl) | omega | (simp only [adN_zero]; omega)) | exact OutS.whole rfl rfl | (refine OpK.call c1 rfl rfl rfl rfl hE ?_ rfl rfl ?_; focus ((repeat' (first | exact PsA.lit _ | exact PsA.ref rfl rfl | constructor)); all_goals (fail "ps"))) | refine ListO.go gOk hE ?_)
  all_goals first | (refine Need.mk ?_; first | (rw [if_pos (by omega), Int.tmod_eq_emod_of_nonneg (by omega)]; done) | (rw [if_neg (by omega)]; done)) | trace_state
theorem IndexOfI_run (s : Int) : RunT Tryz.prog 201 [ti s] [] [oi (ixS s)] [] := by
  have c1 := slotH_run s
  unfold ixS
  refine RunT.of_vc gOk Tryz.func201 rfl rfl (Nat.le_of_ble_eq_true rfl) (by repeat' (first | exact trivial | exact ⟨_, rfl, Nat.le_refl _⟩ | exact Nat.le_of_ble_eq_true rfl | refine And.intro ?_ ?_)) (Nat.le_of_ble_eq_true rfl) rfl (fun F hE => ?_)
  repeat' (first | exact trivial | refine BS.d (fun h => ?_) (fun h => ?_) | refine BS.e (fun h => ?_) (fun h => ?_) | refine BS.ne (fun h => ?_) (fun h => ?_) | refine BS.n ?_ | refine BS.s (fun h => ?_) (fun h => ?_) | refine And.intro ?_ ?_ | (refine Need.mk ?_; first | with_reducible rfl | (show @Eq TC _ _; rfl) | omega | (simp only [adN_zero]; omega)) | exact OutS.whole rfl rfl | (refine OpK.call c1 rfl rfl rfl rfl hE ?_ rfl rfl ?_; focus ((repeat' (first | exact PsA.lit _ | exact PsA.ref rfl rfl | constructor)); all_goals (fail "ps"))) | refine ListO.go gOk hE ?_)
  all_goals first | (refine Need.mk ?_; first | (rw [if_pos (by omega), Int.tmod_eq_emod_of_nonneg (by omega)]; done) | (rw [if_neg (by omega)]; done)) | trace_state
theorem SlotAtS_run (p i : Int) : RunT Tryz.prog 206 [ti p, ti i] [] [oi (slA p i)] [] := by
  have c1 := inH_run p 0 5
  have c2 := inH_run i 0 3
  unfold slA
  refine RunT.of_vc gOk Tryz.func206 rfl rfl (Nat.le_of_ble_eq_true rfl) (by repeat' (first | exact trivial | exact ⟨_, rfl, Nat.le_refl _⟩ | exact Nat.le_of_ble_eq_true rfl | refine And.intro ?_ ?_)) (Nat.le_of_ble_eq_true rfl) rfl (fun F hE => ?_)
  repeat' (first | exact trivial | refine BS.d (fun h => ?_) (fun h => ?_) | refine BS.e (fun h => ?_) (fun h => ?_) | refine BS.ne (fun h => ?_) (fun h => ?_) | refine BS.n ?_ | refine BS.s (fun h => ?_) (fun h => ?_) | refine And.intro ?_ ?_ | (refine Need.mk ?_; first | with_reducible rfl | (show @Eq TC _ _; rfl) | omega | (simp only [adN_zero]; omega)) | exact OutS.whole rfl rfl | (refine OpK.call c1 rfl rfl rfl rfl hE ?_ rfl rfl ?_; focus ((repeat' (first | exact PsA.lit _ | exact PsA.ref rfl rfl | constructor)); all_goals (fail "ps"))) | (refine OpK.call c2 rfl rfl rfl rfl hE ?_ rfl rfl ?_; focus ((repeat' (first | exact PsA.lit _ | exact PsA.ref rfl rfl | constructor)); all_goals (fail "ps"))) | refine ListO.go gOk hE ?_)
  all_goals first | (refine Need.mk ?_; first | (rw [if_pos (by omega)]; done) | (rw [if_neg (by omega)]; done)) | trace_state
theorem SlotAtI_run (p i : Int) : RunT Tryz.prog 208 [ti p, ti i] [] [oi (slA p i)] [] := by
  unfold slA
  refine RunT.of_vc gOk Tryz.func208 rfl rfl (Nat.le_of_ble_eq_true rfl) (by repeat' (first | exact trivial | exact ⟨_, rfl, Nat.le_refl _⟩ | exact Nat.le_of_ble_eq_true rfl | refine And.intro ?_ ?_)) (Nat.le_of_ble_eq_true rfl) rfl (fun F hE => ?_)
  repeat' (first | exact trivial | refine BS.d (fun h => ?_) (fun h => ?_) | refine BS.e (fun h => ?_) (fun h => ?_) | refine BS.ne (fun h => ?_) (fun h => ?_) | refine BS.n ?_ | refine BS.s (fun h => ?_) (fun h => ?_) | refine And.intro ?_ ?_ | (refine Need.mk ?_; first | with_reducible rfl | (show @Eq TC _ _; rfl) | omega | (simp only [adN_zero]; omega)) | exact OutS.whole rfl rfl | refine ListO.go gOk hE ?_)
  all_goals first | (exfalso; omega) | (refine Need.mk ?_; first | (rw [if_pos (by omega)]; done) | (rw [if_neg (by omega)]; done)) | trace_state
end Go.Proofs.YtpmhkpmkmbkjbaaGreatDoor
end

section
namespace Go.Proofs.YtpmhkpmkmbkjbaaGreatDoor
open Go Go.Tr
set_option maxRecDepth 100000
set_option maxHeartbeats 4000000
set_option linter.unusedVariables false
set_option linter.unusedSimpArgs false
theorem genA_yes {s c : Int} (hs : 0 ≤ s ∧ s < 24) (h : s % 4 < perC c) : genA s c = s / 4 * 64 + 8 + s % 4 * strC c := if_pos ⟨hs, h⟩
theorem genA_no {s c : Int} (h : ¬ ((0 ≤ s ∧ s < 24) ∧ s % 4 < perC c)) : genA s c = -1 := if_neg h
theorem pg_yes {s : Int} (h : 0 ≤ s ∧ s < 24) : pgS s = s / 4 := if_pos h
theorem pg_no {s : Int} (h : ¬ (0 ≤ s ∧ s < 24)) : pgS s = -1 := if_neg h
theorem ix_yes {s : Int} (h : 0 ≤ s ∧ s < 24) : ixS s = s % 4 := if_pos h
theorem ix_no {s : Int} (h : ¬ (0 ≤ s ∧ s < 24)) : ixS s = -1 := if_neg h
theorem GenAtS_run (s c : Int) : RunT Tryz.prog 156 [ti s, ti c] [] [oi (genA s c)] [] := by
  have c1 := PageOfS_run s
  have c2 := IndexOfS_run s
  have c3 := PerPageS_run c
  have c4 := StrideOfS_run c
  by_cases hs : 0 ≤ s ∧ s < 24
  · rw [pg_yes hs] at c1
    rw [ix_yes hs] at c2
    have h9 : genA s c = if s % 4 < perC c then s / 4 * 64 + 8 + s % 4 * strC c else -1 := by
      by_cases h : s % 4 < perC c
      · rw [genA_yes hs h, if_pos h]
      · rw [genA_no (fun hh => h hh.2), if_neg h]
    rw [h9]
    rcases cls4 c with ⟨h, -, e, e1⟩ | ⟨h, -, e, e1⟩ | ⟨h, -, e, e1⟩ | ⟨h, -, e, e1⟩ <;> rw [e1] <;> rw [e] <;> rw [e1] at c3 <;> rw [e] at c4
    all_goals (refine RunT.of_vc gOk Tryz.func156 rfl rfl (Nat.le_of_ble_eq_true rfl) (by repeat' (first | exact trivial | exact ⟨_, rfl, Nat.le_refl _⟩ | exact Nat.le_of_ble_eq_true rfl | refine And.intro ?_ ?_)) (Nat.le_of_ble_eq_true rfl) rfl (fun F hE => ?_))
    all_goals (repeat' (first | exact trivial | refine BS.d (fun h => ?_) (fun h => ?_) | refine BS.e (fun h => ?_) (fun h => ?_) | refine BS.ne (fun h => ?_) (fun h => ?_) | refine BS.n ?_ | refine BS.s (fun h => ?_) (fun h => ?_) | refine And.intro ?_ ?_ | (refine Need.mk ?_; first | with_reducible rfl | (show @Eq TC _ _; rfl) | omega | (simp only [adN_zero]; omega)) | exact OutS.whole rfl rfl | (refine OpK.call c1 rfl rfl rfl rfl hE ?_ rfl rfl ?_; focus ((repeat' (first | exact PsA.lit _ | exact PsA.ref rfl rfl | constructor)); all_goals (fail "ps"))) | (refine OpK.call c2 rfl rfl rfl rfl hE ?_ rfl rfl ?_; focus ((repeat' (first | exact PsA.lit _ | exact PsA.ref rfl rfl | constructor)); all_goals (fail "ps"))) | (refine OpK.call c3 rfl rfl rfl rfl hE ?_ rfl rfl ?_; focus ((repeat' (first | exact PsA.lit _ | exact PsA.ref rfl rfl | constructor)); all_goals (fail "ps"))) | (refine OpK.call c4 rfl rfl rfl rfl hE ?_ rfl rfl ?_; focus ((repeat' (first | exact PsA.lit _ | exact PsA.ref rfl rfl | constructor)); all_goals (fail "ps"))) | (refine OpK.call (inH_run ?_ ?_ ?_) rfl rfl rfl rfl hE ?_ rfl rfl ?_; rotate_left 3; focus ((repeat' (first | exact PsA.lit _ | exact PsA.ref rfl rfl | constructor)); all_goals (fail "ps"))) | refine ListO.go gOk hE ?_))
    all_goals first | (exfalso; omega) | (refine Need.mk ?_; first | omega | (rw [if_pos (by omega)]; done) | (rw [if_neg (by omega)]; done)) | trace_state
  · rw [pg_no hs] at c1
    rw [genA_no (fun hh => hs hh.1)]
    refine RunT.of_vc gOk Tryz.func156 rfl rfl (Nat.le_of_ble_eq_true rfl) (by repeat' (first | exact trivial | exact ⟨_, rfl, Nat.le_refl _⟩ | exact Nat.le_of_ble_eq_true rfl | refine And.intro ?_ ?_)) (Nat.le_of_ble_eq_true rfl) rfl (fun F hE => ?_)
    repeat' (first | exact trivial | refine BS.d (fun h => ?_) (fun h => ?_) | refine BS.e (fun h => ?_) (fun h => ?_) | refine BS.ne (fun h => ?_) (fun h => ?_) | refine BS.n ?_ | refine BS.s (fun h => ?_) (fun h => ?_) | refine And.intro ?_ ?_ | (refine Need.mk ?_; first | with_reducible rfl | (show @Eq TC _ _; rfl) | omega | (simp only [adN_zero]; omega)) | exact OutS.whole rfl rfl | (refine OpK.call c1 rfl rfl rfl rfl hE ?_ rfl rfl ?_; focus ((repeat' (first | exact PsA.lit _ | exact PsA.ref rfl rfl | constructor)); all_goals (fail "ps"))) | refine ListO.go gOk hE ?_)
    all_goals first | exact Need.mk rfl | (exfalso; omega) | trace_state
theorem GenAtI_run (s c : Int) : RunH Tryz.prog hT 160 [ti s, ti c] [] [oi (genA s c)] [] := by
  have c0 := slotH_run s
  have c1 := PageOfI_run s
  have c2 := IndexOfI_run s
  have c3 := PerPageI_run c
  have c4 := StrideOfI_run c
  by_cases hs : 0 ≤ s ∧ s < 24
  · rw [pg_yes hs] at c1
    rw [ix_yes hs] at c2
    rw [decide_eq_true hs] at c0
    have h9 : genA s c = if s % 4 < perC c then s / 4 * 64 + 8 + s % 4 * strC c else -1 := by
      by_cases h : s % 4 < perC c
      · rw [genA_yes hs h, if_pos h]
      · rw [genA_no (fun hh => h hh.2), if_neg h]
    rw [h9]
    rcases cls4 c with ⟨h, -, e, e1⟩ | ⟨h, -, e, e1⟩ | ⟨h, -, e, e1⟩ | ⟨h, -, e, e1⟩ <;> rw [e1] <;> rw [e] <;> rw [e1] at c3 <;> rw [e] at c4
    all_goals (refine RunH.of_vc gOk Tryz.func160 rfl rfl (Nat.le_of_ble_eq_true rfl) (by repeat' (first | exact trivial | exact ⟨_, rfl, Nat.le_refl _⟩ | exact Nat.le_of_ble_eq_true rfl | refine And.intro ?_ ?_)) (Nat.le_of_ble_eq_true rfl) rfl (fun F hE hA => ?_))
    all_goals (repeat' (first | exact trivial | refine BS.d (fun h => ?_) (fun h => ?_) | refine BS.e (fun h => ?_) (fun h => ?_) | refine BS.ne (fun h => ?_) (fun h => ?_) | refine BS.n ?_ | refine BS.s (fun h => ?_) (fun h => ?_) | refine And.intro ?_ ?_ | (refine Need.mk ?_; first | with_reducible rfl | (show @Eq TC _ _; rfl) | omega | (simp only [adN_zero]; omega)) | exact OutS.whole rfl rfl | (refine OpK.call c0 rfl rfl rfl rfl hE ?_ rfl rfl ?_; focus ((repeat' (first | exact PsA.lit _ | exact PsA.ref rfl rfl | constructor)); all_goals (fail "ps"))) | (refine OpK.call c1 rfl rfl rfl rfl hE ?_ rfl rfl ?_; focus ((repeat' (first | exact PsA.lit _ | exact PsA.ref rfl rfl | constructor)); all_goals (fail "ps"))) | (refine OpK.call c2 rfl rfl rfl rfl hE ?_ rfl rfl ?_; focus ((repeat' (first | exact PsA.lit _ | exact PsA.ref rfl rfl | constructor)); all_goals (fail "ps"))) | (refine OpK.callH c3 hA rfl rfl rfl rfl hE ?_ rfl rfl ?_; focus ((repeat' (first | exact PsA.lit _ | exact PsA.ref rfl rfl | constructor)); all_goals (fail "ps"))) | (refine OpK.callH c4 hA rfl rfl rfl rfl hE ?_ rfl rfl ?_; focus ((repeat' (first | exact PsA.lit _ | exact PsA.ref rfl rfl | constructor)); all_goals (fail "ps"))) | refine ListO.go gOk hE ?_))
    all_goals first | (exfalso; omega) | (refine Need.mk ?_; first | omega | (rw [if_pos (by omega)]; done) | (rw [if_neg (by omega)]; done)) | trace_state
  · rw [decide_eq_false hs] at c0
    rw [genA_no (fun hh => hs hh.1)]
    refine RunH.of_vc gOk Tryz.func160 rfl rfl (Nat.le_of_ble_eq_true rfl) (by repeat' (first | exact trivial | exact ⟨_, rfl, Nat.le_refl _⟩ | exact Nat.le_of_ble_eq_true rfl | refine And.intro ?_ ?_)) (Nat.le_of_ble_eq_true rfl) rfl (fun F hE hA => ?_)
    repeat' (first | exact trivial | refine BS.d (fun h => ?_) (fun h => ?_) | refine BS.e (fun h => ?_) (fun h => ?_) | refine BS.ne (fun h => ?_) (fun h => ?_) | refine BS.n ?_ | refine BS.s (fun h => ?_) (fun h => ?_) | refine And.intro ?_ ?_ | (refine Need.mk ?_; first | with_reducible rfl | (show @Eq TC _ _; rfl) | omega | (simp only [adN_zero]; omega)) | exact OutS.whole rfl rfl | (refine OpK.call c0 rfl rfl rfl rfl hE ?_ rfl rfl ?_; focus ((repeat' (first | exact PsA.lit _ | exact PsA.ref rfl rfl | constructor)); all_goals (fail "ps"))) | refine ListO.go gOk hE ?_)
    all_goals first | exact Need.mk rfl | (exfalso; omega) | trace_state
end Go.Proofs.YtpmhkpmkmbkjbaaGreatDoor
end

section
/- Bytes and the numbers in them. -/
namespace Go.Proofs.YtpmhkpmkmbkjbaaGreatDoor
open Go Go.Tr
set_option maxRecDepth 100000
set_option maxHeartbeats 4000000
set_option linter.unusedVariables false
set_option linter.unusedSimpArgs false
def byP (xs : List Int) (j : Nat) : Prop := 0 ≤ xs.getD j 0 ∧ xs.getD j 0 ≤ 255
def bysOk (xs : List Int) : Prop := xs.length ≤ 1000 ∧ ∀ j, j < xs.length → byP xs j
instance (xs : List Int) (j : Nat) : Decidable (byP xs j) := by unfold byP; infer_instance
instance (xs : List Int) : Decidable (bysOk xs) := by unfold bysOk; infer_instance
theorem isByte_run (x : Int) : RunT Tryz.prog 215 [ti x] [] [ob (decide (0 ≤ x ∧ x ≤ 255))] [] := by
  refine RunT.of_vc gOk Tryz.func215 rfl rfl (Nat.le_of_ble_eq_true rfl) (by repeat' (first | exact trivial | exact ⟨_, rfl, Nat.le_refl _⟩ | exact Nat.le_of_ble_eq_true rfl | refine And.intro ?_ ?_)) (Nat.le_of_ble_eq_true rfl) rfl (fun F hE => ?_)
  repeat' (first | exact trivial | refine BS.d (fun h => ?_) (fun h => ?_) | refine BS.e (fun h => ?_) (fun h => ?_) | refine BS.ne (fun h => ?_) (fun h => ?_) | refine BS.n ?_ | refine BS.s (fun h => ?_) (fun h => ?_) | refine And.intro ?_ ?_ | (refine Need.mk ?_; first | with_reducible rfl | (show @Eq TC _ _; rfl) | omega | (simp only [adN_zero]; omega)) | exact OutS.whole rfl rfl | refine ListO.go gOk hE ?_)
  all_goals (refine Need.mk ?_; first | rfl | (symm; apply decide_eq_true; omega) | (symm; apply decide_eq_false; omega) | (apply decide_eq_decide.2; omega) | (simp only [beq_iff_eq, Bool.beq_eq_decide_eq] at *; apply decide_eq_decide.2; omega) | (simp; omega))
theorem BytesOkS_run (xs : List Int) (hn : xs.length ≤ 1048576) : RunT Tryz.prog 209 [.one (.c (tI xs))] [] [ob (decide (bysOk xs))] [] := by
  refine RunT.of_vc gOk Tryz.func209 rfl rfl (Nat.le_of_ble_eq_true rfl) (by repeat' (first | exact trivial | exact ⟨_, rfl, Nat.le_refl _⟩ | exact Nat.le_of_ble_eq_true rfl | refine And.intro ?_ ?_)) (Nat.le_of_ble_eq_true rfl) rfl (fun F hE => ?_)
  repeat' (first | exact trivial | refine BS.d (fun h => ?_) (fun h => ?_) | refine BS.e (fun h => ?_) (fun h => ?_) | refine BS.ne (fun h => ?_) (fun h => ?_) | refine BS.n ?_ | refine BS.s (fun h => ?_) (fun h => ?_) | refine And.intro ?_ ?_ | (refine Need.mk ?_; first | with_reducible rfl | (show @Eq TC _ _; rfl) | omega | (simp only [adN_zero]; omega)) | exact OutS.whole rfl rfl | refine ListO.go gOk hE ?_)
  refine CodeK.loop gOk hE (fun i : Nat => ⟨[(0, vr 1000000 xs.length), (3, vi i)], [(1000000, rI .fro false xs)]⟩) (fun i => i ≤ xs.length ∧ ∀ j, j < i → byP xs j) (fun i => xs.length - i) 0 (by refine leT.of ?_ ?_ rfl <;> repeat' (first | exact trivial | refine And.intro rfl ?_ | refine And.intro (by simp) ?_)) ⟨Nat.zero_le _, fun j hj => absurd hj (Nat.not_lt_zero _)⟩ ?_
  rintro i ⟨hi, hq⟩
  by_cases hi2 : i < xs.length
  · have c1 := inH_run (xs.getD i 0) 0 255
    by_cases hp : byP xs i
    · rw [decide_eq_true (show 0 ≤ xs.getD i 0 ∧ xs.getD i 0 ≤ 255 from hp)] at c1
      repeat' (first | exact trivial | refine BS.d (fun h => ?_) (fun h => ?_) | refine BS.e (fun h => ?_) (fun h => ?_) | refine BS.ne (fun h => ?_) (fun h => ?_) | refine BS.n ?_ | refine BS.s (fun h => ?_) (fun h => ?_) | refine And.intro ?_ ?_ | (refine Need.mk ?_; first | with_reducible rfl | (show @Eq TC _ _; rfl) | omega | (simp only [adN_zero]; omega)) | exact OutS.whole rfl rfl | (refine OpK.call c1 rfl rfl rfl rfl hE ?_ rfl rfl ?_; focus ((repeat' (first | exact PsA.lit _ | exact PsA.ref rfl rfl | constructor)); all_goals (fail "ps"))) | refine ListO.go gOk hE ?_)
      all_goals (try simp only [adN_zero] at *)
      all_goals first
        | (exfalso; omega)
        | (refine Need.mk ?_; omega)
        | (refine ⟨i + 1, (by refine leT.of ?_ ?_ rfl <;> repeat' (first | exact trivial | refine And.intro rfl ?_ | refine And.intro (by simp) ?_)), ⟨by omega, fun j hj => (Nat.lt_or_ge j i).elim (hq j) (fun h9 => (show j = i by omega) ▸ hp)⟩, by first | omega | (dsimp only; omega)⟩)
    · rw [decide_eq_false (show ¬ (0 ≤ xs.getD i 0 ∧ xs.getD i 0 ≤ 255) from hp)] at c1
      repeat' (first | exact trivial | refine BS.d (fun h => ?_) (fun h => ?_) | refine BS.e (fun h => ?_) (fun h => ?_) | refine BS.ne (fun h => ?_) (fun h => ?_) | refine BS.n ?_ | refine BS.s (fun h => ?_) (fun h => ?_) | refine And.intro ?_ ?_ | (refine Need.mk ?_; first | with_reducible rfl | (show @Eq TC _ _; rfl) | omega | (simp only [adN_zero]; omega)) | exact OutS.whole rfl rfl | (refine OpK.call c1 rfl rfl rfl rfl hE ?_ rfl rfl ?_; focus ((repeat' (first | exact PsA.lit _ | exact PsA.ref rfl rfl | constructor)); all_goals (fail "ps"))) | refine ListO.go gOk hE ?_)
      all_goals (try simp only [adN_zero] at *)
      all_goals first
        | (exfalso; omega)
        | (refine Need.mk ?_; omega)
        | (refine Need.mk ?_; symm; apply decide_eq_false; intro hh; exact hp (hh.2 i hi2))
  · repeat' (first | exact trivial | refine BS.d (fun h => ?_) (fun h => ?_) | refine BS.e (fun h => ?_) (fun h => ?_) | refine BS.ne (fun h => ?_) (fun h => ?_) | refine BS.n ?_ | refine BS.s (fun h => ?_) (fun h => ?_) | refine And.intro ?_ ?_ | (refine Need.mk ?_; first | with_reducible rfl | (show @Eq TC _ _; rfl) | omega | (simp only [adN_zero]; omega)) | exact OutS.whole rfl rfl | refine ListO.go gOk hE ?_)
    all_goals first
      | (exfalso; omega)
      | (refine Need.mk ?_; apply decide_eq_decide.2; unfold bysOk; constructor <;> intro h9 <;> first | exact ⟨by omega, fun j hj => hq j (by omega)⟩ | (have := h9.1; omega))
theorem BytesOkI_run (xs : List Int) (hn : xs.length ≤ 1048576) : RunT Tryz.prog 210 [.one (.c (tI xs))] [] [ob (decide (bysOk xs))] [] := by
  refine RunT.of_vc gOk Tryz.func210 rfl rfl (Nat.le_of_ble_eq_true rfl) (by repeat' (first | exact trivial | exact ⟨_, rfl, Nat.le_refl _⟩ | exact Nat.le_of_ble_eq_true rfl | refine And.intro ?_ ?_)) (Nat.le_of_ble_eq_true rfl) rfl (fun F hE => ?_)
  repeat' (first | exact trivial | refine BS.d (fun h => ?_) (fun h => ?_) | refine BS.e (fun h => ?_) (fun h => ?_) | refine BS.ne (fun h => ?_) (fun h => ?_) | refine BS.n ?_ | refine BS.s (fun h => ?_) (fun h => ?_) | refine And.intro ?_ ?_ | (refine Need.mk ?_; first | with_reducible rfl | (show @Eq TC _ _; rfl) | omega | (simp only [adN_zero]; omega)) | exact OutS.whole rfl rfl | refine ListO.go gOk hE ?_)
  · refine Need.mk ?_; symm; apply decide_eq_false; intro hh; have := hh.1; omega
  refine CodeK.loop gOk hE (fun i : Nat => ⟨[(8, vr 1000000 xs.length), (9, vi xs.length), (10, vi i)], [(1000000, rI .fro false xs)]⟩) (fun i => i ≤ xs.length ∧ ∀ j, j < i → byP xs j) (fun i => xs.length - i) 0 (by refine leT.of ?_ ?_ rfl <;> repeat' (first | exact trivial | refine And.intro rfl ?_ | refine And.intro (by simp) ?_)) ⟨Nat.zero_le _, fun j hj => absurd hj (Nat.not_lt_zero _)⟩ ?_
  rintro i ⟨hi, hq⟩
  by_cases hi2 : i < xs.length
  · have c1 := isByte_run (xs.getD i 0)
    by_cases hp : byP xs i
    · rw [decide_eq_true (show 0 ≤ xs.getD i 0 ∧ xs.getD i 0 ≤ 255 from hp)] at c1
      repeat' (first | exact trivial | refine BS.d (fun h => ?_) (fun h => ?_) | refine BS.e (fun h => ?_) (fun h => ?_) | refine BS.ne (fun h => ?_) (fun h => ?_) | refine BS.n ?_ | refine BS.s (fun h => ?_) (fun h => ?_) | refine And.intro ?_ ?_ | (refine Need.mk ?_; first | with_reducible rfl | (show @Eq TC _ _; rfl) | omega | (simp only [adN_zero]; omega)) | exact OutS.whole rfl rfl | (refine OpK.call c1 rfl rfl rfl rfl hE ?_ rfl rfl ?_; focus ((repeat' (first | exact PsA.lit _ | exact PsA.ref rfl rfl | constructor)); all_goals (fail "ps"))) | refine ListO.go gOk hE ?_)
      all_goals (try simp only [adN_zero] at *)
      all_goals first
        | (exfalso; omega)
        | (refine Need.mk ?_; omega)
        | (refine ⟨i + 1, (by refine leT.of ?_ ?_ rfl <;> repeat' (first | exact trivial | refine And.intro rfl ?_ | refine And.intro (by simp) ?_)), ⟨by omega, fun j hj => (Nat.lt_or_ge j i).elim (hq j) (fun h9 => (show j = i by omega) ▸ hp)⟩, by first | omega | (dsimp only; omega)⟩)
    · rw [decide_eq_false (show ¬ (0 ≤ xs.getD i 0 ∧ xs.getD i 0 ≤ 255) from hp)] at c1
      repeat' (first | exact trivial | refine BS.d (fun h => ?_) (fun h => ?_) | refine BS.e (fun h => ?_) (fun h => ?_) | refine BS.ne (fun h => ?_) (fun h => ?_) | refine BS.n ?_ | refine BS.s (fun h => ?_) (fun h => ?_) | refine And.intro ?_ ?_ | (refine Need.mk ?_; first | with_reducible rfl | (show @Eq TC _ _; rfl) | omega | (simp only [adN_zero]; omega)) | exact OutS.whole rfl rfl | (refine OpK.call c1 rfl rfl rfl rfl hE ?_ rfl rfl ?_; focus ((repeat' (first | exact PsA.lit _ | exact PsA.ref rfl rfl | constructor)); all_goals (fail "ps"))) | refine ListO.go gOk hE ?_)
      all_goals (try simp only [adN_zero] at *)
      all_goals first
        | (exfalso; omega)
        | (refine Need.mk ?_; omega)
        | (refine Need.mk ?_; symm; apply decide_eq_false; intro hh; exact hp (hh.2 i hi2))
  · repeat' (first | exact trivial | refine BS.d (fun h => ?_) (fun h => ?_) | refine BS.e (fun h => ?_) (fun h => ?_) | refine BS.ne (fun h => ?_) (fun h => ?_) | refine BS.n ?_ | refine BS.s (fun h => ?_) (fun h => ?_) | refine And.intro ?_ ?_ | (refine Need.mk ?_; first | with_reducible rfl | (show @Eq TC _ _; rfl) | omega | (simp only [adN_zero]; omega)) | exact OutS.whole rfl rfl | refine ListO.go gOk hE ?_)
    all_goals first
      | (exfalso; omega)
      | (refine Need.mk ?_; symm; apply decide_eq_true; exact ⟨by omega, fun j hj => hq j (by omega)⟩)
def zeroP (xs : List Int) : Prop := ∀ j, j < xs.length → xs.getD j 0 = 0
instance (xs : List Int) : Decidable (zeroP xs) := by unfold zeroP; infer_instance
/-- The number that so many bytes tell. -/
def ldN (xs : List Int) (p : Nat) : Nat → Int
  | 0 => 0
  | k + 1 => ldN xs p k * 256 + xs.getD (p + k) 0
theorem ldN_bd {xs : List Int} (p : Nat) : ∀ k : Nat, (∀ j, j < xs.length → byP xs j) → p + k ≤ xs.length → k ≤ 7 → 0 ≤ ldN xs p k ∧ ldN xs p k < 256 ^ k
  | 0, _, _, _ => ⟨by show (0 : Int) ≤ 0; omega, by show (0 : Int) < 1; omega⟩
  | k + 1, hq, hl, hk => by
    obtain ⟨h1, h2⟩ := ldN_bd p k hq (by omega) (by omega)
    obtain ⟨h3, h4⟩ := hq (p + k) (by omega)
    have e : (256 : Int) ^ (k + 1) = 256 ^ k * 256 := Int.pow_succ _ _
    unfold ldN
    rw [e]
    omega
theorem pow7 : ∀ k : Nat, k ≤ 6 → (256 : Int) ^ k ≤ 281474976710656 := by
  intro k hk
  match k, hk with
  | 0, _ => decide
  | 1, _ => decide
  | 2, _ => decide
  | 3, _ => decide
  | 4, _ => decide
  | 5, _ => decide
  | 6, _ => decide
theorem l3Load_run (xs : List Int) (p : Int) (k : Nat) (hn : xs.length ≤ 1048576) (hq : ∀ j, j < xs.length → byP xs j) (hp : 0 ≤ p) (hk : k ≤ 7) (hl : p.toNat + k ≤ xs.length) : RunT Tryz.prog 187 [.one (.c (tI xs)), ti p, ti k] [] [oi (ldN xs p.toNat k)] [] := by
  refine RunT.of_vc gOk Tryz.func187 rfl rfl (Nat.le_of_ble_eq_true rfl) (by repeat' (first | exact trivial | exact ⟨_, rfl, Nat.le_refl _⟩ | exact Nat.le_of_ble_eq_true rfl | refine And.intro ?_ ?_)) (Nat.le_of_ble_eq_true rfl) rfl (fun F hE => ?_)
  repeat' (first | exact trivial | refine BS.d (fun h => ?_) (fun h => ?_) | refine BS.e (fun h => ?_) (fun h => ?_) | refine BS.ne (fun h => ?_) (fun h => ?_) | refine BS.n ?_ | refine BS.s (fun h => ?_) (fun h => ?_) | refine And.intro ?_ ?_ | (refine Need.mk ?_; first | with_reducible rfl | (show @Eq TC _ _; rfl) | omega | (simp only [adN_zero]; omega)) | exact OutS.whole rfl rfl | refine ListO.go gOk hE ?_)
  refine CodeK.loop gOk hE (fun i : Nat => ⟨[(0, vr 1000000 xs.length), (1, vi p), (2, vi k), (7, vi (ldN xs p.toNat i)), (8, vi i)], [(1000000, rI .fro false xs)]⟩) (fun i => i ≤ k) (fun i => k - i) 0 (by refine leT.of ?_ ?_ rfl <;> repeat' (first | exact trivial | refine And.intro rfl ?_ | refine And.intro (by first | rfl | (simp [ldN]; done) | (simp only [ldN]; rfl)) ?_)) (Nat.zero_le _) ?_
  rintro i hi
  by_cases hi2 : i < k
  · obtain ⟨hb1, hb2⟩ := ldN_bd p.toNat i hq (by omega) (by omega)
    have hb3 := pow7 i (by omega)
    have hb4 := hq (p.toNat + i) (by omega)
    unfold byP at hb4
    have hN : ldN xs p.toNat (i + 1) = ldN xs p.toNat i * 256 + xs.getD (p + i).toNat 0 := by rw [show (p + (i : Int)).toNat = p.toNat + i by omega]; rfl
    rw [show p.toNat + i = (p + (i : Int)).toNat by omega] at hb4
    have ha : adN 0 (p + (i : Int)) = (p + (i : Int)).toNat := by rw [adN_eq]; omega
    generalize ldN xs p.toNat i = z at *
    repeat' (first | exact trivial | refine BS.d (fun h => ?_) (fun h => ?_) | refine BS.e (fun h => ?_) (fun h => ?_) | refine BS.ne (fun h => ?_) (fun h => ?_) | refine BS.n ?_ | refine BS.s (fun h => ?_) (fun h => ?_) | refine And.intro ?_ ?_ | (refine Need.mk ?_; first | with_reducible rfl | (show @Eq TC _ _; rfl) | omega | (simp only [adN_zero]; omega)) | exact OutS.whole rfl rfl | refine ListO.go gOk hE ?_)
    all_goals (try simp only [adN_zero, ha] at *)
    all_goals first
      | (exfalso; omega)
      | (refine Need.mk ?_; omega)
      | (refine ⟨i + 1, (by refine leT.of ?_ ?_ rfl <;> repeat' (first | exact trivial | refine And.intro rfl ?_ | refine And.intro (by first | rfl | (rw [hN]; rfl) | (simp; done)) ?_)), by omega, by first | omega | (dsimp only; omega)⟩)
      | trace_state
  · obtain rfl : i = k := by omega
    repeat' (first | exact trivial | refine BS.d (fun h => ?_) (fun h => ?_) | refine BS.e (fun h => ?_) (fun h => ?_) | refine BS.ne (fun h => ?_) (fun h => ?_) | refine BS.n ?_ | refine BS.s (fun h => ?_) (fun h => ?_) | refine And.intro ?_ ?_ | (refine Need.mk ?_; first | with_reducible rfl | (show @Eq TC _ _; rfl) | omega | (simp only [adN_zero]; omega)) | exact OutS.whole rfl rfl | refine ListO.go gOk hE ?_)
    all_goals first | (exfalso; omega) | exact Need.mk rfl | trace_state
theorem numAt_run (xs : List Int) (p : Int) (k : Nat) (hn : xs.length ≤ 1048576) (hq : ∀ j, j < xs.length → byP xs j) (hp : 0 ≤ p) (hk : k ≤ 7) (hl : p.toNat + k ≤ xs.length) : RunT Tryz.prog 172 [.one (.c (tI xs)), ti p, ti k] [] [oi (ldN xs p.toNat k)] [] := by
  obtain ⟨q, rfl⟩ := Int.eq_ofNat_of_zero_le hp
  simp only [Int.toNat_natCast] at *
  have e : ((q : Int) + (k : Int)).toNat - (q : Int).toNat = k := by omega
  refine RunT.of_vc gOk Tryz.func172 rfl rfl (Nat.le_of_ble_eq_true rfl) (by repeat' (first | exact trivial | exact ⟨_, rfl, Nat.le_refl _⟩ | exact Nat.le_of_ble_eq_true rfl | refine And.intro ?_ ?_)) (Nat.le_of_ble_eq_true rfl) rfl (fun F hE => ?_)
  repeat' (first | exact trivial | refine BS.d (fun h => ?_) (fun h => ?_) | refine BS.e (fun h => ?_) (fun h => ?_) | refine BS.ne (fun h => ?_) (fun h => ?_) | refine BS.n ?_ | refine BS.s (fun h => ?_) (fun h => ?_) | refine And.intro ?_ ?_ | (refine Need.mk ?_; first | with_reducible rfl | (show @Eq TC _ _; rfl) | omega | (simp only [adN_zero]; omega)) | exact OutS.whole rfl rfl | refine ListO.go gOk hE ?_)
  all_goals first | (refine Need.mk ?_; omega) | skip
  rw [adN_zero, e]
  repeat' (first | exact trivial | refine BS.d (fun h => ?_) (fun h => ?_) | refine BS.e (fun h => ?_) (fun h => ?_) | refine BS.ne (fun h => ?_) (fun h => ?_) | refine BS.n ?_ | refine BS.s (fun h => ?_) (fun h => ?_) | refine And.intro ?_ ?_ | (refine Need.mk ?_; first | with_reducible rfl | (show @Eq TC _ _; rfl) | omega | (simp only [adN_zero]; omega)) | exact OutS.whole rfl rfl | refine ListO.go gOk hE ?_)
  refine CodeK.loop gOk hE (fun i : Nat => ⟨[(7, vi (ldN xs q i)), (15, .a (.ref 1000000 q k)), (16, vi k), (17, vi i)], [(1000000, rI .fro false xs)]⟩) (fun i => i ≤ k) (fun i => k - i) 0 (by refine leT.of ?_ ?_ rfl <;> repeat' (first | exact trivial | refine And.intro rfl ?_ | refine And.intro (by first | rfl | (simp [ldN]; done) | (simp only [ldN]; rfl)) ?_)) (Nat.zero_le _) ?_
  rintro i hi
  by_cases hi2 : i < k
  · obtain ⟨hb1, hb2⟩ := ldN_bd q i hq (by omega) (by omega)
    have hb3 := pow7 i (by omega)
    have hb4 := hq (q + i) (by omega)
    unfold byP at hb4
    have hN : ldN xs q (i + 1) = ldN xs q i * 256 + xs.getD (q + i) 0 := rfl
    have ha : adN q (i : Int) = q + i := by rw [adN_eq]; omega
    have ho := or8 (ldN xs q i) (xs.getD (q + i) 0) hb1 (by omega) hb4.1 hb4.2
    rw [← hN] at ho
    generalize ldN xs q i = z at *
    repeat' (first | exact trivial | refine BS.d (fun h => ?_) (fun h => ?_) | refine BS.e (fun h => ?_) (fun h => ?_) | refine BS.ne (fun h => ?_) (fun h => ?_) | refine BS.n ?_ | refine BS.s (fun h => ?_) (fun h => ?_) | refine And.intro ?_ ?_ | (refine Need.mk ?_; first | with_reducible rfl | (show @Eq TC _ _; rfl) | omega | (simp only [adN_zero]; omega)) | exact OutS.whole rfl rfl | (refine PK.shl8 rfl rfl rfl (by omega) ?_) | refine ListO.go gOk hE ?_)
    all_goals (try simp only [adN_zero, ha] at *)
    all_goals first
      | (exfalso; omega)
      | (refine Need.mk ?_; omega)
      | (refine ⟨i + 1, (by refine leT.of ?_ ?_ rfl <;> repeat' (first | exact trivial | refine And.intro rfl ?_ | refine And.intro (by first | rfl | (rw [← ho]; rfl) | (simp; done)) ?_)), by omega, by first | omega | (dsimp only; omega)⟩)
      | trace_state
  · obtain rfl : i = k := by omega
    repeat' (first | exact trivial | refine BS.d (fun h => ?_) (fun h => ?_) | refine BS.e (fun h => ?_) (fun h => ?_) | refine BS.ne (fun h => ?_) (fun h => ?_) | refine BS.n ?_ | refine BS.s (fun h => ?_) (fun h => ?_) | refine And.intro ?_ ?_ | (refine Need.mk ?_; first | with_reducible rfl | (show @Eq TC _ _; rfl) | omega | (simp only [adN_zero]; omega)) | exact OutS.whole rfl rfl | refine ListO.go gOk hE ?_)
    all_goals first | (exfalso; omega) | exact Need.mk rfl | trace_state
end Go.Proofs.YtpmhkpmkmbkjbaaGreatDoor
end

section
/- A heap's shape, the class and the generation of a slot. -/
namespace Go.Proofs.YtpmhkpmkmbkjbaaGreatDoor
open Go Go.Tr
set_option maxRecDepth 100000
set_option maxHeartbeats 4000000
set_option linter.unusedVariables false
set_option linter.unusedSimpArgs false
abbrev aH2 (b c : List Int) : TAg := .agg [.c (tI b), .c (tI c)]
abbrev bH (b c : List Int) : TRoot := .box 31 [.ref 1000000 0 b.length, .ref 1000001 0 c.length]
def clP (c : List Int) (j : Nat) : Prop := -1 ≤ c.getD j 0 ∧ c.getD j 0 ≤ 2
instance (c : List Int) (j : Nat) : Decidable (clP c j) := by unfold clP; infer_instance
def shP (b c : List Int) : Prop := b.length = 384 ∧ c.length = 6 ∧ bysOk b ∧ ∀ j, j < 6 → clP c j
instance (b c : List Int) : Decidable (shP b c) := by unfold shP; infer_instance
theorem l7Shape_run (b c : List Int) (hb : b.length ≤ 1048576) (hc : c.length ≤ 1048576) : RunT Tryz.prog 183 [aH2 b c] [] [ob (decide (shP b c))] [] := by
  have c1 := BytesOkS_run b hb
  by_cases h1 : b.length = 384 ∧ c.length = 6 ∧ bysOk b
  · obtain ⟨h1, h2, h3⟩ := h1
    rw [decide_eq_true h3] at c1
    refine RunT.of_vc gOk Tryz.func183 rfl rfl (Nat.le_of_ble_eq_true rfl) (by repeat' (first | exact trivial | exact ⟨_, rfl, Nat.le_refl _⟩ | exact Nat.le_of_ble_eq_true rfl | refine And.intro ?_ ?_)) (Nat.le_of_ble_eq_true rfl) rfl (fun F hE => ?_)
    repeat' (first | exact trivial | refine BS.d (fun h => ?_) (fun h => ?_) | refine BS.e (fun h => ?_) (fun h => ?_) | refine BS.ne (fun h => ?_) (fun h => ?_) | refine BS.n ?_ | refine BS.s (fun h => ?_) (fun h => ?_) | refine And.intro ?_ ?_ | (refine Need.mk ?_; first | with_reducible rfl | (show @Eq TC _ _; rfl) | omega | (simp only [adN_zero]; omega)) | exact OutS.whole rfl rfl | (refine OpK.call c1 rfl rfl rfl rfl hE ?_ rfl rfl ?_; focus ((repeat' (first | exact PsA.lit _ | exact PsA.ref rfl rfl | constructor)); all_goals (fail "ps"))) | refine ListO.go gOk hE ?_)
    all_goals (try simp only [adN_zero] at *)
    all_goals first | (exfalso; omega) | skip
    refine CodeK.loop gOk hE (fun i : Nat => ⟨[(1, .ptr 1 0 0), (3, vi i)], [(1, bH b c), (1000000, rI .fro false b), (1000001, rI .fro false c)]⟩) (fun i => i ≤ 6 ∧ ∀ j, j < i → clP c j) (fun i => 6 - i) 0 (by refine leT.of ?_ ?_ rfl <;> repeat' (first | exact trivial | refine And.intro rfl ?_ | refine And.intro (by simp) ?_)) ⟨Nat.zero_le _, fun j hj => absurd hj (Nat.not_lt_zero _)⟩ ?_
    rintro i ⟨hi, hq⟩
    have c2 := inH_run (c.getD i 0) (-1) 2
    by_cases hi2 : i < 6
    · by_cases hp : clP c i
      · rw [decide_eq_true (show -1 ≤ c.getD i 0 ∧ c.getD i 0 ≤ 2 from hp)] at c2
        repeat' (first | exact trivial | refine BS.d (fun h => ?_) (fun h => ?_) | refine BS.e (fun h => ?_) (fun h => ?_) | refine BS.ne (fun h => ?_) (fun h => ?_) | refine BS.n ?_ | refine BS.s (fun h => ?_) (fun h => ?_) | refine And.intro ?_ ?_ | (refine Need.mk ?_; first | with_reducible rfl | (show @Eq TC _ _; rfl) | omega | (simp only [adN_zero]; omega)) | exact OutS.whole rfl rfl | (refine OpK.call c2 rfl rfl rfl rfl hE ?_ rfl rfl ?_; focus ((repeat' (first | exact PsA.lit _ | exact PsA.ref rfl rfl | constructor)); all_goals (fail "ps"))) | refine ListO.go gOk hE ?_)
        all_goals (try simp only [adN_zero] at *)
        all_goals first
          | (exfalso; omega)
          | (refine Need.mk ?_; omega)
          | (refine ⟨i + 1, (by refine leT.of ?_ ?_ rfl <;> repeat' (first | exact trivial | refine And.intro rfl ?_ | refine And.intro (by simp) ?_)), ⟨by omega, fun j hj => (Nat.lt_or_ge j i).elim (hq j) (fun h9 => (show j = i by omega) ▸ hp)⟩, by first | omega | (dsimp only; omega)⟩)
      · rw [decide_eq_false (show ¬ (-1 ≤ c.getD i 0 ∧ c.getD i 0 ≤ 2) from hp)] at c2
        repeat' (first | exact trivial | refine BS.d (fun h => ?_) (fun h => ?_) | refine BS.e (fun h => ?_) (fun h => ?_) | refine BS.ne (fun h => ?_) (fun h => ?_) | refine BS.n ?_ | refine BS.s (fun h => ?_) (fun h => ?_) | refine And.intro ?_ ?_ | (refine Need.mk ?_; first | with_reducible rfl | (show @Eq TC _ _; rfl) | omega | (simp only [adN_zero]; omega)) | exact OutS.whole rfl rfl | (refine OpK.call c2 rfl rfl rfl rfl hE ?_ rfl rfl ?_; focus ((repeat' (first | exact PsA.lit _ | exact PsA.ref rfl rfl | constructor)); all_goals (fail "ps"))) | refine ListO.go gOk hE ?_)
        all_goals (try simp only [adN_zero] at *)
        all_goals first
          | (exfalso; omega)
          | (refine Need.mk ?_; omega)
          | (refine Need.mk ?_; symm; apply decide_eq_false; intro hh; exact hp (hh.2.2.2 i hi2))
    · repeat' (first | exact trivial | refine BS.d (fun h => ?_) (fun h => ?_) | refine BS.e (fun h => ?_) (fun h => ?_) | refine BS.ne (fun h => ?_) (fun h => ?_) | refine BS.n ?_ | refine BS.s (fun h => ?_) (fun h => ?_) | refine And.intro ?_ ?_ | (refine Need.mk ?_; first | with_reducible rfl | (show @Eq TC _ _; rfl) | omega | (simp only [adN_zero]; omega)) | exact OutS.whole rfl rfl | refine ListO.go gOk hE ?_)
      all_goals first
        | (exfalso; omega)
        | (refine Need.mk ?_; symm; apply decide_eq_true; exact ⟨h1, h2, h3, fun j hj => hq j (by omega)⟩)
  · rw [decide_eq_false (show ¬ shP b c from fun h => h1 ⟨h.1, h.2.1, h.2.2.1⟩)]
    by_cases h3 : bysOk b
    · rw [decide_eq_true h3] at c1
      refine RunT.of_vc gOk Tryz.func183 rfl rfl (Nat.le_of_ble_eq_true rfl) (by repeat' (first | exact trivial | exact ⟨_, rfl, Nat.le_refl _⟩ | exact Nat.le_of_ble_eq_true rfl | refine And.intro ?_ ?_)) (Nat.le_of_ble_eq_true rfl) rfl (fun F hE => ?_)
      repeat' (first | exact trivial | refine BS.d (fun h => ?_) (fun h => ?_) | refine BS.e (fun h => ?_) (fun h => ?_) | refine BS.ne (fun h => ?_) (fun h => ?_) | refine BS.n ?_ | refine BS.s (fun h => ?_) (fun h => ?_) | refine And.intro ?_ ?_ | (refine Need.mk ?_; first | with_reducible rfl | (show @Eq TC _ _; rfl) | omega | (simp only [adN_zero]; omega)) | exact OutS.whole rfl rfl | (refine OpK.call c1 rfl rfl rfl rfl hE ?_ rfl rfl ?_; focus ((repeat' (first | exact PsA.lit _ | exact PsA.ref rfl rfl | constructor)); all_goals (fail "ps"))) | refine ListO.go gOk hE ?_)
      all_goals first | exact Need.mk rfl | (exfalso; exact h1 ⟨by omega, by omega, h3⟩) | trace_state
    · rw [decide_eq_false h3] at c1
      refine RunT.of_vc gOk Tryz.func183 rfl rfl (Nat.le_of_ble_eq_true rfl) (by repeat' (first | exact trivial | exact ⟨_, rfl, Nat.le_refl _⟩ | exact Nat.le_of_ble_eq_true rfl | refine And.intro ?_ ?_)) (Nat.le_of_ble_eq_true rfl) rfl (fun F hE => ?_)
      repeat' (first | exact trivial | refine BS.d (fun h => ?_) (fun h => ?_) | refine BS.e (fun h => ?_) (fun h => ?_) | refine BS.ne (fun h => ?_) (fun h => ?_) | refine BS.n ?_ | refine BS.s (fun h => ?_) (fun h => ?_) | refine And.intro ?_ ?_ | (refine Need.mk ?_; first | with_reducible rfl | (show @Eq TC _ _; rfl) | omega | (simp only [adN_zero]; omega)) | exact OutS.whole rfl rfl | (refine OpK.call c1 rfl rfl rfl rfl hE ?_ rfl rfl ?_; focus ((repeat' (first | exact PsA.lit _ | exact PsA.ref rfl rfl | constructor)); all_goals (fail "ps"))) | refine ListO.go gOk hE ?_)
      all_goals first | exact Need.mk rfl | (exfalso; omega) | trace_state
theorem shapeOk_run (b c : List Int) (hb : b.length ≤ 1048576) (hc : c.length ≤ 1048576) : RunT Tryz.prog 188 [aH2 b c] [] [ob (decide (shP b c))] [] := by
  have c1 := BytesOkI_run b hb
  by_cases h1 : b.length = 384 ∧ c.length = 6 ∧ bysOk b
  · obtain ⟨h1, h2, h3⟩ := h1
    rw [decide_eq_true h3] at c1
    refine RunT.of_vc gOk Tryz.func188 rfl rfl (Nat.le_of_ble_eq_true rfl) (by repeat' (first | exact trivial | exact ⟨_, rfl, Nat.le_refl _⟩ | exact Nat.le_of_ble_eq_true rfl | refine And.intro ?_ ?_)) (Nat.le_of_ble_eq_true rfl) rfl (fun F hE => ?_)
    repeat' (first | exact trivial | refine BS.d (fun h => ?_) (fun h => ?_) | refine BS.e (fun h => ?_) (fun h => ?_) | refine BS.ne (fun h => ?_) (fun h => ?_) | refine BS.n ?_ | refine BS.s (fun h => ?_) (fun h => ?_) | refine And.intro ?_ ?_ | (refine Need.mk ?_; first | with_reducible rfl | (show @Eq TC _ _; rfl) | omega | (simp only [adN_zero]; omega)) | exact OutS.whole rfl rfl | (refine OpK.call c1 rfl rfl rfl rfl hE ?_ rfl rfl ?_; focus ((repeat' (first | exact PsA.lit _ | exact PsA.ref rfl rfl | constructor)); all_goals (fail "ps"))) | refine ListO.go gOk hE ?_)
    all_goals (try simp only [adN_zero] at *)
    all_goals first | (exfalso; omega) | skip
    refine CodeK.loop gOk hE (fun i : Nat => ⟨[(1, .ptr 1 0 0), (22, vr 1000001 c.length), (23, vi c.length), (24, vi i)], [(1, bH b c), (1000000, rI .fro false b), (1000001, rI .fro false c)]⟩) (fun i => i ≤ 6 ∧ ∀ j, j < i → clP c j) (fun i => 6 - i) 0 (by refine leT.of ?_ ?_ rfl <;> repeat' (first | exact trivial | refine And.intro rfl ?_ | refine And.intro (by simp) ?_)) ⟨Nat.zero_le _, fun j hj => absurd hj (Nat.not_lt_zero _)⟩ ?_
    rintro i ⟨hi, hq⟩
    have c2 := clsH_run (c.getD i 0)
    by_cases hi2 : i < 6
    · by_cases hp : clP c i
      · have hp' : -1 ≤ c.getD i 0 ∧ c.getD i 0 ≤ 2 := hp
        by_cases hk : c.getD i 0 = -1
        · repeat' (first | exact trivial | refine BS.d (fun h => ?_) (fun h => ?_) | refine BS.e (fun h => ?_) (fun h => ?_) | refine BS.ne (fun h => ?_) (fun h => ?_) | refine BS.n ?_ | refine BS.s (fun h => ?_) (fun h => ?_) | refine And.intro ?_ ?_ | (refine Need.mk ?_; first | with_reducible rfl | (show @Eq TC _ _; rfl) | omega | (simp only [adN_zero]; omega)) | exact OutS.whole rfl rfl | (refine OpK.call c2 rfl rfl rfl rfl hE ?_ rfl rfl ?_; focus ((repeat' (first | exact PsA.lit _ | exact PsA.ref rfl rfl | constructor)); all_goals (fail "ps"))) | refine ListO.go gOk hE ?_)
          all_goals (try simp only [adN_zero] at *)
          all_goals first
            | (exfalso; omega)
            | (refine Need.mk ?_; omega)
            | (refine ⟨i + 1, (by refine leT.of ?_ ?_ rfl <;> repeat' (first | exact trivial | refine And.intro rfl ?_ | refine And.intro (by simp) ?_)), ⟨by omega, fun j hj => (Nat.lt_or_ge j i).elim (hq j) (fun h9 => (show j = i by omega) ▸ hp)⟩, by first | omega | (dsimp only; omega)⟩)
        · rw [decide_eq_true (show 0 ≤ c.getD i 0 ∧ c.getD i 0 < 3 by omega)] at c2
          repeat' (first | exact trivial | refine BS.d (fun h => ?_) (fun h => ?_) | refine BS.e (fun h => ?_) (fun h => ?_) | refine BS.ne (fun h => ?_) (fun h => ?_) | refine BS.n ?_ | refine BS.s (fun h => ?_) (fun h => ?_) | refine And.intro ?_ ?_ | (refine Need.mk ?_; first | with_reducible rfl | (show @Eq TC _ _; rfl) | omega | (simp only [adN_zero]; omega)) | exact OutS.whole rfl rfl | (refine OpK.call c2 rfl rfl rfl rfl hE ?_ rfl rfl ?_; focus ((repeat' (first | exact PsA.lit _ | exact PsA.ref rfl rfl | constructor)); all_goals (fail "ps"))) | refine ListO.go gOk hE ?_)
          all_goals (try simp only [adN_zero] at *)
          all_goals first
            | (exfalso; omega)
            | (refine Need.mk ?_; omega)
            | (refine ⟨i + 1, (by refine leT.of ?_ ?_ rfl <;> repeat' (first | exact trivial | refine And.intro rfl ?_ | refine And.intro (by simp) ?_)), ⟨by omega, fun j hj => (Nat.lt_or_ge j i).elim (hq j) (fun h9 => (show j = i by omega) ▸ hp)⟩, by first | omega | (dsimp only; omega)⟩)
      · have hp' : ¬ (-1 ≤ c.getD i 0 ∧ c.getD i 0 ≤ 2) := hp
        rw [decide_eq_false (show ¬ (0 ≤ c.getD i 0 ∧ c.getD i 0 < 3) by omega)] at c2
        repeat' (first | exact trivial | refine BS.d (fun h => ?_) (fun h => ?_) | refine BS.e (fun h => ?_) (fun h => ?_) | refine BS.ne (fun h => ?_) (fun h => ?_) | refine BS.n ?_ | refine BS.s (fun h => ?_) (fun h => ?_) | refine And.intro ?_ ?_ | (refine Need.mk ?_; first | with_reducible rfl | (show @Eq TC _ _; rfl) | omega | (simp only [adN_zero]; omega)) | exact OutS.whole rfl rfl | (refine OpK.call c2 rfl rfl rfl rfl hE ?_ rfl rfl ?_; focus ((repeat' (first | exact PsA.lit _ | exact PsA.ref rfl rfl | constructor)); all_goals (fail "ps"))) | refine ListO.go gOk hE ?_)
        all_goals (try simp only [adN_zero] at *)
        all_goals first
          | (exfalso; omega)
          | (refine Need.mk ?_; omega)
          | (refine Need.mk ?_; symm; apply decide_eq_false; intro hh; exact hp (hh.2.2.2 i hi2))
    · repeat' (first | exact trivial | refine BS.d (fun h => ?_) (fun h => ?_) | refine BS.e (fun h => ?_) (fun h => ?_) | refine BS.ne (fun h => ?_) (fun h => ?_) | refine BS.n ?_ | refine BS.s (fun h => ?_) (fun h => ?_) | refine And.intro ?_ ?_ | (refine Need.mk ?_; first | with_reducible rfl | (show @Eq TC _ _; rfl) | omega | (simp only [adN_zero]; omega)) | exact OutS.whole rfl rfl | refine ListO.go gOk hE ?_)
      all_goals first
        | (exfalso; omega)
        | (refine Need.mk ?_; symm; apply decide_eq_true; exact ⟨h1, h2, h3, fun j hj => hq j (by omega)⟩)
  · rw [decide_eq_false (show ¬ shP b c from fun h => h1 ⟨h.1, h.2.1, h.2.2.1⟩)]
    by_cases h3 : bysOk b
    · rw [decide_eq_true h3] at c1
      refine RunT.of_vc gOk Tryz.func188 rfl rfl (Nat.le_of_ble_eq_true rfl) (by repeat' (first | exact trivial | exact ⟨_, rfl, Nat.le_refl _⟩ | exact Nat.le_of_ble_eq_true rfl | refine And.intro ?_ ?_)) (Nat.le_of_ble_eq_true rfl) rfl (fun F hE => ?_)
      repeat' (first | exact trivial | refine BS.d (fun h => ?_) (fun h => ?_) | refine BS.e (fun h => ?_) (fun h => ?_) | refine BS.ne (fun h => ?_) (fun h => ?_) | refine BS.n ?_ | refine BS.s (fun h => ?_) (fun h => ?_) | refine And.intro ?_ ?_ | (refine Need.mk ?_; first | with_reducible rfl | (show @Eq TC _ _; rfl) | omega | (simp only [adN_zero]; omega)) | exact OutS.whole rfl rfl | (refine OpK.call c1 rfl rfl rfl rfl hE ?_ rfl rfl ?_; focus ((repeat' (first | exact PsA.lit _ | exact PsA.ref rfl rfl | constructor)); all_goals (fail "ps"))) | refine ListO.go gOk hE ?_)
      all_goals first | exact Need.mk rfl | (exfalso; exact h1 ⟨by omega, by omega, h3⟩) | trace_state
    · rw [decide_eq_false h3] at c1
      refine RunT.of_vc gOk Tryz.func188 rfl rfl (Nat.le_of_ble_eq_true rfl) (by repeat' (first | exact trivial | exact ⟨_, rfl, Nat.le_refl _⟩ | exact Nat.le_of_ble_eq_true rfl | refine And.intro ?_ ?_)) (Nat.le_of_ble_eq_true rfl) rfl (fun F hE => ?_)
      repeat' (first | exact trivial | refine BS.d (fun h => ?_) (fun h => ?_) | refine BS.e (fun h => ?_) (fun h => ?_) | refine BS.ne (fun h => ?_) (fun h => ?_) | refine BS.n ?_ | refine BS.s (fun h => ?_) (fun h => ?_) | refine And.intro ?_ ?_ | (refine Need.mk ?_; first | with_reducible rfl | (show @Eq TC _ _; rfl) | omega | (simp only [adN_zero]; omega)) | exact OutS.whole rfl rfl | (refine OpK.call c1 rfl rfl rfl rfl hE ?_ rfl rfl ?_; focus ((repeat' (first | exact PsA.lit _ | exact PsA.ref rfl rfl | constructor)); all_goals (fail "ps"))) | refine ListO.go gOk hE ?_)
      all_goals first | exact Need.mk rfl | (exfalso; omega) | trace_state
end Go.Proofs.YtpmhkpmkmbkjbaaGreatDoor
end

section
namespace Go.Proofs.YtpmhkpmkmbkjbaaGreatDoor
open Go Go.Tr
set_option maxRecDepth 100000
set_option maxHeartbeats 4000000
set_option linter.unusedVariables false
set_option linter.unusedSimpArgs false
/-- The class of a slot, out of the pages' classes. -/
def clIn (c : List Int) (s : Int) : Int := if (0 ≤ s ∧ s < 24) ∧ s % 4 < perC (c.getD (s / 4).toNat 0) then c.getD (s / 4).toNat 0 else -1
def gnIn (b c : List Int) (s : Int) : Int := if clIn c s = -1 then 0 else ldN b (genA s (clIn c s)).toNat 4
theorem clIn_yes {c : List Int} {s : Int} (h1 : 0 ≤ s ∧ s < 24) (h2 : s % 4 < perC (c.getD (s / 4).toNat 0)) : clIn c s = c.getD (s / 4).toNat 0 := if_pos ⟨h1, h2⟩
theorem clIn_no {c : List Int} {s : Int} (h : ¬ ((0 ≤ s ∧ s < 24) ∧ s % 4 < perC (c.getD (s / 4).toNat 0))) : clIn c s = -1 := if_neg h
theorem clIn_some {c : List Int} {s : Int} (h : clIn c s ≠ -1) : (0 ≤ s ∧ s < 24) ∧ s % 4 < perC (clIn c s) ∧ c.getD (s / 4).toNat 0 = clIn c s ∧ (0 ≤ clIn c s ∧ clIn c s ≤ 2) ∧ genA s (clIn c s) = s / 4 * 64 + 8 + s % 4 * strC (clIn c s) ∧ 0 ≤ genA s (clIn c s) ∧ genA s (clIn c s) + 4 + szC (clIn c s) ≤ 384 := by
  by_cases hh : (0 ≤ s ∧ s < 24) ∧ s % 4 < perC (c.getD (s / 4).toNat 0)
  · rw [clIn_yes hh.1 hh.2]
    rw [genA_yes hh.1 hh.2]
    refine ⟨hh.1, hh.2, rfl, ?_, rfl, ?_⟩ <;> rcases cls4 (c.getD (s / 4).toNat 0) with ⟨h1, h2, h3, h4⟩ | ⟨h1, h2, h3, h4⟩ | ⟨h1, h2, h3, h4⟩ | ⟨h1, h2, h3, h4⟩ <;> (try rw [h3]) <;> (try rw [h2]) <;> omega
  · exact absurd (clIn_no hh) h
theorem classIn_run (b c : List Int) (s : Int) (hc : c.length = 6) : RunH Tryz.prog hT 96 [aH2 b c, ti s] [] [oi (clIn c s)] [] := by
  have c0 := slotH_run s
  have c1 := PageOfI_run s
  have c3 := GenAtI_run s (c.getD (s / 4).toNat 0)
  by_cases hs : 0 ≤ s ∧ s < 24
  · rw [decide_eq_true hs] at c0
    rw [pg_yes hs] at c1
    by_cases h : s % 4 < perC (c.getD (s / 4).toNat 0)
    · rw [clIn_yes hs h]
      have hg := genA_yes hs h
      have h9 : 0 ≤ s % 4 * strC (c.getD (s / 4).toNat 0) := by rcases cls4 (c.getD (s / 4).toNat 0) with ⟨h1, h2, h3, h4⟩ | ⟨h1, h2, h3, h4⟩ | ⟨h1, h2, h3, h4⟩ | ⟨h1, h2, h3, h4⟩ <;> rw [h3] <;> omega
      obtain ⟨q, hd⟩ := Int.eq_ofNat_of_zero_le (show 0 ≤ s / 4 by omega)
      have hd2 : (s / 4).toNat = q := by omega
      rw [hd] at c1
      rw [hd2] at c3 hg h9 h
      rw [hd2]
      generalize genA s (c.getD q 0) = g at *
      refine RunH.of_vc gOk Tryz.func96 rfl rfl (Nat.le_of_ble_eq_true rfl) (by repeat' (first | exact trivial | exact ⟨_, rfl, Nat.le_refl _⟩ | exact Nat.le_of_ble_eq_true rfl | refine And.intro ?_ ?_)) (Nat.le_of_ble_eq_true rfl) rfl (fun F hE hA => ?_)
      repeat' (first | exact trivial | refine BS.d (fun h => ?_) (fun h => ?_) | refine BS.e (fun h => ?_) (fun h => ?_) | refine BS.ne (fun h => ?_) (fun h => ?_) | refine BS.n ?_ | refine BS.s (fun h => ?_) (fun h => ?_) | refine And.intro ?_ ?_ | (refine Need.mk ?_; first | with_reducible rfl | (show @Eq TC _ _; rfl) | omega | (simp only [adN_zero]; omega)) | exact OutS.whole rfl rfl | (refine CodeK.draw gOk hE rfl (fun _ _ h => h) (.take 0 (.take 2 (.alt 1 (.alt 3 (.take 4 (.alt 5 (.take 6 .done) .stop)) .stop) (.alt 3 (.alt 1 (.take 4 (.alt 5 (.take 6 .done) .stop)) .stop) .stop)))) ?_ ?_; focus (decide +kernel)) | (refine OpK.call c0 rfl rfl rfl rfl hE ?_ rfl rfl ?_; focus ((repeat' (first | exact PsA.lit _ | exact PsA.ref rfl rfl | constructor)); all_goals (fail "ps"))) | (refine OpK.call c1 rfl rfl rfl rfl hE ?_ rfl rfl ?_; focus ((repeat' (first | exact PsA.lit _ | exact PsA.ref rfl rfl | constructor)); all_goals (fail "ps"))) | (refine OpK.callH c3 hA rfl rfl rfl rfl hE ?_ rfl rfl ?_; focus ((repeat' (first | exact PsA.lit _ | exact PsA.ref rfl rfl | constructor)); all_goals (fail "ps"))) | refine ListO.go gOk hE ?_)
      all_goals (try simp only [adN_zero] at *)
      all_goals first | (exfalso; omega) | (refine Need.mk ?_; first | omega | rfl) | trace_state
    · rw [clIn_no (fun hh => h hh.2)]
      rw [genA_no (fun hh => h hh.2)] at c3
      obtain ⟨q, hd⟩ := Int.eq_ofNat_of_zero_le (show 0 ≤ s / 4 by omega)
      have hd2 : (s / 4).toNat = q := by omega
      rw [hd] at c1
      rw [hd2] at c3
      refine RunH.of_vc gOk Tryz.func96 rfl rfl (Nat.le_of_ble_eq_true rfl) (by repeat' (first | exact trivial | exact ⟨_, rfl, Nat.le_refl _⟩ | exact Nat.le_of_ble_eq_true rfl | refine And.intro ?_ ?_)) (Nat.le_of_ble_eq_true rfl) rfl (fun F hE hA => ?_)
      repeat' (first | exact trivial | refine BS.d (fun h => ?_) (fun h => ?_) | refine BS.e (fun h => ?_) (fun h => ?_) | refine BS.ne (fun h => ?_) (fun h => ?_) | refine BS.n ?_ | refine BS.s (fun h => ?_) (fun h => ?_) | refine And.intro ?_ ?_ | (refine Need.mk ?_; first | with_reducible rfl | (show @Eq TC _ _; rfl) | omega | (simp only [adN_zero]; omega)) | exact OutS.whole rfl rfl | (refine CodeK.draw gOk hE rfl (fun _ _ h => h) (.take 0 (.take 2 (.alt 1 (.alt 3 (.take 4 (.alt 5 (.take 6 .done) .stop)) .stop) (.alt 3 (.alt 1 (.take 4 (.alt 5 (.take 6 .done) .stop)) .stop) .stop)))) ?_ ?_; focus (decide +kernel)) | (refine OpK.call c0 rfl rfl rfl rfl hE ?_ rfl rfl ?_; focus ((repeat' (first | exact PsA.lit _ | exact PsA.ref rfl rfl | constructor)); all_goals (fail "ps"))) | (refine OpK.call c1 rfl rfl rfl rfl hE ?_ rfl rfl ?_; focus ((repeat' (first | exact PsA.lit _ | exact PsA.ref rfl rfl | constructor)); all_goals (fail "ps"))) | (refine OpK.callH c3 hA rfl rfl rfl rfl hE ?_ rfl rfl ?_; focus ((repeat' (first | exact PsA.lit _ | exact PsA.ref rfl rfl | constructor)); all_goals (fail "ps"))) | refine ListO.go gOk hE ?_)
      all_goals (try simp only [adN_zero] at *)
      all_goals first | (exfalso; omega) | (refine Need.mk ?_; first | omega | rfl) | trace_state
  · rw [decide_eq_false hs] at c0
    rw [clIn_no (fun hh => hs hh.1)]
    refine RunH.of_vc gOk Tryz.func96 rfl rfl (Nat.le_of_ble_eq_true rfl) (by repeat' (first | exact trivial | exact ⟨_, rfl, Nat.le_refl _⟩ | exact Nat.le_of_ble_eq_true rfl | refine And.intro ?_ ?_)) (Nat.le_of_ble_eq_true rfl) rfl (fun F hE hA => ?_)
    repeat' (first | exact trivial | refine BS.d (fun h => ?_) (fun h => ?_) | refine BS.e (fun h => ?_) (fun h => ?_) | refine BS.ne (fun h => ?_) (fun h => ?_) | refine BS.n ?_ | refine BS.s (fun h => ?_) (fun h => ?_) | refine And.intro ?_ ?_ | (refine Need.mk ?_; first | with_reducible rfl | (show @Eq TC _ _; rfl) | omega | (simp only [adN_zero]; omega)) | exact OutS.whole rfl rfl | (refine OpK.call c0 rfl rfl rfl rfl hE ?_ rfl rfl ?_; focus ((repeat' (first | exact PsA.lit _ | exact PsA.ref rfl rfl | constructor)); all_goals (fail "ps"))) | refine ListO.go gOk hE ?_)
    all_goals first | exact Need.mk rfl | (exfalso; omega) | trace_state
theorem genIn_run (b c : List Int) (s : Int) (h : shP b c) : RunH Tryz.prog hT 107 [aH2 b c, ti s] [] [oi (gnIn b c s)] [] := by
  obtain ⟨h1, h2, h3, h4⟩ := h
  have c1 := classIn_run b c s h2
  unfold gnIn
  by_cases hs : clIn c s = -1
  · rw [if_pos hs]
    refine RunH.of_vc gOk Tryz.func107 rfl rfl (Nat.le_of_ble_eq_true rfl) (by repeat' (first | exact trivial | exact ⟨_, rfl, Nat.le_refl _⟩ | exact Nat.le_of_ble_eq_true rfl | refine And.intro ?_ ?_)) (Nat.le_of_ble_eq_true rfl) rfl (fun F hE hA => ?_)
    repeat' (first | exact trivial | refine BS.d (fun h => ?_) (fun h => ?_) | refine BS.e (fun h => ?_) (fun h => ?_) | refine BS.ne (fun h => ?_) (fun h => ?_) | refine BS.n ?_ | refine BS.s (fun h => ?_) (fun h => ?_) | refine And.intro ?_ ?_ | (refine Need.mk ?_; first | with_reducible rfl | (show @Eq TC _ _; rfl) | omega | (simp only [adN_zero]; omega)) | exact OutS.whole rfl rfl | (refine OpK.callH c1 hA rfl rfl rfl rfl hE ?_ rfl rfl ?_; focus ((repeat' (first | exact PsA.lit _ | exact PsA.ref rfl rfl | constructor)); all_goals (fail "ps"))) | refine ListO.go gOk hE ?_)
    all_goals first | exact Need.mk rfl | (exfalso; omega) | trace_state
  · have hk := clIn_some hs
    have c2 := GenAtI_run s (clIn c s)
    have c3 := numAt_run b (genA s (clIn c s)) 4 (by omega) h3.2 hk.2.2.2.2.2.1 (by omega) (by have := hk.2.2.2.2.2; rcases cls4 (clIn c s) with h | h | h | h <;> omega)
    rw [if_neg hs]
    refine RunH.of_vc gOk Tryz.func107 rfl rfl (Nat.le_of_ble_eq_true rfl) (by repeat' (first | exact trivial | exact ⟨_, rfl, Nat.le_refl _⟩ | exact Nat.le_of_ble_eq_true rfl | refine And.intro ?_ ?_)) (Nat.le_of_ble_eq_true rfl) rfl (fun F hE hA => ?_)
    repeat' (first | exact trivial | refine BS.d (fun h => ?_) (fun h => ?_) | refine BS.e (fun h => ?_) (fun h => ?_) | refine BS.ne (fun h => ?_) (fun h => ?_) | refine BS.n ?_ | refine BS.s (fun h => ?_) (fun h => ?_) | refine And.intro ?_ ?_ | (refine Need.mk ?_; first | with_reducible rfl | (show @Eq TC _ _; rfl) | omega | (simp only [adN_zero]; omega)) | exact OutS.whole rfl rfl | (refine CodeK.draw gOk hE rfl (fun _ _ h => h) (.take 0 (.take 2 (.take 3 (.alt 1 (.alt 4 (.alt 5 (.take 6 .done) .stop) .stop) (.alt 4 (.alt 1 (.alt 5 (.take 6 .done) .stop) .stop) .stop))))) ?_ ?_; focus (decide +kernel)) | (refine OpK.callH c1 hA rfl rfl rfl rfl hE ?_ rfl rfl ?_; focus ((repeat' (first | exact PsA.lit _ | exact PsA.ref rfl rfl | constructor)); all_goals (fail "ps"))) | (refine OpK.callH c2 hA rfl rfl rfl rfl hE ?_ rfl rfl ?_; focus ((repeat' (first | exact PsA.lit _ | exact PsA.ref rfl rfl | constructor)); all_goals (fail "ps"))) | (refine OpK.call c3 rfl rfl rfl rfl hE ?_ rfl rfl ?_; focus ((repeat' (first | exact PsA.lit _ | exact PsA.ref rfl rfl | constructor)); all_goals (fail "ps"))) | refine ListO.go gOk hE ?_)
    all_goals first | exact Need.mk rfl | (exfalso; omega) | trace_state
end Go.Proofs.YtpmhkpmkmbkjbaaGreatDoor
end

section
namespace Go.Proofs.YtpmhkpmkmbkjbaaGreatDoor
open Go Go.Tr
set_option maxRecDepth 100000
set_option maxHeartbeats 4000000
set_option linter.unusedVariables false
set_option linter.unusedSimpArgs false
theorem l7Class_run (b c : List Int) (s : Int) (hc : c.length = 6) : RunT Tryz.prog 111 [aH2 b c, ti s] [] [oi (clIn c s)] [] := by
  have c1 := PageOfS_run s
  have c2 := IndexOfS_run s
  have c3 := PerPageS_run (c.getD (s / 4).toNat 0)
  by_cases hs : 0 ≤ s ∧ s < 24
  · rw [pg_yes hs] at c1
    rw [ix_yes hs] at c2
    have hq : clIn c s = if s % 4 < perC (c.getD (s / 4).toNat 0) then c.getD (s / 4).toNat 0 else -1 := by
      by_cases h : s % 4 < perC (c.getD (s / 4).toNat 0)
      · rw [clIn_yes hs h, if_pos h]
      · rw [clIn_no (fun hh => h hh.2), if_neg h]
    have hp : perC (c.getD (s / 4).toNat 0) ≤ 4 ∧ (c.getD (s / 4).toNat 0 < 0 → perC (c.getD (s / 4).toNat 0) = 0) := by rcases cls4 (c.getD (s / 4).toNat 0) with ⟨h1, h2, h3, h4⟩ | ⟨h1, h2, h3, h4⟩ | ⟨h1, h2, h3, h4⟩ | ⟨h1, h2, h3, h4⟩ <;> omega
    rw [hq]
    obtain ⟨q, hd⟩ := Int.eq_ofNat_of_zero_le (show 0 ≤ s / 4 by omega)
    have hd2 : (s / 4).toNat = q := by omega
    rw [hd] at c1
    rw [hd2] at c3 hp
    rw [hd2]
    refine RunT.of_vc gOk Tryz.func111 rfl rfl (Nat.le_of_ble_eq_true rfl) (by repeat' (first | exact trivial | exact ⟨_, rfl, Nat.le_refl _⟩ | exact Nat.le_of_ble_eq_true rfl | refine And.intro ?_ ?_)) (Nat.le_of_ble_eq_true rfl) rfl (fun F hE => ?_)
    repeat' (first | exact trivial | refine BS.d (fun h => ?_) (fun h => ?_) | refine BS.e (fun h => ?_) (fun h => ?_) | refine BS.ne (fun h => ?_) (fun h => ?_) | refine BS.n ?_ | refine BS.s (fun h => ?_) (fun h => ?_) | refine And.intro ?_ ?_ | (refine Need.mk ?_; first | with_reducible rfl | (show @Eq TC _ _; rfl) | omega | (simp only [adN_zero]; omega)) | exact OutS.whole rfl rfl | (refine CodeK.draw gOk hE rfl (fun _ _ h => h) (.take 0 (.take 1 (.take 2 (.take 3 (.take 5 (.alt 4 (.take 6 (.alt 7 (.take 8 (.take 9 (.take 10 (.take 11 (.take 13 (.take 15 (.alt 12 (.alt 14 (.take 16 (.alt 17 (.alt 18 (.take 19 (.take 20 .done)) .stop) .stop)) .stop) (.alt 14 (.take 16 (.alt 12 (.alt 17 (.alt 18 (.take 19 (.take 20 .done)) .stop) .stop) (.alt 17 (.alt 12 (.alt 18 (.take 19 (.take 20 .done)) .stop) .stop) .stop))) .stop)))))))) .stop)) .stop)))))) ?_ ?_; focus (decide +kernel)) | (refine OpK.call c1 rfl rfl rfl rfl hE ?_ rfl rfl ?_; focus ((repeat' (first | exact PsA.lit _ | exact PsA.ref rfl rfl | constructor)); all_goals (fail "ps"))) | (refine OpK.call c2 rfl rfl rfl rfl hE ?_ rfl rfl ?_; focus ((repeat' (first | exact PsA.lit _ | exact PsA.ref rfl rfl | constructor)); all_goals (fail "ps"))) | (refine OpK.call c3 rfl rfl rfl rfl hE ?_ rfl rfl ?_; focus ((repeat' (first | exact PsA.lit _ | exact PsA.ref rfl rfl | constructor)); all_goals (fail "ps"))) | refine ListO.go gOk hE ?_)
    all_goals (try simp only [adN_zero] at *)
    all_goals first | (exfalso; omega) | (refine Need.mk ?_; first | omega | (rw [if_pos (by omega)]; done) | (rw [if_neg (by omega)]; done)) | trace_state
  · rw [pg_no hs] at c1
    rw [clIn_no (fun hh => hs hh.1)]
    refine RunT.of_vc gOk Tryz.func111 rfl rfl (Nat.le_of_ble_eq_true rfl) (by repeat' (first | exact trivial | exact ⟨_, rfl, Nat.le_refl _⟩ | exact Nat.le_of_ble_eq_true rfl | refine And.intro ?_ ?_)) (Nat.le_of_ble_eq_true rfl) rfl (fun F hE => ?_)
    repeat' (first | exact trivial | refine BS.d (fun h => ?_) (fun h => ?_) | refine BS.e (fun h => ?_) (fun h => ?_) | refine BS.ne (fun h => ?_) (fun h => ?_) | refine BS.n ?_ | refine BS.s (fun h => ?_) (fun h => ?_) | refine And.intro ?_ ?_ | (refine Need.mk ?_; first | with_reducible rfl | (show @Eq TC _ _; rfl) | omega | (simp only [adN_zero]; omega)) | exact OutS.whole rfl rfl | (refine CodeK.draw gOk hE rfl (fun _ _ h => h) (.take 0 (.take 1 (.take 2 (.take 3 (.take 5 (.alt 4 (.take 6 (.alt 7 (.take 8 (.take 9 (.take 10 (.take 11 (.take 13 (.take 15 (.alt 12 (.alt 14 (.take 16 (.alt 17 (.alt 18 (.take 19 (.take 20 .done)) .stop) .stop)) .stop) (.alt 14 (.take 16 (.alt 12 (.alt 17 (.alt 18 (.take 19 (.take 20 .done)) .stop) .stop) (.alt 17 (.alt 12 (.alt 18 (.take 19 (.take 20 .done)) .stop) .stop) .stop))) .stop)))))))) .stop)) .stop)))))) ?_ ?_; focus (decide +kernel)) | (refine OpK.call c1 rfl rfl rfl rfl hE ?_ rfl rfl ?_; focus ((repeat' (first | exact PsA.lit _ | exact PsA.ref rfl rfl | constructor)); all_goals (fail "ps"))) | refine ListO.go gOk hE ?_)
    all_goals first | exact Need.mk rfl | (exfalso; omega) | trace_state
theorem l7Gen_run (b c : List Int) (s : Int) (h : shP b c) (hs : clIn c s ≠ -1) : RunT Tryz.prog 131 [aH2 b c, ti s] [] [oi (gnIn b c s)] [] := by
  obtain ⟨h1, h2, h3, h4⟩ := h
  have hk := clIn_some hs
  have c1 := l7Class_run b c s h2
  have c2 := GenAtS_run s (clIn c s)
  have c3 := l3Load_run b (genA s (clIn c s)) 4 (by omega) h3.2 hk.2.2.2.2.2.1 (by omega) (by have := hk.2.2.2.2.2; rcases cls4 (clIn c s) with h | h | h | h <;> omega)
  unfold gnIn
  rw [if_neg hs]
  refine RunT.of_vc gOk Tryz.func131 rfl rfl (Nat.le_of_ble_eq_true rfl) (by repeat' (first | exact trivial | exact ⟨_, rfl, Nat.le_refl _⟩ | exact Nat.le_of_ble_eq_true rfl | refine And.intro ?_ ?_)) (Nat.le_of_ble_eq_true rfl) rfl (fun F hE => ?_)
  repeat' (first | exact trivial | refine BS.d (fun h => ?_) (fun h => ?_) | refine BS.e (fun h => ?_) (fun h => ?_) | refine BS.ne (fun h => ?_) (fun h => ?_) | refine BS.n ?_ | refine BS.s (fun h => ?_) (fun h => ?_) | refine And.intro ?_ ?_ | (refine Need.mk ?_; first | with_reducible rfl | (show @Eq TC _ _; rfl) | omega | (simp only [adN_zero]; omega)) | exact OutS.whole rfl rfl | (refine CodeK.draw gOk hE rfl (fun _ _ h => h) (.take 0 (.take 2 (.take 4 (.alt 1 (.alt 3 (.alt 5 (.alt 6 (.alt 7 (.take 8 .done) .stop) .stop) .stop) .stop) (.alt 3 (.alt 1 (.alt 5 (.alt 6 (.alt 7 (.take 8 .done) .stop) .stop) .stop) (.alt 5 (.alt 1 (.alt 6 (.alt 7 (.take 8 .done) .stop) .stop) (.alt 6 (.alt 1 (.alt 7 (.take 8 .done) .stop) .stop) .stop)) .stop)) .stop))))) ?_ ?_; focus (decide +kernel)) | (refine OpK.call c1 rfl rfl rfl rfl hE ?_ rfl rfl ?_; focus ((repeat' (first | exact PsA.lit _ | exact PsA.ref rfl rfl | constructor)); all_goals (fail "ps"))) | (refine OpK.call c2 rfl rfl rfl rfl hE ?_ rfl rfl ?_; focus ((repeat' (first | exact PsA.lit _ | exact PsA.ref rfl rfl | constructor)); all_goals (fail "ps"))) | (refine OpK.call c3 rfl rfl rfl rfl hE ?_ rfl rfl ?_; focus ((repeat' (first | exact PsA.lit _ | exact PsA.ref rfl rfl | constructor)); all_goals (fail "ps"))) | refine ListO.go gOk hE ?_)
end Go.Proofs.YtpmhkpmkmbkjbaaGreatDoor
end
