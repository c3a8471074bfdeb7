/- A 3-index slice whose value is not looked at; a slice in an element's own row that is put back shorter. -/
import Derived.Test.YtjlphbhmjicdhaaUP
set_option linter.unusedVariables false
set_option linter.unusedSimpArgs false
universe u
namespace Go.Tr
open Go Go.RowKit
section
variable {P : Program} {F : Fm} {N : Nat} {o : Oper} {σ : St}
theorem Pure1.slice3 {T : Nat → Option TyI} (hT : TOk P T) {t e ke bs kt κ lo0 n l h' m : Nat} {z : List ZC} {x lo hi mx : Operand} {k1 k2 k3 : IntKind} {i1 i2 i3 : Int} {R : Root} (hop : o.op = .slice t x (some lo) (some hi) (some mx))
    (ht : T t = some ⟨kt, .sl e ke bs, z⟩) (hx : σ.ev x = .a (.ref κ lo0 n)) (hR : σ.rt κ = some R) (hke : R.k = ke)
    (hlo : σ.ev lo = .a (.lit (.int k1 i1))) (h1 : i1 = (l : Int)) (hhi : σ.ev hi = .a (.lit (.int k2 i2))) (h2 : i2 = (h' : Int)) (hmx : σ.ev mx = .a (.lit (.int k3 i3))) (h3 : i3 = (m : Int))
    (hb : l ≤ h' ∧ h' ≤ m ∧ m ≤ n) : Pure1 P F N σ o (.a .any) := fun a w ω β h => by
  obtain ⟨g1, inf, zv, g2, g3, _⟩ := (hT t _ ht).kind
  have hx' := h.ev x
  rw [hx] at hx'
  obtain ⟨R1, e1, e2, A, c, e3, e4, e5, e6, e7, e8⟩ := hx'
  rw [hR] at e1; injection e1 with e1; subst e1
  subst h1; subst h2; subst h3
  have v1 := ev_lit h hlo
  have v2 := ev_lit h hhi
  have v3 := ev_lit h hmx
  have hrun : ∀ w : World, (Instr.sliceAt t (a.eval x) (some (a.eval lo)) (some (a.eval hi)) (some (a.eval mx))).run P w = .ok (.slice (if m = l then A else A.map (·.add (l * inf.size))) (h' - l) (m - l)) w := by
    intro w
    have q1 : (0 : Int) ≤ (m : Int) ∧ (m : Int) ≤ (c : Int) := by omega
    have q2 : (0 : Int) ≤ (h' : Int) ∧ (h' : Int) ≤ (m : Int) := by omega
    have q3 : (0 : Int) ≤ (l : Int) ∧ (l : Int) ≤ (h' : Int) := by omega
    rw [e3, v1, v2, v3]
    unfold Instr.sliceAt
    rw [Sem.run_bind, run_underlying g1]
    show (Instr.slice t (.slice A n c) (some (.int k1 l)) (some (.int k2 h')) (some (.int k3 m))).run P w = _
    unfold Instr.slice
    rw [Sem.run_bind, run_underlying g1]
    simp only [Result.andThen]
    rw [Sem.run_bind]
    have hsb : (Instr.sliceBounds true n c (some (.int k1 l)) (some (.int k2 h')) (some (.int k3 m))).run P w = .ok (l, h', m) w := by
      have b1 : ∀ cd, (Instr.sliceBound (.int k3 m) c cd).run P w = .ok m w := fun cd => by simp [Instr.sliceBound, asIntOf, q1]
      have b2 : ∀ cd, (Instr.sliceBound (.int k2 h') m cd).run P w = .ok h' w := fun cd => by simp [Instr.sliceBound, asIntOf, q2]
      have b3 : ∀ cd, (Instr.sliceBound (.int k1 l) h' cd).run P w = .ok l w := fun cd => by simp [Instr.sliceBound, asIntOf, q3]
      unfold Instr.sliceBounds
      simp only [Sem.run_bind, Option.isSome_some, if_true, b1, Result.andThen, b2, b3]
      rfl
    rw [hsb]
    simp [sizeOf, typeInfo, g2]
  refine ⟨.slice (if m = l then A else A.map (·.add (l * inf.size))) (h' - l) (m - l), fun w' => ?_, rfl⟩
  unfold execOp
  rw [hop]
  show ((Instr.sliceAt t (a.eval x) (some (a.eval lo)) (some (a.eval hi)) (some (a.eval mx)) >>= fun v => pure (Next.value v)) : Sem Next).run P w' = _
  rw [Sem.run_bind, hrun]
  rfl
end
section
variable {P : Program} {F : Fm} {N : Nat} {G : Gt} {o : Oper} {σ : TS} {k : V → Prop}
theorem PK.slice3 (hG : GOk P G) {t e ke bs kt κ lo0 n er l h' m : Nat} {z : List ZC} {x lo hi mx : Operand} {k1 k2 k3 : IntKind} {i1 i2 i3 : Int} {ro : RO} {f : Bool} {X : Type} {enc : X → Nat → TC} {dec : List Value → Option X} {d : X} {xs : List X} (hop : o.op = .slice t x (some lo) (some hi) (some mx))
    (ht : G.T t = some ⟨kt, .sl e ke bs, z⟩) (hx : evS σ x = .a (.ref κ lo0 n)) (hR : lkR σ.r κ = some (.ty ro f er ke X enc dec d xs))
    (hlo : evS σ lo = .a (.lit (.int k1 i1))) (h1 : i1 = (l : Int)) (hhi : evS σ hi = .a (.lit (.int k2 i2))) (h2 : i2 = (h' : Int)) (hmx : evS σ mx = .a (.lit (.int k3 i3))) (h3 : i3 = (m : Int))
    (hb : l ≤ h' ∧ h' ≤ m ∧ m ≤ n) (h : k (.a .any)) : PK P F N o σ k :=
  ⟨.a .any, h, Pure1.slice3 hG.T hop ht (by rw [evS_eq, hx]; rfl) (TS.rt_some hR) rfl (by rw [evS_eq, hlo]; rfl) h1 (by rw [evS_eq, hhi]; rfl) h2 (by rw [evS_eq, hmx]; rfl) h3 hb⟩
end
section
variable {P : Program} {F : Fm} {N : Nat} {G : Gt} {o : Oper} {σ : TS} {k : TS → Prop}
theorem clsP_ok {τ : TS} {κ i r d n e' k' : Nat} {R : Root} {T' : TRoot} {Y : Type} {enc : Y → Nat → TC} {dec : List Value → Option Y} {d0 : Y} {ys : List Y} (hR : lkR τ.r κ = some (.raw R)) (ho : R.o = .own) (hi : i < R.n) (hr : r < R.k) (hc : R.get i r = .ref d 0 n)
    (hD : lkR τ.r d = some (.ty .own true e' k' Y enc dec d0 ys)) (hne : κ ≠ d) (hv : ∀ κ' R' i' r', (lkR τ.r κ').map TRoot.er = some R' → R'.o ≠ .vw d i' r')
    (hs : RSim { R with op := ((i, r), .cl ((TRoot.ty .own true e' k' Y enc dec d0 ys).er.shutN n)) :: R.op } T'.er) : τ.er.le ((⟨τ.t, (κ, T') :: erl τ.r κ⟩ : TS).drop d).er := by
  intro F N a w ⟨ω, β, h⟩
  obtain ⟨ω', h1⟩ := h.close (TS.rt_some hR) hi hr (d := d) (n := n) hc (TS.rt_some hD) hne ho rfl (fun κ' R' i' r' hR' => hv κ' R' i' r' (by rw [← TS.rt_er]; exact hR'))
  refine ⟨ω', β, le_of_osim (s := τ.er.cls κ (TRoot.raw R).er i r d (TRoot.ty .own true e' k' Y enc dec d0 ys).er n) (fun t => ?_) (fun κ' => ?_) h1⟩
  · exact drop_tv _ d t
  show OSim _ ((TS.drop _ d).er.rt κ')
  rw [drop_rt, St.rt_drop]
  show OSim ((St.drop _ d).rt κ') _
  rw [St.rt_drop]
  by_cases e1 : κ' = d
  · rw [if_pos e1, if_pos e1]; trivial
  · rw [if_neg e1, if_neg e1, rt_mk, lkR_cons, lkR_erl]
    show OSim (((if κ' = κ then some _ else τ.er.rt κ') : Option Root).map (Root.kill d)) _
    by_cases e2 : κ' = κ
    · rw [if_pos e2, if_pos e2]
      exact RSim.kill hs d
    · rw [if_neg e2, if_neg e2, if_neg e2, TS.rt_er]; exact OSim.rfl _
/-- The slice that an element held is put back, shorter: its row closes. -/
theorem OpK.stNP (hG : GOk P G) {t n m : Nat} {z : List ZC} {x y : Operand} {κ i key : Nat} {full : Bool} {e e' k' bs : Nat} {X Y : Type} {enc : X → Nat → TC} {dec : List Value → Option X} {d : X} {xs : List X} {enc' : Y → Nat → TC} {dec' : List Value → Option Y} {d' : Y} {ys : List Y} (x' : X) (hop : o.op = .store t x y) (hg : o.guard = none) (hd : o.dst = none)
    (hx : evS σ x = .ptr κ i 0) (ht : G.T t = some ⟨1, .sl e' k' bs, z⟩) (hy : evS σ y = .a (.ref key 0 m)) (hR : lkR σ.r κ = some (.tyo full e 1 X enc dec d xs i 0 key n)) (hD : lkR σ.r key = some (.ty .own true e' k' Y enc' dec' d' ys)) (hne : Nat.beq κ key = false) (hv : noVw key (erl σ.r κ) = true) (hi : i < xs.length)
    (hm : m ≤ ys.length) (hx' : enc x' 0 = .sl e' k' Y enc' dec' d' (ys.take m)) (h : fS ((⟨σ.t, (κ, .ty .own full e 1 X enc dec d (xs.set i x')) :: erl (erl σ.r κ) κ⟩ : TS).drop key) k) : OpK P F N o σ k := by
  simp only [beq_dec, decide_eq_false_iff_not] at hne
  rw [fS_eq] at h
  refine ⟨fun ops Q rest kk => ?_⟩
  have hxe : σ.er.ev x = .ptr κ i 0 := by rw [evS_eq, hx]; rfl
  have hye : (σ.er.ev y).atoms = some [.ref key 0 m] := by rw [evS_eq, hy]; rfl
  refine AL.store hG.T hop hg hd hxe ht hye rfl (TS.rt_some hR) rfl hi (by show 0 + 1 ≤ 1; omega) (liveL_true _ _ _ _) ?_
  generalize hW : (TRoot.tyo full e 1 X enc dec d xs i 0 key n).er.wrL i 0 ([At.ref key 0 m].map At.cl) = W
  have hw := wrL_same i ([At.ref key 0 m].map At.cl) (TRoot.tyo full e 1 X enc dec d xs i 0 key n).er 0
  rw [hW] at hw
  have hg0 : W.get i 0 = .ref key 0 m := by
    rw [← hW, get_wrL_eq _ _ _ ⟨by omega, by simp⟩]; rfl
  have hgn : ∀ i' r', i' ≠ i → W.get i' r' = .cl ((enc (xs.getD i' d) r').er .own) := fun i' r' hii => by
    rw [← hW, get_wrL_ne hii]
    show look2 [((i, 0), Cl.ref key 0 n)] i' r' (.cl ((enc (xs.getD i' d) r').er .own)) = _
    simp only [look2]
    by_cases h : r' = 0
    · rw [if_pos h, if_neg (fun h => hii h)]
    · rw [if_neg h]
  have hle := clsP_ok (τ := ⟨σ.t, (κ, .raw W) :: erl σ.r κ⟩) (κ := κ) (i := i) (r := 0) (d := key) (n := m) (R := W) (T' := .ty .own full e 1 X enc dec d (xs.set i x')) (ys := ys) (by show lkR ((κ, _) :: _) κ = _; rw [lkR_cons, if_pos rfl]) hw.1 (by rw [hw.2.2.2.2]; exact hi) (by rw [hw.2.2.2.1]; exact Nat.zero_lt_one) hg0
    (by show lkR ((κ, _) :: _) key = _; rw [lkR_cons, if_neg (Ne.symm hne), lkR_erl, if_neg (Ne.symm hne)]; exact hD) hne (fun κ' R' i' r' hR' => by
      change (lkR ((κ, _) :: _) κ').map TRoot.er = some R' at hR'
      rw [lkR_cons] at hR'
      by_cases e1 : κ' = κ
      · rw [if_pos e1] at hR'; injection hR' with hR'; subst hR'
        show W.o ≠ _
        rw [hw.1]; exact fun h => by cases h
      · rw [if_neg e1] at hR'
        exact noVw_ok hv κ' R' i' r' hR')
    ⟨hw.1.symm, fun hf => ⟨hw.2.1.trans hf, hw.2.2.1.symm⟩, hw.2.2.2.1.symm, by show (xs.set i x').length = W.n; rw [hw.2.2.2.2]; simp; rfl, fun i' r' hi' hr' => by
      have hr0 : r' = 0 := by
        have : r' < W.k := hr'
        rw [hw.2.2.2.1] at this
        have : r' < 1 := this
        omega
      subst hr0
      rw [Root.get_wr, ty_get, ty_set_get enc d x' xs i i' 0 hi, if_pos rfl]
      by_cases hii : i' = i
      · subst hii
        rw [if_pos rfl, if_pos rfl, hx']
        refine ⟨rfl, fun _ => rfl, rfl, by simp [hm], fun i r hi hr => ?_⟩
        show CSame ((enc' (ys.getD i d') r).er .own) ((enc' ((ys.take m).getD i d') r).er .own)
        have : (ys.take m).getD i d' = ys.getD i d' := by simp [List.getD, List.getElem?_take, hi]
        rw [this]; exact CSame.rfl _
      · rw [if_neg hii, if_neg hii, hgn i' 0 hii]; exact CSame.rfl _⟩
  have hel : erl ((κ, TRoot.raw W) :: erl σ.r κ) κ = erl (erl σ.r κ) κ := by simp only [erl, beq_self, cond_true]
  change St.le _ ((⟨σ.t, (κ, .ty .own full e 1 X enc dec d (xs.set i x')) :: erl ((κ, TRoot.raw W) :: erl σ.r κ) κ⟩ : TS).drop key).er at hle
  rw [hel] at hle
  refine AL.le ?_ (kk _ h)
  refine St.le.trans ?_ hle
  · refine le_lk (fun t' => .inr ?_) (fun κ' => ?_)
    · show _ = (look (σ.er.t.map fun p => (p.1, p.2.map (dimA κ) none)) t').getD .any
      rw [St.tv_map σ.er _ rfl, TS.tv_er, dim_st]
    · show OSim (if κ' = κ then some _ else σ.er.rt κ') _
      rw [lkR_cons, lkR_erl]
      by_cases e1 : κ' = κ
      · rw [if_pos e1, if_pos e1, hW]; exact RSim.rfl _
      · rw [if_neg e1, if_neg e1, if_neg e1, TS.rt_er]; exact OSim.rfl _
end
end Go.Tr
