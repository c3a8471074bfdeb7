/- A calculus for contracts over the memory of the model, its second part: contracts and calls. -/
import Derived.Test.YtjlphbhmjicdhaaTra
set_option linter.unusedVariables false
set_option linter.unusedSimpArgs false
namespace Go.Tr
open Go Go.RowKit

def appR (R : Root) (κ : Nat) (l : List At) : Root := { R.kill κ with n := R.n + 1, op := mkop R.n 0 (l.map fun x => (killA κ x).cl) ++ (R.kill κ).op }
def flat : C → C
  | .lit v => .lit v
  | _ => .any
def appL (R S : Root) (lo m : Nat) : Root := ⟨.own, true, R.e, R.k, R.n + m, fun i r => if i < R.n then R.row i r else flat (S.row (lo + (i - R.n)) r), []⟩
def nilR (e k : Nat) : Root := ⟨.own, true, e, k, 0, fun _ _ => .any, []⟩

section
variable {P : Program} {F : Fm} {N : Nat} {Q : Exit → St → Prop} {σ : St} {ops : Array Oper} {o : Oper} {rest : List Oper} {a : Act} {w : World} {ω : Om} {β : Nat → Bs}

theorem Rel1.retell (h : Rel1 F N σ a w ω β) {t : Nat} {v : V} (hv : VRel σ β w v (a.tmps.getD t undef)) : Rel1 F N (σ.put t v) a w ω β := by
  refine ⟨h.tsz, h.dfr, fun t' => ?_, fun κ R hR => (h.roots κ R hR).upd (fun _ _ _ _ _ _ _ h => h) rfl (Meta.refl w) (fun _ _ _ hx _ => ⟨hx, rfl⟩), h.wr, h.fr, h.fz, h.ex⟩
  rw [St.tv_put]
  split
  · rename_i e; subst e; exact VRel.same (fun _ _ h => h) (fun κ' R hR => ⟨rfl, R, hR, rfl⟩) hv
  · exact VRel.same (fun _ _ h => h) (fun κ' R hR => ⟨rfl, R, hR, rfl⟩) (h.tmps t')

/-- A nil slice in a slot becomes a root. -/
theorem Rel1.nilRoot (h : Rel1 F N σ a w ω β) {t d e0 k0 : Nat} (e k : Nat) (ht : σ.tv t = .a (.nil e0 k0)) (hkk : okK F d) (hd : σ.rt d = none) : ∃ ω' β', Rel1 F N ((σ.setR d (nilR e k)).put t (.a (.ref d 0 0))) a w ω' β' := by
  have hv := h.tmps t
  rw [ht] at hv
  have hv' : a.tmps.getD t undef = .slice none 0 0 := hv
  refine ⟨ω, _, (h.addR hkk hd ⟨none, 0⟩ ⟨fun i r hi => by change i < 0 at hi; omega, fun _ => ⟨fun i r hi => by change i < 0 at hi; omega, rfl, by simp [nilR], by simp, .inl ⟨by simp, by simp⟩⟩⟩).retell ?_⟩
  rw [hv']
  exact ⟨nilR e k, by show (if d = d then _ else _) = _; rw [if_pos rfl], by simp [nilR], none, 0, rfl, Nat.le_refl _, Nat.zero_le _, fun _ => rfl, fun _ => by simp, fun hp => by omega⟩
theorem Rel1.nilTy (h : Rel1 F N σ a w ω β) {t e0 k0 : Nat} (e k : Nat) (ht : σ.tv t = .a (.nil e0 k0)) : Rel1 F N (σ.put t (.a (.nil e k))) a w ω β := by
  have hv := h.tmps t
  rw [ht] at hv
  exact h.retell hv

theorem run_append_op (ρ : Operand → Value) (w w' : World) {s x : Operand} {t ty : Nat} {u : Value} (hop : o.op = .call { callee := .builtin .append, args := #[s, x], argTypes := #[t, t] }) (hty : o.type = ty)
    (h : (Builtin.append_ #[t, t] ty #[ρ s, ρ x]).run P w = .ok u w') : (execOp ρ o).run P w = .ok (.value u) w' := by
  subst hty
  unfold execOp
  rw [hop]
  simp [resolve, invoke, builtin, h, Result.andThen]

theorem AL.append1 {T : Nat → Option TyI} (hT : TOk P T) {t e ke bs kt κ κs lo n : Nat} {z : List ZC} {s x : Operand} {R S : Root} (hop : o.op = .call { callee := .builtin .append, args := #[s, x], argTypes := #[t, t] }) (hg : o.guard = none) (hd : okD N o.dst = true)
    (ht : T t = some ⟨kt, .sl e ke bs, z⟩) (hs : σ.ev s = .a (.ref κ 0 n)) (hR : σ.rt κ = some R) (hf : R.full = true) (hn : n = R.n) (hke : R.k = ke) (he : R.e = e) (hx : σ.ev x = .a (.ref κs lo 1)) (hS : σ.rt κs = some S) (hSk : S.k = ke) (hl : liveL S lo 0 ke = true)
    (hkk : okK F κ) (h63 : R.n + 1 ≤ maxLen) (hby : (R.n + 1) * bs ≤ 140737488355328) (k : AL P F N ops Q rest (((σ.drop κ).setR κ (appR R κ (atomsL S κs lo 0 ke))).putO o.dst (.a (.ref κ 0 (n + 1))))) : AL P F N ops Q (o :: rest) σ := by
  obtain ⟨h1, inf, zv, h2, h3, h4, h5, h6, h7, hzo⟩ := (hT t _ ht).kind
  subst hn
  refine AL.step hg hd (fun a w ω β h => ?_) k
  have hs' := h.ev s
  rw [hs] at hs'
  obtain ⟨R1, e1, _, A, c, e2, _, _, _, e3, _⟩ := hs'
  rw [hR] at e1; injection e1 with e1; subst e1
  obtain ⟨rfl, rfl⟩ := e3 rfl
  have hx' := h.ev x
  rw [hx] at hx'
  obtain ⟨S1, f1, f2, A', c', f3, _, _, _, _, f4⟩ := hx'
  rw [hS] at f1; injection f1 with f1; subst f1
  obtain ⟨g, o', f5, f6⟩ := f4 (by omega)
  have hcell : ∀ r, r < ke → ∃ u, w.cell? ⟨g, o' + lo * S.k + r, none⟩ = some u ∧ ARel σ β w (S.atom κs lo r) u := by
    intro r hr
    obtain ⟨g', j', u, ⟨o2, m1, m2⟩, m3, m4⟩ := h.load hS (show lo < S.n by omega) (show r < S.k by omega) (by have := liveL_at hl r hr; rwa [Nat.zero_add] at this)
    rw [f5] at m1; injection m1 with m1; injection m1 with m5 m6 _
    subst m5 m6
    exact ⟨u, by rw [← m3, m2, Nat.add_assoc], m4⟩
  let us : List Value := (List.range ke).map fun r => (w.cell? ⟨g, o' + lo * S.k + r, none⟩).getD undef
  have hus : us.length = 1 * R.k := by simp [us, hke]
  have husget : ∀ r, r < ke → ∃ u, us[r]? = some u ∧ w.cell? ⟨g, o' + lo * S.k + r, none⟩ = some u ∧ ARel σ β w (S.atom κs lo r) u := by
    intro r hr
    obtain ⟨u, k1, k2⟩ := hcell r hr
    exact ⟨u, by simp [us, hr, k1], k1, k2⟩
  have hlen : (mkop R.n 0 ((atomsL S κs lo 0 ke).map fun x => (killA κ x).cl)).length = (mkop R.n 0 ((atomsL S κs lo 0 ke).map fun x => (killA κ x).cl)).length := rfl
  have hget : ∀ i r, (appR R κ (atomsL S κs lo 0 ke)).get i r = if i = R.n ∧ 0 ≤ r ∧ r < 0 + ((atomsL S κs lo 0 ke).map fun x => (killA κ x).cl).length then (((atomsL S κs lo 0 ke).map fun x => (killA κ x).cl)[r - 0]?).getD (.cl (R.row i r)) else (R.kill κ).get i r := fun i r =>
    look2_mkop (i := R.n) (i' := i) (c := .cl (R.row i r)) (R.kill κ).op _ 0 r
  obtain ⟨u', w', ω', β', k1, k2, k3⟩ := h.append (R' := appR R κ (atomsL S κs lo 0 ke)) (ty := o.type) (x := a.eval x) (m := 1) (us := us) hkk hR hf h1 h2 h5 (by omega) (by omega) hzo (by omega) he hus ((h.roots κ R hR).full hf).2.1 hf he rfl rfl
    (fun i r hi hr => by rw [hget, if_neg (by omega), Root.get_kill])
    (fun q r hq hr => by
      obtain rfl : q = 0 := by omega
      have hr' : r < ke := by omega
      obtain ⟨u, m1, m2, m3⟩ := husget r hr'
      have hat := atomsL_at S κs lo ke 0 r hr'
      rw [Nat.zero_add] at hat
      have hg1 : (appR R κ (atomsL S κs lo 0 ke)).get (R.n + 0) r = (killA κ (S.atom κs lo r)).cl := by
        rw [hget, if_pos ⟨by omega, Nat.zero_le _, by simp [atomsL_len]; omega⟩, Nat.sub_zero, List.getElem?_map, hat]; rfl
      rw [hg1]
      exact ⟨At.cl_live _, u, by rw [Nat.zero_mul, Nat.zero_add]; exact m1, ARel.lay (ω := ω) (ARel.drop h κ m3) (ARel.one h m3)⟩)
    (fun u hu => by
      obtain ⟨q, hq⟩ := List.mem_iff_getElem?.1 hu
      have hql : q < ke := by have := (List.getElem?_eq_some_iff.1 hq).1; simp [us] at this; exact this
      obtain ⟨u', m1, m2, m3⟩ := husget q hql
      rw [hq] at m1; injection m1 with m1; subst m1
      exact ARel.one h m3)
    (.inr ⟨⟨g, o' + lo * S.k, none⟩, c', by rw [f3, f6], fun j u hj => by
      have hjl : j < ke := by have := (List.getElem?_eq_some_iff.1 hj).1; simp [us] at this; exact this
      obtain ⟨u', m1, m2, m3⟩ := husget j hjl
      rw [hj] at m1; injection m1 with m1; subst m1
      rw [add_addr]; exact m2⟩) h63 (by rw [h4]; exact hby)
  exact ⟨u', w', ω', β', run_append_op _ _ _ hop rfl (by rw [e2]; exact k1), k2, k3⟩

/-- Plain elements of another row are appended. -/
theorem AL.appendL {T : Nat → Option TyI} (hT : TOk P T) {t e ke bs kt κ κs lo n m : Nat} {z : List ZC} {s x : Operand} {R S : Root} (hop : o.op = .call { callee := .builtin .append, args := #[s, x], argTypes := #[t, t] }) (hg : o.guard = none) (hd : okD N o.dst = true)
    (ht : T t = some ⟨kt, .sl e ke bs, z⟩) (hs : σ.ev s = .a (.ref κ 0 n)) (hR : σ.rt κ = some R) (hf : R.full = true) (hn : n = R.n) (hke : R.k = ke) (he : R.e = e) (hRop : R.op = []) (hx : σ.ev x = .a (.ref κs lo m)) (hS : σ.rt κs = some S) (hSk : S.k = ke) (hSop : S.op = [])
    (hl : ∀ i r, i < S.n → r < ke → (Cl.cl (S.row i r)).live = true)
    (hkk : okK F κ) (h63 : R.n + m ≤ maxLen) (hby : (R.n + m) * bs ≤ 140737488355328) (k : AL P F N ops Q rest (((σ.drop κ).setR κ (appL R S lo m)).putO o.dst (.a (.ref κ 0 (n + m))))) : AL P F N ops Q (o :: rest) σ := by
  obtain ⟨h1, inf, zv, h2, h3, h4, h5, h6, h7, hzo⟩ := (hT t _ ht).kind
  subst hn
  refine AL.step hg hd (fun a w ω β h => ?_) k
  have hs' := h.ev s
  rw [hs] at hs'
  obtain ⟨R1, e1, _, A, c, e2, _, _, _, e3, _⟩ := hs'
  rw [hR] at e1; injection e1 with e1; subst e1
  obtain ⟨rfl, rfl⟩ := e3 rfl
  have hx' := h.ev x
  rw [hx] at hx'
  obtain ⟨S1, f1, f2, A', c', f3, _, _, _, _, f4⟩ := hx'
  rw [hS] at f1; injection f1 with f1; subst f1
  have hSget : ∀ i r, S.get i r = .cl (S.row i r) := fun i r => by unfold Root.get; rw [hSop]; rfl
  have hRget : ∀ i r, R.get i r = .cl (R.row i r) := fun i r => by unfold Root.get; rw [hRop]; rfl
  have hflat : ∀ {c : C} {x : At} {u : Value}, ARel σ β w x u → (x = match c with | .lit v => .lit v | .sl _ _ _ _ _ => x | _ => .any) → CRel w (zf ω) (flat c) (fun _ _ => False) u := by
    intro c x u hx hc
    have := ARel.one h hx
    cases c with
    | lit v =>
      have hc' : x = .lit v := hc
      rw [hc'] at hx; exact hx
    | any => exact this
    | hole => exact this
    | sl _ _ _ _ _ => exact this
  have hcell : ∀ q r, q < m → r < ke → ∃ g o' u, A' = some ⟨g, o' + lo * S.k, none⟩ ∧ w.cell? ⟨g, o' + lo * S.k + (q * ke + r), none⟩ = some u ∧ u.oneCell' = true ∧ CRel w (zf ω) (flat (S.row (lo + q) r)) (fun _ _ => False) u := by
    intro q r hq hr
    obtain ⟨g, o', f5, f6⟩ := f4 (by omega)
    obtain ⟨g', j', u, ⟨o2, m1, m2⟩, m3, m4⟩ := h.load hS (show lo + q < S.n by omega) (show r < S.k by omega) (by rw [hSget]; exact hl _ _ (by omega) hr)
    rw [f5] at m1; injection m1 with m1; injection m1 with m5 m6 _
    subst m5 m6
    refine ⟨g, o', u, f6, by rw [← m3, m2, Nat.add_mul, hSk]; congr 2; omega, ARel.one h m4, ?_⟩
    refine hflat m4 ?_
    unfold Root.atom
    rw [hSget]
    cases S.row (lo + q) r <;> rfl
  let us : List Value := (List.range (m * ke)).map fun j => match A' with | some ad => (w.cell? ⟨ad.block, ad.off + j, none⟩).getD undef | none => undef
  have husget : ∀ q r, q < m → r < ke → ∃ u, us[q * ke + r]? = some u ∧ u.oneCell' = true ∧ CRel w (zf ω) (flat (S.row (lo + q) r)) (fun _ _ => False) u := by
    intro q r hq hr
    obtain ⟨g, o', u, k0, k1, k2, k3⟩ := hcell q r hq hr
    have hlt : q * ke + r < m * ke := lt_cap hq hr (Nat.le_refl _)
    refine ⟨u, ?_, k2, k3⟩
    simp only [us]
    rw [List.getElem?_map, List.getElem?_range hlt, k0]
    simp [k1]
  have hdiv : ∀ j, j < m * ke → ∃ q r, j = q * ke + r ∧ q < m ∧ r < ke := fun j hj => ⟨j / ke, j % ke, by rw [Nat.mul_comm]; exact (Nat.div_add_mod j ke).symm, Nat.div_lt_of_lt_mul (by rw [Nat.mul_comm]; exact hj), Nat.mod_lt _ h7⟩
  have hget : ∀ i r, (appL R S lo m).get i r = .cl (if i < R.n then R.row i r else flat (S.row (lo + (i - R.n)) r)) := fun i r => rfl
  obtain ⟨u', w', ω', β', k1, k2, k3⟩ := h.append (R' := appL R S lo m) (ty := o.type) (x := a.eval x) (m := m) (us := us) hkk hR hf h1 h2 h5 (by omega) (by omega) hzo (by omega) he (by simp [us, hke]) rfl rfl he rfl rfl
    (fun i r hi hr => by rw [hget, if_pos hi, hRget]; rfl)
    (fun q r hq hr => by
      obtain ⟨u, m1, m2, m3⟩ := husget q r hq (by omega)
      rw [hget, if_neg (by omega), show lo + (R.n + q - R.n) = lo + q by omega]
      refine ⟨?_, u, by rw [hke]; exact m1, m3⟩
      show (Cl.cl (flat (S.row (lo + q) r))).live = true
      cases S.row (lo + q) r <;> rfl)
    (fun u hu => by
      obtain ⟨j, hj⟩ := List.mem_iff_getElem?.1 hu
      have hjl : j < m * ke := by have := (List.getElem?_eq_some_iff.1 hj).1; simp [us] at this; exact this
      obtain ⟨q, r, rfl, hq, hr⟩ := hdiv j hjl
      obtain ⟨u', m1, m2, m3⟩ := husget q r hq hr
      rw [hj] at m1; injection m1 with m1; subst m1
      exact m2)
    (by
      by_cases hm : m = 0
      · exact .inl ⟨hm, A', c', by rw [f3, hm]⟩
      · obtain ⟨g, o', f5, f6⟩ := f4 (by omega)
        refine .inr ⟨⟨g, o' + lo * S.k, none⟩, c', by rw [f3, f6], fun j u hj => ?_⟩
        have hjl : j < m * ke := by have := (List.getElem?_eq_some_iff.1 hj).1; simp [us] at this; exact this
        obtain ⟨q, r, rfl, hq, hr⟩ := hdiv j hjl
        obtain ⟨g2, o2, u2, k0, k1, k2, k3⟩ := hcell q r hq hr
        rw [f6] at k0; injection k0 with k0; injection k0 with k4 k5 _
        subst k4
        have k6 : o' = o2 := by omega
        subst k6
        simp only [us] at hj
        rw [List.getElem?_map, List.getElem?_range hjl, f6] at hj
        simp [k1] at hj
        rw [add_addr, k1, hj]) h63 (by rw [h4]; exact hby)
  exact ⟨u', w', ω', β', run_append_op _ _ _ hop rfl (by rw [e2]; exact k1), k2, k3⟩

def bndOk (σ : St) (d : Nat) : Option Operand → Option Nat
  | none => some d
  | some x => match σ.ev x with | .a (.lit (.int _ i)) => if 0 ≤ i then some i.toNat else none | _ => none

theorem AL.slice {T : Nat → Option TyI} (hT : TOk P T) {t e ke bs kt κ lo0 n l h' : Nat} {z : List ZC} {x : Operand} {lo hi : Option Operand} {R : Root} (hop : o.op = .slice t x lo hi none) (hg : o.guard = none) (hd : okD N o.dst = true)
    (ht : T t = some ⟨kt, .sl e ke bs, z⟩) (hx : σ.ev x = .a (.ref κ lo0 n)) (hR : σ.rt κ = some R) (hke : R.k = ke)
    (hlo : (lo = none ∧ l = 0) ∨ ∃ y ki i, lo = some y ∧ σ.ev y = .a (.lit (.int ki i)) ∧ i = (l : Int)) (hhi : (hi = none ∧ h' = n) ∨ ∃ y ki i, hi = some y ∧ σ.ev y = .a (.lit (.int ki i)) ∧ i = (h' : Int))
    (hb : l ≤ h' ∧ h' ≤ n) (k : AL P F N ops Q rest (σ.putO o.dst (.a (.ref κ (lo0 + l) (h' - l))))) : AL P F N ops Q (o :: rest) σ := by
  obtain ⟨h1, inf, zv, h2, h3, _⟩ := (hT t _ ht).kind
  refine AL.val hg hd (fun a w ω β h => ?_) k
  have hx' := h.ev x
  rw [hx] at hx'
  obtain ⟨R1, e1, e2, A, c, e3, e4, e5, e6, e7, e8⟩ := hx'
  rw [hR] at e1; injection e1 with e1; subst e1
  have hrun : (Instr.sliceAt t (a.eval x) (lo.map a.eval) (hi.map a.eval) none).run P w = .ok (.slice (if c = l then A else A.map (·.add (l * inf.size))) (h' - l) (c - l)) w := by
    have hH : (match hi.map a.eval with | some v => Instr.sliceBound v c .sliceAcap | none => (pure n : Sem Nat)).run P w = .ok h' w := by
      rcases hhi with ⟨rfl, rfl⟩ | ⟨y, ki, i, rfl, hy, rfl⟩
      · rfl
      · have := ev_lit h hy
        have h9 : (0 : Int) ≤ (h' : Int) ∧ (h' : Int) ≤ (c : Int) := by omega
        simp [this, Instr.sliceBound, asIntOf, h9]
    have hL : (match lo.map a.eval with | some v => Instr.sliceBound v h' .sliceB | none => (pure 0 : Sem Nat)).run P w = .ok l w := by
      rcases hlo with ⟨rfl, rfl⟩ | ⟨y, ki, i, rfl, hy, rfl⟩
      · rfl
      · have := ev_lit h hy
        have h9 : (0 : Int) ≤ (l : Int) ∧ (l : Int) ≤ (h' : Int) := by omega
        simp [this, Instr.sliceBound, asIntOf, h9]
    rw [e3]
    unfold Instr.sliceAt
    rw [Sem.run_bind, run_underlying h1]
    show (Instr.slice t (.slice A n c) (lo.map a.eval) (hi.map a.eval) none).run P w = _
    unfold Instr.slice
    rw [Sem.run_bind, run_underlying h1]
    simp only [Result.andThen]
    rw [Sem.run_bind]
    have hsb : (Instr.sliceBounds true n c (lo.map a.eval) (hi.map a.eval) none).run P w = .ok (l, h', c) w := by
      unfold Instr.sliceBounds
      simp only [Sem.run_bind]
      rcases hhi with ⟨rfl, rfl⟩ | ⟨y, ki, i, rfl, hy, rfl⟩ <;> rcases hlo with ⟨rfl, rfl⟩ | ⟨y2, ki2, i2, rfl, hy2, rfl⟩ <;> simp_all
    rw [hsb]
    simp [sizeOf, typeInfo, h2]
  refine ⟨.slice (if c = l then A else A.map (·.add (l * inf.size))) (h' - l) (c - l), ?_, R, hR, by omega, _, _, rfl, by omega, by omega, ?_, ?_, ?_⟩
  · unfold execOp
    rw [hop]
    show ((Instr.sliceAt t (a.eval x) (lo.map a.eval) (hi.map a.eval) none >>= fun v => pure (Next.value v)) : Sem Next).run P w = _
    rw [Sem.run_bind, hrun]
    rfl
  · intro hA
    split at hA
    · omega
    · cases A with
      | none => have := e6 rfl; omega
      | some _ => simp at hA
  · intro h0
    have hl0 : l = 0 := by omega
    have hlo0 : lo0 = 0 := by omega
    subst hl0 hlo0
    obtain ⟨e9, e10⟩ := e7 rfl
    refine ⟨?_, by omega⟩
    rw [← e9]
    split
    · rfl
    · cases A with
      | none => rfl
      | some ad => simp [Addr.add]
  · intro hp
    obtain ⟨g, o', e9, e10⟩ := e8 (by omega)
    refine ⟨g, o', e9, ?_⟩
    rw [if_neg (by omega), e10]
    simp only [Option.map_some]
    rw [add_addr, h3, ← hke, Nat.add_mul, Nat.add_assoc]

/-- A guarded operation that is done. -/
theorem AL.gOn {j dj : Nat} {b : Bool} {oj : Oper} (hg : o.guard = some (j, b)) (hj : ops[j]? = some oj) (hdj : oj.dst = some dj) (hb : σ.tv dj = .a (.lit (.bool b))) (hN : dj < N) (k : AL P F N ops Q ({ o with guard := none } :: rest) σ) : AL P F N ops Q (o :: rest) σ := by
  intro a w hr
  obtain ⟨ω, β, h⟩ := hr
  have hk := k a w ⟨ω, β, h⟩
  have hv : a.tmps.getD dj undef = .bool b := by have := h.tmps dj; rw [hb] at this; exact this.1
  have hw : Region.wanted o (yielded ops a.tmps) = true := by
    have h2 : a.tmps[dj]? = some (.bool b) := by
      have : dj < a.tmps.size := by rw [h.tsz]; exact hN
      rw [Array.getElem?_eq_getElem this]
      rw [Array.getD_eq_getD_getElem?, Array.getElem?_eq_getElem this] at hv
      rw [← hv]; rfl
    simp [Region.wanted, hg, yielded, hj, hdj, h2]
  have hw' : Region.wanted ({ o with guard := none } : Oper) (yielded ops a.tmps) = true := rfl
  unfold wpList at hk ⊢
  rw [if_pos hw'] at hk
  rw [if_pos hw]
  exact hk
/-- A guarded operation that is passed by. -/
theorem AL.gOff {j dj : Nat} {b c : Bool} {oj : Oper} (hg : o.guard = some (j, b)) (hd : okD N o.dst = true) (hj : ops[j]? = some oj) (hdj : oj.dst = some dj) (hb : σ.tv dj = .a (.lit (.bool c))) (hN : dj < N) (hc : c = !b) (k : AL P F N ops Q rest (σ.putO o.dst .any)) : AL P F N ops Q (o :: rest) σ := by
  intro a w hr
  obtain ⟨ω, β, h⟩ := hr
  have hv : a.tmps.getD dj undef = .bool c := by have := h.tmps dj; rw [hb] at this; exact this.1
  have hw : Region.wanted o (yielded ops a.tmps) = false := by
    have h2 : a.tmps[dj]? = some (.bool c) := by
      have : dj < a.tmps.size := by rw [h.tsz]; exact hN
      rw [Array.getElem?_eq_getElem this]
      rw [Array.getD_eq_getD_getElem?, Array.getElem?_eq_getElem this] at hv
      rw [← hv]; rfl
    cases b <;> subst hc <;> simp [Region.wanted, hg, yielded, hj, hdj, h2]
  unfold wpList
  rw [if_neg (by rw [hw]; simp)]
  exact k _ _ ⟨ω, β, h.putO hd (v := .any) trivial⟩
end
end Go.Tr
namespace Go.Tr
open Go Go.RowKit

def openR (o : Ow) (e k n : Nat) (row : Nat → Nat → C) : Root := ⟨(match o with | .own => .own | .fro => .fro), decide (o = .own), e, k, n, row, []⟩

section
variable {P : Program} {F : Fm} {N : Nat} {σ : St} {a : Act} {w : World} {ω : Om} {β : Nat → Bs}

theorem Rel1.addR' (h : Rel1 F N σ a w ω β) {d : Nat} {D : Root} (hd : σ.rt d = none) (b : Bs) (hkk : ∀ ρ, ρ < F.nE → d = 1000000 + ρ → b = F.E ρ) {ω' : Om} (hω : ∀ g j x, ω g j = some x → ω' g j = some x) (hω2 : ∀ g j x, ω' g j = some x → ω g j = some x ∨ (x ≠ .fro ∧ g < w.heap.size ∧ (F.W g j ∨ F.w0.heap.size ≤ g)))
    (hD : RootRel (σ.setR d D) ω' (fun κ => if κ = d then b else β κ) w d D) : Rel1 F N (σ.setR d D) a w ω' (fun κ => if κ = d then b else β κ) := by
  have hs := StAdd (β := β) (D := D) hd b
  refine ⟨h.tsz, h.dfr, fun t => ?_, fun κ R hR => ?_, fun g j x hx => ?_, h.fr, fun g j hx => ?_, fun ρ R hρ hR => ?_⟩
  · exact VRel.same (fun x u hx => ARel.grow hs (fun _ _ _ h => h) hx) (fun κ' R hR => ⟨(hs κ' R hR).1, R, (hs κ' R hR).2, rfl⟩) (h.tmps t)
  · by_cases he : κ = d
    · subst he
      change (if κ = κ then some D else σ.rt κ) = some R at hR
      rw [if_pos rfl] at hR; injection hR with hR; subst hR
      exact hD
    · change (if κ = d then some D else σ.rt κ) = some R at hR
      rw [if_neg he] at hR
      refine (h.roots κ R hR).upd (fun i r κ' lo n _ u hu => ?_) (hs κ R hR).1 (Meta.refl w) (fun b j x hx _ => ⟨hω b j x hx, rfl⟩)
      obtain ⟨R2, hR2, h1⟩ := hu
      exact ⟨R2, (hs _ _ hR2).2, by rw [(hs _ _ hR2).1]; exact h1⟩
  · rcases hω2 g j x hx with hx | ⟨h1, h2, h3⟩
    · exact h.wr g j x hx
    · exact ⟨h2, fun _ => h3⟩
  · rcases hω2 g j _ hx with hx | ⟨h1, _⟩
    · exact h.fz g j hx
    · exact absurd rfl h1
  · by_cases e : 1000000 + ρ = d
    · show (if 1000000 + ρ = d then b else β (1000000 + ρ)) = _
      rw [if_pos e]; exact hkk ρ hρ e.symm
    · change (if 1000000 + ρ = d then some D else σ.rt (1000000 + ρ)) = some R at hR
      rw [if_neg e] at hR
      show (if 1000000 + ρ = d then b else β (1000000 + ρ)) = _
      rw [if_neg e]; exact h.ex ρ R hρ hR

theorem Rel1.addTree (h : Rel1 F N σ a w ω β) {d : Nat} (hkk : okK F d) (hd : σ.rt d = none) {o : Ow} {e k n : Nat} {row : Nat → Nat → C} {f : Nat → Nat → Prop} {u : Value} (hc : CRel w (zf ω) (.sl o e k n row) f u)
    (hf : ∀ b j, f b j → ω b j = none ∧ b < w.heap.size ∧ (F.W b j ∨ F.w0.heap.size ≤ b)) :
    ∃ ω' b, Rel1 F N (σ.setR d (openR o e k n row)) a w ω' (fun κ => if κ = d then b else β κ) ∧ RefRel (σ.setR d (openR o e k n row)) (fun κ => if κ = d then b else β κ) d 0 n u ∧ (∀ b j x, ω b j = some x → ω' b j = some x) ∧
      (∀ b j x, ω' b j = some x → ω b j = some x ∨ (f b j ∧ x ≠ .fro)) := by
  have hrd : (σ.setR d (openR o e k n row)).rt d = some (openR o e k n row) := by show (if d = d then _ else _) = _; rw [if_pos rfl]
  cases o with
  | fro =>
    obtain ⟨A, c, hu, hn, hcm, hA, hcells⟩ := hc
    refine ⟨ω, ⟨A, c⟩, h.addR' hd _ (fun ρ hρ e => absurd e (hkk ρ hρ)) (fun _ _ _ h => h) (fun _ _ _ h => .inl h) ⟨fun i' r' hi' hr' hl' => ?_, fun hf => by simp [openR] at hf⟩, ⟨_, hrd, by simp [openR], A, c, hu, hn, hcm, hA, fun _ => by simp, fun hp => ?_⟩, fun _ _ _ h => h, fun _ _ _ h => .inl h⟩
    · obtain ⟨g, o', e1, e2⟩ := hcells (by change i' < n at hi'; omega)
      obtain ⟨x, k1, k2, k3⟩ := e2 i' r' hi' hr'
      refine ⟨g, o' + (i' * k + r'), x, ⟨o', by simpa using e1, rfl⟩, k1, k2, (fun hf => by simp [openR] at hf), ?_⟩
      exact CRel.mono (fun _ _ h => h) _ _ _ _ k3 (fun _ _ h => h.elim)
    · obtain ⟨g, o', e1, _⟩ := hcells hp
      exact ⟨g, o', by simpa using e1, by rw [e1]; simp⟩
  | own =>
    obtain ⟨A, c, hu, hn, hcm, hcells⟩ := hc
    rcases hcells with ⟨hA, hc0⟩ | ⟨g, cur, hA, hb, hs, hown, q, hq, hcells⟩
    · refine ⟨ω, ⟨A, c⟩, h.addR' hd _ (fun ρ hρ e => absurd e (hkk ρ hρ)) (fun _ _ _ h => h) (fun _ _ _ h => .inl h) ⟨fun i' r' hi' => by change i' < n at hi'; omega, fun _ => ⟨fun i' r' hi' => by change i' < n at hi'; omega, rfl, by simpa [openR] using hn, by simpa using hcm, .inl (by simp [hA, hc0])⟩⟩,
        ⟨_, hrd, by simp [openR], A, c, hu, hn, hcm, fun _ => hc0, fun _ => by simp, fun hp => by omega⟩, fun _ _ _ h => h, fun _ _ _ h => .inl h⟩
    · classical
      let ω' : Om := fun b j => if f b j then (match q b j with | some (i', r') => some (.sub d i' r') | none => some (.row d)) else ω b j
      have h1 : ∀ b j x, ω b j = some x → ω' b j = some x := fun b j x hx => by
        show (if f b j then _ else ω b j) = _
        rw [if_neg (fun hh => by rw [(hf b j hh).1] at hx; cases hx)]; exact hx
      have h2 : ∀ b j x, ω' b j = some x → ω b j = some x ∨ (f b j ∧ x ≠ .fro) := fun b j x hx => by
        change (if f b j then _ else ω b j) = some x at hx
        split at hx
        · rename_i hh
          refine .inr ⟨hh, ?_⟩
          rintro rfl
          split at hx <;> cases hx
        · exact .inl hx
      have hrow : ∀ j, j < c * k → ω' g j = some (.row d) := fun j hj => by
        show (if f g j then _ else ω g j) = _
        rw [if_pos (hown j hj).1, hq j hj]
      refine ⟨ω', ⟨A, c⟩, h.addR' hd _ (fun ρ hρ e => absurd e (hkk ρ hρ)) h1 (fun b j x hx => ?_) ⟨fun i' r' hi' hr' hl' => ?_, fun _ => ⟨fun i' r' hi' hr' => by
          obtain ⟨x, _, k3⟩ := hcells i' r' hi' hr'
          show (Cl.cl (row i' r')).live = true
          cases hrow : row i' r' <;> first | rfl | (rw [hrow] at k3; exact k3.elim), rfl, by simpa [openR] using hn, by simpa using hcm, .inr ⟨g, cur, by simpa using hA, hb, by simpa [openR] using hs, fun j hj => ⟨hrow j (by simpa [openR] using hj), (hown j (by simpa [openR] using hj)).2⟩⟩⟩⟩,
        ⟨_, hrd, by simp [openR], A, c, hu, hn, hcm, (by rw [hA]; intro e; cases e), fun _ => by simp, fun hp => ⟨g, 0, by simpa using hA, by rw [hA]; simp⟩⟩, h1, h2⟩
      · rcases h2 b j x hx with hx | ⟨hx, hne⟩
        · exact .inl hx
        · exact .inr ⟨hne, (hf b j hx).2⟩
      · obtain ⟨x, k1, k3⟩ := hcells i' r' hi' hr'
        have hlt := lt_cap (k := k) hi' hr' hn
        refine ⟨g, 0 + (i' * k + r'), x, ⟨0, by simpa using hA, rfl⟩, by rw [Nat.zero_add]; exact k1, by rw [Nat.zero_add]; exact hrow _ hlt, fun _ => by simp [World.frozen?, hb], ?_⟩
        refine CRel.mono (fun b j hz => h1 b j _ hz) _ _ _ _ k3 (fun b j hh => ?_)
        show (if f b j then _ else ω b j) = _
        rw [if_pos hh.1, hh.2]

theorem CRel.lit_of {z f : Nat → Nat → Prop} {c : C} {u : Value} (h : CRel w z c f u) : ∀ v, c = .lit v → u = v ∧ scal v = true := by rintro v rfl; exact h
end

/-- What is handed in to be written: a row of n elements of k cells each. -/
structure Xr where
  k : Nat
  n : Nat
  row : Nat → Nat → C

/-- A cell of an argument: a closed tree, or the header of what is handed in to be written. -/
inductive Aa where
  | c (x : C)
  | h (ρ n : Nat)

/-- An argument. -/
inductive Ag where
  | one (c : Aa)
  | agg (l : List Aa)
  | ptr (ρ : Nat)

/-- A result. -/
inductive Ar where
  | one (c : C)
  | agg (l : List C)

inductive Wq where
  | arg (i j : Nat)
  | ext (ρ i r : Nat)
  | cell (ρ : Nat)
  | fro
  deriving DecidableEq

abbrev Qm := Nat → Nat → Option Wq

def HdRel (A : Nat → Bs) (ρ n : Nat) (u : Value) : Prop :=
  u = .slice (A ρ).A n (A ρ).cap ∧ n ≤ (A ρ).cap ∧ (A ρ).cap ≤ maxLen ∧ ((A ρ).A = none → (A ρ).cap = 0) ∧ (0 < n → ∃ g o, (A ρ).A = some ⟨g, o, none⟩)
def AaRel (w : World) (q : Qm) (A : Nat → Bs) (i j : Nat) : Aa → Value → Prop
  | .c x, u => CRel w (fun b j => q b j = some .fro) x (fun b j' => q b j' = some (.arg i j)) u
  | .h ρ n, u => HdRel A ρ n u
def ArRel (w : World) (q : Qm) (i : Nat) : Ar → Value → Prop
  | .one c, u => CRel w (fun b j => q b j = some .fro) c (fun b j => q b j = some (.arg i 0)) u
  | .agg l, u => ∃ us : Array Value, u = .agg us ∧ us.size = l.length ∧ ∀ (j : Nat) (c : C), l[j]? = some c → ∃ y, us[j]? = some y ∧ CRel w (fun b j => q b j = some .fro) c (fun b j' => q b j' = some (.arg i j)) y
def AgRel (w : World) (q : Qm) (A : Nat → Bs) (i : Nat) : Ag → Value → Prop
  | .one c, u => AaRel w q A i 0 c u
  | .agg l, u => ∃ us : Array Value, u = .agg us ∧ us.size = l.length ∧ ∀ (j : Nat) (c : Aa), l[j]? = some c → ∃ y, us[j]? = some y ∧ AaRel w q A i j c y
  | .ptr ρ, u => ∃ g o, (A ρ).A = some ⟨g, o, none⟩ ∧ u = .pointer (some ⟨g, o, none⟩)
def ExtRel (w : World) (q : Qm) (A : Nat → Bs) (ρ : Nat) (x : Xr) : Prop :=
  ∀ i r, i < x.n → r < x.k → ∃ g o u, (A ρ).A = some ⟨g, o, none⟩ ∧ w.cell? ⟨g, o + (i * x.k + r), none⟩ = some u ∧ q g (o + (i * x.k + r)) = some (.cell ρ) ∧ w.frozen? ⟨g, o + (i * x.k + r), none⟩ = false ∧
    CRel w (fun b j => q b j = some .fro) (x.row i r) (fun b j => q b j = some (.ext ρ i r)) u

/-- What a call is handed. -/
structure Ent (w : World) (q : Qm) (A : Nat → Bs) (cargs : Array Value) (args : List Ag) (ext : List Xr) : Prop where
  size : cargs.size = args.length
  args : ∀ (i : Nat) (x : Ag), args[i]? = some x → ∃ u, cargs[i]? = some u ∧ AgRel w q A i x u
  ext : ∀ (ρ : Nat) (x : Xr), ext[ρ]? = some x → ExtRel w q A ρ x
  lt : ∀ b j x, q b j = some x → b < w.heap.size

def Wof (q : Qm) (b j : Nat) : Prop := ∃ x, q b j = some x ∧ x ≠ .fro

/-- What it gives back. -/
structure Exi (w w' : World) (q q' : Qm) (A : Nat → Bs) (us : List Value) (outs : List Ar) (ext : List Xr) : Prop where
  size : us.length = outs.length
  outs : ∀ (i : Nat) (x : Ar), outs[i]? = some x → ∃ u, us[i]? = some u ∧ ArRel w' q' i x u
  ext : ∀ (ρ : Nat) (x : Xr), ext[ρ]? = some x → ExtRel w' q' A ρ x
  lt : ∀ b j x, q' b j = some x → b < w'.heap.size ∧ (x ≠ .fro → Wof q b j ∨ w.heap.size ≤ b) ∧ (x = .fro → q b j = some .fro)
  fr : Fr (Wof q) w w'

def outVal : List Value → Value
  | [u] => u
  | us => .tuple us.toArray

/-- The contract of a function. -/
def Run (P : Program) (f : FuncId) (args : List Ag) (ext : List Xr) (Post : List Ar → List Xr → Prop) : Prop :=
  ∀ w q A cargs, Ent w q A cargs args ext → Calls P f cargs w fun e w' => ∃ us outs ext' q', e = .returned (outVal us) ∧ Post outs ext' ∧ Exi w w' q q' A us outs ext'

end Go.Tr
namespace Go.Tr
open Go Go.RowKit

def extR (x : Xr) : Root := ⟨.own, false, 0, x.k, x.n, x.row, []⟩
def addCells : List Aa → St → Nat → St × List At × Nat
  | [], σ, c => (σ, [], c)
  | .h ρ n :: l, σ, c => ((addCells l σ c).1, .ref (1000000 + ρ) 0 n :: (addCells l σ c).2.1, (addCells l σ c).2.2)
  | .c x :: l, σ, c =>
    match x with
    | .lit v => ((addCells l σ c).1, .lit v :: (addCells l σ c).2.1, (addCells l σ c).2.2)
    | .sl o e k n row => ((addCells l (σ.setR c (openR o e k n row)) (c + 1)).1, .ref c 0 n :: (addCells l (σ.setR c (openR o e k n row)) (c + 1)).2.1, (addCells l (σ.setR c (openR o e k n row)) (c + 1)).2.2)
    | _ => ((addCells l σ c).1, .any :: (addCells l σ c).2.1, (addCells l σ c).2.2)
def addArgs : List Ag → Nat → St → Nat → St
  | [], _, σ, _ => σ
  | .one x :: l, i, σ, c => addArgs l (i + 1) ((addCells [x] σ c).1.put i (.a ((addCells [x] σ c).2.1.headD .any))) (addCells [x] σ c).2.2
  | .agg xs :: l, i, σ, c => addArgs l (i + 1) ((addCells xs σ c).1.put i (.agg (addCells xs σ c).2.1)) (addCells xs σ c).2.2
  | .ptr ρ :: l, i, σ, c => addArgs l (i + 1) (σ.put i (.ptr (1000000 + ρ) 0 0)) c
def addExt : List Xr → Nat → St → St
  | [], _, σ => σ
  | l :: ls, ρ, σ => addExt ls (ρ + 1) (σ.setR (1000000 + ρ) (extR l))
def enterSt (args : List Ag) (ext : List Xr) : St := addArgs args 0 (addExt ext 0 ⟨[], []⟩) (1000000 + ext.length)

section
variable {F : Fm} {N : Nat} {a : Act} {w : World} {q : Qm} {A : Nat → Bs}

/-- What stands while the arguments are laid. -/
structure Inv (F : Fm) (N : Nat) (σ : St) (a : Act) (w : World) (q : Qm) (ω : Om) (β : Nat → Bs) (c top : Nat) (done : Wq → Prop) : Prop where
  rel : Rel1 F N σ a w ω β
  fresh : ∀ κ, c ≤ κ → (top = 0 ∨ κ < top) → σ.rt κ = none
  un : ∀ b j y, q b j = some y → y ≠ .fro → ¬ done y → ω b j = none
  fro : ∀ b j, q b j = some .fro → ω b j = some .fro

/-- Two states tell the same of what was there. -/
structure Kp (σ σ' : St) (β β' : Nat → Bs) : Prop where
  rt : ∀ κ R, σ.rt κ = some R → β' κ = β κ ∧ σ'.rt κ = some R

theorem Kp.arel {σ σ' : St} {β β' : Nat → Bs} (h : Kp σ σ' β β') {x : At} {u : Value} (hx : ARel σ β w x u) : ARel σ' β' w x u := ARel.grow h.rt (fun _ _ _ h => h) hx

theorem addCells_ok {nx top : Nat} (hnx : 1000000 + F.nE ≤ nx) (hq : ∀ b j y, q b j = some y → y ≠ .fro → b < w.heap.size ∧ (F.W b j ∨ F.w0.heap.size ≤ b)) {i : Nat} :
    ∀ (l : List Aa) {σ : St} {ω : Om} {β : Nat → Bs} {c : Nat} {done : Wq → Prop} {j0 : Nat} {ys : List Value} (_ : Inv F N σ a w q ω β c top done) (_ : nx ≤ c) (_ : top = 0 ∨ c + l.length ≤ top) (_ : ∀ j, j0 ≤ j → ¬ done (.arg i j)) (_ : ys.length = l.length)
      (_ : ∀ (j : Nat) (x : Aa) (y : Value), l[j]? = some x → ys[j]? = some y → AaRel w q A i (j0 + j) x y) (_ : ∀ (ρ n : Nat), Aa.h ρ n ∈ l → ∃ R, σ.rt (1000000 + ρ) = some R ∧ n ≤ R.n ∧ β (1000000 + ρ) = A ρ),
      ∃ ω' β', Inv F N (addCells l σ c).1 a w q ω' β' (addCells l σ c).2.2 top (fun y => done y ∨ ∃ j, j0 ≤ j ∧ j < j0 + l.length ∧ y = .arg i j) ∧ Kp σ (addCells l σ c).1 β β' ∧ (addCells l σ c).2.1.length = l.length ∧
        ∀ (j : Nat) (x : At) (y : Value), (addCells l σ c).2.1[j]? = some x → ys[j]? = some y → ARel (addCells l σ c).1 β' w x y
  | [], σ, ω, β, c, done, j0, ys, h, _, _, _, hl, _, _ => ⟨ω, β, ⟨h.rel, h.fresh, fun b j y h1 h2 h3 => h.un b j y h1 h2 (fun hd => h3 (.inl hd)), h.fro⟩, ⟨fun κ R hR => ⟨rfl, hR⟩⟩, rfl, fun j x y hx => by simp [addCells] at hx⟩
  | x :: l, σ, ω, β, c, done, j0, ys, h, hcc, htop, hnd, hl, hc, hh => by
    cases ys with
    | nil => simp at hl
    | cons y ys =>
    have hx := hc 0 x y rfl rfl
    have hplain : ∀ (at0 : At), (∀ σ' β', Kp σ σ' β β' → ARel σ' β' w at0 y) → ∃ ω' β', Inv F N (addCells l σ c).1 a w q ω' β' (addCells l σ c).2.2 top (fun y => done y ∨ ∃ j, j0 ≤ j ∧ j < j0 + (x :: l).length ∧ y = .arg i j) ∧ Kp σ (addCells l σ c).1 β β' ∧ (at0 :: (addCells l σ c).2.1).length = (x :: l).length ∧
        ∀ (j : Nat) (x : At) (z : Value), (at0 :: (addCells l σ c).2.1)[j]? = some x → (y :: ys)[j]? = some z → ARel (addCells l σ c).1 β' w x z := by
      intro at0 hat
      obtain ⟨ω', β', k1, k2, k3, k4⟩ := addCells_ok hnx hq l (j0 := j0 + 1) (ys := ys) h hcc (by simp at htop; omega) (fun j hj => hnd j (by omega)) (by simpa using hl) (fun j x' y' hx' hy' => by
        have := hc (j + 1) x' y' hx' hy'
        rwa [show j0 + (j + 1) = j0 + 1 + j by omega] at this) (fun ρ n hm => hh ρ n (List.mem_cons_of_mem _ hm))
      refine ⟨ω', β', ⟨k1.rel, k1.fresh, fun b j y h1 h2 h3 => k1.un b j y h1 h2 (fun hd => h3 ?_), k1.fro⟩, k2, by simp [k3], fun j x z hx hz => ?_⟩
      · rcases hd with m | ⟨j', m4, m5, m6⟩
        · exact .inl m
        · exact .inr ⟨j', by omega, by simp; omega, m6⟩
      · cases j with
        | zero => injection hx with hx; injection hz with hz; subst hx hz; exact hat _ _ k2
        | succ j => exact k4 j x z hx hz
    cases x with
    | h ρ n =>
      obtain ⟨R, e1, e2, e3⟩ := hh ρ n (List.mem_cons_self)
      obtain ⟨f1, f2, f3, f4, f5⟩ := hx
      refine hplain (.ref (1000000 + ρ) 0 n) (fun σ' β' hk => ?_)
      obtain ⟨g1, g2⟩ := hk.rt _ R e1
      exact ⟨R, g2, by omega, (A ρ).A, (A ρ).cap, f1, f2, f3, f4, fun _ => by rw [g1, e3]; exact ⟨rfl, rfl⟩, fun hn => by
        obtain ⟨g, o, e⟩ := f5 hn
        exact ⟨g, o, by rw [g1, e3]; exact e, by rw [e]; simp⟩⟩
    | c x =>
    cases x with
    | lit v => exact hplain (.lit v) (fun _ _ _ => hx)
    | any => exact hplain .any (fun _ _ _ => hx)
    | hole => exact hx.elim
    | sl o e k n row =>
      have hz : CRel w (zf ω) (.sl o e k n row) (fun b j' => q b j' = some (.arg i (j0 + 0))) y := CRel.mono (fun b j hq => h.fro b j hq) _ _ _ _ hx (fun _ _ h => h)
      obtain ⟨ω1, b1, k1, k2, k3, k4⟩ := h.rel.addTree (fun ρ hρ e => by omega) (h.fresh c (Nat.le_refl _) (by simp at htop; omega)) hz (fun b j hqa => by
        exact ⟨h.un b j _ hqa (by intro e; cases e) (hnd _ (by omega)), hq b j _ hqa (by intro e; cases e)⟩)
      have hs := StAdd (β := β) (D := openR o e k n row) (h.fresh c (Nat.le_refl _) (by simp at htop; omega)) b1
      have hinv : Inv F N (σ.setR c (openR o e k n row)) a w q ω1 (fun κ => if κ = c then b1 else β κ) (c + 1) top (fun y => done y ∨ y = .arg i j0) := by
        refine ⟨k1, fun κ hκ ht => ?_, fun b j y h1 h2 h3 => ?_, fun b j hq => k3 _ _ _ (h.fro b j hq)⟩
        · show (if κ = c then _ else σ.rt κ) = none
          rw [if_neg (by omega)]; exact h.fresh κ (by omega) ht
        · cases ho : ω1 b j with
          | none => rfl
          | some x =>
            rcases k4 b j x ho with hx | ⟨hqa, hne⟩
            · rw [h.un b j y h1 h2 (fun hd => h3 (.inl hd))] at hx; cases hx
            · rw [hqa] at h1; injection h1 with h1; exact absurd (.inr h1.symm) h3
      obtain ⟨ω', β', m1, m2, m3, m4⟩ := addCells_ok hnx hq l (j0 := j0 + 1) (ys := ys) hinv (by omega) (by simp at htop; omega) (fun j hj hd => by
          rcases hd with hd | hd
          · exact hnd j (by omega) hd
          · injection hd with _ hd; omega) (by simpa using hl) (fun j x' y' hx' hy' => by
        have := hc (j + 1) x' y' hx' hy'
        rwa [show j0 + (j + 1) = j0 + 1 + j by omega] at this) (fun ρ n hm => by
        obtain ⟨R, e1, e2, e3⟩ := hh ρ n (List.mem_cons_of_mem _ hm)
        obtain ⟨g1, g2⟩ := hs _ R e1
        exact ⟨R, g2, e2, g1.trans e3⟩)
      refine ⟨ω', β', ⟨m1.rel, m1.fresh, fun b j y h1 h2 h3 => m1.un b j y h1 h2 (fun hd => h3 ?_), m1.fro⟩, ⟨fun κ R hR => ?_⟩, by simp [addCells, m3], fun j x z hx hz => ?_⟩
      · rcases hd with (n | n) | ⟨j', n4, n5, n6⟩
        · exact .inl n
        · exact .inr ⟨j0, Nat.le_refl _, by simp, n⟩
        · exact .inr ⟨j', by omega, by simp; omega, n6⟩
      · obtain ⟨e1, e2⟩ := hs κ R hR
        obtain ⟨e3, e4⟩ := m2.rt κ R e2
        exact ⟨e3.trans e1, e4⟩
      · cases j with
        | zero =>
          injection hx with hx; injection hz with hz; subst hx hz
          exact m2.arel (x := .ref c 0 n) k2
        | succ j => exact m4 j x z hx hz

theorem addExt_ok (hE : F.E = A) (hqq : ∀ b j y, q b j = some y → y ≠ .fro → b < w.heap.size ∧ (F.W b j ∨ F.w0.heap.size ≤ b)) :
    ∀ (ls : List Xr) {σ : St} {ω : Om} {β : Nat → Bs} {ρ0 : Nat} (_ : Inv F N σ a w q ω β (1000000 + ρ0) 0 (fun y => ∃ ρ, ρ < ρ0 ∧ (y = .cell ρ ∨ ∃ i r, y = .ext ρ i r))) (_ : ∀ (ρ : Nat) (x : Xr), ls[ρ]? = some x → ExtRel w q A (ρ0 + ρ) x),
      ∃ ω' β', Inv F N (addExt ls ρ0 σ) a w q ω' β' (1000000 + (ρ0 + ls.length)) 0 (fun y => ∃ ρ, ρ < ρ0 + ls.length ∧ (y = .cell ρ ∨ ∃ i r, y = .ext ρ i r)) ∧ Kp σ (addExt ls ρ0 σ) β β' ∧
        ∀ (ρ : Nat) (x : Xr), ls[ρ]? = some x → ∃ R, (addExt ls ρ0 σ).rt (1000000 + (ρ0 + ρ)) = some R ∧ R.n = x.n ∧ β' (1000000 + (ρ0 + ρ)) = A (ρ0 + ρ)
  | [], σ, ω, β, ρ0, h, _ => ⟨ω, β, h, ⟨fun κ R hR => ⟨rfl, hR⟩⟩, fun ρ x hx => by simp at hx⟩
  | l :: ls, σ, ω, β, ρ0, h, hx => by
    have h0 := hx 0 l rfl
    rw [Nat.add_zero] at h0
    let ω1 : Om := fun b j => match q b j with
      | some (.cell ρ) => if ρ = ρ0 then some (.row (1000000 + ρ0)) else ω b j
      | some (.ext ρ i r) => if ρ = ρ0 then some (.sub (1000000 + ρ0) i r) else ω b j
      | _ => ω b j
    have hnone : ∀ b j y, q b j = some y → (y = .cell ρ0 ∨ ∃ i r, y = .ext ρ0 i r) → ω b j = none := by
      intro b j y hy hq
      refine h.un b j y hy (by rcases hq with rfl | ⟨i, r, rfl⟩ <;> (intro e; cases e)) ?_
      rintro ⟨ρ, m4, m5⟩
      rcases hq with rfl | ⟨i, r, rfl⟩ <;> rcases m5 with m5 | ⟨i', r', m5⟩ <;> cases m5 <;> omega
    have k3 : ∀ b j x, ω b j = some x → ω1 b j = some x := by
      intro b j x hxx
      show (match q b j with | some (.cell ρ) => if ρ = ρ0 then some (Wh.row (1000000 + ρ0)) else ω b j | some (.ext ρ i r) => if ρ = ρ0 then some (.sub (1000000 + ρ0) i r) else ω b j | _ => ω b j) = some x
      split
      · rename_i ρ hq
        split
        · rename_i e; subst e; rw [hnone b j _ hq (.inl rfl)] at hxx; cases hxx
        · exact hxx
      · rename_i ρ i r hq
        split
        · rename_i e; subst e; rw [hnone b j _ hq (.inr ⟨i, r, rfl⟩)] at hxx; cases hxx
        · exact hxx
      · exact hxx
    have k4 : ∀ b j x, ω1 b j = some x → ω b j = some x ∨ (x ≠ .fro ∧ ∃ y, q b j = some y ∧ (y = .cell ρ0 ∨ ∃ i r, y = .ext ρ0 i r)) := by
      intro b j x hx
      change (match q b j with | some (.cell ρ) => if ρ = ρ0 then some (Wh.row (1000000 + ρ0)) else ω b j | some (.ext ρ i r) => if ρ = ρ0 then some (.sub (1000000 + ρ0) i r) else ω b j | _ => ω b j) = some x at hx
      split at hx
      · rename_i ρ hq
        split at hx
        · rename_i e; subst e; injection hx with hx; subst hx; exact .inr ⟨(by intro e; cases e), _, hq, .inl rfl⟩
        · exact .inl hx
      · rename_i ρ i r hq
        split at hx
        · rename_i e; subst e; injection hx with hx; subst hx; exact .inr ⟨(by intro e; cases e), _, hq, .inr ⟨i, r, rfl⟩⟩
        · exact .inl hx
      · exact .inl hx
    have hd := h.fresh (1000000 + ρ0) (Nat.le_refl _) (.inl rfl)
    have hs := StAdd (β := β) (D := extR l) hd (A ρ0)
    have k1 : Rel1 F N (σ.setR (1000000 + ρ0) (extR l)) a w ω1 (fun κ => if κ = 1000000 + ρ0 then A ρ0 else β κ) := by
      refine h.rel.addR' hd _ (fun ρ hρ e => by (have e2 : ρ = ρ0 := by omega); rw [hE, e2]) k3 (fun b j x hx => ?_) ⟨fun i r hi hr _ => ?_, fun hf => by cases hf⟩
      · rcases k4 b j x hx with hx | ⟨hne, y, hq, hy⟩
        · exact .inl hx
        · exact .inr ⟨hne, hqq b j _ hq (by rcases hy with rfl | ⟨i, r, rfl⟩ <;> (intro e; cases e))⟩
      · change i < l.n at hi; change r < l.k at hr
        obtain ⟨g, o, u, m0, m1, m2, m3, m4⟩ := h0 i r hi hr
        refine ⟨g, o + (i * l.k + r), u, ⟨o, by rw [if_pos rfl]; exact m0, rfl⟩, m1, ?_, fun _ => m3, ?_⟩
        · show (match q _ _ with | some (.cell ρ) => if ρ = ρ0 then some (Wh.row (1000000 + ρ0)) else ω _ _ | some (.ext ρ i r) => if ρ = ρ0 then some (.sub (1000000 + ρ0) i r) else ω _ _ | _ => ω _ _) = _
          rw [m2]; exact if_pos rfl
        · show CRel w (zf ω1) (l.row i r) _ u
          refine CRel.mono (fun b j hq => k3 _ _ _ (h.fro b j hq)) _ _ _ _ m4 (fun b j hq => ?_)
          show (match q b j with | some (.cell ρ) => if ρ = ρ0 then some (Wh.row (1000000 + ρ0)) else ω b j | some (.ext ρ i r) => if ρ = ρ0 then some (.sub (1000000 + ρ0) i r) else ω b j | _ => ω b j) = _
          rw [hq]; exact if_pos rfl
    have hinv : Inv F N (σ.setR (1000000 + ρ0) (extR l)) a w q ω1 (fun κ => if κ = 1000000 + ρ0 then A ρ0 else β κ) (1000000 + (ρ0 + 1)) 0 (fun y => ∃ ρ, ρ < ρ0 + 1 ∧ (y = .cell ρ ∨ ∃ i r, y = .ext ρ i r)) := by
      refine ⟨k1, fun κ hκ ht => ?_, fun b j y h1 h2 h3 => ?_, fun b j hq => k3 _ _ _ (h.fro b j hq)⟩
      · show (if κ = 1000000 + ρ0 then _ else σ.rt κ) = none
        rw [if_neg (by omega)]; exact h.fresh κ (by omega) ht
      · cases ho : ω1 b j with
        | none => rfl
        | some x =>
          rcases k4 b j x ho with hx | ⟨hne, y', hqa, hy⟩
          · rw [h.un b j y h1 h2 (fun ⟨ρ, m4, m5⟩ => h3 ⟨ρ, by omega, m5⟩)] at hx; cases hx
          · rw [hqa] at h1; injection h1 with h1; subst h1; exact absurd ⟨ρ0, by omega, hy⟩ h3
    obtain ⟨ω', β', m1, m2, m3⟩ := addExt_ok hE hqq ls hinv (fun ρ l' hl' => by
        have := hx (ρ + 1) l' hl'
        rwa [show ρ0 + (ρ + 1) = ρ0 + 1 + ρ by omega] at this)
    have hlen : ρ0 + (l :: ls).length = ρ0 + 1 + ls.length := by simp; omega
    rw [hlen]
    exact ⟨ω', β', m1, ⟨fun κ R hR => by
      obtain ⟨e1, e2⟩ := hs κ R hR
      obtain ⟨e3, e4⟩ := m2.rt κ R e2
      exact ⟨e3.trans e1, e4⟩⟩, fun ρ x hx => by
        cases ρ with
        | zero =>
          injection hx with hx; subst hx
          have e2 : (σ.setR (1000000 + ρ0) (extR l)).rt (1000000 + ρ0) = some (extR l) := by show (if 1000000 + ρ0 = 1000000 + ρ0 then _ else _) = _; rw [if_pos rfl]
          obtain ⟨e3, e4⟩ := m2.rt _ _ e2
          exact ⟨_, e4, rfl, by rw [Nat.add_zero, e3]; exact if_pos rfl⟩
        | succ ρ =>
          obtain ⟨R, e1, e2, e3⟩ := m3 ρ x hx
          rw [show ρ0 + (ρ + 1) = ρ0 + 1 + ρ by omega]
          exact ⟨R, e1, e2, e3⟩⟩
end
end Go.Tr
namespace Go.Tr
open Go Go.RowKit

def aaOk (ext : List Xr) : Aa → Prop
  | .c _ => True
  | .h ρ n => ∃ x, ext[ρ]? = some x ∧ n ≤ x.n
def aasOk (ext : List Xr) : List Aa → Prop
  | [] => True
  | x :: l => aaOk ext x ∧ aasOk ext l
def argsOk (ext : List Xr) : List Ag → Prop
  | [] => True
  | .ptr ρ :: l => ρ < ext.length ∧ argsOk ext l
  | .one x :: l => aaOk ext x ∧ argsOk ext l
  | .agg xs :: l => aasOk ext xs ∧ argsOk ext l
theorem aasOk_mem {ext : List Xr} : ∀ {l : List Aa}, aasOk ext l → ∀ x ∈ l, aaOk ext x
  | [], _, x, hx => by cases hx
  | y :: l, h, x, hx => by
    rcases List.mem_cons.1 hx with rfl | hx
    · exact h.1
    · exact aasOk_mem h.2 x hx

theorem addCells_le : ∀ (l : List Aa) (σ : St) (c : Nat), c ≤ (addCells l σ c).2.2
  | [], _, _ => Nat.le_refl _
  | .h _ _ :: l, σ, c => addCells_le l σ c
  | .c (.lit _) :: l, σ, c => addCells_le l σ c
  | .c .any :: l, σ, c => addCells_le l σ c
  | .c .hole :: l, σ, c => addCells_le l σ c
  | .c (.sl o e k n row) :: l, σ, c => Nat.le_trans (Nat.le_succ c) (addCells_le l _ (c + 1))

section
variable {F : Fm} {N : Nat} {a : Act} {w : World} {q : Qm} {A : Nat → Bs}

theorem addArgs_ok {nx : Nat} (hnx : 1000000 + F.nE ≤ nx) (hq : ∀ b j y, q b j = some y → y ≠ .fro → b < w.heap.size ∧ (F.W b j ∨ F.w0.heap.size ≤ b)) {ext : List Xr} :
    ∀ (l : List Ag) {σ : St} {ω : Om} {β : Nat → Bs} {c i : Nat} {done : Wq → Prop} (_ : Inv F N σ a w q ω β c 0 done) (_ : nx ≤ c) (_ : ∀ i' j, i ≤ i' → ¬ done (.arg i' j)) (_ : ∀ (k : Nat) (x : Ag), l[k]? = some x → AgRel w q A (i + k) x (a.tmps.getD (i + k) undef))
      (_ : ∀ (ρ : Nat) (x : Xr), ext[ρ]? = some x → ∃ R, σ.rt (1000000 + ρ) = some R ∧ R.n = x.n ∧ β (1000000 + ρ) = A ρ) (_ : argsOk ext l), ∃ ω' β', Rel1 F N (addArgs l i σ c) a w ω' β'
  | [], σ, ω, β, c, i, done, h, _, _, _, _, _ => ⟨ω, β, h.rel⟩
  | .ptr ρ :: l, σ, ω, β, c, i, done, h, hcc, hnd, hx, hA, hp => by
    have h0 := hx 0 _ rfl
    rw [Nat.add_zero] at h0
    obtain ⟨g, o, f1, f2⟩ := h0
    obtain ⟨R, e1, _, e2⟩ := hA ρ _ (List.getElem?_eq_getElem hp.1)
    have hv : VRel σ β w (.ptr (1000000 + ρ) 0 0) (a.tmps.getD i undef) := ⟨R, g, o, e1, ⟨o, by rw [e2]; exact f1, by simp⟩, f2⟩
    exact addArgs_ok hnx hq l (i := i + 1) ⟨h.rel.retell hv, h.fresh, h.un, h.fro⟩ hcc (fun i' j hi => hnd i' j (by omega)) (fun k x hk => by
      have := hx (k + 1) x hk
      rwa [show i + (k + 1) = i + 1 + k by omega] at this) hA hp.2
  | .one x :: l, σ, ω, β, c, i, done, h, hcc, hnd, hx, hA, hp => by
    have h0 := hx 0 (.one x) rfl
    rw [Nat.add_zero] at h0
    obtain ⟨ω', β', k1, k2, k3, k4⟩ := addCells_ok hnx hq [x] (i := i) (j0 := 0) (ys := [a.tmps.getD i undef]) h hcc (.inl rfl) (fun j _ => hnd i j (Nat.le_refl _)) rfl (fun j x' y' hx' hy' => by
      cases j with
      | zero => injection hx' with hx'; injection hy' with hy'; subst hx' hy'; exact h0
      | succ j => simp at hx') (fun ρ n hm => by
      obtain rfl : Aa.h ρ n = x := List.mem_singleton.1 hm
      obtain ⟨y, e1, e2⟩ := hp.1
      obtain ⟨R, f1, f2, f3⟩ := hA ρ y e1
      exact ⟨R, f1, by omega, f3⟩)
    have hv : VRel (addCells [x] σ c).1 β' w (.a ((addCells [x] σ c).2.1.headD .any)) (a.tmps.getD i undef) := by
      cases hq : (addCells [x] σ c).2.1 with
      | nil => rw [hq] at k3; simp at k3
      | cons y ys => exact k4 0 y _ (by rw [hq]; rfl) rfl
    exact addArgs_ok hnx hq l (i := i + 1) ⟨k1.rel.retell hv, k1.fresh, k1.un, k1.fro⟩ (by have := addCells_le [x] σ c; omega) (fun i' j hi hd => by
      rcases hd with hd | ⟨j', _, _, hd⟩
      · exact hnd i' j (by omega) hd
      · injection hd with hd; omega) (fun k x hk => by
      have := hx (k + 1) x hk
      rwa [show i + (k + 1) = i + 1 + k by omega] at this) (fun ρ y hy => by
      obtain ⟨R, e1, e0, e2⟩ := hA ρ y hy
      obtain ⟨e3, e4⟩ := k2.rt _ R e1
      exact ⟨R, e4, e0, e3.trans e2⟩) hp.2
  | .agg xs :: l, σ, ω, β, c, i, done, h, hcc, hnd, hx, hA, hp => by
    have h0 := hx 0 (.agg xs) rfl
    rw [Nat.add_zero] at h0
    obtain ⟨us, e1, e2, e3⟩ := h0
    obtain ⟨ω', β', k1, k2, k3, k4⟩ := addCells_ok hnx hq xs (i := i) (j0 := 0) (ys := us.toList) h hcc (.inl rfl) (fun j _ => hnd i j (Nat.le_refl _)) (by simpa using e2) (fun j x' y' hx' hy' => by
      obtain ⟨y, m1, m2⟩ := e3 j x' hx'
      rw [Array.getElem?_toList, m1] at hy'
      injection hy' with hy'; subst hy'
      rw [Nat.zero_add]; exact m2) (fun ρ n hm => by
      obtain ⟨y, e1, e2⟩ := aasOk_mem hp.1 _ hm
      obtain ⟨R, f1, f2, f3⟩ := hA ρ y e1
      exact ⟨R, f1, by omega, f3⟩)
    have hv : VRel (addCells xs σ c).1 β' w (.agg (addCells xs σ c).2.1) (a.tmps.getD i undef) := by
      refine ⟨us, e1, by rw [k3]; exact e2, fun j x hj => ?_⟩
      have hjl : j < us.size := by rw [e2, ← k3]; exact (List.getElem?_eq_some_iff.1 hj).1
      exact ⟨us[j], Array.getElem?_eq_getElem hjl, k4 j x _ hj (by rw [Array.getElem?_toList]; exact Array.getElem?_eq_getElem hjl)⟩
    exact addArgs_ok hnx hq l (i := i + 1) ⟨k1.rel.retell hv, k1.fresh, k1.un, k1.fro⟩ (by have := addCells_le xs σ c; omega) (fun i' j hi hd => by
      rcases hd with hd | ⟨j', _, _, hd⟩
      · exact hnd i' j (by omega) hd
      · injection hd with hd; omega) (fun k x hk => by
      have := hx (k + 1) x hk
      rwa [show i + (k + 1) = i + 1 + k by omega] at this) (fun ρ y hy => by
      obtain ⟨R, e1, e0, e2⟩ := hA ρ y hy
      obtain ⟨e3, e4⟩ := k2.rt _ R e1
      exact ⟨R, e4, e0, e3.trans e2⟩) hp.2

theorem getD_append_undef {xs : Array Value} {n i : Nat} : (xs ++ Array.replicate n undef).getD i undef = xs.getD i undef := by
  simp only [Array.getD_eq_getD_getElem?, Array.getElem?_append, Array.getElem?_replicate]
  split
  · rfl
  · rename_i h
    rw [Array.getElem?_eq_none (by omega)]
    split <;> rfl

/-- The state at the head of a body. -/
theorem Ent.rel {cargs : Array Value} {args : List Ag} {ext : List Xr} (h : Ent w q A cargs args ext) (hn : args.length ≤ N) (hp : argsOk ext args) :
    ∃ ω β, Rel1 ⟨w, Wof q, fun b j => q b j = some .fro, ext.length, A⟩ N (enterSt args ext) { tmps := cargs ++ Array.replicate (N - cargs.size) undef, defers := [] } w ω β := by
  let F : Fm := ⟨w, Wof q, fun b j => q b j = some .fro, ext.length, A⟩
  let a : Act := { tmps := cargs ++ Array.replicate (N - cargs.size) undef, defers := [] }
  have h0 : Inv F N ⟨[], []⟩ a w q (fun b j => if q b j = some .fro then some .fro else none) (fun _ => ⟨none, 0⟩) (1000000 + 0) 0 (fun y => ∃ ρ, ρ < 0 ∧ (y = .cell ρ ∨ ∃ i r, y = .ext ρ i r)) := by
    refine ⟨⟨by simp [a]; have := h.size; omega, rfl, fun t => trivial, (fun κ R hR => by cases hR), fun b j x hx => ?_, Fr.refl _ _, fun b j hx => ?_, (fun ρ R _ hR => by cases hR)⟩, fun κ _ _ => rfl, fun b j y h1 h2 _ => ?_, fun b j hx => if_pos hx⟩
    · split at hx
      · rename_i hq; injection hx with hx; subst hx; exact ⟨h.lt b j _ hq, fun hne => absurd rfl hne⟩
      · cases hx
    · split at hx
      · rename_i hq; exact hq
      · cases hx
    · exact if_neg (fun hq => by rw [hq] at h1; injection h1 with h1; exact h2 h1.symm)
  have hqq : ∀ b j y, q b j = some y → y ≠ .fro → b < w.heap.size ∧ (F.W b j ∨ F.w0.heap.size ≤ b) := fun b j y h1 h2 => ⟨h.lt b j y h1, .inl ⟨y, h1, h2⟩⟩
  obtain ⟨ω1, β1, k1, k2, k3⟩ := addExt_ok (F := F) (a := a) (q := q) (A := A) rfl hqq ext (ρ0 := 0) h0 (fun ρ l hl => by rw [Nat.zero_add]; exact h.ext ρ l hl)
  rw [Nat.zero_add] at k1
  exact addArgs_ok (F := F) (a := a) (q := q) (A := A) (Nat.le_refl _) hqq args (i := 0) k1 (Nat.le_refl _) (fun i' j _ hd => by
      obtain ⟨ρ, _, hd⟩ := hd
      rcases hd with hd | ⟨i, r, hd⟩ <;> cases hd) (fun k x hk => by
      obtain ⟨u, e1, e2⟩ := h.args k x hk
      rw [Nat.zero_add]
      have : a.tmps.getD k undef = u := by
        rw [getD_append_undef, Array.getD_eq_getD_getElem?, e1]; rfl
      rw [this]; exact e2) (fun ρ x hx => by
      have := k3 ρ x hx
      rwa [Nat.zero_add] at this) hp
end
end Go.Tr
namespace Go.Tr
open Go Go.RowKit

/-- What is asked for an atom to go out, and the tree that goes. -/
def shutA (σ : St) : At → Prop × C
  | .any => (True, .any)
  | .lit v => (True, .lit v)
  | .nil e k => (True, .sl .own e k 0 (fun _ _ => .any))
  | .ref κ lo n =>
    match σ.rt κ with
    | some R =>
      match R.o with
      | .own => (lo = 0 ∧ R.full = true, R.shutN n)
      | .fro => (True, .sl .fro R.e R.k n (fun i r => (R.get (lo + i) r).shut))
      | .vw _ _ _ => (False, .any)
    | none => (False, .any)
  | .spot κ i r =>
    match σ.rt κ with
    | some R =>
      match R.o, R.get i r with
      | .own, .cl c => (True, c)
      | .fro, .cl c => (True, c)
      | _, _ => (False, .any)
    | none => (False, .any)
def ownsA : At → Wh → Bool
  | .ref κ _ _, .row κ' => κ' == κ
  | .ref κ _ _, .sub κ' _ _ => κ' == κ
  | .spot κ i r, .sub κ' i' r' => κ' == κ && (i' == i && r' == r)
  | _, _ => false
/-- No two own the same. -/
def apartA : At → At → Bool
  | .ref κ _ _, .ref κ' _ _ => κ != κ'
  | .ref κ _ _, .spot κ' _ _ => κ != κ'
  | .spot κ _ _, .ref κ' _ _ => κ != κ'
  | .spot κ i r, .spot κ' i' r' => !(κ == κ' && (i == i' && r == r'))
  | _, _ => true
def notExt (n : Nat) : At → Bool
  | .ref κ _ _ => decide (κ < 1000000) || decide (1000000 + n ≤ κ)
  | .spot κ _ _ => decide (κ < 1000000) || decide (1000000 + n ≤ κ)
  | _ => true

def tagV (i : Nat) : V → List ((Nat × Nat) × At)
  | .a x => [((i, 0), x)]
  | .agg l => l.mapIdx fun j x => ((i, j), x)
  | _ => []
def tagVs : Nat → List V → List ((Nat × Nat) × At)
  | _, [] => []
  | i, v :: vs => tagV i v ++ tagVs (i + 1) vs
def apartL : List At → Bool
  | [] => true
  | x :: l => l.all (apartA x) && apartL l
def shutL (σ : St) : List At → Prop × List C
  | [] => (True, [])
  | x :: l => ((shutA σ x).1 ∧ (shutL σ l).1, (shutA σ x).2 :: (shutL σ l).2)
def shutV (σ : St) : V → Prop × Ar
  | .a x => ((shutA σ x).1, .one (shutA σ x).2)
  | .agg l => ((shutL σ l).1, .agg (shutL σ l).2)
  | _ => (False, .one .any)
def shutVs (σ : St) : List V → Prop × List Ar
  | [] => (True, [])
  | v :: vs => ((shutV σ v).1 ∧ (shutVs σ vs).1, (shutV σ v).2 :: (shutVs σ vs).2)
/-- The cells of a variable that was handed in, as they are in the end. -/
def shutE (σ : St) (ρ : Nat) (m : Nat × Nat) : Xr := ⟨m.1, m.2, fun i r => match σ.rt (1000000 + ρ) with | some R => (R.get i r).shut | none => .any⟩
def extOk (σ : St) (ρ : Nat) (m : Nat × Nat) : Prop := ∃ R, σ.rt (1000000 + ρ) = some R ∧ R.o = .own ∧ m.2 ≤ R.n ∧ R.k = m.1

theorem own_apart {x y : At} {t : Wh} (h : apartA x y = true) (hx : ownsA x t = true) (hy : ownsA y t = true) : False := by
  cases x <;> cases y <;> cases t <;> simp_all [apartA, ownsA]

section
variable {F : Fm} {N : Nat} {σ : St} {a : Act} {w : World} {ω : Om} {β : Nat → Bs}

theorem shutA_ok (h : Rel1 F N σ a w ω β) {x : At} {u : Value} (hx : ARel σ β w x u) (hc : (shutA σ x).1) {z : Nat → Nat → Prop} (hz : ∀ b j, ω b j = some .fro → z b j) :
    CRel w z (shutA σ x).2 (fun b j => ∃ t, ω b j = some t ∧ ownsA x t = true) u := by
  cases x with
  | any => exact hx
  | lit v => exact hx
  | nil e k => cases hx; exact ⟨none, 0, rfl, Nat.le_refl _, Nat.zero_le _, .inl ⟨rfl, rfl⟩⟩
  | ref κ lo n =>
    obtain ⟨R, hR, hlen, A, c, hu, hn, hcm, hA, h0, hp⟩ := hx
    have h1 := h.roots κ R hR
    simp only [shutA, hR] at hc ⊢
    cases ho : R.o with
    | vw _ _ _ => rw [ho] at hc; exact hc.elim
    | own =>
      rw [ho] at hc
      obtain ⟨hlo, hf⟩ := hc
      subst hlo
      obtain ⟨eA, ec⟩ := h0 rfl
      subst eA ec
      obtain ⟨f0, f1, f2, f3, f4⟩ := h1.full hf
      refine ⟨(β κ).A, (β κ).cap, hu, hn, hcm, ?_⟩
      rcases f4 with f4 | ⟨g, cur, n1, n2, n3, n4⟩
      · exact .inl f4
      · refine .inr ⟨g, cur, n1, n2, n3, fun j hj => ⟨⟨_, (n4 j hj).1, by simp [ownsA]⟩, (n4 j hj).2⟩, fun b j => match ω b j with | some (.sub _ i r) => some (i, r) | _ => none, fun j hj => by dsimp only; rw [(n4 j hj).1], fun i r hi hr => ?_⟩
        obtain ⟨g', j', y, ⟨o', e1, e3⟩, k2, k3, k4, k5⟩ := h1.cells i r (by omega) hr rfl
        rw [n1] at e1; injection e1 with e1; injection e1 with e1 e4 _
        subst e1 e4
        rw [Nat.zero_add] at e3
        subst e3
        refine ⟨y, k2, ?_⟩
        have hone := k5.one
        unfold CellRel at k5
        show CRel w z (R.get i r).shut _ y
        cases hq : R.get i r with
        | ref κ2 lo m => exact hone
        | cl c2 =>
          rw [hq, ho] at k5
          refine CRel.mono (fun b j hb => hz b j hb) _ _ _ _ k5 (fun b j hs => ⟨⟨_, hs, by simp [ownsA]⟩, ?_⟩)
          dsimp only; rw [show ω b j = some (.sub κ i r) from hs]
    | fro =>
      rw [ho] at hc
      refine ⟨A, c, hu, hn, hcm, hA, fun hpos => ?_⟩
      obtain ⟨g, o', e1, e2⟩ := hp hpos
      refine ⟨g, o' + lo * R.k, e2, fun i r hi hr => ?_⟩
      obtain ⟨g', j', y, ⟨o2, m1, m2⟩, k2, k3, k4, k5⟩ := h1.cells (lo + i) r (by omega) hr rfl
      rw [e1] at m1; injection m1 with m1; injection m1 with m3 m4 _
      subst m3 m4
      have hj : j' = o' + lo * R.k + (i * R.k + r) := by rw [m2, Nat.add_mul]; omega
      subst hj
      rw [ho] at k3
      refine ⟨y, k2, hz _ _ k3, ?_⟩
      have hone := k5.one
      unfold CellRel at k5
      show CRel w z (R.get (lo + i) r).shut _ y
      cases hq : R.get (lo + i) r with
      | ref κ2 lo m => exact hone
      | cl c2 =>
        rw [hq, ho] at k5
        exact CRel.mono (fun b j hb => hz b j hb) _ _ _ _ k5 (fun _ _ h => h.elim)
  | spot κ i r =>
    obtain ⟨R, g, j, hR, hi, hr, hl, ha, hcell⟩ := hx
    obtain ⟨g', j', y, ha', k2, k3, k4, k5⟩ := (h.roots κ R hR).cells i r hi hr hl
    obtain ⟨o1, e1, e2⟩ := ha
    obtain ⟨o2, m1, m2⟩ := ha'
    rw [e1] at m1; injection m1 with m1; injection m1 with m3 m4 _
    subst m3 m4
    have hj : j' = j := by rw [e2, m2]
    subst hj
    rw [k2] at hcell; injection hcell with hcell; subst hcell
    simp only [shutA, hR] at hc ⊢
    unfold CellRel at k5
    cases hq : R.get i r with
    | ref κ2 lo m => rw [hq] at hc; cases ho : R.o <;> rw [ho] at hc <;> exact hc.elim
    | cl c2 =>
      rw [hq] at hc k5
      cases ho : R.o with
      | vw _ _ _ => rw [ho] at hc; exact hc.elim
      | own =>
        rw [ho] at k5
        exact CRel.mono (fun b j hb => hz b j hb) _ _ _ _ k5 (fun b j hs => ⟨_, hs, by simp [ownsA]⟩)
      | fro =>
        rw [ho] at k5
        exact CRel.mono (fun b j hb => hz b j hb) _ _ _ _ k5 (fun _ _ h => h.elim)
end
end Go.Tr
namespace Go.Tr
open Go Go.RowKit

/-- What a result is. -/
def resV (T : Nat → Option TyI) (σ : St) : ResultVar → Prop × V
  | .tmp t => (True, σ.tv t)
  | .cell p t =>
    match σ.tv p, T t with
    | .ptr κ i r, some ⟨m, kd, _⟩ =>
      match σ.rt κ with
      | some R => (i < R.n ∧ r + m ≤ R.k ∧ liveL R i r m = true ∧ (if scK kd then m = 1 else agK kd = true), if scK kd then .a (R.atom κ i r) else .agg (atomsL R κ i r m))
      | none => (False, .any)
    | _, _ => (False, .any)
def resVs (T : Nat → Option TyI) (σ : St) : List ResultVar → Prop × List V
  | [] => (True, [])
  | x :: l => ((resV T σ x).1 ∧ (resVs T σ l).1, (resV T σ x).2 :: (resVs T σ l).2)
def extsOk (σ : St) : Nat → List (Nat × Nat) → Prop
  | _, [] => True
  | ρ, m :: ms => extOk σ ρ m ∧ extsOk σ (ρ + 1) ms
def shutEs (σ : St) : Nat → List (Nat × Nat) → List Xr
  | _, [] => []
  | ρ, m :: ms => shutE σ ρ m :: shutEs σ (ρ + 1) ms
/-- What must stand at a body's end. -/
def Fin (T : Nat → Option TyI) (fn : Func) (ms : List (Nat × Nat)) (Post : List Ar → List Xr → Prop) (e : Exit) (σ : St) : Prop :=
  (e = .normal ∨ e = .ret) ∧ (resVs T σ fn.results.toList).1 ∧ apartL ((tagVs 0 (resVs T σ fn.results.toList).2).map (·.2)) = true ∧ ((tagVs 0 (resVs T σ fn.results.toList).2).map (·.2)).all (notExt ms.length) = true ∧
    (shutVs σ (resVs T σ fn.results.toList).2).1 ∧ extsOk σ 0 ms ∧ Post (shutVs σ (resVs T σ fn.results.toList).2).2 (shutEs σ 0 ms)

theorem find_owner {t : Wh} : ∀ (l : List ((Nat × Nat) × At)) (p : (Nat × Nat) × At), apartL (l.map (·.2)) = true → p ∈ l → ownsA p.2 t = true → l.find? (fun p => ownsA p.2 t) = some p
  | [], p, _, hp, _ => by cases hp
  | y :: l, p, ha, hp, ho => by
    simp only [List.map_cons, apartL, Bool.and_eq_true, List.all_eq_true] at ha
    by_cases h : ownsA y.2 t = true
    · rcases List.mem_cons.1 hp with rfl | hp
      · simp [h]
      · exact (own_apart (ha.1 p.2 (List.mem_map.2 ⟨p, hp, rfl⟩)) h ho).elim
    · rcases List.mem_cons.1 hp with rfl | hp
      · exact absurd ho h
      · rw [List.find?_cons_of_neg (by simpa using h)]
        exact find_owner l p ha.2 hp ho

section
variable {P : Program} {F : Fm} {N : Nat} {σ : St} {a : Act} {w : World} {ω : Om} {β : Nat → Bs}

theorem resV_ok {T : Nat → Option TyI} (hT : TOk P T) (h : Rel1 F N σ a w ω β) (x : ResultVar) (hx : (resV T σ x).1) :
    ∃ u, (match x with | .tmp t => pure (a.tmps.getD t undef) | .cell p t => do loadVar t (← asAddr (a.tmps.getD p undef)) : Sem Value).run P w = .ok u w ∧ VRel σ β w (resV T σ x).2 u := by
  cases x with
  | tmp t => exact ⟨_, rfl, h.tmps t⟩
  | cell p t =>
    have hp := h.tmps p
    simp only [resV] at hx ⊢
    cases hv : σ.tv p with
    | ptr κ i r =>
      rw [hv] at hp hx
      cases ht : T t with
      | none => rw [ht] at hx; exact hx.elim
      | some ty =>
        obtain ⟨m, kd, z⟩ := ty
        rw [ht] at hx
        cases hR : σ.rt κ with
        | none => simp only [hR] at hx
        | some R =>
          simp only [hR] at hx
          obtain ⟨hi, hr, hl, hk⟩ := hx
          obtain ⟨R', g, j, e1, ⟨o', e2, e3⟩, e⟩ := hp
          rw [hR] at e1; injection e1 with e1; subst e1
          have hcell : ∀ q, q < m → ∃ u, w.cell? ⟨g, j + q, none⟩ = some u ∧ ARel σ β w (R.atom κ i (r + q)) u := by
            intro q hq
            obtain ⟨g', j', u, ⟨o2, f1, f2⟩, k2, k3⟩ := h.load hR hi (show r + q < R.k by omega) (liveL_at hl q hq)
            rw [e2] at f1; injection f1 with f1; injection f1 with f3 f4 _
            subst f3 f4
            have : j' = j + q := by omega
            subst this
            exact ⟨u, k2, k3⟩
          have hld : ∀ u, (loadVar t ⟨g, j, none⟩).run P w = .ok u w → ((do loadVar t (← asAddr (a.tmps.getD p undef)) : Sem Value)).run P w = .ok u w := by
            intro u hu
            rw [e, Sem.run_bind]; exact hu
          simp only [hR]
          cases hsc : scK kd with
          | true =>
            rw [if_pos rfl]
            rw [hsc, if_pos rfl] at hk
            subst hk
            obtain ⟨d, h1, h2⟩ := sc_of hT ht hsc
            obtain ⟨u, k1, k2⟩ := hcell 0 (by omega)
            exact ⟨u, hld u (run_loadVar_sc (w := w) h1 h2 k1), k2⟩
          | false =>
            rw [if_neg (by simp)]
            rw [hsc, if_neg (by simp)] at hk
            have hF := hT t _ ht
            obtain ⟨d, h1, h2⟩ : ∃ d, P.underlying t = some d ∧ scD d = false := by
              have h := hF.kind
              cases kd with
              | st pl => obtain ⟨fs, h1, _⟩ := h; exact ⟨_, h1, rfl⟩
              | arr n e ke => exact ⟨_, h.1, rfl⟩
              | sc => cases hk
              | sl _ _ _ => cases hk
              | ot => cases hk
            obtain ⟨inf, zv, h3, h4, _⟩ := hF.info
            refine ⟨.agg ((List.range m).map (fun q => (w.cell? ⟨g, j + q, none⟩).getD undef)).toArray, hld _ (run_loadVar_agg (P := P) (w := w) (g := g) (j := j) h1 h2 h3 h4 (fun q => (w.cell? ⟨g, j + q, none⟩).getD undef) (fun q hq => by
              obtain ⟨u, hu, _⟩ := hcell q hq; rw [hu]; rfl)), _, rfl, by simp [atomsL_len], fun q x hq => ?_⟩
            have hqm : q < m := by
              rcases Nat.lt_or_ge q m with h | h
              · exact h
              · rw [List.getElem?_eq_none (by rw [atomsL_len]; exact h)] at hq; cases hq
            rw [atomsL_at _ _ _ _ _ _ hqm] at hq
            injection hq with hq
            subst hq
            obtain ⟨u, hu, hrel⟩ := hcell q hqm
            exact ⟨u, by simp [hqm, hu], hrel⟩
    | any => rw [hv] at hx; exact hx.elim
    | a x => rw [hv] at hx; exact hx.elim
    | agg l => rw [hv] at hx; exact hx.elim
    | tup l => rw [hv] at hx; exact hx.elim

theorem resVs_ok {T : Nat → Option TyI} (hT : TOk P T) (h : Rel1 F N σ a w ω β) : ∀ (l : List ResultVar), (resVs T σ l).1 →
    ∃ us, (l.mapM fun x => (match x with | .tmp t => pure (a.tmps.getD t undef) | .cell p t => do loadVar t (← asAddr (a.tmps.getD p undef)) : Sem Value)).run P w = .ok us w ∧ us.length = (resVs T σ l).2.length ∧
      ∀ (i : Nat) (v : V), (resVs T σ l).2[i]? = some v → ∃ u, us[i]? = some u ∧ VRel σ β w v u
  | [], _ => ⟨[], rfl, rfl, fun i v hv => by simp [resVs] at hv⟩
  | x :: l, hx => by
    obtain ⟨u, h1, h2⟩ := resV_ok hT h x hx.1
    obtain ⟨us, h3, h4, h5⟩ := resVs_ok hT h l hx.2
    refine ⟨u :: us, ?_, by simp [resVs, h4], fun i v hv => ?_⟩
    · rw [List.mapM_cons, Sem.run_bind, h1]
      simp only [Result.andThen_ok]
      rw [Sem.run_bind, h3]
      rfl
    · cases i with
      | zero => injection hv with hv; subst hv; exact ⟨u, rfl, h2⟩
      | succ i => exact h5 i v hv

theorem results_run {T : Nat → Option TyI} (hT : TOk P T) (h : Rel1 F N σ a w ω β) {fn : Func} (hx : (resVs T σ fn.results.toList).1) :
    ∃ us, (results fn a.tmps).run P w = .ok (outVal us) w ∧ us.length = (resVs T σ fn.results.toList).2.length ∧ ∀ (i : Nat) (v : V), (resVs T σ fn.results.toList).2[i]? = some v → ∃ u, us[i]? = some u ∧ VRel σ β w v u := by
  obtain ⟨us, h1, h2, h3⟩ := resVs_ok hT h fn.results.toList hx
  refine ⟨us, ?_, h2, h3⟩
  unfold results
  rw [Sem.run_bind, Array.mapM_eq_mapM_toList]
  have : (List.toArray <$> fn.results.toList.mapM (fun x => (match x with | .tmp t => pure (a.tmps.getD t undef) | .cell p t => do loadVar t (← asAddr (a.tmps.getD p undef)) : Sem Value))).run P w = .ok us.toArray w := by
    rw [map_eq_pure_bind, Sem.run_bind, h1]; rfl
  refine (congrArg (fun r => Result.andThen r _) this).trans ?_
  show Result.ok (if h : us.toArray.size = 1 then us.toArray[0] else .tuple us.toArray) w = _
  match us with
  | [] => rfl
  | [u] => rfl
  | u :: v :: us => simp [outVal]
end
end Go.Tr
namespace Go.Tr
open Go Go.RowKit

theorem mem_tagV {i j : Nat} {v : V} {x : At} : (match v with | .a y => j = 0 ∧ x = y | .agg l => l[j]? = some x | _ => False) → ((i, j), x) ∈ tagV i v := by
  cases v with
  | a y => rintro ⟨rfl, rfl⟩; exact List.mem_singleton.2 rfl
  | agg l => intro h; exact List.mem_iff_getElem?.2 ⟨j, by simp [tagV, h]⟩
  | any => exact False.elim
  | ptr _ _ _ => exact False.elim
  | tup _ => exact False.elim
theorem mem_tagVs : ∀ (vs : List V) (i0 k : Nat) {j : Nat} {v : V} {x : At}, vs[k]? = some v → (match v with | .a y => j = 0 ∧ x = y | .agg l => l[j]? = some x | _ => False) → ((i0 + k, j), x) ∈ tagVs i0 vs
  | [], _, _, _, _, _, h, _ => by simp at h
  | v0 :: vs, i0, 0, j, v, x, h, hx => by
    injection h with h; subst h
    exact List.mem_append.2 (.inl (mem_tagV hx))
  | v0 :: vs, i0, k + 1, j, v, x, h, hx => by
    have := mem_tagVs vs (i0 + 1) k h hx
    rw [show i0 + 1 + k = i0 + (k + 1) by omega] at this
    exact List.mem_append.2 (.inr this)

theorem shutVs_at (σ : St) : ∀ (vs : List V) (i : Nat), (shutVs σ vs).1 → ∀ x, (shutVs σ vs).2[i]? = some x → ∃ v, vs[i]? = some v ∧ (shutV σ v).1 ∧ x = (shutV σ v).2
  | [], i, _, x, h => by simp [shutVs] at h
  | v :: vs, 0, hc, x, h => by injection h with h; exact ⟨v, rfl, hc.1, h.symm⟩
  | v :: vs, i + 1, hc, x, h => shutVs_at σ vs i hc.2 x h
theorem shutVs_len (σ : St) : ∀ vs : List V, (shutVs σ vs).2.length = vs.length
  | [] => rfl
  | v :: vs => by simp [shutVs, shutVs_len σ vs]
theorem shutL_at (σ : St) : ∀ (l : List At) (j : Nat), (shutL σ l).1 → ∀ c, (shutL σ l).2[j]? = some c → ∃ x, l[j]? = some x ∧ (shutA σ x).1 ∧ c = (shutA σ x).2
  | [], i, _, x, h => by simp [shutL] at h
  | v :: vs, 0, hc, x, h => by injection h with h; exact ⟨v, rfl, hc.1, h.symm⟩
  | v :: vs, i + 1, hc, x, h => shutL_at σ vs i hc.2 x h
theorem shutL_len (σ : St) : ∀ l : List At, (shutL σ l).2.length = l.length
  | [] => rfl
  | v :: vs => by simp [shutL, shutL_len σ vs]
theorem shutEs_at (σ : St) : ∀ (ms : List (Nat × Nat)) (ρ0 ρ : Nat) (l : Xr), (shutEs σ ρ0 ms)[ρ]? = some l → extsOk σ ρ0 ms → ∃ m, l = shutE σ (ρ0 + ρ) m ∧ extOk σ (ρ0 + ρ) m ∧ ρ < ms.length
  | [], _, _, _, h, _ => by simp [shutEs] at h
  | m :: ms, ρ0, 0, l, h, hk => by injection h with h; exact ⟨m, h.symm, hk.1, by simp⟩
  | m :: ms, ρ0, ρ + 1, l, h, hk => by
    obtain ⟨m', h1, h2, h3⟩ := shutEs_at σ ms (ρ0 + 1) ρ l h hk.2
    exact ⟨m', by rw [h1]; congr 1; omega, by rw [show ρ0 + (ρ + 1) = ρ0 + 1 + ρ by omega]; exact h2, by simp; omega⟩

section
variable {P : Program}

theorem fin_exit {T : Nat → Option TyI} (hT : TOk P T) {fn : Func} {ms : List (Nat × Nat)} {Post : List Ar → List Xr → Prop} {w w' : World} {q : Qm} {A : Nat → Bs} {N : Nat} {σ : St} {a : Act} {e : Exit} {ω : Om} {β : Nat → Bs}
    (h : Rel1 ⟨w, Wof q, fun b j => q b j = some .fro, ms.length, A⟩ N σ a w' ω β) (hfin : Fin T fn ms Post e σ) :
    ∃ us outs ext' q', (results fn a.tmps).run P w' = .ok (outVal us) w' ∧ Post outs ext' ∧ Exi w w' q q' A us outs ext' := by
  obtain ⟨_, hres, hap, hne, hsh, hex, hpost⟩ := hfin
  obtain ⟨us, hrun, hlen, hus⟩ := results_run hT h hres
  generalize hvs : (resVs T σ fn.results.toList).2 = vs at *
  let q' : Qm := fun b j => match ω b j with
    | none => none
    | some .fro => some .fro
    | some t => match (tagVs 0 vs).find? (fun p => ownsA p.2 t) with
      | some p => some (.arg p.1.1 p.1.2)
      | none => match t with
        | .row κ => if 1000000 ≤ κ ∧ κ < 1000000 + ms.length then some (.cell (κ - 1000000)) else none
        | .sub κ i r => if 1000000 ≤ κ ∧ κ < 1000000 + ms.length then some (.ext (κ - 1000000) i r) else none
        | .fro => none
  have hq0 : ∀ b j, ω b j = some .fro → q' b j = some .fro := fun b j hx => by simp only [q', hx]
  have hq1 : ∀ b j t p, ω b j = some t → p ∈ tagVs 0 vs → ownsA p.2 t = true → q' b j = some (.arg p.1.1 p.1.2) := by
    intro b j t p hx hp ho
    have hf := find_owner (t := t) (tagVs 0 vs) p hap hp ho
    cases t with
    | fro => simp [ownsA] at ho
    | row κ => simp only [q', hx, hf]
    | sub κ i r => simp only [q', hx, hf]
  have hnext : ∀ ρ, ρ < ms.length → ∀ t, (t = .row (1000000 + ρ) ∨ ∃ i r, t = .sub (1000000 + ρ) i r) → (tagVs 0 vs).find? (fun p => ownsA p.2 t) = none := by
    intro ρ hρ t ht
    rw [List.find?_eq_none]
    intro p hp ho
    have := List.all_eq_true.1 hne p.2 (List.mem_map.2 ⟨p, hp, rfl⟩)
    rcases ht with rfl | ⟨i, r, rfl⟩ <;> cases hx : p.2 <;> rw [hx] at ho this <;> simp [ownsA] at ho <;> simp [notExt] at this <;> omega
  have hq2 : ∀ b j ρ, ρ < ms.length → ω b j = some (.row (1000000 + ρ)) → q' b j = some (.cell ρ) := by
    intro b j ρ hρ hx
    simp only [q', hx, hnext ρ hρ _ (.inl rfl)]
    rw [if_pos (by omega), show 1000000 + ρ - 1000000 = ρ by omega]
  have hq3 : ∀ b j ρ i r, ρ < ms.length → ω b j = some (.sub (1000000 + ρ) i r) → q' b j = some (.ext ρ i r) := by
    intro b j ρ i r hρ hx
    simp only [q', hx, hnext ρ hρ _ (.inr ⟨i, r, rfl⟩)]
    rw [if_pos (by omega), show 1000000 + ρ - 1000000 = ρ by omega]
  have hq4 : ∀ b j x, q' b j = some x → ∃ t, ω b j = some t ∧ (x = .fro ↔ t = .fro) := by
    intro b j x hx
    simp only [q'] at hx
    cases ho : ω b j with
    | none => simp [ho] at hx
    | some t =>
      refine ⟨t, rfl, ?_⟩
      simp only [ho] at hx
      cases t with
      | fro => simp only at hx; injection hx with hx; subst hx; simp
      | row κ =>
        simp only at hx
        refine ⟨fun e => ?_, fun e => by cases e⟩
        subst e
        split at hx
        · cases hx
        · split at hx <;> cases hx
      | sub κ i r =>
        simp only at hx
        refine ⟨fun e => ?_, fun e => by cases e⟩
        subst e
        split at hx
        · cases hx
        · split at hx <;> cases hx
  refine ⟨us, _, _, q', hrun, hpost, by rw [hlen, shutVs_len], fun i x hi => ?_, fun ρ l hl => ?_, fun b j x hx => ?_, h.fr⟩
  · obtain ⟨v, hv, hc, hxe⟩ := shutVs_at σ vs i hsh x hi
    obtain ⟨u, hu, hrel⟩ := hus i v hv
    refine ⟨u, hu, ?_⟩
    rw [hxe]
    cases v with
    | any => exact hc.elim
    | ptr _ _ _ => exact hc.elim
    | tup _ => exact hc.elim
    | a y =>
      have hm := mem_tagVs vs 0 i (j := 0) (x := y) hv ⟨rfl, rfl⟩
      rw [Nat.zero_add] at hm
      show CRel w' _ (shutA σ y).2 _ u
      exact CRel.mono (fun _ _ h => h) _ _ _ _ (shutA_ok h hrel hc hq0) (fun b j ⟨t, k1, k2⟩ => hq1 b j t _ k1 hm k2)
    | agg l =>
      obtain ⟨ys, e1, e2, e3⟩ := hrel
      refine ⟨ys, e1, by rw [e2]; exact (shutL_len σ l).symm, fun j c hj => ?_⟩
      obtain ⟨y, m1, m2, m3⟩ := shutL_at σ l j hc c hj
      obtain ⟨z, n1, n2⟩ := e3 j y m1
      have hm := mem_tagVs vs 0 i (j := j) (x := y) hv m1
      rw [Nat.zero_add] at hm
      refine ⟨z, n1, ?_⟩
      rw [m3]
      exact CRel.mono (fun _ _ h => h) _ _ _ _ (shutA_ok h n2 m2 hq0) (fun b j' ⟨t, k1, k2⟩ => hq1 b j' t _ k1 hm k2)
  · obtain ⟨m, h1, ⟨R, hR, ho, hn, hk⟩, hρ⟩ := shutEs_at σ ms 0 ρ l hl hex
    rw [Nat.zero_add] at h1 hR
    subst h1
    intro i r hi hr
    change i < m.2 at hi; change r < m.1 at hr
    have hc : (shutE σ ρ m).row i r = (R.get i r).shut := by simp only [shutE, hR]
    obtain ⟨g, j, u, ⟨o', e1, e2⟩, k2, k3, k4, k5⟩ := (h.roots _ R hR).cells i r (by omega) (by omega) rfl
    have hex' := h.ex ρ R hρ hR
    rw [hex'] at e1
    rw [hk] at e2
    subst e2
    rw [ho] at k3
    refine ⟨g, o', u, e1, k2, hq2 _ _ ρ hρ k3, k4 ho, ?_⟩
    have hone := k5.one
    unfold CellRel at k5
    rw [hc]
    cases hq : R.get i r with
    | ref κ2 lo n => exact hone
    | cl c2 =>
      rw [hq, ho] at k5
      exact CRel.mono (fun b j hz => hq0 b j hz) _ _ _ _ k5 (fun b j hs => hq3 b j ρ i r hρ hs)
  · obtain ⟨t, k1, k2⟩ := hq4 b j x hx
    have hw := h.wr b j t k1
    refine ⟨hw.1, fun hne' => hw.2 (fun e => hne' (k2.2 e)), fun e => ?_⟩
    exact h.fz b j (by rw [k1, k2.1 e])

theorem Run.of_body {T : Nat → Option TyI} (hT : TOk P T) {f : FuncId} {fn : Func} {c : Code} (hf : P.funcs[f]? = some fn) (hb : fn.body = some c) {args : List Ag} {ext : List Xr} {Post : List Ar → List Xr → Prop}
    (hn : args.length ≤ fn.ntmps) (hp : argsOk ext args) (ms : List (Nat × Nat)) (hms : ms.length = ext.length) (h : ∀ F : Fm, F.nE = ext.length → AC P F fn.ntmps c (Fin T fn ms Post) (enterSt args ext)) : Run P f args ext Post := by
  intro w q A cargs hent
  obtain ⟨ω, β, hrel⟩ := hent.rel (N := fn.ntmps) hn hp
  refine calls_of_wp hf hb (wp_mono (h _ rfl _ _ ⟨ω, β, hrel⟩) fun e a w' hq => ?_)
  obtain ⟨σ, hfin, ω', β', hrel'⟩ := hq
  have hd : a.defers = [] := hrel'.dfr
  rw [← hms] at hrel'
  obtain ⟨us, outs, ext', q', k1, k2, k3⟩ := fin_exit hT hrel' hfin
  rcases hfin.1 with rfl | rfl
  · exact ⟨hd, _, k1, us, outs, ext', q', rfl, k2, k3⟩
  · exact ⟨hd, _, k1, us, outs, ext', q', rfl, k2, k3⟩
end
end Go.Tr
namespace Go.Tr
open Go Go.RowKit

/-- What is handed in to be written: the elements of the root κ from i0 on. wh: all of them. -/
structure Bw where
  κ : Nat
  i0 : Nat
  wh : Bool
  x : Xr

def bwFind : List Bw → Nat → Nat → Option (Nat × Bw)
  | [], _, _ => none
  | b :: l, ρ, κ => if b.κ = κ then some (ρ, b) else bwFind l (ρ + 1) κ
theorem bwFind_at : ∀ {l : List Bw} {ρ0 κ ρ : Nat} {b : Bw}, bwFind l ρ0 κ = some (ρ, b) → b.κ = κ ∧ ∃ j, ρ = ρ0 + j ∧ l[j]? = some b
  | [], _, _, _, _, h => by cases h
  | c :: l, ρ0, κ, ρ, b, h => by
    simp only [bwFind] at h
    split at h
    · rename_i e; injection h with h; injection h with h1 h2; subst h1 h2; exact ⟨e, 0, rfl, rfl⟩
    · obtain ⟨h1, j, h2, h3⟩ := bwFind_at h
      exact ⟨h1, j + 1, by omega, h3⟩

def shA (x : Option Addr) (d : Nat) : Option Addr := x.map fun a => ⟨a.block, a.off + d, a.spot⟩
theorem shA_zero (x : Option Addr) : shA x 0 = x := by cases x <;> rfl

def viewOk (bs : List Bw) : RO → Prop
  | .vw κ _ _ => bwFind bs 0 κ = none
  | _ => True
def passA (σ : St) (bs : List Bw) : At → Prop × Aa
  | .any => (True, .c .any)
  | .lit v => (True, .c (.lit v))
  | .nil e k => (True, .c (.sl .fro e k 0 (fun _ _ => .any)))
  | .ref κ lo n =>
    match bwFind bs 0 κ with
    | some (ρ, b) => (lo = 0 ∧ b.i0 = 0, .h ρ n)
    | none =>
      match σ.rt κ with
      | some R => (viewOk bs R.o, .c (.sl .fro R.e R.k n (fun i r => lend (R.get (lo + i) r).shut)))
      | none => (False, .c .any)
  | .spot κ i r =>
    match bwFind bs 0 κ with
    | some _ => (False, .c .any)
    | none =>
      match σ.rt κ with
      | some R =>
        match R.get i r with
        | .cl c => (viewOk bs R.o, .c (lend c))
        | _ => (False, .c .any)
      | none => (False, .c .any)
def passL (σ : St) (bs : List Bw) : List At → Prop × List Aa
  | [] => (True, [])
  | x :: l => ((passA σ bs x).1 ∧ (passL σ bs l).1, (passA σ bs x).2 :: (passL σ bs l).2)
def passV (σ : St) (bs : List Bw) : V → Prop × Ag
  | .a x => ((passA σ bs x).1, .one (passA σ bs x).2)
  | .agg l => ((passL σ bs l).1, .agg (passL σ bs l).2)
  | .ptr κ i r =>
    match bwFind bs 0 κ with
    | some (ρ, b) => (b.i0 = i ∧ r = 0, .ptr ρ)
    | none => (False, .one (.c .any))
  | _ => (False, .one (.c .any))
def passVs (σ : St) (bs : List Bw) : List V → Prop × List Ag
  | [] => (True, [])
  | v :: vs => ((passV σ bs v).1 ∧ (passVs σ bs vs).1, (passV σ bs v).2 :: (passVs σ bs vs).2)

theorem passL_len (σ : St) (bs : List Bw) : ∀ l, (passL σ bs l).2.length = l.length
  | [] => rfl
  | x :: l => by simp [passL, passL_len σ bs l]
theorem passVs_len (σ : St) (bs : List Bw) : ∀ l, (passVs σ bs l).2.length = l.length
  | [] => rfl
  | x :: l => by simp [passVs, passVs_len σ bs l]
theorem passL_at (σ : St) (bs : List Bw) : ∀ (l : List At) (j : Nat) (c : Aa), (passL σ bs l).1 → (passL σ bs l).2[j]? = some c → ∃ x, l[j]? = some x ∧ (passA σ bs x).1 ∧ c = (passA σ bs x).2
  | [], j, c, _, h => by simp [passL] at h
  | x :: l, 0, c, hc, h => by injection h with h; exact ⟨x, rfl, hc.1, h.symm⟩
  | x :: l, j + 1, c, hc, h => passL_at σ bs l j c hc.2 h
theorem passVs_at (σ : St) (bs : List Bw) : ∀ (l : List V) (j : Nat) (c : Ag), (passVs σ bs l).1 → (passVs σ bs l).2[j]? = some c → ∃ x, l[j]? = some x ∧ (passV σ bs x).1 ∧ c = (passV σ bs x).2
  | [], j, c, _, h => by simp [passVs] at h
  | x :: l, 0, c, hc, h => by injection h with h; exact ⟨x, rfl, hc.1, h.symm⟩
  | x :: l, j + 1, c, hc, h => passVs_at σ bs l j c hc.2 h

/-- What is asked of what is handed in to be written. -/
structure BwOk (σ : St) (bs : List Bw) : Prop where
  at_ : ∀ (ρ : Nat) (b : Bw), bs[ρ]? = some b → bwFind bs 0 b.κ = some (ρ, b) ∧ ∃ R, σ.rt b.κ = some R ∧ R.o = .own ∧ R.k = b.x.k ∧ b.i0 + b.x.n ≤ R.n ∧ (bif b.wh then b.i0 = 0 ∧ b.x.n = R.n else R.op = []) ∧
    ∀ i r, i < b.x.n → r < b.x.k → R.get (b.i0 + i) r = .cl (b.x.row i r)
  vw : ∀ κ R, σ.rt κ = some R → viewOk bs R.o

open Classical in
/-- What the callee may do with each cell. -/
noncomputable def qOf (ω : Om) (β : Nat → Bs) (bs : List Bw) : Qm := fun b j =>
  match ω b j with
  | none => none
  | some .fro => some .fro
  | some (.row κ) =>
    match bwFind bs 0 κ with
    | some (ρ, x) => if (∃ a, (β κ).A = some a ∧ a.off + x.i0 * x.x.k ≤ j ∧ j < a.off + (x.i0 + x.x.n) * x.x.k) then some (.cell ρ) else some .fro
    | none => some .fro
  | some (.sub κ i r) =>
    match bwFind bs 0 κ with
    | some (ρ, x) => if x.i0 ≤ i ∧ i < x.i0 + x.x.n then some (.ext ρ (i - x.i0) r) else some .fro
    | none => some .fro
/-- Where it lies. -/
def aOf (β : Nat → Bs) (bs : List Bw) (ρ : Nat) : Bs :=
  match bs[ρ]? with
  | some b => ⟨shA (β b.κ).A (b.i0 * b.x.k), (β b.κ).cap⟩
  | none => ⟨none, 0⟩

section
variable {F : Fm} {N : Nat} {σ : St} {a : Act} {w : World} {ω : Om} {β : Nat → Bs} {bs : List Bw}

theorem q_fro {b j : Nat} (h : ω b j = some .fro) : qOf ω β bs b j = some .fro := by simp only [qOf, h]
theorem q_row {b j κ : Nat} (h : ω b j = some (.row κ)) (hn : bwFind bs 0 κ = none) : qOf ω β bs b j = some .fro := by simp only [qOf, h, hn]
theorem q_sub {b j κ i r : Nat} (h : ω b j = some (.sub κ i r)) (hn : bwFind bs 0 κ = none) : qOf ω β bs b j = some .fro := by simp only [qOf, h, hn]
theorem q_none {b j : Nat} (h : ω b j = none) : qOf ω β bs b j = none := by simp only [qOf, h]
theorem q_some {b j : Nat} {y : Wq} (h : qOf ω β bs b j = some y) : ∃ x, ω b j = some x := by
  cases ho : ω b j with
  | none => rw [q_none ho] at h; cases h
  | some x => exact ⟨x, rfl⟩
theorem q_zr {o : RO} {b j : Nat} (hv : viewOk bs o) (h : Zr ω o b j) : qOf ω β bs b j = some .fro := by
  cases o with
  | own => exact q_fro h
  | fro => exact q_fro h
  | vw κ i r => rcases h with h | h; exact q_fro h; exact q_sub h hv
theorem q_tg {o : RO} {κ b j : Nat} (hn : bwFind bs 0 κ = none) (hv : viewOk bs o) (h : Tg ω o κ b j) : qOf ω β bs b j = some .fro := by
  cases o with
  | own => exact q_row h hn
  | fro => exact q_fro h
  | vw κ i r => rcases h with h | h; exact q_fro h; exact q_sub h hv
theorem q_sr {o : RO} {κ i r b j : Nat} (hn : bwFind bs 0 κ = none) (h : Sr ω o κ i r b j) : qOf ω β bs b j = some .fro := by
  cases o with
  | own => exact q_sub h hn
  | fro => exact h.elim
  | vw _ _ _ => exact h.elim

theorem CellRel.lend {κ : Nat} {R : Root} {i r : Nat} {u : Value} (h : CellRel σ ω β w κ R i r u) (hn : bwFind bs 0 κ = none) (hv : viewOk bs R.o) (f' : Nat → Nat → Prop) :
    CRel w (fun b j => qOf ω β bs b j = some .fro) (Tr.lend (R.get i r).shut) f' u := by
  have hone := h.one
  unfold CellRel at h
  cases hq : R.get i r with
  | ref κ2 lo m => exact hone
  | cl c =>
    rw [hq] at h
    refine CRel.mono (fun b j hz => ?_) _ _ _ _ (CRel.lend _ _ f' _ h) (fun _ _ h => h)
    rcases hz with hz | hz
    · exact q_zr hv hz
    · exact q_sr hn hz

theorem passA_ok (h : Rel1 F N σ a w ω β) {x : At} {u : Value} (hx : ARel σ β w x u) (hc : (passA σ bs x).1) (i j : Nat) : AaRel w (qOf ω β bs) (aOf β bs) i j (passA σ bs x).2 u := by
  cases x with
  | any => exact hx
  | lit v => exact hx
  | nil e k => cases hx; exact ⟨none, 0, rfl, Nat.le_refl _, Nat.zero_le _, fun _ => rfl, fun h => by omega⟩
  | ref κ lo n =>
    obtain ⟨R, hR, hlen, A, c, hu, hn, hcm, hA, h0, hp⟩ := hx
    simp only [passA] at hc ⊢
    cases hb : bwFind bs 0 κ with
    | some p =>
      obtain ⟨ρ, b⟩ := p
      rw [hb] at hc
      obtain ⟨e1, e2⟩ := hc
      subst e1
      obtain ⟨h1, j', h2, h3⟩ := bwFind_at hb
      rw [Nat.zero_add] at h2; subst h2
      obtain ⟨f1, f2⟩ := h0 rfl
      show HdRel (aOf β bs) ρ n u
      have ha : aOf β bs ρ = ⟨A, c⟩ := by simp only [aOf, h3, e2, Nat.zero_mul, shA_zero, h1, f1, f2]
      unfold HdRel
      rw [ha]
      exact ⟨hu, hn, hcm, hA, fun hpos => by
        obtain ⟨g, o, _, k2⟩ := hp hpos
        exact ⟨g, _, k2⟩⟩
    | none =>
      rw [hb] at hc
      rw [hR] at hc ⊢
      refine ⟨A, c, hu, hn, hcm, hA, fun hpos => ?_⟩
      obtain ⟨g, o', e1, e2⟩ := hp hpos
      refine ⟨g, o' + lo * R.k, e2, fun i r hi hr => ?_⟩
      obtain ⟨g', j', y, ⟨o2, m1, m2⟩, k2, k3, k4, k5⟩ := (h.roots κ R hR).cells (lo + i) r (by omega) hr rfl
      rw [e1] at m1; injection m1 with m1; injection m1 with m3 m4 _
      subst m3 m4
      have hj : j' = o' + lo * R.k + (i * R.k + r) := by rw [m2, Nat.add_mul]; omega
      subst hj
      exact ⟨y, k2, q_tg hb hc k3, k5.lend hb hc _⟩
  | spot κ i r =>
    obtain ⟨R, g, j, hR, hi, hr, hl, ha, hcell⟩ := hx
    obtain ⟨g', j', y, ha', k2, k3, k4, k5⟩ := (h.roots κ R hR).cells i r hi hr hl
    obtain ⟨o1, e1, e2⟩ := ha
    obtain ⟨o2, m1, m2⟩ := ha'
    rw [e1] at m1; injection m1 with m1; injection m1 with m3 m4 _
    subst m3 m4
    have hj : j' = j := by rw [e2, m2]
    subst hj
    rw [k2] at hcell; injection hcell with hcell; subst hcell
    simp only [passA] at hc ⊢
    cases hb : bwFind bs 0 κ with
    | some p => rw [hb] at hc; exact hc.elim
    | none =>
      rw [hb] at hc
      rw [hR] at hc ⊢
      dsimp only at hc ⊢
      cases hq : R.get i r with
      | ref κ2 lo m => rw [hq] at hc; exact hc.elim
      | cl c2 =>
        rw [hq] at hc
        have := k5.lend hb hc (fun _ _ => False)
        rw [hq] at this
        exact CRel.mono (fun _ _ h => h) _ _ _ _ this (fun _ _ h => h.elim)

theorem passV_ok (h : Rel1 F N σ a w ω β) (hbw : BwOk σ bs) {v : V} {u : Value} (hv : VRel σ β w v u) (hc : (passV σ bs v).1) (i : Nat) : AgRel w (qOf ω β bs) (aOf β bs) i (passV σ bs v).2 u := by
  cases v with
  | any => exact hc.elim
  | a x => exact passA_ok h hv hc _ _
  | agg l =>
    obtain ⟨us, e1, e2, e3⟩ := hv
    refine ⟨us, e1, by rw [e2]; exact (passL_len σ bs l).symm, fun j c hj => ?_⟩
    obtain ⟨x, m1, m2, m3⟩ := passL_at σ bs l j c hc hj
    obtain ⟨y, n1, n2⟩ := e3 j x m1
    exact ⟨y, n1, by rw [m3]; exact passA_ok h n2 m2 _ _⟩
  | ptr κ i' r =>
    obtain ⟨R, g, j, hR, ⟨o, e1, e2⟩, e3⟩ := hv
    simp only [passV] at hc ⊢
    cases hb : bwFind bs 0 κ with
    | none => rw [hb] at hc; exact hc.elim
    | some p =>
      obtain ⟨ρ, b⟩ := p
      rw [hb] at hc
      obtain ⟨c1, c2⟩ := hc
      obtain ⟨h1, j', h2, h3⟩ := bwFind_at hb
      rw [Nat.zero_add] at h2; subst h2 c1 c2
      exact ⟨g, o + b.i0 * b.x.k, by simp only [aOf, h3, h1, e1, shA]; rfl, by
        obtain ⟨_, R', q1, _, q2, _⟩ := hbw.at_ _ _ h3
        rw [h1, hR] at q1; injection q1 with q1; subst q1
        rw [e3, e2, q2, Nat.add_zero]⟩
  | tup l => exact hc.elim

theorem ext_ok (h : Rel1 F N σ a w ω β) (hbw : BwOk σ bs) {ρ : Nat} {x : Xr} (hx : (bs.map (·.x))[ρ]? = some x) : ExtRel w (qOf ω β bs) (aOf β bs) ρ x := by
  rw [List.getElem?_map] at hx
  cases hb : bs[ρ]? with
  | none => rw [hb] at hx; cases hx
  | some b =>
    rw [hb] at hx; injection hx with hx; subst hx
    obtain ⟨hf, R, hR, ho, hk, hn, _, hg⟩ := hbw.at_ _ _ hb
    intro i r hi hr
    change i < b.x.n at hi; change r < b.x.k at hr
    obtain ⟨g, j, u, ⟨o, e1, e2⟩, k2, k3, k4, k5⟩ := (h.roots _ R hR).cells (b.i0 + i) r (by omega) (by omega) rfl
    have hj : j = o + b.i0 * b.x.k + (i * b.x.k + r) := by rw [e2, hk, Nat.add_mul]; omega
    subst hj
    rw [ho] at k3
    have hlt : i * b.x.k + r < b.x.n * b.x.k := lt_cap hi hr (Nat.le_refl _)
    have h3 : ω g (o + b.i0 * b.x.k + (i * b.x.k + r)) = some (.row b.κ) := k3
    refine ⟨g, o + b.i0 * b.x.k, u, by simp only [aOf, hb, e1, shA]; rfl, k2, ?_, k4 ho, ?_⟩
    · simp only [qOf, h3, hf]
      rw [if_pos ⟨_, e1, by show o + _ ≤ _; omega, by rw [Nat.add_mul]; show _ < o + _; omega⟩]
    · unfold CellRel at k5
      rw [hg i r hi hr, ho] at k5
      refine CRel.mono (fun b' j' hz => q_fro hz) _ _ _ _ k5 (fun b' j' hs => ?_)
      have hs' : ω b' j' = some (.sub b.κ (b.i0 + i) r) := hs
      simp only [qOf, hs', hf]
      rw [if_pos (by omega), show b.i0 + i - b.i0 = i by omega]

theorem ent_ok (h : Rel1 F N σ a w ω β) (hbw : BwOk σ bs) {args : List Operand} (hp : (passVs σ bs (args.map σ.ev)).1) :
    Ent w (qOf ω β bs) (aOf β bs) (args.map a.eval).toArray (passVs σ bs (args.map σ.ev)).2 (bs.map (·.x)) := by
  refine ⟨by simp [passVs_len], fun i x hx => ?_, fun ρ x hx => ext_ok h hbw hx, fun b j x hx => ?_⟩
  · obtain ⟨v, h1, h2, h3⟩ := passVs_at σ bs _ i x hp hx
    rw [List.getElem?_map] at h1
    cases hi : args[i]? with
    | none => rw [hi] at h1; cases h1
    | some y =>
      rw [hi] at h1; injection h1 with h1; subst h1
      exact ⟨a.eval y, by simp [hi], by rw [h3]; exact passV_ok h hbw (h.ev y) h2 i⟩
  · obtain ⟨y, hy⟩ := q_some hx
    exact (h.wr b j y hy).1
end
end Go.Tr
namespace Go.Tr
open Go Go.RowKit

/-- No part of the tree lies in memory that is frozen. -/
def C.mine : C → Prop
  | .sl .fro _ _ _ _ => False
  | .sl .own _ k n row => ∀ i r, i < n → r < k → (row i r).mine
  | _ => True
theorem CRel.mine {w : World} {z z' : Nat → Nat → Prop} : ∀ (c : C) (f : Nat → Nat → Prop) (u : Value), c.mine → CRel w z c f u → CRel w z' c f u := by
  intro c
  induction c with
  | lit v => intro f u _ h; exact h
  | any => intro f u _ h; exact h
  | hole => intro f u _ h; exact h
  | sl o e k n row ih =>
    intro f u hm h
    cases o with
    | fro => exact hm.elim
    | own =>
      obtain ⟨A, c, hu, hn, hc, hr⟩ := h
      refine ⟨A, c, hu, hn, hc, ?_⟩
      rcases hr with h0 | ⟨g, cur, hA, hb, hs, hown, q, hq, hcells⟩
      · exact .inl h0
      · exact .inr ⟨g, cur, hA, hb, hs, hown, q, hq, fun i r hi hr => by
          obtain ⟨x, h1, h3⟩ := hcells i r hi hr
          exact ⟨x, h1, ih i r _ _ (hm i r hi hr) h3⟩⟩
def Ar.mine : Ar → Prop
  | .one c => c.mine
  | .agg l => ∀ c ∈ l, c.mine
def Xr.mine (x : Xr) : Prop := ∀ i r, i < x.n → r < x.k → (x.row i r).mine

def mixR (b : Bw) (R : Root) (x : Xr) : Root := { R with op := [], row := bif b.wh then x.row else fun i r => if b.i0 ≤ i ∧ i < b.i0 + b.x.n then x.row (i - b.i0) r else R.row i r }
/-- The roots as they come back. -/
def backs (σ : St) : List Bw → List Xr → List (Nat × Root)
  | b :: bs, x :: xs => (match σ.rt b.κ with | some R => (b.κ, mixR b R x) | none => (b.κ, ⟨.own, false, 0, 0, 0, x.row, []⟩)) :: backs σ bs xs
  | _, _ => []
def dimB (bs : List Bw) : At → At
  | .spot κ i r => match bwFind bs 0 κ with | some _ => .any | none => .spot κ i r
  | x => x
def St.back (σ : St) (bs : List Bw) (xs : List Xr) : St := match bs with
  | [] => σ
  | _ => { t := σ.t.map fun p => (p.1, p.2.map (dimB bs) none), r := backs σ bs xs ++ σ.r }

theorem look_backs (σ : St) : ∀ (bs : List Bw) (xs : List Xr) (ρ0 κ : Nat), xs.length = bs.length → look (backs σ bs xs ++ σ.r) κ =
    match bwFind bs ρ0 κ with
    | some (ρ, b) => (match xs[ρ - ρ0]? with | some x => some (match σ.rt b.κ with | some R => mixR b R x | none => ⟨.own, false, 0, 0, 0, x.row, []⟩) | none => none)
    | none => σ.rt κ
  | [], [], ρ0, κ, _ => rfl
  | [], _ :: _, _, _, h => by simp at h
  | _ :: _, [], _, _, h => by simp at h
  | b :: bs, x :: xs, ρ0, κ, h => by
    have ih := look_backs σ bs xs (ρ0 + 1) κ (by simpa using h)
    simp only [backs, List.cons_append, bwFind]
    have hkey : ∀ y : Nat × Root, y = (match σ.rt b.κ with | some R => (b.κ, mixR b R x) | none => (b.κ, ⟨.own, false, 0, 0, 0, x.row, []⟩)) → y.1 = b.κ ∧ y.2 = (match σ.rt b.κ with | some R => mixR b R x | none => ⟨.own, false, 0, 0, 0, x.row, []⟩) := by
      intro y hy; subst hy; cases σ.rt b.κ <;> exact ⟨rfl, rfl⟩
    generalize hy : (match σ.rt b.κ with | some R => (b.κ, mixR b R x) | none => (b.κ, (⟨.own, false, 0, 0, 0, x.row, []⟩ : Root))) = y
    obtain ⟨h1, h2⟩ := hkey y hy.symm
    obtain ⟨k, R'⟩ := y
    simp only at h1 h2
    subst h1 h2
    rw [look]
    by_cases e : b.κ = κ
    · rw [if_pos e.symm, if_pos e]
      simp
    · rw [if_neg (Ne.symm e), if_neg e, ih]
      cases hf : bwFind bs (ρ0 + 1) κ with
      | none => rfl
      | some p =>
        obtain ⟨ρ, c⟩ := p
        obtain ⟨_, j, hj, _⟩ := bwFind_at hf
        subst hj
        have e1 : ρ0 + 1 + j - (ρ0 + 1) = j := by omega
        have e2 : ρ0 + 1 + j - ρ0 = j + 1 := by omega
        simp only [e1, e2, List.getElem?_cons_succ]

section
variable {F : Fm} {N : Nat} {σ : St} {a : Act} {w : World} {ω : Om} {β : Nat → Bs} {bs : List Bw}

open Classical in
/-- The tags after the call. -/
noncomputable def oOf (w : World) (ω : Om) (bs : List Bw) (q q' : Qm) : Om := fun b j =>
  if Wof q b j ∨ w.heap.size ≤ b then
    match q' b j with
    | some (.cell ρ) => (match bs[ρ]? with | some x => some (.row x.κ) | none => none)
    | some (.ext ρ i r) => (match bs[ρ]? with | some x => some (.sub x.κ (x.i0 + i) r) | none => none)
    | _ => none
  else ω b j

theorem wof_tag {b j : Nat} (h : Wof (qOf ω β bs) b j) : ∃ x, ω b j = some x ∧ x ≠ .fro ∧ ∃ κ ρ y, bwFind bs 0 κ = some (ρ, y) ∧ ((x = .row κ ∧ (∃ a, (β κ).A = some a ∧ a.off + y.i0 * y.x.k ≤ j ∧ j < a.off + (y.i0 + y.x.n) * y.x.k)) ∨ ∃ i r, x = .sub κ i r ∧ y.i0 ≤ i ∧ i < y.i0 + y.x.n) := by
  obtain ⟨y, hy, hne⟩ := h
  obtain ⟨x, hx⟩ := q_some hy
  refine ⟨x, hx, ?_, ?_⟩
  · rintro rfl; rw [q_fro hx] at hy; injection hy with hy; exact hne hy.symm
  · cases x with
    | fro => rw [q_fro hx] at hy; injection hy with hy; exact absurd hy.symm hne
    | row κ =>
      simp only [qOf, hx] at hy
      cases hf : bwFind bs 0 κ with
      | none => rw [hf] at hy; injection hy with hy; exact absurd hy.symm hne
      | some p =>
        obtain ⟨ρ, c⟩ := p
        rw [hf] at hy
        dsimp only at hy
        split at hy
        · rename_i hi; exact ⟨κ, ρ, c, hf, .inl ⟨rfl, hi⟩⟩
        · injection hy with hy; exact absurd hy.symm hne
    | sub κ i r =>
      simp only [qOf, hx] at hy
      cases hf : bwFind bs 0 κ with
      | none => rw [hf] at hy; injection hy with hy; exact absurd hy.symm hne
      | some p =>
        obtain ⟨ρ, c⟩ := p
        rw [hf] at hy
        dsimp only at hy
        split at hy
        · rename_i hi; exact ⟨κ, ρ, c, hf, .inr ⟨i, r, rfl, hi.1, hi.2⟩⟩
        · injection hy with hy; exact absurd hy.symm hne
theorem not_wof {b j : Nat} {x : Wh} (hx : ω b j = some x) (hn : ∀ κ, (x = .row κ ∨ ∃ i r, x = .sub κ i r) → bwFind bs 0 κ = none) : ¬ Wof (qOf ω β bs) b j := by
  intro h
  obtain ⟨x', hx', _, κ, ρ, y, hf, h1⟩ := wof_tag h
  rw [hx] at hx'; injection hx' with hx'; subst hx'
  rcases h1 with ⟨rfl, _⟩ | ⟨i, r, rfl, _⟩
  · rw [hn κ (.inl rfl)] at hf; cases hf
  · rw [hn κ (.inr ⟨i, r, rfl⟩)] at hf; cases hf

theorem rt_back {ext : List Xr} (hl : ext.length = bs.length) (κ : Nat) : (σ.back bs ext).rt κ =
    match bwFind bs 0 κ with
    | some (ρ, b) => (match ext[ρ]? with | some x => some (match σ.rt b.κ with | some R => mixR b R x | none => ⟨.own, false, 0, 0, 0, x.row, []⟩) | none => none)
    | none => σ.rt κ := by
  cases bs with
  | nil => rfl
  | cons b bs => exact look_backs σ (b :: bs) ext 0 κ hl

theorem rt_back_none {ext : List Xr} (hl : ext.length = bs.length) {κ : Nat} (h : bwFind bs 0 κ = none) : (σ.back bs ext).rt κ = σ.rt κ := by rw [rt_back hl, h]
theorem rt_back_some (hbw : BwOk σ bs) {ext : List Xr} (hl : ext.length = bs.length) {κ ρ : Nat} {b : Bw} (h : bwFind bs 0 κ = some (ρ, b)) :
    b.κ = κ ∧ bs[ρ]? = some b ∧ ∃ R x, σ.rt κ = some R ∧ ext[ρ]? = some x ∧ (σ.back bs ext).rt κ = some (mixR b R x) := by
  obtain ⟨h1, j, h2, h3⟩ := bwFind_at h
  rw [Nat.zero_add] at h2; subst h2 h1
  obtain ⟨_, R, hR, _⟩ := hbw.at_ _ _ h3
  have hlt : ρ < ext.length := by rw [hl]; exact (List.getElem?_eq_some_iff.1 h3).1
  refine ⟨rfl, h3, R, ext[ρ], hR, List.getElem?_eq_getElem hlt, ?_⟩
  rw [rt_back hl, h]
  simp only [List.getElem?_eq_getElem hlt, hR]

theorem mix_get {b : Bw} {R : Root} {x : Xr} (i r : Nat) : (mixR b R x).get i r = .cl ((bif b.wh then x.row else fun i r => if b.i0 ≤ i ∧ i < b.i0 + b.x.n then x.row (i - b.i0) r else R.row i r) i r) := rfl

theorem Rel1.back (h : Rel1 F N σ a w ω β) (hbw : BwOk σ bs) {w' : World} {q' : Qm} {us : List Value} {outs : List Ar} {ext : List Xr} (hx : Exi w w' (qOf ω β bs) q' (aOf β bs) us outs ext)
    (hl : ext.length = bs.length) (hs : ∀ (ρ : Nat) (b : Bw) (x : Xr), bs[ρ]? = some b → ext[ρ]? = some x → x.k = b.x.k ∧ x.n = b.x.n ∧ x.mine) :
    Rel1 F N (σ.back bs ext) a w' (oOf w ω bs (qOf ω β bs) q') β := by
  have hm := hx.fr.mt
  have hkeep : ∀ b j x, ω b j = some x → ¬ Wof (qOf ω β bs) b j → oOf w ω bs (qOf ω β bs) q' b j = some x ∧ w'.cell? ⟨b, j, none⟩ = w.cell? ⟨b, j, none⟩ := by
    intro b j x hxx hn
    have hb := (h.wr b j x hxx).1
    refine ⟨?_, hx.fr.cell b j hb hn⟩
    unfold oOf
    rw [if_neg (by rintro (h1 | h1); exact hn h1; omega)]
    exact hxx
  have hcell : ∀ (b : Bw) (ρ κ : Nat), bwFind bs 0 κ = some (ρ, b) → ∀ g j, q' g j = some (.cell ρ) → oOf w ω bs (qOf ω β bs) q' g j = some (.row κ) := by
    intro b ρ κ hf g j hq
    obtain ⟨h1, h2, _⟩ := rt_back_some hbw hl hf
    unfold oOf
    rw [if_pos ((hx.lt g j _ hq).2.1 (by intro e; cases e)), hq]
    simp only [h2, h1]
  have hsub : ∀ (b : Bw) (ρ κ : Nat), bwFind bs 0 κ = some (ρ, b) → ∀ g j i r, q' g j = some (.ext ρ i r) → oOf w ω bs (qOf ω β bs) q' g j = some (.sub κ (b.i0 + i) r) := by
    intro b ρ κ hf g j i r hq
    obtain ⟨h1, h2, _⟩ := rt_back_some hbw hl hf
    unfold oOf
    rw [if_pos ((hx.lt g j _ hq).2.1 (by intro e; cases e)), hq]
    simp only [h2, h1]
  have hmine : ∀ κ R, σ.rt κ = some R → bwFind bs 0 κ = none → ∀ b j x, ω b j = some x → Mine R.o κ x → ¬ Wof (qOf ω β bs) b j := by
    intro κ R hR hf b j x hxx hmi
    refine not_wof hxx (fun κ' hk => ?_)
    have hv := hbw.vw κ R hR
    rcases hk with rfl | ⟨i, r, rfl⟩
    · obtain ⟨rfl, _⟩ := hmi; exact hf
    · rcases hmi with rfl | ho
      · exact hf
      · rw [ho] at hv; exact hv
  have href : ∀ {κ lo n u}, RefRel σ β κ lo n u → RefRel (σ.back bs ext) β κ lo n u := by
    rintro κ lo n u ⟨R, hR, k1⟩
    cases hf : bwFind bs 0 κ with
    | none => exact ⟨R, by rw [rt_back_none hl hf]; exact hR, k1⟩
    | some p =>
      obtain ⟨ρ, b⟩ := p
      obtain ⟨_, _, R', x, q1, _, q3⟩ := rt_back_some hbw hl hf
      rw [hR] at q1; injection q1 with q1; subst q1
      exact ⟨_, q3, k1.le (R' := mixR b R x) rfl (Nat.le_refl _)⟩
  have hA : ∀ x u, ARel σ β w x u → ARel (σ.back bs ext) β w' (dimB bs x) u := by
    intro x u hxu
    cases x with
    | any => exact hxu
    | lit v => exact hxu
    | nil e k => exact hxu
    | ref κ lo n => exact href hxu
    | spot κ i r =>
      have hone := ARel.one h hxu
      simp only [dimB]
      cases hf : bwFind bs 0 κ with
      | some p => exact hone
      | none =>
        obtain ⟨R, g, j, hR, hi, hr, hlv, ha, hc⟩ := hxu
        refine ⟨R, g, j, by rw [rt_back_none hl hf]; exact hR, hi, hr, hlv, ha, ?_⟩
        obtain ⟨g', j', u', ha', k2, k3, _⟩ := (h.roots κ R hR).cells i r hi hr hlv
        obtain ⟨o1, e1, e2⟩ := ha
        obtain ⟨o2, m1, m2⟩ := ha'
        rw [e1] at m1; injection m1 with m1; injection m1 with m3 m4 _
        subst m3 m4
        have hj : j' = j := by rw [e2, m2]
        subst hj
        obtain ⟨y, hy, hmi⟩ := k3.mine
        exact (hkeep _ _ _ hy (hmine κ R hR hf _ _ _ hy hmi)).2.trans hc
  have hP : ∀ κ R, σ.rt κ = some R → ∃ R', (σ.back bs ext).rt κ = some R' ∧ R'.k = R.k := by
    intro κ R hR
    cases hf : bwFind bs 0 κ with
    | none => exact ⟨R, by rw [rt_back_none hl hf]; exact hR, rfl⟩
    | some p =>
      obtain ⟨ρ, b⟩ := p
      obtain ⟨_, _, R', x, q1, _, q3⟩ := rt_back_some hbw hl hf
      rw [hR] at q1; injection q1 with q1; subst q1
      exact ⟨_, q3, rfl⟩
  refine ⟨h.tsz, h.dfr, fun t => ?_, fun κ R' hR' => ?_, fun b j x hxx => ?_, h.fr.step hx.fr (fun b j hw => ?_), fun b j hxx => ?_, fun ρ R' hρ hR' => ?_⟩
  · cases hbs : bs with
    | nil =>
      subst hbs
      exact VRel.same (fun x u hxu => by have := hA x u hxu; cases x <;> exact this) (fun κ R hR => ⟨rfl, hP κ R hR⟩) (h.tmps t)
    | cons b0 bs0 =>
      have : (σ.back (b0 :: bs0) ext).tv t = (σ.tv t).map (dimB (b0 :: bs0)) none := St.tv_map σ _ rfl t
      rw [this]
      rw [hbs] at hA hP
      exact VRel.map (fun x u hxu => hA x u hxu) (fun κ R _ hR => ⟨rfl, hP κ R hR⟩) (h.tmps t)
  · cases hf : bwFind bs 0 κ with
    | none =>
      rw [rt_back_none hl hf] at hR'
      exact (h.roots κ R' hR').upd (fun i r κ' lo n _ u hu => href hu) rfl hm (fun b j x hxx hmi => hkeep b j x hxx (hmine κ R' hR' hf b j x hxx hmi))
    | some p =>
      obtain ⟨ρ, b⟩ := p
      obtain ⟨q1, q2, R, x, hR, hxe, hrt⟩ := rt_back_some hbw hl hf
      rw [hrt] at hR'; injection hR' with hR'; subst hR'
      obtain ⟨_, R0, hR0, ho, hk, hn, hwh, hg⟩ := hbw.at_ _ _ q2
      rw [q1, hR] at hR0; injection hR0 with hR0; subst hR0
      obtain ⟨s1, s2, s3⟩ := hs ρ b x q2 hxe
      have hroot := h.roots κ R hR
      have hext := hx.ext ρ x hxe
      have hin : ∀ i r, b.i0 ≤ i → i < b.i0 + b.x.n → r < R.k → ∃ g o u, (β κ).A = some ⟨g, o, none⟩ ∧ w'.cell? ⟨g, o + (i * R.k + r), none⟩ = some u ∧ q' g (o + (i * R.k + r)) = some (.cell ρ) ∧ w'.frozen? ⟨g, o + (i * R.k + r), none⟩ = false ∧
          CRel w' (fun b j => q' b j = some .fro) (x.row (i - b.i0) r) (fun b' j => q' b' j = some (.ext ρ (i - b.i0) r)) u := by
        intro i r h1 h2 h3
        obtain ⟨g, o, u, e1, e2, e3, e4, e5⟩ := hext (i - b.i0) r (by omega) (by omega)
        simp only [aOf, q2, q1] at e1
        cases hbA : (β κ).A with
        | none => rw [hbA] at e1; cases e1
        | some a0 =>
          rw [hbA] at e1
          injection e1 with e1
          obtain ⟨g0, o0, sp⟩ := a0
          injection e1 with f1 f2 f3
          dsimp only at f1 f2 f3
          subst f1 f3
          have hadd : o + ((i - b.i0) * x.k + r) = o0 + (i * R.k + r) := by
            rw [s1, ← f2, ← hk]
            have : i * R.k = b.i0 * R.k + (i - b.i0) * R.k := by rw [← Nat.add_mul]; congr 1; omega
            omega
          rw [hadd] at e2 e3 e4
          exact ⟨g0, o0, u, rfl, e2, e3, e4, e5⟩
      refine ⟨fun i r hi hr _ => ?_, fun hfull => ?_⟩
      · change i < R.n at hi; change r < R.k at hr
        by_cases hr2 : b.i0 ≤ i ∧ i < b.i0 + b.x.n
        · obtain ⟨g, o, u, e1, e2, e3, e4, e5⟩ := hin i r hr2.1 hr2.2 hr
          refine ⟨g, o + (i * R.k + r), u, ⟨o, e1, rfl⟩, e2, ?_, fun _ => e4, ?_⟩
          · show Tg _ R.o κ g _
            rw [ho]; exact hcell b ρ κ hf g _ e3
          · have hget : (mixR b R x).get i r = .cl (x.row (i - b.i0) r) := by
              rw [mix_get]
              cases hw : b.wh with
              | true => rw [hw] at hwh; simp only [cond_true] at hwh ⊢; rw [show i - b.i0 = i by omega]
              | false => simp only [cond_false]; rw [if_pos hr2]
            unfold CellRel
            rw [hget]
            refine CRel.mine _ _ _ (s3 _ _ (by omega) (by omega)) (CRel.mono (fun _ _ h => h) _ _ _ _ e5 (fun b' j' hq => ?_))
            show Sr _ R.o κ i r b' j'
            rw [ho]
            have := hsub b ρ κ hf b' j' _ _ hq
            rw [show b.i0 + (i - b.i0) = i by omega] at this
            exact this
        · have hwf : b.wh = false := by
            cases hw : b.wh with
            | false => rfl
            | true => rw [hw] at hwh; simp only [cond_true] at hwh; omega
          rw [hwf] at hwh
          simp only [cond_false] at hwh
          obtain ⟨g, j, u, ⟨o, e1, e2⟩, k2, k3, k4, k5⟩ := hroot.cells i r hi hr rfl
          rw [ho] at k3
          have k3' : ω g j = some (.row κ) := k3
          have hnw : ¬ Wof (qOf ω β bs) g j := by
            intro hw
            obtain ⟨y, hy, _, κ', ρ', b', hf', hcase⟩ := wof_tag hw
            rw [k3'] at hy; injection hy with hy; subst hy
            rcases hcase with ⟨e, a0, ea, el, er⟩ | ⟨_, _, e, _⟩
            · injection e with e; subst e
              rw [hf] at hf'; injection hf' with hf'; injection hf' with _ hf'; subst hf'
              rw [e1] at ea; injection ea with ea; subst ea
              change o + _ ≤ j at el; change j < o + _ at er
              rw [← hk] at el er
              rw [e2] at el er
              apply hr2
              constructor
              · by_cases h1 : b.i0 ≤ i
                · exact h1
                · have : (i + 1) * R.k ≤ b.i0 * R.k := Nat.mul_le_mul_right _ (by omega)
                  rw [Nat.add_mul] at this; omega
              · by_cases h1 : i < b.i0 + b.x.n
                · exact h1
                · have : (b.i0 + b.x.n) * R.k ≤ i * R.k := Nat.mul_le_mul_right _ (by omega)
                  omega
            · cases e
          obtain ⟨t1, t2⟩ := hkeep _ _ _ k3' hnw
          refine ⟨g, j, u, ⟨o, e1, e2⟩, t2.trans k2, ?_, fun _ => (hm.frozen k2).trans (k4 ho), ?_⟩
          · show Tg _ R.o κ g _
            rw [ho]; exact t1
          · have hg1 : R.get i r = .cl (R.row i r) := by unfold Root.get; rw [hwh]; rfl
            have hget : (mixR b R x).get i r = .cl (R.row i r) := by
              rw [mix_get, hwf]
              simp only [cond_false]; rw [if_neg hr2]
            unfold CellRel at k5 ⊢
            rw [hg1] at k5
            rw [hget]
            have hz : ∀ b' j', ω b' j' = some .fro → ¬ Wof (qOf ω β bs) b' j' := fun b' j' hq => not_wof hq (fun κ' hk => by rcases hk with e | ⟨_, _, e⟩ <;> cases e)
            have hsb : ∀ b' j', ω b' j' = some (.sub κ i r) → ¬ Wof (qOf ω β bs) b' j' := by
              intro b' j' hq hw
              obtain ⟨y, hy, _, κ', ρ', b2, hf', hcase⟩ := wof_tag hw
              rw [hq] at hy; injection hy with hy; subst hy
              rcases hcase with ⟨e, _⟩ | ⟨i', r', e, el, er⟩
              · cases e
              · injection e with e0 e1 e2; subst e0 e1 e2
                rw [hf] at hf'; injection hf' with hf'; injection hf' with _ hf'; subst hf'
                exact hr2 ⟨el, er⟩
            show CRel w' (Zr _ R.o) (R.row i r) (Sr _ R.o κ i r) u
            rw [ho] at k5 ⊢
            exact CRel.mono (fun b' j' hq => (hkeep _ _ _ hq (hz _ _ hq)).1) _ _ _ _ (CRel.frame hm (fun b' j' hq => (hkeep _ _ _ hq (hz _ _ hq)).2) _ _ _ k5 (fun b' j' hq => (hkeep _ _ _ hq (hsb _ _ hq)).2)) (fun b' j' hq => (hkeep _ _ _ hq (hsb _ _ hq)).1)
      · obtain ⟨m0, m1, m2, m3, m4⟩ := hroot.full hfull
        refine ⟨fun _ _ _ _ => rfl, m1, m2, m3, ?_⟩
        rcases m4 with m4 | ⟨g, cur, n1, n2, n3, n4⟩
        · exact .inl m4
        · obtain ⟨cur', c1, c2⟩ := hm.blk _ _ _ _ n2
          refine .inr ⟨g, cur', n1, c1, c2.trans n3, fun j hj => ?_⟩
          by_cases hw : Wof (qOf ω β bs) g j
          · obtain ⟨y, hy, _, κ', ρ', b', hf', hcase⟩ := wof_tag hw
            rw [(n4 j hj).1] at hy; injection hy with hy; subst hy
            rcases hcase with ⟨e, a0, ea, el, er⟩ | ⟨_, _, e, _⟩
            · injection e with e; subst e
              rw [hf] at hf'; injection hf' with hf'; injection hf' with _ hf'; subst hf'
              rw [n1] at ea; injection ea with ea; subst ea
              change 0 + _ ≤ j at el; change j < 0 + _ at er
              rw [← hk, Nat.zero_add] at el er
              have hk0 : 0 < R.k := by
                rcases Nat.eq_zero_or_pos R.k with h0 | h0
                · rw [h0] at er; omega
                · exact h0
              have d1 : b.i0 ≤ j / R.k := (Nat.le_div_iff_mul_le hk0).2 el
              have d2 : j / R.k < b.i0 + b.x.n := (Nat.div_lt_iff_lt_mul hk0).2 er
              obtain ⟨g2, o2, u, e1, e2, e3, e4', e5'⟩ := hin (j / R.k) (j % R.k) d1 d2 (Nat.mod_lt _ hk0)
              rw [n1] at e1; injection e1 with e1; injection e1 with f1 f2 _
              subst f1 f2
              have : 0 + (j / R.k * R.k + j % R.k) = j := by rw [Nat.zero_add, Nat.mul_comm]; exact Nat.div_add_mod j R.k
              rw [this] at e3 e2
              exact ⟨hcell b ρ κ hf _ _ e3, ⟨u, e2, CRel.one e5'⟩⟩
            · cases e
          · exact ⟨(hkeep _ _ _ (n4 j hj).1 hw).1, (n4 j hj).2.eq (hkeep _ _ _ (n4 j hj).1 hw).2⟩
  · unfold oOf at hxx
    split at hxx
    · rename_i hc
      have hwf : ∀ y, q' b j = some y → y ≠ .fro → b < w'.heap.size ∧ (x ≠ .fro → F.W b j ∨ F.w0.heap.size ≤ b) := by
        intro y hy hne
        obtain ⟨l1, l2, _⟩ := hx.lt b j y hy
        refine ⟨l1, fun _ => ?_⟩
        rcases l2 hne with l2 | l2
        · obtain ⟨z, hz, hzn, _⟩ := wof_tag l2
          exact (h.wr b j z hz).2 hzn
        · have := h.fr.mt.size; exact .inr (by omega)
      split at hxx
      · rename_i hq; exact hwf _ hq (by intro e; cases e)
      · rename_i hq; exact hwf _ hq (by intro e; cases e)
      · cases hxx
    · obtain ⟨k1, k2⟩ := h.wr b j x hxx
      exact ⟨Nat.lt_of_lt_of_le k1 hm.size, k2⟩
  · obtain ⟨z, hz, hzn, _⟩ := wof_tag hw
    exact (h.wr b j z hz).2 hzn
  · unfold oOf at hxx
    split at hxx
    · split at hxx
      · split at hxx <;> cases hxx
      · split at hxx <;> cases hxx
      · cases hxx
    · exact h.fz b j hxx
  · cases hf : bwFind bs 0 (1000000 + ρ) with
    | none => rw [rt_back_none hl hf] at hR'; exact h.ex ρ R' hρ hR'
    | some p =>
      obtain ⟨ρ', b⟩ := p
      obtain ⟨_, _, R, x, hR, _⟩ := rt_back_some hbw hl hf
      exact h.ex ρ R hρ hR
end
end Go.Tr
namespace Go.Tr
open Go Go.RowKit

def layOut (σ : St) (c : Nat) : Ar → St × V × Nat
  | .one x => ((addCells [.c x] σ c).1, .a ((addCells [.c x] σ c).2.1.headD .any), (addCells [.c x] σ c).2.2)
  | .agg xs => ((addCells (xs.map .c) σ c).1, .agg (addCells (xs.map .c) σ c).2.1, (addCells (xs.map .c) σ c).2.2)
def layOuts : List Ar → St → Nat → St × List V
  | [], σ, _ => (σ, [])
  | x :: l, σ, c => ((layOuts l (layOut σ c x).1 (layOut σ c x).2.2).1, (layOut σ c x).2.1 :: (layOuts l (layOut σ c x).1 (layOut σ c x).2.2).2)
def cnt : Ar → Nat
  | .one _ => 1
  | .agg l => l.length
def cnts : List Ar → Nat
  | [] => 0
  | x :: l => cnt x + cnts l
theorem addCells_top : ∀ (l : List Aa) (σ : St) (c : Nat), (addCells l σ c).2.2 ≤ c + l.length
  | [], _, _ => Nat.le_refl _
  | .h _ _ :: l, σ, c => by have := addCells_top l σ c; simp only [addCells, List.length_cons]; omega
  | .c (.lit _) :: l, σ, c => by have := addCells_top l σ c; simp only [addCells, List.length_cons]; omega
  | .c .any :: l, σ, c => by have := addCells_top l σ c; simp only [addCells, List.length_cons]; omega
  | .c .hole :: l, σ, c => by have := addCells_top l σ c; simp only [addCells, List.length_cons]; omega
  | .c (.sl o e k n row) :: l, σ, c => by have := addCells_top l (σ.setR c (openR o e k n row)) (c + 1); simp only [addCells, List.length_cons]; omega
theorem layOut_top (σ : St) (c : Nat) (x : Ar) : (layOut σ c x).2.2 ≤ c + cnt x := by
  cases x with
  | one x => exact addCells_top [.c x] σ c
  | agg xs => have := addCells_top (xs.map .c) σ c; simpa [cnt, layOut] using this
def tupV : List V → V
  | [v] => v
  | vs => .tup vs
/-- No root has a key from a to b. -/
def freeIn (a b : Nat) : List (Nat × Root) → Bool
  | [] => true
  | p :: l => (Nat.blt p.1 a || Nat.ble b p.1) && freeIn a b l
theorem look_free {a b : Nat} : ∀ {l : List (Nat × Root)} {κ : Nat}, freeIn a b l = true → a ≤ κ → κ < b → look l κ = none
  | [], _, _, _, _ => rfl
  | p :: l, κ, h, h1, h2 => by
    simp only [freeIn, Bool.and_eq_true, Bool.or_eq_true, Nat.blt_eq, Nat.ble_eq] at h
    rw [look, if_neg (by omega)]
    exact look_free h.2 h1 h2

def flatV : V → Bool
  | .a _ => true
  | .agg _ => true
  | _ => false
theorem VRel.zero {σ : St} {β : Nat → Bs} {w : World} {v : V} {u : Value} (hf : flatV v = true) (h : VRel σ β w v u) : VRel0 σ β w v u := by
  cases v with
  | a x => exact h
  | agg l => exact h
  | any => cases hf
  | ptr _ _ _ => cases hf
  | tup _ => cases hf
theorem VRel.ofZero {σ : St} {β : Nat → Bs} {w : World} {v : V} {u : Value} (hf : flatV v = true) (h : VRel0 σ β w v u) : VRel σ β w v u := by
  cases v with
  | a x => exact h
  | agg l => exact h
  | any => cases hf
  | ptr _ _ _ => cases hf
  | tup _ => cases hf

theorem Kp.vrel {σ σ' : St} {β β' : Nat → Bs} {w : World} (h : Kp σ σ' β β') {v : V} {u : Value} (hf : flatV v = true) (hv : VRel σ β w v u) : VRel σ' β' w v u :=
  VRel.same (fun x u hx => h.arel hx) (fun κ R hR => ⟨(h.rt κ R hR).1, R, (h.rt κ R hR).2, rfl⟩) hv
theorem Kp.refl (σ : St) (β : Nat → Bs) : Kp σ σ β β := ⟨fun _ _ h => ⟨rfl, h⟩⟩
theorem Kp.trans {σ σ' σ'' : St} {β β' β'' : Nat → Bs} (h : Kp σ σ' β β') (k : Kp σ' σ'' β' β'') : Kp σ σ'' β β'' := ⟨fun κ R hR => by
  obtain ⟨e1, e2⟩ := h.rt κ R hR
  obtain ⟨e3, e4⟩ := k.rt κ R e2
  exact ⟨e3.trans e1, e4⟩⟩

section
variable {F : Fm} {N : Nat} {a : Act} {w : World} {q : Qm}

theorem layOut_ok {nx : Nat} (hnx : 1000000 + F.nE ≤ nx) (hq : ∀ b j y, q b j = some y → y ≠ .fro → b < w.heap.size ∧ (F.W b j ∨ F.w0.heap.size ≤ b)) {i : Nat} {x : Ar} {u : Value} (hx : ArRel w q i x u)
    {σ : St} {ω : Om} {β : Nat → Bs} {c top : Nat} {done : Wq → Prop} (h : Inv F N σ a w q ω β c top done) (hc : nx ≤ c) (ht : c + cnt x ≤ top) (hnd : ∀ j, ¬ done (.arg i j)) :
    ∃ ω' β', Inv F N (layOut σ c x).1 a w q ω' β' (layOut σ c x).2.2 top (fun y => done y ∨ ∃ j, y = .arg i j) ∧ Kp σ (layOut σ c x).1 β β' ∧ flatV (layOut σ c x).2.1 = true ∧ VRel (layOut σ c x).1 β' w (layOut σ c x).2.1 u ∧ c ≤ (layOut σ c x).2.2 := by
  have hgrow : ∀ {n : Nat} {σ' : St} {ω' : Om} {β' : Nat → Bs} {c' : Nat}, Inv F N σ' a w q ω' β' c' top (fun y => done y ∨ ∃ j, 0 ≤ j ∧ j < 0 + n ∧ y = .arg i j) → Inv F N σ' a w q ω' β' c' top (fun y => done y ∨ ∃ j, y = .arg i j) := by
    intro n σ' ω' β' c' hh
    exact ⟨hh.rel, hh.fresh, fun b j y h1 h2 h3 => hh.un b j y h1 h2 (fun hd => h3 (by rcases hd with hd | ⟨j, _, _, hd⟩; exact .inl hd; exact .inr ⟨j, hd⟩)), hh.fro⟩
  cases x with
  | one x =>
    obtain ⟨ω', β', k1, k2, k3, k4⟩ := addCells_ok (A := fun _ => ⟨none, 0⟩) hnx hq [.c x] (i := i) (j0 := 0) (ys := [u]) h hc (.inr ht) (fun j _ => hnd j) rfl (fun j x' y' hx' hy' => by
      cases j with
      | zero => injection hx' with hx'; injection hy' with hy'; subst hx' hy'; exact hx
      | succ j => simp at hx') (fun ρ n hm => by simp at hm)
    refine ⟨ω', β', hgrow k1, k2, rfl, ?_, addCells_le _ _ _⟩
    show VRel (addCells [.c x] σ c).1 β' w (.a ((addCells [.c x] σ c).2.1.headD .any)) u
    cases hq : (addCells [.c x] σ c).2.1 with
    | nil => rw [hq] at k3; simp at k3
    | cons y ys => exact k4 0 y _ (by rw [hq]; rfl) rfl
  | agg xs =>
    obtain ⟨us, e1, e2, e3⟩ := hx
    obtain ⟨ω', β', k1, k2, k3, k4⟩ := addCells_ok (A := fun _ => ⟨none, 0⟩) hnx hq (xs.map .c) (i := i) (j0 := 0) (ys := us.toList) h hc (.inr (by simpa [cnt] using ht)) (fun j _ => hnd j) (by simpa using e2) (fun j x' y' hx' hy' => by
      rw [List.getElem?_map] at hx'
      cases hj : xs[j]? with
      | none => rw [hj] at hx'; cases hx'
      | some z =>
        rw [hj] at hx'; injection hx' with hx'; subst hx'
        obtain ⟨y, m1, m2⟩ := e3 j z hj
        rw [Array.getElem?_toList, m1] at hy'
        injection hy' with hy'; subst hy'
        rw [Nat.zero_add]; exact m2) (fun ρ n hm => by simp at hm)
    refine ⟨ω', β', hgrow k1, k2, rfl, ?_, addCells_le _ _ _⟩
    refine ⟨us, e1, by show us.size = (addCells (xs.map .c) σ c).2.1.length; rw [k3]; simpa using e2, fun j x hj => ?_⟩
    change (addCells (xs.map .c) σ c).2.1[j]? = some x at hj
    have hjl : j < us.size := by
      have := (List.getElem?_eq_some_iff.1 hj).1
      rw [k3, List.length_map] at this; omega
    exact ⟨us[j], Array.getElem?_eq_getElem hjl, k4 j x _ hj (by rw [Array.getElem?_toList]; exact Array.getElem?_eq_getElem hjl)⟩

theorem layOuts_ok {nx : Nat} (hnx : 1000000 + F.nE ≤ nx) (hq : ∀ b j y, q b j = some y → y ≠ .fro → b < w.heap.size ∧ (F.W b j ∨ F.w0.heap.size ≤ b)) :
    ∀ (outs : List Ar) (us : List Value) {i : Nat} {σ : St} {ω : Om} {β : Nat → Bs} {c top : Nat} {done : Wq → Prop} (_ : Inv F N σ a w q ω β c top done) (_ : nx ≤ c) (_ : c + cnts outs ≤ top) (_ : ∀ i' j, i ≤ i' → ¬ done (.arg i' j)) (_ : us.length = outs.length)
      (_ : ∀ (k : Nat) (x : Ar), outs[k]? = some x → ∃ u, us[k]? = some u ∧ ArRel w q (i + k) x u),
      ∃ ω' β', Rel1 F N (layOuts outs σ c).1 a w ω' β' ∧ Kp σ (layOuts outs σ c).1 β β' ∧ (layOuts outs σ c).2.length = us.length ∧ ∀ (k : Nat) (v : V), (layOuts outs σ c).2[k]? = some v → flatV v = true ∧ ∃ u, us[k]? = some u ∧ VRel (layOuts outs σ c).1 β' w v u
  | [], us, i, σ, ω, β, c, top, done, h, _, _, _, hl, _ => ⟨ω, β, h.rel, Kp.refl _ _, hl.symm, fun k v hv => by simp [layOuts] at hv⟩
  | x :: outs, us, i, σ, ω, β, c, top, done, h, hc, htop, hnd, hl, hx => by
    cases us with
    | nil => simp at hl
    | cons u us =>
    obtain ⟨u', hu', hx0⟩ := hx 0 x rfl
    injection hu' with hu'; subst hu'
    obtain ⟨ω1, β1, k1, k2, k3, k4, k5⟩ := layOut_ok hnx hq hx0 h hc (by simp only [cnts] at htop; omega) (fun j => hnd _ j (Nat.le_refl _))
    obtain ⟨ω2, β2, m1, m2, m3, m4⟩ := layOuts_ok hnx hq outs us (i := i + 1) k1 (by omega) (by have := layOut_top σ c x; simp only [cnts] at htop; omega) (fun i' j hi hd => by
      rcases hd with hd | ⟨j', hd⟩
      · exact hnd i' j (by omega) hd
      · injection hd with hd; omega) (by simpa using hl) (fun k x' hk => by
      have := hx (k + 1) x' hk
      rwa [show i + (k + 1) = i + 1 + k by omega] at this)
    refine ⟨ω2, β2, m1, k2.trans m2, by simp [layOuts, m3], fun k v hv => ?_⟩
    cases k with
    | zero => injection hv with hv; subst hv; exact ⟨k3, u, rfl, m2.vrel k3 k4⟩
    | succ k => exact m4 k v hv
end

section
variable {P : Program} {F : Fm} {N : Nat} {Q : Exit → St → Prop} {σ : St} {ops : Array Oper} {o : Oper} {rest : List Oper}

theorem run_call {a : Act} {w : World} {f : FuncId} {fn : Func} {args : Array Operand} {ats : Array TypeId} (hop : o.op = .call { callee := .value (.func f), args, argTypes := ats })
    (hf : P.funcs[f]? = some fn) (hname : (fn.name == "runtime.NumGoroutine") = false) (hb : fn.body.isNone = false) : (execOp a.eval o).run P w = .ok (.enter f (args.map a.eval)) w := by
  have h1 : ¬ fn.name = "runtime.NumGoroutine" := by simpa using hname
  have h2 : ¬ fn.body = none := by cases hx : fn.body <;> simp_all
  unfold execOp
  simp [hop, resolve, Deferred.ofValue, invoke, callFunc, hf, h1, h2, Act.eval]

/-- A call of a function whose contract is known. -/
theorem AL.call {f : FuncId} {fn : Func} {args : Array Operand} {ats : Array TypeId} {Post : List Ar → List Xr → Prop} (bs : List Bw) (hop : o.op = .call { callee := .value (.func f), args, argTypes := ats }) (hg : o.guard = none) (hd : okD N o.dst = true)
    (hf : P.funcs[f]? = some fn) (hname : (fn.name == "runtime.NumGoroutine") = false) (hb : fn.body.isNone = false) (hrun : Run P f (passVs σ bs (args.toList.map σ.ev)).2 (bs.map (·.x)) Post) (hp : (passVs σ bs (args.toList.map σ.ev)).1)
    (hbw : BwOk σ bs) (hE : F.nE ≤ 1000000) (c : Nat) (hc : 2000000 ≤ c) (hfree : freeIn c (c + 100) σ.r = true)
    (k : ∀ outs ext, Post outs ext → ext.length = bs.length ∧ (∀ (ρ : Nat) (b : Bw) (x : Xr), bs[ρ]? = some b → ext[ρ]? = some x → x.k = b.x.k ∧ x.n = b.x.n ∧ x.mine) ∧ (∀ x ∈ outs, x.mine) ∧ cnts outs ≤ 100 ∧
      AL P F N ops Q rest ((layOuts outs (σ.back bs ext) c).1.putO o.dst (tupV (layOuts outs (σ.back bs ext) c).2))) : AL P F N ops Q (o :: rest) σ := by
  intro a w hr
  obtain ⟨ω, β, h⟩ := hr
  have hent := ent_ok h hbw hp
  refine wpList_plain hg fun K hK => ?_
  unfold Oper.wp
  rw [run_call hop hf hname hb, Oper.upon_enter]
  have hargs : args.map a.eval = (args.toList.map a.eval).toArray := by apply Array.ext'; rw [Array.toList_map]
  rw [hargs]
  refine (hrun w _ _ _ hent).mono fun e w' he => ?_
  obtain ⟨us, outs, ext, q', rfl, hpost, hx⟩ := he
  obtain ⟨hl, hs, hm, hct, hk⟩ := k outs ext hpost
  have hback := h.back hbw hx hl hs
  let q2 : Qm := fun b j => match q' b j with | some .fro => none | y => y
  have hq2 : ∀ b j y, q2 b j = some y ↔ (q' b j = some y ∧ y ≠ .fro) := by
    intro b j y
    show (match q' b j with | some .fro => none | y => y) = some y ↔ _
    cases hq : q' b j with
    | none => simp
    | some z =>
      cases z <;> simp <;> (rintro rfl; simp)
  have hqb : ∀ b j y, q2 b j = some y → y ≠ .fro → b < w'.heap.size ∧ (F.W b j ∨ F.w0.heap.size ≤ b) := by
    intro b j y hy hne
    obtain ⟨l1, l2, _⟩ := hx.lt b j y ((hq2 b j y).1 hy).1
    refine ⟨l1, ?_⟩
    rcases l2 hne with l2 | l2
    · obtain ⟨z, hz, hzn, _⟩ := wof_tag l2
      exact (h.wr b j z hz).2 hzn
    · have := h.fr.mt.size; exact .inr (by omega)
  have hfresh : ∀ κ, c ≤ κ → κ < c + 100 → (σ.back bs ext).rt κ = none := by
    intro κ hκ hκ2
    cases hfd : bwFind bs 0 κ with
    | none => rw [rt_back_none hl hfd]; exact look_free hfree hκ hκ2
    | some p =>
      obtain ⟨ρ, b⟩ := p
      obtain ⟨_, _, R, _, hR, _⟩ := rt_back_some hbw hl hfd
      have := look_free hfree hκ hκ2
      rw [show look σ.r κ = some R from hR] at this; cases this
  have hinv : Inv F N (σ.back bs ext) a w' q2 (oOf w ω bs (qOf ω β bs) q') β c (c + 100) (fun y => ∃ ρ, y = .cell ρ ∨ ∃ i r, y = .ext ρ i r) := by
    refine ⟨hback, fun κ hκ hκ2 => hfresh κ hκ (by omega), fun b j y h1 h2 h3 => ?_, fun b j hq => absurd rfl ((hq2 b j _).1 hq).2⟩
    have hq := ((hq2 b j y).1 h1).1
    unfold oOf
    rw [if_pos ((hx.lt b j y hq).2.1 h2), hq]
    cases y with
    | arg i r => rfl
    | ext ρ i r => exact absurd ⟨ρ, .inr ⟨i, r, rfl⟩⟩ h3
    | cell ρ => exact absurd ⟨ρ, .inl rfl⟩ h3
    | fro => exact absurd rfl h2
  obtain ⟨ω', β', k1, k2, k3, k4⟩ := layOuts_ok (nx := 1000000 + F.nE) (Nat.le_refl _) hqb outs us (i := 0) hinv (by omega) (by omega) (fun i' j _ hd => by
      obtain ⟨ρ, hd⟩ := hd
      rcases hd with hd | ⟨_, _, hd⟩ <;> cases hd) hx.size (fun j x hj => by
      obtain ⟨u, e1, e2⟩ := hx.outs j x hj
      have hmx := hm x (List.mem_of_getElem? hj)
      refine ⟨u, e1, ?_⟩
      rw [Nat.zero_add]
      cases x with
      | one c => exact CRel.mine _ _ _ hmx (CRel.mono (fun _ _ h => h) _ _ _ _ e2 (fun b j hh => (hq2 b j _).2 ⟨hh, by intro e; cases e⟩))
      | agg l =>
        obtain ⟨ys, f1, f2, f3⟩ := e2
        refine ⟨ys, f1, f2, fun j' c hc => ?_⟩
        obtain ⟨y, g1, g2⟩ := f3 j' c hc
        exact ⟨y, g1, CRel.mine _ _ _ (hmx c (List.mem_of_getElem? hc)) (CRel.mono (fun _ _ h => h) _ _ _ _ g2 (fun b j hh => (hq2 b j _).2 ⟨hh, by intro e; cases e⟩))⟩)
  refine hK _ _ (hk _ _ ⟨ω', β', k1.putO hd ?_⟩)
  generalize (layOuts outs (σ.back bs ext) c).2 = vs at k3 k4 ⊢
  match vs, us, k3, k4 with
  | [], [], _, _ => exact ⟨#[], rfl, rfl, fun j x hj => by simp at hj⟩
  | [v], [u], _, k4 =>
    obtain ⟨_, u', hu, hv⟩ := k4 0 v rfl
    injection hu with hu; subst hu; exact hv
  | v :: v2 :: vs, u :: u2 :: us, k3, k4 =>
    refine ⟨(u :: u2 :: us).toArray, rfl, by simpa using k3.symm, fun j x hj => ?_⟩
    obtain ⟨hfl, y, hy, hv⟩ := k4 j x hj
    exact ⟨y, by simpa using hy, hv.zero hfl⟩
end
end Go.Tr
