/- The builtin copy. -/
import Derived.Test.YtjlphbhmjicdhaaTrc
import Derived.Orders
import Derived.RegionTactic
import Derived.Laws.IdiomCopy
set_option linter.unusedVariables false
set_option linter.unusedSimpArgs false
namespace Go.Tr
open Go Go.RowKit

def flatA : C → At
  | .lit v => .lit v
  | _ => .any
theorem flatA_cl (c : C) : (flatA c).cl = .cl (flat c) := by cases c <;> rfl
theorem dim_dim (κ : Nat) (x : At) : dimA κ (dimA κ x) = dimA κ x := by
  cases x with
  | spot κ' i r =>
    by_cases h : κ' = κ
    · simp [dimA, h]
    · simp [dimA, h]
  | _ => rfl
theorem map0_dim (κ : Nat) (v : V) : V.map0 (dimA κ) none (V.map0 (dimA κ) none v) = V.map0 (dimA κ) none v := by
  cases v with
  | a x => simp [V.map0, dim_dim]
  | agg l => simp [V.map0, dim_dim]
  | ptr _ _ _ => simp [V.map0]
  | _ => rfl
theorem map_dim (κ : Nat) (v : V) : V.map (dimA κ) none (V.map (dimA κ) none v) = V.map (dimA κ) none v := by
  cases v with
  | tup l => simp [V.map, map0_dim]
  | a x => simp [V.map, V.map0, dim_dim]
  | agg l => simp [V.map, V.map0, dim_dim]
  | ptr _ _ _ => simp [V.map, V.map0]
  | any => rfl
theorem setCells_append (b : Nat) : ∀ (xs ys : List Value) (o : Nat) (w : World), w.setCells b o (xs ++ ys) = (w.setCells b o xs).setCells b (o + xs.length) ys
  | [], ys, o, w => by simp [World.setCells]
  | x :: xs, ys, o, w => by
    simp only [List.cons_append, World.setCells, List.length_cons]
    rw [setCells_append b xs ys, show o + 1 + xs.length = o + (xs.length + 1) by omega]

theorem wrL_same (i : Nat) : ∀ (l : List Cl) (R : Root) (r : Nat), (R.wrL i r l).o = R.o ∧ (R.wrL i r l).full = R.full ∧ (R.wrL i r l).e = R.e ∧ (R.wrL i r l).k = R.k ∧ (R.wrL i r l).n = R.n
  | [], _, _ => ⟨rfl, rfl, rfl, rfl, rfl⟩
  | x :: l, R, r => wrL_same i l { R with op := ((i, r), x) :: R.op } (r + 1)

/-- A row whose first m elements have been written over. -/
def cpyR (R S : Root) (lo m : Nat) : Root := { R with op := [], row := fun q r => if q < m then flat (S.row (lo + q) r) else R.row q r }
def St.cpy (σ : St) (κ : Nat) (R S : Root) (lo m : Nat) : St := { t := σ.t.map fun p => (p.1, p.2.map (dimA κ) none), r := (κ, cpyR R S lo m) :: σ.r }

section
variable {P : Program} {F : Fm} {N : Nat} {Q : Exit → St → Prop} {σ : St} {ops : Array Oper} {o : Oper} {rest : List Oper} {a : Act} {w : World} {ω : Om} {β : Nat → Bs}

theorem ARel.flat_any {σ' : St} {w' : World} {c : C} {u : Value} (h : ARel σ β w (flatA c) u) : ARel σ' β w' (flatA c) u := by cases c <;> exact h

theorem Rel1.copy0 {κ : Nat} {R S : Root} {lo : Nat} (h : Rel1 F N σ a w ω β) (hR : σ.rt κ = some R) (hop : R.op = []) : Rel1 F N (σ.cpy κ R S lo 0) a w ω β := by
  show Rel1 F N (σ.cpy κ R S lo 0) a w ω β
  have h1 : Rel1 F N { t := σ.t.map fun p => (p.1, p.2.map (dimA κ) none), r := σ.r } a w ω β := by
    refine ⟨h.tsz, h.dfr, fun t => ?_, fun κ' R' hR' => (h.roots κ' R' hR').upd (fun _ _ _ _ _ _ _ h => h) rfl (Meta.refl w) (fun _ _ _ hx _ => ⟨hx, rfl⟩), h.wr, h.fr, h.fz, h.ex⟩
    show VRel _ _ _ ((look (σ.t.map fun p => (p.1, p.2.map (dimA κ) none)) t).getD .any) _
    rw [St.tv_map σ _ rfl]
    refine VRel.map (fun x u hx => ?_) (fun κ' R _ hR => ⟨rfl, R, hR, rfl⟩) (h.tmps t)
    cases x with
    | spot κ' i r =>
      show ARel _ _ _ (if κ' = κ then .any else .spot κ' i r) u
      split
      · exact ARel.one h (show ARel σ β w (.spot κ' i r) u from hx)
      · exact hx
    | _ => exact hx
  exact h1.conv (R' := cpyR R S lo 0) (show σ.rt κ = some R from hR) rfl (fun hf => ⟨hf, rfl⟩) rfl rfl (fun i r hi hr => by
    have e1 : (cpyR R S lo 0).row i r = R.row i r := by show (if i < 0 then flat (S.row (lo + i) r) else R.row i r) = _; exact if_neg (by omega)
    unfold Root.get; rw [hop]; show Cl.cl ((cpyR R S lo 0).row i r) = Cl.cl (R.row i r); rw [e1])

theorem Rel1.copy {κ g o' : Nat} {R S : Root} {lo : Nat} (h : Rel1 F N σ a w ω β) (hR : σ.rt κ = some R) (ho : R.o = .own) (hop : R.op = []) (hA : (β κ).A = some ⟨g, o', none⟩) :
    ∀ (m : Nat) (us : List Value), m ≤ R.n → us.length = m * R.k → (∀ i r, i < m → r < R.k → ∃ u, us[i * R.k + r]? = some u ∧ ARel σ β w (flatA (S.row (lo + i) r)) u ∧ u.oneCell' = true) →
      (∀ q, q < m * R.k → (w.cell? ⟨g, o' + q, none⟩).isSome = true ∧ w.frozen? ⟨g, o' + q, none⟩ = false) ∧ Rel1 F N (σ.cpy κ R S lo m) a (w.setCells g o' us) ω β
  | 0, us, hm, hl, hu => by
    have : us = [] := List.eq_nil_of_length_eq_zero (by simpa using hl)
    subst this
    refine ⟨fun q hq => by omega, ?_⟩
    exact h.copy0 hR hop
  | m + 1, us, hm, hl, hu => by
    have hk : (m + 1) * R.k = m * R.k + R.k := by rw [Nat.add_mul]; omega
    obtain ⟨c1, h1⟩ := Rel1.copy h hR ho hop hA m (us.take (m * R.k)) (by omega) (by rw [List.length_take, hl, hk]; omega) (fun i r hi hr => by
      obtain ⟨u, e1, e2⟩ := hu i r (by omega) hr
      have := lt_cap (k := R.k) hi hr (Nat.le_refl m)
      exact ⟨u, by rw [List.getElem?_take, if_pos this]; exact e1, e2⟩)
    have hsplit : us = us.take (m * R.k) ++ us.drop (m * R.k) := (List.take_append_drop _ _).symm
    have hlen : (us.take (m * R.k)).length = m * R.k := by rw [List.length_take, hl, hk]; omega
    have hw : w.setCells g o' us = (w.setCells g o' (us.take (m * R.k))).setCells g (o' + m * R.k) (us.drop (m * R.k)) := by
      conv => lhs; rw [hsplit]
      rw [setCells_append, hlen]
    have hrt : (σ.cpy κ R S lo m).rt κ = some (cpyR R S lo m) := by show (if κ = κ then _ else _) = _; rw [if_pos rfl]
    obtain ⟨c2, h2⟩ := Rel1.storeL ((List.range R.k).map fun r => flatA (S.row (lo + m) r)) (us.drop (m * R.k)) h1 (κ := κ) hrt ho (i := m) (r := 0) (show m < R.n by omega) (by simp [cpyR]) (fun _ _ => rfl) (by simp [hl, hk]) (fun q x u hx hu' => by
      rw [List.getElem?_map] at hx
      by_cases hq : q < R.k
      · rw [List.getElem?_range hq] at hx
        injection hx with hx; subst hx
        obtain ⟨u2, e1, e2, e3⟩ := hu m q (by omega) hq
        rw [List.getElem?_drop, e1] at hu'
        injection hu' with hu'; subst hu'
        exact ⟨e2.flat_any, e3⟩
      · rw [List.getElem?_eq_none (by simpa using hq)] at hx; cases hx) (g := g) (j := o' + m * R.k) ⟨o', hA, by show _ = o' + (m * R.k + 0); omega⟩
    rw [← hw] at h2
    refine ⟨fun q hq => ?_, ?_⟩
    · by_cases hq2 : q < m * R.k
      · exact c1 q hq2
      · have := c2 (q - m * R.k) (by simp; omega)
        rw [show o' + m * R.k + (q - m * R.k) = o' + q by omega] at this
        rw [World.frozen?_setCells, World.cell?_setCells_out _ _ _ _ _ (fun _ _ => .inr (by rw [hlen]; show o' + m * R.k ≤ o' + q; omega))] at this
        exact this
    · have h3 := h2.conv (κ := κ) (R := (cpyR R S lo m).wrL m 0 (((List.range R.k).map fun r => flatA (S.row (lo + m) r)).map At.cl)) (R' := cpyR R S lo (m + 1)) (by show (if κ = κ then _ else _) = _; rw [if_pos rfl]) ?_ ?_ ?_ ?_ ?_
      · refine h3.ext (fun t => ?_) (fun κ' => ?_)
        · show (look (σ.t.map fun p => (p.1, p.2.map (dimA κ) none)) t).getD .any = (look ((σ.t.map fun p => (p.1, p.2.map (dimA κ) none)).map fun p => (p.1, p.2.map (dimA κ) none)) t).getD .any
          rw [look_map, look_map, look_map]
          cases look σ.t t with
          | none => rfl
          | some v => exact (map_dim κ v).symm
        · show (if κ' = κ then some (cpyR R S lo (m + 1)) else σ.rt κ') = (if κ' = κ then some (cpyR R S lo (m + 1)) else if κ' = κ then _ else if κ' = κ then _ else σ.rt κ')
          split
          · rfl
          · rename_i e; simp [e]
      · exact (wrL_same m _ (cpyR R S lo m) 0).1.symm
      · intro hf
        exact ⟨(wrL_same m _ (cpyR R S lo m) 0).2.1.trans hf, (wrL_same m _ (cpyR R S lo m) 0).2.2.1.symm⟩
      · exact (wrL_same m _ (cpyR R S lo m) 0).2.2.2.1.symm
      · exact (wrL_same m _ (cpyR R S lo m) 0).2.2.2.2.symm
      · intro i r hi hr
        rw [(wrL_same m _ (cpyR R S lo m) 0).2.2.2.1] at hr
        change r < R.k at hr
        by_cases e : i = m
        · subst e
          rw [get_wrL_eq _ _ _ ⟨Nat.zero_le _, by simpa using hr⟩]
          show Cl.cl (if i < i + 1 then flat (S.row (lo + i) r) else _) = _
          rw [if_pos (by omega)]
          simp [hr, flatA_cl]
        · rw [get_wrL_ne e]
          show Cl.cl (if i < m + 1 then _ else _) = Cl.cl (if i < m then _ else _)
          by_cases h2 : i < m
          · rw [if_pos (by omega), if_pos h2]
          · rw [if_neg (by omega), if_neg h2]

theorem run_copy_rows (w : World) (dT ty elem k b o dLen dCap : Nat) (sA : Option Addr) (sLen sCap m : Nat) (cs : List Value) (d : Option Addr) (hd : 0 < m → d = some ⟨b, o, none⟩) (hs0 : 0 < m → ∃ x, sA = some x)
    (hu : P.underlying dT = some (.slice elem)) (hs : (P.info? elem).map (·.size) = some k) (hm : m = Nat.min sLen dLen) (hn : cs.length = m * k)
    (hsrc : ∀ x, sA = some x → ∀ j v, cs[j]? = some v → w.cell? (x.add j) = some v) (hc : ∀ j, j < cs.length → (w.cell? ⟨b, o + j, none⟩).isSome = true) (hf : ∀ j, j < cs.length → w.frozen? ⟨b, o + j, none⟩ = false) (h1 : ∀ v ∈ cs, v.oneCell' = true) :
    (Builtin.copy_ #[dT, dT] ty #[.slice d dLen dCap, .slice sA sLen sCap]).run P w = .ok (goInt m) (w.setCells b o cs) := by
  cases hq : P.info? elem with
  | none => simp [hq] at hs
  | some i =>
    have hi : i.size = k := by simpa [hq] using hs
    rcases Nat.eq_zero_or_pos m with h0 | h0
    · subst h0
      have : cs = [] := List.eq_nil_of_length_eq_zero (by simpa using hn)
      subst this
      have hl : ∀ (x : Addr), (loadCells x 0).run P w = .ok #[] w := fun x => by simpa using run_loadCells_list (P := P) w x [] (by simp)
      cases d <;> cases sA <;> simp [Builtin.copy_, run_underlying hu, Builtin.lenOf, Builtin.firstCells, sizeOf, typeInfo, hq, ← hm, storeCells, hl, World.setCells]
    · obtain ⟨x, rfl⟩ := hs0 h0
      have hd' := hd h0
      subst hd'
      have hl := run_loadCells_list (P := P) w x cs (hsrc x rfl)
      have hst := run_storeCells_cells (P := P) b o cs 0 w (by simpa using hc) (by simpa using hf) h1
      simp [Builtin.copy_, run_underlying hu, Builtin.lenOf, Builtin.firstCells, sizeOf, typeInfo, hq, hi, ← hm, ← hn, hl, hst]

/-- copy between two slices. -/
theorem AL.copy {T : Nat → Option TyI} (hT : TOk P T) {t e ke bs kt κ κs lo nd ns m : Nat} {z : List ZC} {d s : Operand} {R S : Root} (hop : o.op = .call { callee := .builtin .copy, args := #[d, s], argTypes := #[t, t] }) (hg : o.guard = none) (hd : okD N o.dst = true)
    (ht : T t = some ⟨kt, .sl e ke bs, z⟩) (hdv : σ.ev d = .a (.ref κ 0 nd)) (hR : σ.rt κ = some R) (ho : R.o = .own) (hop' : R.op = []) (hk : R.k = ke) (hsv : σ.ev s = .a (.ref κs lo ns)) (hS : σ.rt κs = some S) (hSop : S.op = []) (hSk : S.k = ke)
    (hm : m = Nat.min ns nd) (k : AL P F N ops Q rest ((σ.cpy κ R S lo m).putO o.dst (.a (.lit (.int .i64 m))))) : AL P F N ops Q (o :: rest) σ := by
  obtain ⟨h1, inf, zv, h2, h3, h4, h5, h6, h7, hzo⟩ := (hT t _ ht).kind
  refine AL.step hg hd (fun a w ω β h => ?_) k
  have hdr := h.ev d
  have hsr := h.ev s
  rw [hdv] at hdr; rw [hsv] at hsr
  obtain ⟨R1, q1, q2, A, c, q3, q4, q5, q6, q7, q8⟩ := hdr
  rw [hR] at q1; injection q1 with q1; subst q1
  obtain ⟨S1, p1, p2, A', c', p3, p4, p5, p6, p7, p8⟩ := hsr
  rw [hS] at p1; injection p1 with p1; subst p1
  have hmn : m ≤ nd ∧ m ≤ ns := by subst hm; exact ⟨Nat.min_le_right _ _, Nat.min_le_left _ _⟩
  have hcells : ∀ i r, i < m → r < R.k → ∃ u, (∀ x, A' = some x → w.cell? (x.add (i * R.k + r)) = some u) ∧ ARel σ β w (flatA (S.row (lo + i) r)) u ∧ u.oneCell' = true := by
    intro i r hi hr
    obtain ⟨g', j', u, ⟨o2, e1, e2⟩, k2, k3, k4, k5⟩ := (h.roots κs S hS).cells (lo + i) r (by omega) (by omega) rfl
    obtain ⟨g, o', f1, f2⟩ := p8 (by omega)
    rw [e1] at f1; injection f1 with f1; injection f1 with f3 f4 _
    subst f3 f4
    refine ⟨u, fun x hx => ?_, ?_, k5.one⟩
    · rw [f2] at hx; injection hx with hx; subst hx
      rw [add_addr, show o2 + lo * S.k + (i * R.k + r) = j' by rw [e2, Nat.add_mul, hk, hSk]; omega]
      exact k2
    · have hone := k5.one
      unfold CellRel at k5
      have hg1 : S.get (lo + i) r = .cl (S.row (lo + i) r) := by unfold Root.get; rw [hSop]; rfl
      rw [hg1] at k5
      cases hc : S.row (lo + i) r with
      | lit v => rw [hc] at k5; exact k5
      | any => exact hone
      | hole => exact hone
      | sl _ _ _ _ _ => exact hone
  classical
  let f : Nat → Value := fun j => if hj : j / R.k < m ∧ j % R.k < R.k then (hcells (j / R.k) (j % R.k) hj.1 hj.2).choose else undef
  have hf : ∀ i r, i < m → r < R.k → (∀ x, A' = some x → w.cell? (x.add (i * R.k + r)) = some (f (i * R.k + r))) ∧ ARel σ β w (flatA (S.row (lo + i) r)) (f (i * R.k + r)) ∧ (f (i * R.k + r)).oneCell' = true := by
    intro i r hi hr
    have hk0 : 0 < R.k := by omega
    have e1 : (i * R.k + r) / R.k = i := by rw [Nat.mul_comm, Nat.mul_add_div hk0, Nat.div_eq_of_lt hr]; rfl
    have e2 : (i * R.k + r) % R.k = r := by rw [Nat.mul_comm, Nat.mul_add_mod, Nat.mod_eq_of_lt hr]
    have hfe : f (i * R.k + r) = (hcells i r hi hr).choose := by
      show (if hj : (i * R.k + r) / R.k < m ∧ (i * R.k + r) % R.k < R.k then _ else undef) = _
      rw [dif_pos (by rw [e1, e2]; exact ⟨hi, hr⟩)]
      simp only [e1, e2]
    rw [hfe]
    exact (hcells i r hi hr).choose_spec
  have hidx : ∀ j, j < m * R.k → ∃ i r, i < m ∧ r < R.k ∧ j = i * R.k + r := by
    intro j hj
    have hk0 : 0 < R.k := by rcases Nat.eq_zero_or_pos R.k with h | h; (rw [h] at hj; omega); exact h
    exact ⟨j / R.k, j % R.k, (Nat.div_lt_iff_lt_mul hk0).2 hj, Nat.mod_lt _ hk0, by rw [Nat.mul_comm]; exact (Nat.div_add_mod j R.k).symm⟩
  let us : List Value := (List.range (m * R.k)).map f
  have hul : us.length = m * R.k := by simp [us]
  have hu : ∀ i r, i < m → r < R.k → ∃ u, us[i * R.k + r]? = some u ∧ ARel σ β w (flatA (S.row (lo + i) r)) u ∧ u.oneCell' = true := fun i r hi hr => by
    have hlt := lt_cap (k := R.k) hi hr (Nat.le_refl m)
    exact ⟨f (i * R.k + r), by simp [us, hlt], (hf i r hi hr).2⟩
  obtain ⟨q71, q72⟩ := q7 rfl
  have hb : ∃ g o', (0 < m → A = some ⟨g, o', none⟩) ∧ (∀ q, q < m * R.k → (w.cell? ⟨g, o' + q, none⟩).isSome = true ∧ w.frozen? ⟨g, o' + q, none⟩ = false) ∧ Rel1 F N (σ.cpy κ R S lo m) a (w.setCells g o' us) ω β := by
    rcases Nat.eq_zero_or_pos m with h0 | h0
    · refine ⟨0, 0, fun h => by omega, fun q hq => by rw [h0] at hq; omega, ?_⟩
      have hus : us = [] := List.eq_nil_of_length_eq_zero (by rw [hul, h0]; omega)
      rw [hus, h0]
      exact h.copy0 hR hop'
    · obtain ⟨g, o', f1, f2⟩ := q8 (by omega)
      obtain ⟨c1, c2⟩ := Rel1.copy h hR ho hop' f1 m us (by omega) hul hu
      exact ⟨g, o', fun _ => by rw [q71]; exact f1, c1, c2⟩
  obtain ⟨g, o', b1, b2, b3⟩ := hb
  refine ⟨goInt m, _, ω, β, ?_, b3, ⟨rfl, rfl⟩⟩
  have hcp := run_copy_rows (P := P) w t o.type e R.k g o' nd c A' ns c' m us A b1 (fun h0 => by obtain ⟨g2, o2, _, f2⟩ := p8 (by omega); exact ⟨_, f2⟩) h1 (by rw [h2, hk, ← h3]; rfl) hm hul (fun x hx j v hj => by
      have hjl : j < m * R.k := by rw [← hul]; exact (List.getElem?_eq_some_iff.1 hj).1
      obtain ⟨i, r, hi, hr, rfl⟩ := hidx j hjl
      have : us[i * R.k + r]? = some (f (i * R.k + r)) := by simp [us, hjl]
      rw [this] at hj; injection hj with hj; subst hj
      exact (hf i r hi hr).1 x hx) (fun j hj => (b2 j (by rw [← hul]; exact hj)).1) (fun j hj => (b2 j (by rw [← hul]; exact hj)).2) (fun v hv => by
      obtain ⟨j, hj, rfl⟩ := List.mem_map.1 hv
      obtain ⟨i, r, hi, hr, rfl⟩ := hidx j (List.mem_range.1 hj)
      exact (hf i r hi hr).2.2)
  generalize a.eval = ρ at q3 p3 ⊢
  unfold execOp
  rw [hop]
  simp [go_sem, resolve, invoke, builtin, q3, p3, hcp]
/-- Every operation of the list that is ready. -/
def AYq (P : Program) (F : Fm) (N : Nat) (ops : Array Oper) (Q : Exit → St → Prop) (fuel : Nat) (listed : Array Bool) (σ : St) (rs : List Nat) : Prop :=
  ∀ i ∈ rs, (Region.ready .any ops listed).contains i = true → ∃ o, ops[i]? = some o ∧ AL P F N ops (AThen (fun s => AY P F N ops Q fuel (listed.setIfInBounds i true) s) Q) [o] σ
theorem AYq.nil {fuel : Nat} {listed : Array Bool} : AYq P F N ops Q fuel listed σ [] := fun _ h => by cases h
theorem AYq.skip {fuel : Nat} {listed : Array Bool} {i : Nat} {rs : List Nat} (h : (Region.ready .any ops listed).contains i = false) (hs : AYq P F N ops Q fuel listed σ rs) : AYq P F N ops Q fuel listed σ (i :: rs) := fun j hj hc => by
  rcases List.mem_cons.1 hj with rfl | hj
  · rw [h] at hc; cases hc
  · exact hs j hj hc
theorem AYq.cons {fuel : Nat} {listed : Array Bool} {i : Nat} {rs : List Nat} (ho : ops[i]? = some o) (h : AL P F N ops (AThen (fun s => AY P F N ops Q fuel (listed.setIfInBounds i true) s) Q) [o] σ) (hs : AYq P F N ops Q fuel listed σ rs) :
    AYq P F N ops Q fuel listed σ (i :: rs) := fun j hj hc => by
  rcases List.mem_cons.1 hj with rfl | hj
  · exact ⟨o, ho, h⟩
  · exact hs j hj hc
theorem AY.stepA {fuel : Nat} {listed : Array Bool} (l : List Nat) (hl : ((Region.ready .any ops listed).all fun i => l.contains i) = true) (hne : (Region.ready .any ops listed).isEmpty = false) (h : AYq P F N ops Q fuel listed σ l) : AY P F N ops Q (fuel + 1) listed σ :=
  AY.step _ rfl (by intro e; rw [e] at hne; cases hne) (fun i hi => h i (by simpa using List.all_eq_true.1 hl i hi) (by simpa using hi))
theorem AL.copyN {T : Nat → Option TyI} (hT : TOk P T) {t e ke bs kt κ κs lo n : Nat} {z : List ZC} {d s : Operand} {R S : Root} (hop : o.op = .call { callee := .builtin .copy, args := #[d, s], argTypes := #[t, t] }) (hg : o.guard = none) (hd : okD N o.dst = true)
    (ht : T t = some ⟨kt, .sl e ke bs, z⟩) (hdv : σ.ev d = .a (.ref κ 0 n)) (hR : σ.rt κ = some R) (ho : R.o = .own) (hop' : R.op = []) (hk : R.k = ke) (hsv : σ.ev s = .a (.ref κs lo n)) (hS : σ.rt κs = some S) (hSop : S.op = []) (hSk : S.k = ke)
    (k : AL P F N ops Q rest ((σ.cpy κ R S lo n).putO o.dst (.a (.lit (.int .i64 n))))) : AL P F N ops Q (o :: rest) σ :=
  AL.copy hT hop hg hd ht hdv hR ho hop' hk hsv hS hSop hSk (by simp) k
theorem AL.append0 {T : Nat → Option TyI} (hT : TOk P T) {t e ke bs kt κ κs lo m : Nat} {z : List ZC} {s x : Operand} {R S : Root} (hop : o.op = .call { callee := .builtin .append, args := #[s, x], argTypes := #[t, t] }) (hg : o.guard = none) (hd : okD N o.dst = true)
    (ht : T t = some ⟨kt, .sl e ke bs, z⟩) (hs : σ.ev s = .a (.ref κ 0 0)) (hR : σ.rt κ = some R) (hf : R.full = true) (hn : R.n = 0) (hke : R.k = ke) (he : R.e = e) (hRop : R.op = []) (hx : σ.ev x = .a (.ref κs lo m)) (hS : σ.rt κs = some S) (hSk : S.k = ke) (hSop : S.op = [])
    (hkk : okK F κ) (h63 : m ≤ 9223372036854775807) (hby : m * bs ≤ 140737488355328) (k : AL P F N ops Q rest (((σ.drop κ).setR κ ⟨.own, true, e, ke, m, fun i r => flat (S.row (lo + i) r), []⟩).putO o.dst (.a (.ref κ 0 m)))) : AL P F N ops Q (o :: rest) σ := by
  refine AL.appendL hT hop hg hd ht hs hR hf hn.symm hke he hRop hx hS hSk hSop (fun _ _ _ _ => rfl) hkk (by unfold maxLen; omega) (by rw [hn, Nat.zero_add]; exact hby) ?_
  have : appL R S lo m = ⟨.own, true, e, ke, m, fun i r => flat (S.row (lo + i) r), []⟩ := by
    unfold appL
    rw [hn, he, hke]
    simp
  rw [this, Nat.zero_add]
  exact k
theorem AL.buildSl0D {T : Nat → Option TyI} (hT : TOk P T) {t e ke bs kt d : Nat} {zt : List ZC} {parts : Array (Nat × Operand)} (hop : o.op = .buildSlice t 0 parts) (hpa : parts = #[]) (hg : o.guard = none) (hdst : o.dst = some d) (hd : d < N)
    (ht : T t = some ⟨kt, .sl e ke bs, zt⟩) (hkk : d < 1000000) (hdd : σ.rt d = none)
    (k : AL P F N ops Q rest ((σ.setR d ⟨.own, true, e, ke, 0, fun _ _ => .any, []⟩).put d (.a (.ref d 0 0)))) : AL P F N ops Q (o :: rest) σ :=
  AL.buildSl0 hT hop hpa hg (by rw [hdst]; simpa [okD] using hd) ht hkk hdd (by rw [hdst]; exact k)
end
end Go.Tr
