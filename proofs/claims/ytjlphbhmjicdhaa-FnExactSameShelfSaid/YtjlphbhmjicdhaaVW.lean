/- Elements of an own row are written over: copy to any place, clear, an append that stays within the row. -/
import Derived.Test.YtjlphbhmjicdhaaVY
import Derived.Test.YtjlphbhmjicdhaaTrd
set_option linter.unusedVariables false
set_option linter.unusedSimpArgs false
universe u
namespace Go.Tr
open Go Go.RowKit
/-- A row whose m elements from ld on have been written over. -/
def owR (R : Root) (S : Nat → Nat → C) (ld m : Nat) : Root := { R with op := [], row := fun q r => if ld ≤ q ∧ q < ld + m then flat (S (q - ld) r) else R.row q r }
def St.ow (σ : St) (κ : Nat) (R : Root) (S : Nat → Nat → C) (ld m : Nat) : St := { t := σ.t.map fun p => (p.1, p.2.map (dimA κ) none), r := (κ, owR R S ld m) :: σ.r }
section
variable {P : Program} {F : Fm} {N : Nat} {Q : Exit → St → Prop} {σ : St} {ops : Array Oper} {o : Oper} {rest : List Oper} {a : Act} {w : World} {ω : Om} {β : Nat → Bs}
theorem Rel1.over0 {κ ld : Nat} {R : Root} {S : Nat → Nat → C} (h : Rel1 F N σ a w ω β) (hR : σ.rt κ = some R) (hop : R.op = []) : Rel1 F N (σ.ow κ R S ld 0) a w ω β := by
  have h1 : Rel1 F N { t := σ.t.map fun p => (p.1, p.2.map (dimA κ) none), r := σ.r } a w ω β := by
    refine ⟨h.tsz, h.dfr, fun t => ?_, fun κ' R' hR' => (h.roots κ' R' hR').upd (fun _ _ _ _ _ _ _ h => h) rfl (Meta.refl w) (fun _ _ _ hx _ => ⟨hx, rfl⟩), h.wr, h.fr, h.fz, h.ex⟩
    show VRel _ _ _ ((look (σ.t.map fun p => (p.1, p.2.map (dimA κ) none)) t).getD .any) _
    rw [St.tv_map σ _ rfl]
    refine VRel.map (fun x u hx => ?_) (fun κ' R _ hR => ⟨rfl, R, hR, rfl⟩) (h.tmps t)
    cases x with
    | spot κ' i r =>
      show ARel _ _ _ (if κ' = κ then .any else .spot κ' i r) u
      split
      · exact ARel.one h (show ARel σ β w (.spot κ' i r) u from hx)
      · exact hx
    | _ => exact hx
  exact h1.conv (R' := owR R S ld 0) (show σ.rt κ = some R from hR) rfl (fun hf => ⟨hf, rfl⟩) rfl rfl (fun i r hi hr => by
    have e1 : (owR R S ld 0).row i r = R.row i r := by show (if ld ≤ i ∧ i < ld + 0 then flat (S (i - ld) r) else R.row i r) = _; exact if_neg (by omega)
    unfold Root.get; rw [hop]; show Cl.cl ((owR R S ld 0).row i r) = Cl.cl (R.row i r); rw [e1])
theorem Rel1.over {κ g o' ld : Nat} {R : Root} {S : Nat → Nat → C} (h : Rel1 F N σ a w ω β) (hR : σ.rt κ = some R) (ho : R.o = .own) (hop : R.op = []) (hA : (β κ).A = some ⟨g, o', none⟩) :
    ∀ (m : Nat) (us : List Value), ld + m ≤ R.n → us.length = m * R.k → (∀ i r, i < m → r < R.k → ∃ u, us[i * R.k + r]? = some u ∧ ARel σ β w (flatA (S i r)) u ∧ u.oneCell' = true) →
      (∀ q, q < m * R.k → (w.cell? ⟨g, o' + ld * R.k + q, none⟩).isSome = true ∧ w.frozen? ⟨g, o' + ld * R.k + q, none⟩ = false) ∧ Rel1 F N (σ.ow κ R S ld m) a (w.setCells g (o' + ld * R.k) us) ω β
  | 0, us, hm, hl, hu => by
    have : us = [] := List.eq_nil_of_length_eq_zero (by simpa using hl)
    subst this
    exact ⟨fun q hq => by omega, h.over0 hR hop⟩
  | m + 1, us, hm, hl, hu => by
    have hk : (m + 1) * R.k = m * R.k + R.k := by rw [Nat.add_mul]; omega
    obtain ⟨c1, h1⟩ := Rel1.over (ld := ld) (S := S) h hR ho hop hA m (us.take (m * R.k)) (by omega) (by rw [List.length_take, hl, hk]; omega) (fun i r hi hr => by
      obtain ⟨u, e1, e2⟩ := hu i r (by omega) hr
      have := lt_cap (k := R.k) hi hr (Nat.le_refl m)
      exact ⟨u, by rw [List.getElem?_take, if_pos this]; exact e1, e2⟩)
    have hsplit : us = us.take (m * R.k) ++ us.drop (m * R.k) := (List.take_append_drop _ _).symm
    have hlen : (us.take (m * R.k)).length = m * R.k := by rw [List.length_take, hl, hk]; omega
    have hw : w.setCells g (o' + ld * R.k) us = (w.setCells g (o' + ld * R.k) (us.take (m * R.k))).setCells g (o' + ld * R.k + m * R.k) (us.drop (m * R.k)) := by
      conv => lhs; rw [hsplit]
      rw [setCells_append, hlen]
    have hrt : (σ.ow κ R S ld m).rt κ = some (owR R S ld m) := by show (if κ = κ then _ else _) = _; rw [if_pos rfl]
    obtain ⟨c2, h2⟩ := Rel1.storeL ((List.range R.k).map fun r => flatA (S m r)) (us.drop (m * R.k)) h1 (κ := κ) hrt ho (i := ld + m) (r := 0) (show ld + m < R.n by omega) (by simp [owR]) (fun _ _ => rfl) (by simp [hl, hk]) (fun q x u hx hu' => by
      rw [List.getElem?_map] at hx
      by_cases hq : q < R.k
      · rw [List.getElem?_range hq] at hx
        injection hx with hx; subst hx
        obtain ⟨u2, e1, e2, e3⟩ := hu m q (by omega) hq
        rw [List.getElem?_drop, e1] at hu'
        injection hu' with hu'; subst hu'
        exact ⟨e2.flat_any, e3⟩
      · rw [List.getElem?_eq_none (by simpa using hq)] at hx; cases hx) (g := g) (j := o' + ld * R.k + m * R.k) ⟨o', hA, by show _ = o' + ((ld + m) * R.k + 0); rw [Nat.add_mul]; omega⟩
    rw [← hw] at h2
    refine ⟨fun q hq => ?_, ?_⟩
    · by_cases hq2 : q < m * R.k
      · exact c1 q hq2
      · have := c2 (q - m * R.k) (by simp; omega)
        rw [show o' + ld * R.k + m * R.k + (q - m * R.k) = o' + ld * R.k + q by omega] at this
        rw [World.frozen?_setCells, World.cell?_setCells_out _ _ _ _ _ (fun _ _ => .inr (by rw [hlen]; show o' + ld * R.k + m * R.k ≤ o' + ld * R.k + q; omega))] at this
        exact this
    · have h3 := h2.conv (κ := κ) (R := (owR R S ld m).wrL (ld + m) 0 (((List.range R.k).map fun r => flatA (S m r)).map At.cl)) (R' := owR R S ld (m + 1)) (by show (if κ = κ then _ else _) = _; rw [if_pos rfl]) ?_ ?_ ?_ ?_ ?_
      · refine h3.ext (fun t => ?_) (fun κ' => ?_)
        · show (look (σ.t.map fun p => (p.1, p.2.map (dimA κ) none)) t).getD .any = (look ((σ.t.map fun p => (p.1, p.2.map (dimA κ) none)).map fun p => (p.1, p.2.map (dimA κ) none)) t).getD .any
          rw [look_map, look_map, look_map]
          cases look σ.t t with
          | none => rfl
          | some v => exact (map_dim κ v).symm
        · show (if κ' = κ then some (owR R S ld (m + 1)) else σ.rt κ') = (if κ' = κ then some (owR R S ld (m + 1)) else if κ' = κ then _ else if κ' = κ then _ else σ.rt κ')
          split
          · rfl
          · rename_i e; simp [e]
      · exact (wrL_same (ld + m) _ (owR R S ld m) 0).1.symm
      · intro hf
        exact ⟨(wrL_same (ld + m) _ (owR R S ld m) 0).2.1.trans hf, (wrL_same (ld + m) _ (owR R S ld m) 0).2.2.1.symm⟩
      · exact (wrL_same (ld + m) _ (owR R S ld m) 0).2.2.2.1.symm
      · exact (wrL_same (ld + m) _ (owR R S ld m) 0).2.2.2.2.symm
      · intro i r hi hr
        rw [(wrL_same (ld + m) _ (owR R S ld m) 0).2.2.2.1] at hr
        change r < R.k at hr
        by_cases e : i = ld + m
        · subst e
          rw [get_wrL_eq _ _ _ ⟨Nat.zero_le _, by simpa using hr⟩]
          show Cl.cl (if ld ≤ ld + m ∧ ld + m < ld + (m + 1) then flat (S (ld + m - ld) r) else _) = _
          rw [if_pos (by omega), show ld + m - ld = m by omega]
          simp [hr, flatA_cl]
        · rw [get_wrL_ne e]
          show Cl.cl (if ld ≤ i ∧ i < ld + (m + 1) then _ else _) = Cl.cl (if ld ≤ i ∧ i < ld + m then _ else _)
          by_cases h2 : ld ≤ i ∧ i < ld + m
          · rw [if_pos (by omega), if_pos h2]
          · rw [if_neg (by omega), if_neg h2]
/-- What m elements of a slice hold, as a list of cells. -/
theorem Rel1.cellsOf {κs ls m ke : Nat} {S : Root} {A' : Option Addr} (h : Rel1 F N σ a w ω β) (hS : σ.rt κs = some S) (hSop : S.op = []) (hSk : S.k = ke) (p2 : ls + m ≤ S.n) (p8 : 0 < m → ∃ g o, (β κs).A = some ⟨g, o, none⟩ ∧ A' = some ⟨g, o + ls * S.k, none⟩) :
    ∃ us : List Value, us.length = m * ke ∧ (∀ i r, i < m → r < ke → ∃ u, us[i * ke + r]? = some u ∧ ARel σ β w (flatA (S.row (ls + i) r)) u ∧ u.oneCell' = true) ∧ (∀ u ∈ us, u.oneCell' = true) ∧
      (∀ x, A' = some x → ∀ j v, us[j]? = some v → w.cell? (x.add j) = some v) := by
  have hcells : ∀ i r, i < m → r < ke → ∃ u, (∀ x, A' = some x → w.cell? (x.add (i * ke + r)) = some u) ∧ ARel σ β w (flatA (S.row (ls + i) r)) u ∧ u.oneCell' = true := by
    intro i r hi hr
    obtain ⟨g', j', u, ⟨o2, e1, e2⟩, k2, k3, k4, k5⟩ := (h.roots κs S hS).cells (ls + i) r (by omega) (by omega) rfl
    obtain ⟨g, o', f1, f2⟩ := p8 (by omega)
    rw [e1] at f1; injection f1 with f1; injection f1 with f3 f4 _
    subst f3 f4
    refine ⟨u, fun x hx => ?_, ?_, k5.one⟩
    · rw [f2] at hx; injection hx with hx; subst hx
      rw [add_addr, show o2 + ls * S.k + (i * ke + r) = j' by rw [e2, Nat.add_mul, hSk]; omega]
      exact k2
    · have hone := k5.one
      unfold CellRel at k5
      have hg1 : S.get (ls + i) r = .cl (S.row (ls + i) r) := by unfold Root.get; rw [hSop]; rfl
      rw [hg1] at k5
      cases hc : S.row (ls + i) r with
      | lit v => rw [hc] at k5; exact k5
      | any => exact hone
      | hole => exact hone
      | sl _ _ _ _ _ => exact hone
  classical
  let f : Nat → Value := fun j => if hj : j / ke < m ∧ j % ke < ke then (hcells (j / ke) (j % ke) hj.1 hj.2).choose else undef
  have hf : ∀ i r, i < m → r < ke → (∀ x, A' = some x → w.cell? (x.add (i * ke + r)) = some (f (i * ke + r))) ∧ ARel σ β w (flatA (S.row (ls + i) r)) (f (i * ke + r)) ∧ (f (i * ke + r)).oneCell' = true := by
    intro i r hi hr
    have hk0 : 0 < ke := by omega
    have e1 : (i * ke + r) / ke = i := by rw [Nat.mul_comm, Nat.mul_add_div hk0, Nat.div_eq_of_lt hr]; rfl
    have e2 : (i * ke + r) % ke = r := by rw [Nat.mul_comm, Nat.mul_add_mod, Nat.mod_eq_of_lt hr]
    have hfe : f (i * ke + r) = (hcells i r hi hr).choose := by
      show (if hj : (i * ke + r) / ke < m ∧ (i * ke + r) % ke < ke then _ else undef) = _
      rw [dif_pos (by rw [e1, e2]; exact ⟨hi, hr⟩)]
      simp only [e1, e2]
    rw [hfe]
    exact (hcells i r hi hr).choose_spec
  have hidx : ∀ j, j < m * ke → ∃ i r, i < m ∧ r < ke ∧ j = i * ke + r := by
    intro j hj
    have hk0 : 0 < ke := by rcases Nat.eq_zero_or_pos ke with h | h; (rw [h] at hj; omega); exact h
    exact ⟨j / ke, j % ke, (Nat.div_lt_iff_lt_mul hk0).2 hj, Nat.mod_lt _ hk0, by rw [Nat.mul_comm]; exact (Nat.div_add_mod j ke).symm⟩
  refine ⟨(List.range (m * ke)).map f, by simp, fun i r hi hr => ?_, fun v hv => ?_, fun x hx j v hj => ?_⟩
  · have hlt := lt_cap (k := ke) hi hr (Nat.le_refl m)
    exact ⟨f (i * ke + r), by simp [hlt], (hf i r hi hr).2⟩
  · obtain ⟨j, hj, rfl⟩ := List.mem_map.1 hv
    obtain ⟨i, r, hi, hr, rfl⟩ := hidx j (List.mem_range.1 hj)
    exact (hf i r hi hr).2.2
  · have hjl : j < m * ke := by have := (List.getElem?_eq_some_iff.1 hj).1; simpa using this
    obtain ⟨i, r, hi, hr, rfl⟩ := hidx j hjl
    have : ((List.range (m * ke)).map f)[i * ke + r]? = some (f (i * ke + r)) := by simp [hjl]
    rw [this] at hj; injection hj with hj; subst hj
    exact (hf i r hi hr).1 x hx
/-- copy between two slices, to any place of an own row; they may be of one row. -/
theorem AL.copyO {T : Nat → Option TyI} (hT : TOk P T) {t e ke bs kt κ κs ld ls nd ns m : Nat} {z : List ZC} {d s : Operand} {R S : Root} (hop : o.op = .call { callee := .builtin .copy, args := #[d, s], argTypes := #[t, t] }) (hg : o.guard = none) (hd : okD N o.dst = true)
    (ht : T t = some ⟨kt, .sl e ke bs, z⟩) (hdv : σ.ev d = .a (.ref κ ld nd)) (hR : σ.rt κ = some R) (ho : R.o = .own) (hop' : R.op = []) (hk : R.k = ke) (hsv : σ.ev s = .a (.ref κs ls ns)) (hS : σ.rt κs = some S) (hSop : S.op = []) (hSk : S.k = ke)
    (hm : m = Nat.min ns nd) (k : AL P F N ops Q rest ((σ.ow κ R (fun q r => S.row (ls + q) r) ld m).putO o.dst (.a (.lit (.int .i64 m))))) : AL P F N ops Q (o :: rest) σ := by
  obtain ⟨h1, inf, zv, h2, h3, h4, h5, h6, h7, hzo⟩ := (hT t _ ht).kind
  refine AL.step hg hd (fun a w ω β h => ?_) k
  have hdr := h.ev d
  have hsr := h.ev s
  rw [hdv] at hdr; rw [hsv] at hsr
  obtain ⟨R1, q1, q2, A, c, q3, q4, q5, q6, q7, q8⟩ := hdr
  rw [hR] at q1; injection q1 with q1; subst q1
  obtain ⟨S1, p1, p2, A', c', p3, p4, p5, p6, p7, p8⟩ := hsr
  rw [hS] at p1; injection p1 with p1; subst p1
  have hmn : m ≤ nd ∧ m ≤ ns := by subst hm; exact ⟨Nat.min_le_right _ _, Nat.min_le_left _ _⟩
  subst hk
  obtain ⟨us, hul, hu, hone, hsrc⟩ := h.cellsOf (m := m) (ls := ls) (A' := A') hS hSop hSk (by omega) (fun h0 => p8 (by omega))
  have hb : ∃ g o', (0 < m → A = some ⟨g, o', none⟩) ∧ (∀ q, q < m * R.k → (w.cell? ⟨g, o' + q, none⟩).isSome = true ∧ w.frozen? ⟨g, o' + q, none⟩ = false) ∧ Rel1 F N (σ.ow κ R (fun q r => S.row (ls + q) r) ld m) a (w.setCells g o' us) ω β := by
    rcases Nat.eq_zero_or_pos m with h0 | h0
    · refine ⟨0, 0, fun h => by omega, fun q hq => by rw [h0] at hq; omega, ?_⟩
      have hus : us = [] := List.eq_nil_of_length_eq_zero (by rw [hul, h0]; omega)
      rw [hus, h0]
      exact h.over0 hR hop'
    · obtain ⟨g, o', f1, f2⟩ := q8 (by omega)
      obtain ⟨c1, c2⟩ := Rel1.over (ld := ld) (S := fun q r => S.row (ls + q) r) h hR ho hop' f1 m us (by omega) hul hu
      exact ⟨g, o' + ld * R.k, fun _ => f2, c1, c2⟩
  obtain ⟨g, o', b1, b2, b3⟩ := hb
  refine ⟨goInt m, _, ω, β, ?_, b3, ⟨rfl, rfl⟩⟩
  have hcp := run_copy_rows (P := P) w t o.type e R.k g o' nd c A' ns c' m us A b1 (fun h0 => by obtain ⟨g2, o2, _, f2⟩ := p8 (by omega); exact ⟨_, f2⟩) h1 (by rw [h2, ← h3]; rfl) hm hul hsrc (fun j hj => (b2 j (by rw [← hul]; exact hj)).1) (fun j hj => (b2 j (by rw [← hul]; exact hj)).2) hone
  generalize a.eval = ρ at q3 p3 ⊢
  unfold execOp
  rw [hop]
  simp [go_sem, resolve, invoke, builtin, q3, p3, hcp]
/-- append that stays within the row. -/
theorem AL.appIn {T : Nat → Option TyI} (hT : TOk P T) {t e ke bs kt κ κs ls n m : Nat} {z : List ZC} {s x : Operand} {R S : Root} (hop : o.op = .call { callee := .builtin .append, args := #[s, x], argTypes := #[t, t] }) (hg : o.guard = none) (hd : okD N o.dst = true)
    (ht : T t = some ⟨kt, .sl e ke bs, z⟩) (hs : σ.ev s = .a (.ref κ 0 n)) (hR : σ.rt κ = some R) (hf : R.full = true) (hop' : R.op = []) (hk : R.k = ke) (hx : σ.ev x = .a (.ref κs ls m)) (hS : σ.rt κs = some S) (hSop : S.op = []) (hSk : S.k = ke) (hnm : n + m ≤ R.n)
    (k : AL P F N ops Q rest ((σ.ow κ R (fun q r => S.row (ls + q) r) n m).putO o.dst (.a (.ref κ 0 (n + m))))) : AL P F N ops Q (o :: rest) σ := by
  obtain ⟨h1, inf, zv, h2, h3, h4, h5, h6, h7, hzo⟩ := (hT t _ ht).kind
  refine AL.step hg hd (fun a w ω β h => ?_) k
  have hdr := h.ev s
  have hsr := h.ev x
  rw [hs] at hdr; rw [hx] at hsr
  obtain ⟨R1, q1, q2, A, c, q3, q4, q5, q6, q7, q8⟩ := hdr
  rw [hR] at q1; injection q1 with q1; subst q1
  obtain ⟨q71, q72⟩ := q7 rfl
  obtain ⟨S1, p1, p2, A', c', p3, p4, p5, p6, p7, p8⟩ := hsr
  rw [hS] at p1; injection p1 with p1; subst p1
  subst hk
  obtain ⟨us, hul, hu, hone, hsrc⟩ := h.cellsOf (m := m) (ls := ls) (A' := A') hS hSop hSk (by omega) p8
  obtain ⟨f0, f1, f2, f3, f4⟩ := (h.roots κ R hR).full hf
  have hcap : n + m ≤ c := by omega
  have hrt : (σ.ow κ R (fun q r => S.row (ls + q) r) n m).rt κ = some (owR R (fun q r => S.row (ls + q) r) n m) := by show (if κ = κ then _ else _) = _; rw [if_pos rfl]
  have hres : ∀ (u : Value), u = .slice A (n + m) c → RefRel (σ.ow κ R (fun q r => S.row (ls + q) r) n m) β κ 0 (n + m) u := by
    rintro u rfl
    refine ⟨_, hrt, by show 0 + (n + m) ≤ R.n; omega, A, c, rfl, hcap, q5, q6, fun _ => ⟨q71, q72⟩, fun h0 => ?_⟩
    rcases f4 with ⟨f5, f6⟩ | ⟨g2, cur, n1, n2, n3, n4⟩
    · omega
    · exact ⟨g2, 0, n1, by show A = some ⟨g2, 0 + 0 * R.k, none⟩; rw [q71, n1, Nat.zero_mul]⟩
  rcases Nat.eq_zero_or_pos m with h0 | h0
  · subst h0
    have hus : us = [] := List.eq_nil_of_length_eq_zero (by rw [hul]; omega)
    refine ⟨.slice A (n + 0) c, w, ω, β, ?_, h.over0 hR hop', hres _ rfl⟩
    refine run_append_op _ _ _ hop rfl ?_
    rw [q3, p3]
    have hcz : c = 0 → n = 0 := fun h => by omega
    rcases f4 with ⟨f5, f6⟩ | ⟨g2, cur, n1, n2, n3, n4⟩
    · have hA0 : A = none := by rw [q71, f5]
      have hc0 : c = 0 := by omega
      have hn0 : n = 0 := by omega
      subst hA0 hc0 hn0
      cases A' <;> simp [Builtin.append_, run_underlying h1, sizeOf, typeInfo, h2, Builtin.lenOf, Builtin.firstCells, loadCells, loadCellsFrom]
    · have hA1 : A = some ⟨g2, 0, none⟩ := by rw [q71, n1]
      subst hA1
      cases A' <;> simp [Builtin.append_, run_underlying h1, sizeOf, typeInfo, h2, Builtin.lenOf, Builtin.firstCells, loadCells, loadCellsFrom, q4, storeCells]
  · rcases f4 with ⟨f5, f6⟩ | ⟨g2, cur, n1, n2, n3, n4⟩
    · omega
    · obtain ⟨g, o2, m1, m2⟩ := p8 h0
      obtain ⟨c1, c2⟩ := Rel1.over (ld := n) (S := fun q r => S.row (ls + q) r) h hR f1 hop' n1 m us hnm hul hu
      rw [Nat.zero_add] at c1 c2
      have hA1 : A = some ⟨g2, 0, none⟩ := by rw [q71, n1]
      refine ⟨.slice A (n + m) c, _, ω, β, ?_, c2, hres _ rfl⟩
      refine run_append_op _ _ _ hop rfl ?_
      rw [q3, p3, hA1, m2]
      have hsz : inf.size = R.k := h3
      have hl := run_loadCells_list (P := P) w ⟨g, o2 + ls * S.k, none⟩ us (fun j v hj => hsrc _ m2 j v hj)
      have hst := run_storeCells_cells (P := P) g2 (n * R.k) us 0 w (by intro j hj; have := (c1 j (by rw [← hul]; exact hj)).1; simpa using this) (by intro j hj; have := (c1 j (by rw [← hul]; exact hj)).2; simpa using this) hone
      simp only [Nat.add_zero] at hst
      have hadd : (⟨g2, 0, none⟩ : Addr).add (n * R.k) = ⟨g2, n * R.k, none⟩ := by rw [add_addr, Nat.zero_add]
      simp [Builtin.append_, run_underlying h1, sizeOf, typeInfo, h2, Builtin.lenOf, Builtin.firstCells, hsz, ← hul, hl, hcap, hadd, hst]
theorem run_clear_rows (w : World) (t ty elem k g o n c : Nat) (zv : Value) (inf : TypeInfo) (hn : 0 < n) (hu : P.underlying t = some (.slice elem)) (hi : P.info? elem = some inf) (hz : inf.zero = some zv) (hk : zv.cells.size = k)
    (hc : ∀ j, j < n * k → (w.cell? ⟨g, o + j, none⟩).isSome = true) (hf : ∀ j, j < n * k → w.frozen? ⟨g, o + j, none⟩ = false) (h1 : ∀ v ∈ (Builtin.zeroCells zv.cells n).toList, v.oneCell' = true) :
    (Builtin.clear_ #[t] ty #[.slice (some ⟨g, o, none⟩) n c]).run P w = .ok (.tuple #[]) (w.setCells g o (Builtin.zeroCells zv.cells n).toList) := by
  have hlen : (Builtin.zeroCells zv.cells n).toList.length = n * k := by rw [Array.length_toList, size_zeroCells, hk]
  have hst := run_storeCells_cells (P := P) g o (Builtin.zeroCells zv.cells n).toList 0 w (by intro j hj; exact hc j (by omega)) (by intro j hj; exact hf j (by omega)) h1
  simp only [Nat.add_zero] at hst
  obtain ⟨n, rfl⟩ : ∃ q, n = q + 1 := ⟨n - 1, by omega⟩
  simp [Builtin.clear_, run_underlying hu, zeroValue, typeInfo, hi, hz, hst]
/-- The elements of a slice are set to zero. -/
theorem AL.clear {T : Nat → Option TyI} (hT : TOk P T) {t e ke bs kt κ ld n : Nat} {kd : TK} {z zt : List ZC} {x : Operand} {R : Root} (hop : o.op = .call { callee := .builtin .clear, args := #[x], argTypes := #[t] }) (hg : o.guard = none) (hd : okD N o.dst = true)
    (ht : T t = some ⟨kt, .sl e ke bs, zt⟩) (he : T e = some ⟨ke, kd, z⟩) (hz : z.all (fun c => match c with | .lit v => scal v | _ => false) = true) (hx : σ.ev x = .a (.ref κ ld n)) (hR : σ.rt κ = some R) (ho : R.o = .own) (hop' : R.op = []) (hk : R.k = ke)
    (k : AL P F N ops Q rest ((σ.ow κ R (zrow z) ld n).putO o.dst (.tup []))) : AL P F N ops Q (o :: rest) σ := by
  obtain ⟨h1, inf, zv, h2, h3, h4, h5, h6, h7, hzo⟩ := (hT t _ ht).kind
  have hF := hT e _ he
  obtain ⟨inf', zv', g3, g4, g5, g6⟩ := hF.info
  rw [h2] at g3; injection g3 with g3; subst g3
  rw [h5] at g5; injection g5 with g5; subst g5
  have hlen : z.length = ke := hF.zl
  refine AL.step hg hd (fun a w ω β h => ?_) k
  have hdr := h.ev x
  rw [hx] at hdr
  obtain ⟨R1, q1, q2, A, c, q3, q4, q5, q6, q7, q8⟩ := hdr
  rw [hR] at q1; injection q1 with q1; subst q1
  subst hk
  rcases Nat.eq_zero_or_pos n with h0 | h0
  · subst h0
    refine ⟨.tuple #[], w, ω, β, ?_, h.over0 hR hop', #[], rfl, rfl, fun j x hj => by simp at hj⟩
    generalize a.eval = ρ at q3 ⊢
    unfold execOp
    rw [hop]
    cases A <;> simp [go_sem, resolve, invoke, builtin, q3, Builtin.clear_, run_underlying h1]
  · obtain ⟨g, o', f1, f2⟩ := q8 h0
    have hzl : ∀ j, j < n * R.k → ∃ v, (Builtin.zeroCells zv.cells n).toList[j]? = some v ∧ z[j % R.k]? = some (.lit v) ∧ scal v = true := by
      intro j hj
      have hr : j % R.k < R.k := Nat.mod_lt _ h7
      have hzr : z[j % R.k]? = some (z[j % R.k]'(by omega)) := List.getElem?_eq_getElem (by omega)
      have hall := List.all_eq_true.1 hz _ (List.getElem_mem (show j % R.k < z.length by omega))
      have hc : zv.cells[j % R.k]? = some (z[j % R.k]'(by omega)).val := by
        rw [← Array.getElem?_toList, g6]; show (z.map ZC.val)[j % R.k]? = _; rw [List.getElem?_map, hzr]; rfl
      cases hq : (z[j % R.k]'(by omega)) with
      | sl e k => rw [hq] at hall; cases hall
      | lit v =>
        rw [hq] at hall hc hzr
        refine ⟨v, ?_, hzr, hall⟩
        unfold Builtin.zeroCells
        rw [Array.getElem?_toList, Array.getElem?_map, h6, Array.getElem?_range, if_pos hj]
        simp only [Option.map_some]
        rw [getElem!_def, hc]; rfl
    have hul : (Builtin.zeroCells zv.cells n).toList.length = n * R.k := by rw [Array.length_toList, size_zeroCells, h6]
    have hone : ∀ v ∈ (Builtin.zeroCells zv.cells n).toList, v.oneCell' = true := by
      intro v hv
      obtain ⟨j, hj⟩ := List.mem_iff_getElem?.1 hv
      have hjl : j < n * R.k := by have := (List.getElem?_eq_some_iff.1 hj).1; omega
      obtain ⟨v', e1, _, e3⟩ := hzl j hjl
      rw [hj] at e1; injection e1 with e1; subst e1
      exact scal_one e3
    obtain ⟨c1, c2⟩ := Rel1.over (ld := ld) (S := zrow z) h hR ho hop' f1 n _ (by omega) hul (fun i r hi hr => by
      obtain ⟨v, e1, e2, e3⟩ := hzl (i * R.k + r) (lt_cap hi hr (Nat.le_refl _))
      have hmod : (i * R.k + r) % R.k = r := by rw [Nat.add_comm, Nat.add_mul_mod_self_right]; exact Nat.mod_eq_of_lt hr
      rw [hmod] at e2
      refine ⟨v, e1, ?_, scal_one e3⟩
      have : zrow z i r = .lit v := by unfold zrow; rw [e2]; rfl
      rw [this]; exact ⟨rfl, e3⟩)
    refine ⟨.tuple #[], _, ω, β, ?_, c2, #[], rfl, rfl, fun j x hj => by simp at hj⟩
    have hcl := run_clear_rows (P := P) w t o.type e R.k g (o' + ld * R.k) n c zv inf h0 h1 h2 h5 h6 (fun j hj => (c1 j hj).1) (fun j hj => (c1 j hj).2) hone
    generalize a.eval = ρ at q3 ⊢
    unfold execOp
    rw [hop]
    simp [go_sem, resolve, invoke, builtin, q3, f2, hcl]
end
/-- A list written over from ld on. -/
def ovl {α : Type u} (xs : List α) (ld : Nat) (zs : List α) : List α := xs.take ld ++ zs ++ xs.drop (ld + zs.length)
theorem ovl_len {α : Type u} {xs zs : List α} {ld : Nat} (h : ld + zs.length ≤ xs.length) : (ovl xs ld zs).length = xs.length := by unfold ovl; simp; omega
theorem ovl_getD {α : Type u} (d : α) {xs zs : List α} {ld : Nat} (h : ld + zs.length ≤ xs.length) (q : Nat) : (ovl xs ld zs).getD q d = if ld ≤ q ∧ q < ld + zs.length then zs.getD (q - ld) d else xs.getD q d := by
  have hl : (xs.take ld).length = ld := by simp; omega
  simp only [List.getD, ovl, List.append_assoc]
  by_cases h1 : q < ld
  · rw [List.getElem?_append_left (by omega), List.getElem?_take, if_pos h1, if_neg (by omega)]
  · rw [List.getElem?_append_right (by omega), hl]
    by_cases h2 : q < ld + zs.length
    · rw [List.getElem?_append_left (by omega), if_pos ⟨by omega, h2⟩]
    · rw [List.getElem?_append_right (by omega), List.getElem?_drop, if_neg (by omega)]
      congr 2; omega
section
variable {P : Program} {F : Fm} {N : Nat} {G : Gt} {o : Oper} {σ : TS} {k : TS → Prop}
theorem ow_fin {κ e ke ld m : Nat} {full : Bool} {X : Type} {enc : X → Nat → TC} {dec : List Value → Option X} {d : X} {xs : List X} (xs' : List X) {S : Nat → Nat → C} (hR : lkR σ.r κ = some (.ty .own full e ke X enc dec d xs)) (hl : xs'.length = xs.length)
    (hin : ∀ i r, i < m → r < ke → ∃ v, enc (xs'.getD (ld + i) d) r = .lit v ∧ flat (S i r) = .lit v) (hout : ∀ q, ¬ (ld ≤ q ∧ q < ld + m) → xs'.getD q d = xs.getD q d) {v : V} (hv : stV v = v) {ops : Array Oper} {Q : Exit → St → Prop} {rest : List Oper} (kk : ∀ τ, k τ → AL P F N ops Q rest τ.er)
    (h : stO o ⟨σ.t, (κ, .ty .own full e ke X enc dec d xs') :: erl σ.r κ⟩ v k) : AL P F N ops Q rest ((σ.er.ow κ (TRoot.ty .own full e ke X enc dec d xs).er S ld m).putO o.dst v) := by
  have hos : ∀ κ', OSim ((σ.er.ow κ (TRoot.ty .own full e ke X enc dec d xs).er S ld m).rt κ') ((lkR ((κ, .ty .own full e ke X enc dec d xs') :: erl σ.r κ) κ').map TRoot.er) := by
    intro κ'
    rw [lkR_cons, lkR_erl]
    show OSim (if κ' = κ then some _ else σ.er.rt κ') _
    by_cases e2 : κ' = κ
    · rw [if_pos e2, if_pos e2]
      refine ⟨rfl, fun hf => ⟨hf, rfl⟩, rfl, hl, fun i r hi hr => ?_⟩
      change r < ke at hr
      rw [ty_get]
      show ClSim (.cl (if ld ≤ i ∧ i < ld + m then flat (S (i - ld) r) else (enc (xs.getD i d) r).er .own)) _
      by_cases h2 : ld ≤ i ∧ i < ld + m
      · obtain ⟨v, h3, h4⟩ := hin (i - ld) r (by omega) hr
        rw [show ld + (i - ld) = i by omega] at h3
        rw [if_pos h2, h3, h4]; exact CSame.rfl _
      · rw [if_neg h2, hout i h2]; exact CSame.rfl _
    · rw [if_neg e2, if_neg e2, if_neg e2, TS.rt_er]; exact OSim.rfl _
  have htv : ∀ t, (σ.er.ow κ (TRoot.ty .own full e ke X enc dec d xs).er S ld m).tv t = stV (lkT σ.t t) := by
    intro t
    show (look (σ.er.t.map fun p => (p.1, p.2.map (dimA κ) none)) t).getD .any = _
    rw [St.tv_map σ.er _ rfl, TS.tv_er, dim_st]
  unfold stO at h
  cases hd : o.dst with
  | none =>
    rw [hd] at h
    exact AL.le (le_lk (τ := ⟨σ.t, (κ, .ty .own full e ke X enc dec d xs') :: erl σ.r κ⟩) (fun t => .inr (htv t).symm) hos) (kk _ h)
  | some d' =>
    rw [hd] at h
    dsimp only at h
    split at h
    · rw [asK_eq] at h
      refine AL.le (le_lk (τ := ⟨(d', v) :: erl σ.t d', (κ, .ty .own full e ke X enc dec d xs') :: erl σ.r κ⟩) (fun t => .inr ?_) hos) (kk _ h)
      rw [lkT_cons]
      show _ = ((σ.er.ow κ (TRoot.ty .own full e ke X enc dec d xs).er S ld m).put d' v).tv t
      rw [St.tv_put]
      by_cases e2 : t = d'
      · rw [if_pos e2, if_pos e2, hv]
      · rw [if_neg e2, if_neg e2, htv, lkT_erl, if_neg e2]
    · rw [putK_eq] at h
      refine AL.le (le_lk (τ := ⟨(d', v) :: σ.t, (κ, .ty .own full e ke X enc dec d xs') :: erl σ.r κ⟩) (fun t => .inr ?_) hos) (kk _ h)
      rw [lkT_cons]
      show _ = ((σ.er.ow κ (TRoot.ty .own full e ke X enc dec d xs).er S ld m).put d' v).tv t
      rw [St.tv_put]
      by_cases e2 : t = d'
      · rw [if_pos e2, if_pos e2, hv]
      · rw [if_neg e2, if_neg e2, htv]
theorem OpK.copyT (hG : GOk P G) {t e0 e e2 ke bs kt κ κs ld ls nd ns m : Nat} {z : List ZC} {x y : Operand} {full f2 : Bool} {ro : RO} {X Y : Type} {enc : X → Nat → TC} {dec : List Value → Option X} {d : X} {xs : List X} {enc2 : Y → Nat → TC} {dec2 : List Value → Option Y} {d2 : Y} {ys : List Y} (xs' : List X)
    (hop : o.op = .call { callee := .builtin .copy, args := #[x, y], argTypes := #[t, t] }) (hg : o.guard = none) (hd : okD N o.dst = true) (ht : G.T t = some ⟨kt, .sl e ke bs, z⟩) (hx : evS σ x = .a (.ref κ ld nd)) (hR : lkR σ.r κ = some (.ty .own full e0 ke X enc dec d xs))
    (hy : evS σ y = .a (.ref κs ls ns)) (hS : lkR σ.r κs = some (.ty ro f2 e2 ke Y enc2 dec2 d2 ys)) (hm : m = Nat.min ns nd) (hl : xs'.length = xs.length)
    (hin : ∀ i r, i < m → r < ke → ∃ v, enc (xs'.getD (ld + i) d) r = .lit v ∧ enc2 (ys.getD (ls + i) d2) r = .lit v) (hout : ∀ q, ¬ (ld ≤ q ∧ q < ld + m) → xs'.getD q d = xs.getD q d)
    (h : setK σ κ (.ty .own full e0 ke X enc dec d xs') fun σ => stO o σ (.a (.lit (.int .i64 m))) k) : OpK P F N o σ k :=
  ⟨fun ops Q rest kk => AL.copyO hG.T hop hg hd ht (by rw [evS_eq, hx]; rfl) (TS.rt_some hR) rfl rfl rfl (by rw [evS_eq, hy]; rfl) (TS.rt_some hS) rfl rfl hm
    (ow_fin (v := .a (.lit (.int .i64 m))) xs' hR hl (fun i r hi hr => by
      obtain ⟨v, h1, h2⟩ := hin i r hi hr
      refine ⟨v, h1, ?_⟩
      show flat ((enc2 (ys.getD (ls + i) d2) r).er (owOf ro)) = _
      rw [h2]; rfl) hout rfl kk (by rw [setK_eq] at h; exact h))⟩
theorem OpK.appInT (hG : GOk P G) {t e0 e e2 ke bs kt κ κs n ls m : Nat} {z : List ZC} {x y : Operand} {f2 : Bool} {ro : RO} {X Y : Type} {enc : X → Nat → TC} {dec : List Value → Option X} {d : X} {xs : List X} {enc2 : Y → Nat → TC} {dec2 : List Value → Option Y} {d2 : Y} {ys : List Y} (xs' : List X)
    (hop : o.op = .call { callee := .builtin .append, args := #[x, y], argTypes := #[t, t] }) (hg : o.guard = none) (hd : okD N o.dst = true) (ht : G.T t = some ⟨kt, .sl e ke bs, z⟩) (hx : evS σ x = .a (.ref κ 0 n)) (hR : lkR σ.r κ = some (.ty .own true e0 ke X enc dec d xs))
    (hy : evS σ y = .a (.ref κs ls m)) (hS : lkR σ.r κs = some (.ty ro f2 e2 ke Y enc2 dec2 d2 ys)) (hnm : n + m ≤ xs.length) (hl : xs'.length = xs.length)
    (hin : ∀ i r, i < m → r < ke → ∃ v, enc (xs'.getD (n + i) d) r = .lit v ∧ enc2 (ys.getD (ls + i) d2) r = .lit v) (hout : ∀ q, ¬ (n ≤ q ∧ q < n + m) → xs'.getD q d = xs.getD q d)
    (h : setK σ κ (.ty .own true e0 ke X enc dec d xs') fun σ => stO o σ (.a (.ref κ 0 (n + m))) k) : OpK P F N o σ k :=
  ⟨fun ops Q rest kk => AL.appIn hG.T hop hg hd ht (by rw [evS_eq, hx]; rfl) (TS.rt_some hR) rfl rfl rfl (by rw [evS_eq, hy]; rfl) (TS.rt_some hS) rfl rfl hnm
    (ow_fin (v := .a (.ref κ 0 (n + m))) xs' hR hl (fun i r hi hr => by
      obtain ⟨v, h1, h2⟩ := hin i r hi hr
      refine ⟨v, h1, ?_⟩
      show flat ((enc2 (ys.getD (ls + i) d2) r).er (owOf ro)) = _
      rw [h2]; rfl) hout rfl kk (by rw [setK_eq] at h; exact h))⟩
theorem OpK.clearT (hG : GOk P G) {t e0 e ke bs kt κ ld n : Nat} {kd : TK} {z zt : List ZC} {x : Operand} {full : Bool} {X : Type} {enc : X → Nat → TC} {dec : List Value → Option X} {d : X} {xs : List X} (xs' : List X)
    (hop : o.op = .call { callee := .builtin .clear, args := #[x], argTypes := #[t] }) (hg : o.guard = none) (hd : okD N o.dst = true) (ht : G.T t = some ⟨kt, .sl e ke bs, zt⟩) (he : G.T e = some ⟨ke, kd, z⟩) (hz : z.all (fun c => match c with | .lit v => scal v | _ => false) = true) (hx : evS σ x = .a (.ref κ ld n)) (hR : lkR σ.r κ = some (.ty .own full e0 ke X enc dec d xs))
    (hl : xs'.length = xs.length) (hin : ∀ i r, i < n → r < ke → ∃ v, enc (xs'.getD (ld + i) d) r = .lit v ∧ zrow z i r = .lit v) (hout : ∀ q, ¬ (ld ≤ q ∧ q < ld + n) → xs'.getD q d = xs.getD q d)
    (h : setK σ κ (.ty .own full e0 ke X enc dec d xs') fun σ => stO o σ (.tup []) k) : OpK P F N o σ k :=
  ⟨fun ops Q rest kk => AL.clear hG.T hop hg hd ht he hz (by rw [evS_eq, hx]; rfl) (TS.rt_some hR) rfl rfl rfl
    (ow_fin (v := .tup []) xs' hR hl (fun i r hi hr => by
      obtain ⟨v, h1, h2⟩ := hin i r hi hr
      exact ⟨v, h1, by rw [h2]; rfl⟩) hout rfl kk (by rw [setK_eq] at h; exact h))⟩
end
end Go.Tr
