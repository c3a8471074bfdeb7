/- What is left to show is enough: slots, roots, cells. -/
import Derived.Test.YtjlphbhmjicdhaaVD
set_option linter.unusedVariables false
set_option linter.unusedSimpArgs false
universe u
namespace Go.Tr
open Go Go.RowKit

theorem blt_dec (n m : Nat) : Nat.blt n m = decide (n < m) := by
  rw [Bool.eq_iff_iff]; simp [Nat.blt]; omega
theorem ble_dec (n m : Nat) : Nat.ble n m = decide (n ≤ m) := by
  rw [Bool.eq_iff_iff]; simp
theorem lkT_erl (l : List (Nat × V)) (d n : Nat) : lkT (erl l d) n = if n = d then .any else lkT l n := by
  induction l with
  | nil => simp [erl, lkT]
  | cons p l ih =>
    simp only [erl, beq_dec]
    by_cases h : p.1 = d
    · simp only [h, decide_true, cond_true, ih, lkT, beq_dec]
      by_cases e : n = d <;> simp [e]
    · simp only [h, decide_false, cond_false, lkT, beq_dec, ih]
      by_cases e : n = p.1
      · have : n ≠ d := by omega
        simp [e, h]
      · simp [e]
theorem lkR_erl (l : List (Nat × TRoot)) (d n : Nat) : lkR (erl l d) n = if n = d then none else lkR l n := by
  induction l with
  | nil => simp [erl, lkR]
  | cons p l ih =>
    simp only [erl, beq_dec]
    by_cases h : p.1 = d
    · simp only [h, decide_true, cond_true, ih, lkR, beq_dec]
      by_cases e : n = d <;> simp [e]
    · simp only [h, decide_false, cond_false, lkR, beq_dec, ih]
      by_cases e : n = p.1
      · have : n ≠ d := by omega
        simp [e, h]
      · simp [e]
theorem lkT_cons (d : Nat) (v : V) (l : List (Nat × V)) (n : Nat) : lkT ((d, v) :: l) n = if n = d then v else lkT l n := by
  simp only [lkT, beq_dec]; by_cases h : n = d <;> simp [h]
theorem lkR_cons (d : Nat) (R : TRoot) (l : List (Nat × TRoot)) (n : Nat) : lkR ((d, R) :: l) n = if n = d then some R else lkR l n := by
  simp only [lkR, beq_dec]; by_cases h : n = d <;> simp [h]

def OSim : Option Root → Option Root → Prop
  | none, none => True
  | some R, some R' => RSim R R'
  | _, _ => False
theorem OSim.rfl (x : Option Root) : OSim x x := by cases x; trivial; exact RSim.rfl _
/-- A base state told as a typed one. -/
theorem le_lk {s : St} {τ : TS} (ht : ∀ t, stV (lkT τ.t t) = .any ∨ stV (lkT τ.t t) = s.tv t) (hr : ∀ κ, OSim (s.rt κ) ((lkR τ.r κ).map TRoot.er)) : s.le τ.er := by
  refine St.le.sim (fun t => by rw [TS.tv_er]; exact ht t) (fun κ R hR => ?_) (fun κ R' hR => ?_)
  · have := hr κ
    rw [hR] at this
    rw [TS.rt_er]
    cases hq : (lkR τ.r κ).map TRoot.er with
    | none => rw [hq] at this; exact this.elim
    | some R' => rw [hq] at this; exact ⟨R', by first | exact hq | rfl, this⟩
  · have := hr κ
    rw [← TS.rt_er, hR] at this
    cases hq : s.rt κ with
    | none => rw [hq] at this; exact this.elim
    | some R => exact ⟨R, by first | exact hq | rfl⟩
theorem stA_stA (x : At) : stA (stA x) = stA x := by cases x <;> rfl
theorem stV_stV (v : V) : stV (stV v) = stV v := by
  cases v with
  | tup l =>
    simp only [stV, List.map_map]
    congr 1
    apply List.map_congr_left
    intro x _
    cases x <;> simp [stV0, Function.comp, stA_stA]
  | _ => simp [stV, stA_stA, Function.comp]

section
variable {P : Program} {F : Fm} {N : Nat} {G : Gt} {o : Oper} {σ : TS} {k : TS → Prop} {ops : Array Oper} {Q : Exit → St → Prop} {rest : List Oper}

theorem put_ok {d : Nat} {v : V} (kk : ∀ τ, k τ → AL P F N ops Q rest τ.er) (h : putK σ d v k) : AL P F N ops Q rest (σ.er.put d (stV v)) := by
  rw [putK_eq] at h
  exact kk _ h
theorem as_ok {d : Nat} {v : V} (kk : ∀ τ, k τ → AL P F N ops Q rest τ.er) (h : asK σ d v k) : AL P F N ops Q rest (σ.er.put d (stV v)) := by
  rw [asK_eq] at h
  refine AL.le (le_lk (fun t => ?_) (fun κ => ?_)) (kk _ h)
  · rw [lkT_cons, lkT_erl, St.tv_put]
    by_cases e : t = d
    · simp [e]
    · simp [e, TS.tv_er]
  · rw [show (σ.er.put d (stV v)).rt κ = σ.er.rt κ from rfl, TS.rt_er]; exact OSim.rfl _
theorem stO_ok {v : V} (hd : okD N o.dst = true) (kk : ∀ τ, k τ → AL P F N ops Q rest τ.er) (h : stO o σ v k) : AL P F N ops Q rest (σ.er.putO o.dst (stV v)) := by
  unfold stO at h
  cases hq : o.dst with
  | none => rw [hq] at h; exact kk _ h
  | some d =>
    rw [hq] at h
    dsimp only at h
    split at h
    · exact as_ok kk h
    · exact put_ok kk h
theorem AL.pure {v : V} (hg : o.guard = none) (hd : okD N o.dst = true) {s : St} (hp : Pure1 P F N s o v) (k : AL P F N ops Q rest (s.putO o.dst v)) : AL P F N ops Q (o :: rest) s :=
  AL.val hg hd (fun a w ω β h => by obtain ⟨u, h1, h2⟩ := hp a w ω β h; exact ⟨u, h1 w, h2⟩) k
theorem rd_ok (hG : GOk P G) (hg : o.guard = none) (hd : okD N o.dst = true) (kk : ∀ τ, k τ → AL P F N ops Q rest τ.er) (h : rdP P F N G o σ fun v => stO o σ v k) : AL P F N ops Q (o :: rest) σ.er := by
  obtain ⟨v, hv, hp⟩ := rdP_ok hG h
  exact AL.pure hg hd hp (stO_ok hd kk hv)
theorem set_ok {κ : Nat} {R : TRoot} {R0 : Root} {s : St} (hs : ∀ t, s.tv t = stV (lkT σ.t t)) (hr : ∀ κ', s.rt κ' = if κ' = κ then some R0 else σ.er.rt κ') (hsim : RSim R0 R.er) (kk : ∀ τ, k τ → AL P F N ops Q rest τ.er) (h : setK σ κ R k) : AL P F N ops Q rest s := by
  rw [setK_eq] at h
  refine AL.le (le_lk (τ := ⟨σ.t, (κ, R) :: erl σ.r κ⟩) (fun t => .inr (hs t).symm) (fun κ' => ?_)) (kk _ h)
  rw [hr, lkR_cons, lkR_erl]
  by_cases e : κ' = κ
  · simp only [e, if_pos]; exact hsim
  · simp only [e, if_neg, not_false_eq_true, if_false]
    rw [TS.rt_er]; exact OSim.rfl _

theorem mkop_get (l : List Cl) (c : Cl) (r : Nat) : look2 (mkop 0 0 l) 0 r c = (l[r]?).getD c := by
  have := look2_mkop (i := 0) (i' := 0) (c := c) [] l 0 r
  rw [List.append_nil] at this
  rw [this]
  by_cases h : r < l.length
  · rw [if_pos ⟨rfl, by omega, by omega⟩]; simp [h]
  · rw [if_neg (by omega)]
    rw [List.getElem?_eq_none (by omega)]; rfl
theorem box_get {e : Nat} {cs : List TCl} {r : Nat} : (TRoot.box e cs).er.get 0 r = ((cs[r]?).map TCl.er).getD (.cl .any) := by
  show look2 (mkop 0 0 (cs.map TCl.er)) 0 r (.cl .any) = _
  rw [mkop_get, List.getElem?_map]
theorem litr_get {e k : Nat} {l : List TCl} (hl : l.length = k) {r : Nat} (hr : r < k) : (TRoot.litr e k [l]).er.get 0 r = ((l[r]?).map TCl.er).getD (.cl .any) := by
  show look2 (litR.mkops k 1 (([l].map fun l => l.map TCl.er).flatten)) 0 r (.cl .any) = _
  have := litR_get k (c := .cl .any) 1 (l.map TCl.er) [] 0 r (by simp [hl]) (by omega) hr
  rw [List.append_nil] at this
  simp only [List.map_cons, List.map_nil, List.flatten_cons, List.flatten_nil, List.append_nil]
  rw [this, Nat.zero_mul, Nat.zero_add, List.getElem?_map]
theorem ty_get {o : RO} {f : Bool} {e k : Nat} {X : Type} {enc : X → Nat → TC} {dec : List Value → Option X} {d : X} {xs : List X} (i r : Nat) :
    (TRoot.ty o f e k X enc dec d xs).er.get i r = .cl ((enc (xs.getD i d) r).er (owOf o)) := rfl

/-- What a cell of a typed root says. -/
theorem cellT_ok {R : TRoot} {i r : Nat} {c : TCl} (h : cellT R i r = some c) : r < R.er.k ∧ (∀ e cs, R = .box e cs → i = 0) ∧ (R.er.get i r = (match c with | .ref a b n => .ref a b n | .cl t => .cl (t.er (owOf R.er.o)))) := by
  cases R with
  | ty o f e k X enc dec d xs =>
    simp only [cellT] at h
    by_cases hk : r < k
    · rw [blt_dec, decide_eq_true hk] at h
      injection h with h; subst h
      exact ⟨hk, (fun e cs hh => by cases hh), rfl⟩
    · rw [blt_dec, decide_eq_false hk] at h; cases h
  | box e cs =>
    cases i with
    | succ i => simp [cellT] at h
    | zero =>
      simp only [cellT] at h
      refine ⟨(List.getElem?_eq_some_iff.1 h).1, (fun _ _ _ => rfl), ?_⟩
      rw [box_get, h]
      cases c <;> rfl
  | litr e k cs =>
    cases i with
    | succ i => simp [cellT] at h
    | zero =>
      cases cs with
      | nil => simp [cellT] at h
      | cons l cs =>
        cases cs with
        | cons _ _ => simp [cellT] at h
        | nil =>
          simp only [cellT, beq_dec] at h
          by_cases hk : l.length = k
          · simp only [hk, decide_true, cond_true] at h
            have hr : r < k := by rw [← hk]; exact (List.getElem?_eq_some_iff.1 h).1
            refine ⟨hr, (fun e cs hh => by cases hh), ?_⟩
            rw [litr_get hk hr, h]
            cases c <;> rfl
          · simp only [hk, decide_false, cond_false] at h; cases h
  | raw R => simp [cellT] at h
  | tyo => simp [cellT] at h
theorem cellT_atom {R : TRoot} {κ i r : Nat} {c : TCl} (h : cellT R i r = some c) : R.er.atom κ i r = tclA κ i r c := by
  obtain ⟨_, _, hg⟩ := cellT_ok h
  unfold Root.atom
  rw [hg]
  cases c with
  | ref => rfl
  | cl t => cases t <;> rfl
theorem atomsT_ok {R : TRoot} {κ i : Nat} : ∀ {m r : Nat} {l : List At}, atomsT R κ i r m = some l → l = atomsL R.er κ i r m ∧ (0 < m → r + m ≤ R.er.k ∧ (∀ e cs, R = .box e cs → i = 0) ∧ ∃ c, cellT R i r = some c)
  | 0, r, l, h => by injection h with h; subst h; exact ⟨rfl, fun h => by omega⟩
  | m + 1, r, l, h => by
    simp only [atomsT] at h
    cases hc : cellT R i r with
    | none => rw [hc] at h; cases h
    | some c =>
      rw [hc] at h
      cases hl : atomsT R κ i (r + 1) m with
      | none => rw [hl] at h; cases h
      | some l' =>
        rw [hl] at h
        injection h with h; subst h
        obtain ⟨e1, e2⟩ := atomsT_ok hl
        obtain ⟨k1, k2, _⟩ := cellT_ok hc
        refine ⟨by rw [e1]; simp only [atomsL, cellT_atom hc], fun _ => ⟨?_, k2, c, rfl⟩⟩
        rcases Nat.eq_zero_or_pos m with h0 | h0
        · omega
        · have := (e2 h0).1; omega
theorem inK_ok {R : TRoot} {i : Nat} {p : Prop} (h : inK R i p) (hb : ∀ e cs, R = .box e cs → i = 0) (hc : ∃ r c, cellT R i r = some c) : i < R.er.n ∧ p := by
  cases R with
  | ty => exact ⟨h.1.h, h.2⟩
  | box e cs => exact ⟨by rw [hb e cs rfl]; exact Nat.zero_lt_one, h⟩
  | litr e k cs =>
    obtain ⟨r, c, hc⟩ := hc
    refine ⟨?_, h⟩
    cases i with
    | succ i => simp [cellT] at hc
    | zero =>
      cases cs with
      | nil => simp [cellT] at hc
      | cons l cs => exact Nat.succ_pos _
  | raw R => obtain ⟨r, c, hc⟩ := hc; simp [cellT] at hc
  | tyo => obtain ⟨r, c, hc⟩ := hc; simp [cellT] at hc
end

/-- What stands in the slots and cells stands still. -/
def Keep (s s' : St) (β β' : Nat → Bs) : Prop := ∀ κ R, s.rt κ = some R → β' κ = β κ ∧ ∃ R', s'.rt κ = some R' ∧ R'.k = R.k ∧ R'.n = R.n
theorem Keep.rfl (s : St) (β : Nat → Bs) : Keep s s β β := fun κ R h => ⟨Eq.refl _, R, h, Eq.refl _, Eq.refl _⟩
theorem Keep.trans {a b c : St} {β β' β'' : Nat → Bs} (h : Keep a b β β') (k : Keep b c β' β'') : Keep a c β β'' := fun κ R hR => by
  obtain ⟨e1, R1, h1, h2, h3⟩ := h κ R hR
  obtain ⟨e2, R2, k1, k2, k3⟩ := k κ R1 h1
  exact ⟨e2.trans e1, R2, k1, k2.trans h2, k3.trans h3⟩
theorem Keep.arel {s s' : St} {β β' : Nat → Bs} {w : World} (h : Keep s s' β β') {x : At} {u : Value} (hx : ARel s β w x u) : ARel s' β' w x u := by
  cases x with
  | any => exact hx
  | lit v => exact hx
  | nil e k => exact hx
  | ref κ lo n =>
    obtain ⟨R, hR, h1⟩ := hx
    obtain ⟨e1, R1, k1, k2, k3⟩ := h κ R hR
    exact ⟨R1, k1, by rw [e1]; exact h1.le k2 (by omega)⟩
  | spot κ i r =>
    obtain ⟨R, g, j, hR, hi, hr, hl, ⟨o, a1, a2⟩, hc⟩ := hx
    obtain ⟨e1, R1, k1, k2, k3⟩ := h κ R hR
    exact ⟨R1, g, j, k1, by omega, by omega, Eq.refl _, ⟨o, by rw [e1]; exact a1, by rw [k2]; exact a2⟩, hc⟩
theorem spot_val {F : Fm} {N : Nat} {s : St} {a : Act} {w : World} {ω : Om} {β : Nat → Bs} (h : Rel1 F N s a w ω β) {κ i r κ' lo n : Nat} {u : Value} {R : Root} (hx : ARel s β w (.spot κ i r) u) (hR : s.rt κ = some R) (hg : R.get i r = .ref κ' lo n) : ARel s β w (.ref κ' lo n) u := by
  obtain ⟨R1, g, j, hR1, hi, hr, hl, ⟨o, a1, a2⟩, hc⟩ := hx
  rw [hR] at hR1; injection hR1 with hR1; subst hR1
  obtain ⟨g', j', u', ⟨o', b1, b2⟩, k2, k3, k4, k5⟩ := (h.roots κ R hR).cells i r hi hr rfl
  rw [a1] at b1; injection b1 with b1; injection b1 with b3 b4 _
  subst b3 b4
  have hj : j' = j := by rw [a2, b2]
  subst hj
  rw [k2] at hc; injection hc with hc; subst hc
  unfold CellRel at k5
  rw [hg] at k5
  exact k5
theorem noVw_ok {κ : Nat} : ∀ {l : List (Nat × TRoot)}, noVw κ l = true → ∀ κ' R i r, (lkR l κ').map TRoot.er = some R → R.o ≠ .vw κ i r
  | [], _, κ', R, i, r, h => by simp [lkR] at h
  | (n, T) :: l, hv, κ', R, i, r, h => by
    simp only [lkR, beq_dec] at h
    by_cases e : κ' = n
    · simp only [e, decide_true, cond_true, Option.map_some, Option.some.injEq] at h
      subst h
      cases T with
      | ty o f e k X enc dec d xs =>
        show o ≠ _
        cases o with
        | own => intro h; cases h
        | fro => intro h; cases h
        | vw a b c =>
          simp only [noVw, beq_dec] at hv
          intro h; injection h with h1 _ _
          subst h1
          simp at hv
      | box e cs => intro h; cases h
      | litr e k cs => intro h; cases h
      | raw R => simp [noVw] at hv
      | tyo => intro h; cases h
    · simp only [e, decide_false, cond_false] at h
      have hv' : noVw κ l = true := by
        cases T with
        | ty o f e k X enc dec d xs =>
          cases o with
          | own => exact hv
          | fro => exact hv
          | vw a b c =>
            simp only [noVw, beq_dec] at hv
            by_cases e2 : a = κ
            · simp [e2] at hv
            · simpa [e2] using hv
        | box e cs => exact hv
        | litr e k cs => exact hv
        | raw R => simp [noVw] at hv
        | tyo => exact hv
      exact noVw_ok hv' κ' R i r h
end Go.Tr
