/- A calculus for contracts over the memory of the model, its third part: loops, regions that draw, rules in the form in which they are tried. -/
import Derived.Test.YtjlphbhmjicdhaaTrb
import Derived.Orders
import Derived.RegionTactic
import Derived.Laws.StructEq
import Derived.WalkKit
import Derived.ProofKit
import Derived.OpenShut
import Derived.ChangeOld
import Derived.Below
import Derived.ChangeArms
import Derived.Deep.Slices
set_option linter.unusedVariables false
set_option linter.unusedSimpArgs false
namespace Go.Tr
open Go Go.RowKit

/-- Whatever fits σ fits σ'. -/
def St.le (σ σ' : St) : Prop := ∀ F N a w, Rel F N σ a w → Rel F N σ' a w
theorem St.le.refl (σ : St) : σ.le σ := fun _ _ _ _ h => h
theorem St.le.trans {a b c : St} (h : a.le b) (k : b.le c) : a.le c := fun F N x w hr => k F N x w (h F N x w hr)

section
variable {P : Program} {F : Fm} {N : Nat} {Q : Exit → St → Prop} {σ σ' : St} {ops : Array Oper} {o : Oper} {rest : List Oper}

theorem AC.le {c : Code} (h : σ.le σ') (k : AC P F N c Q σ') : AC P F N c Q σ := fun a w hr => k a w (h F N a w hr)
theorem AL.le {l : List Oper} (h : σ.le σ') (k : AL P F N ops Q l σ') : AL P F N ops Q l σ := fun a w hr => k a w (h F N a w hr)
/-- Code whose every way leads to σ'. -/
theorem AC.cut {x y : Code} (σ' : St) (h : AC P F N x (AThen (fun s => s.le σ') Q) σ) (k : AC P F N y Q σ') : AC P F N (.seq x y) Q σ :=
  AC.seq (AC.mono h fun e s hs => by
    cases e with
    | normal => exact AC.le hs k
    | exit id => exact hs
    | goto l => exact hs
    | ret => exact hs
    | panic c => exact hs
    | outgrown => exact hs)
/-- A loop, its head told by a family of states. -/
theorem AC.loopS {ι : Type} {c : Code} (S : ι → St) (M : ι → Nat) (i0 : ι) (h0 : σ.le (S i0)) (round : ∀ i, AC P F N c (AThen (fun s => ∃ j, M j < M i ∧ s.le (S j)) Q) (S i)) : AC P F N (.loop c) Q σ :=
  AC.loop (fun n s => ∃ i, n = M i ∧ s.le (S i)) ⟨i0, rfl, h0⟩ fun n s ⟨i, hn, hs⟩ => AC.le hs (AC.mono (round i) fun e s' h => by
    cases e with
    | normal =>
      obtain ⟨j, h1, h2⟩ := h
      exact ⟨M j, by omega, j, rfl, h2⟩
    | exit id => exact h
    | goto l => exact h
    | ret => exact h
    | panic c => exact h
    | outgrown => exact h)

/-- The same root, told in another way. -/
structure RSame (R R' : Root) : Prop where
  o : R'.o = R.o
  full : R'.full = true → R.full = true ∧ R'.e = R.e
  k : R'.k = R.k
  n : R'.n = R.n
  at_ : ∀ i r, i < R'.n → r < R'.k → R'.get i r = R.get i r
theorem RSame.rfl (R : Root) : RSame R R := ⟨Eq.refl _, fun h => ⟨h, Eq.refl _⟩, Eq.refl _, Eq.refl _, fun _ _ _ _ => Eq.refl _⟩
def hasR (l : List (Nat × Root)) (κ : Nat) : Bool := (look l κ).isSome
def atOk (l : List (Nat × Root)) : At → Bool
  | .ref κ _ _ => hasR l κ
  | .spot κ _ _ => hasR l κ
  | _ => true
def vOk0 (l : List (Nat × Root)) : V → Bool
  | .a x => atOk l x
  | .agg xs => xs.all (atOk l)
  | .ptr κ _ _ => hasR l κ
  | _ => true
def vOk (l : List (Nat × Root)) : V → Bool
  | .tup vs => vs.all (vOk0 l)
  | v => vOk0 l v
def clOk (l : List (Nat × Root)) : Cl → Bool
  | .ref κ _ _ => hasR l κ
  | _ => true
/-- Every slot that σ' tells is told so by σ. -/
def tAll (σ : St) : List (Nat × V) → Prop
  | [] => True
  | p :: l => σ.tv p.1 = p.2 ∧ tAll σ l
def rAll (σ : St) : List (Nat × Root) → Prop
  | [] => True
  | p :: l => (∃ R, σ.rt p.1 = some R ∧ RSame R p.2) ∧ rAll σ l
theorem tAll_at {σ : St} : ∀ {l : List (Nat × V)} {t : Nat} {v : V}, tAll σ l → look l t = some v → σ.tv t = v
  | [], _, _, _, h => by cases h
  | p :: l, t, v, hh, h => by
    rw [look] at h
    split at h
    · rename_i e; injection h with h; subst e h; exact hh.1
    · exact tAll_at hh.2 h
theorem rAll_at {σ : St} : ∀ {l : List (Nat × Root)} {κ : Nat} {R' : Root}, rAll σ l → look l κ = some R' → ∃ R, σ.rt κ = some R ∧ RSame R R'
  | [], _, _, _, h => by cases h
  | p :: l, t, v, hh, h => by
    rw [look] at h
    split at h
    · rename_i e; injection h with h; subst e h; exact hh.1
    · exact rAll_at hh.2 h
theorem look_mem {α : Type} : ∀ {l : List (Nat × α)} {t : Nat} {v : α}, look l t = some v → (t, v) ∈ l
  | [], _, _, h => by cases h
  | p :: l, t, v, h => by
    rw [look] at h
    split at h
    · rename_i e; injection h with h; subst e h; exact List.mem_cons_self
    · exact List.mem_cons_of_mem _ (look_mem h)
theorem hasR_some {l : List (Nat × Root)} {κ : Nat} (h : hasR l κ = true) : ∃ R, look l κ = some R := by
  unfold hasR at h
  cases hl : look l κ with
  | none => rw [hl] at h; cases h
  | some R => exact ⟨R, rfl⟩
theorem look2_none (op : List ((Nat × Nat) × Cl)) (f : Cl → Bool) (hop : op.all (fun p => f p.2) = true) (i r : Nat) (c : Cl) (hc : f c = true) : f (look2 op i r c) = true := by
  induction op with
  | nil => exact hc
  | cons p op ih =>
    obtain ⟨⟨i', r'⟩, x⟩ := p
    simp only [List.all_cons, Bool.and_eq_true] at hop
    rw [look2]
    split
    · split
      · exact hop.1
      · exact ih hop.2
    · exact ih hop.2

theorem Rel1.sub {a : Act} {w : World} {ω : Om} {β : Nat → Bs} (h : Rel1 F N σ a w ω β) (ht : tAll σ σ'.t) (hr : rAll σ σ'.r) (hv : σ'.t.all (fun p => vOk σ'.r p.2) = true) (hc : σ'.r.all (fun p => p.2.op.all fun q => clOk σ'.r q.2) = true) : Rel1 F N σ' a w ω β := by
  have hR : ∀ κ, hasR σ'.r κ = true → ∃ R R', σ.rt κ = some R ∧ σ'.rt κ = some R' ∧ RSame R R' := by
    intro κ hk
    obtain ⟨R', h1⟩ := hasR_some hk
    obtain ⟨R, h2, h3⟩ := rAll_at hr h1
    exact ⟨R, R', h2, h1, h3⟩
  have href : ∀ {κ lo n u}, hasR σ'.r κ = true → RefRel σ β κ lo n u → RefRel σ' β κ lo n u := by
    rintro κ lo n u hk ⟨R, h1, h2⟩
    obtain ⟨R0, R', k1, k2, k3⟩ := hR κ hk
    rw [h1] at k1; injection k1 with k1; subst k1
    exact ⟨R', k2, h2.le k3.k (by rw [k3.n]; exact Nat.le_refl _)⟩
  have hA : ∀ x u, atOk σ'.r x = true → ARel σ β w x u → ARel σ' β w x u := by
    intro x u hx hxu
    cases x with
    | any => exact hxu
    | lit v => exact hxu
    | nil e k => exact hxu
    | ref κ lo n => exact href hx hxu
    | spot κ i r =>
      obtain ⟨R, g, j, h1, hi, hrr, hl, ⟨o, e1, e2⟩, hcell⟩ := hxu
      obtain ⟨R0, R', k1, k2, k3⟩ := hR κ hx
      rw [h1] at k1; injection k1 with k1; subst k1
      exact ⟨R', g, j, k2, by rw [k3.n]; exact hi, by rw [k3.k]; exact hrr, rfl, ⟨o, e1, by rw [k3.k]; exact e2⟩, hcell⟩
  have hV0 : ∀ x u, vOk0 σ'.r x = true → VRel0 σ β w x u → VRel0 σ' β w x u := by
    intro x u hx hxu
    cases x with
    | any => trivial
    | a x => exact hA x u hx hxu
    | agg l =>
      obtain ⟨us, e1, e2, e3⟩ := hxu
      refine ⟨us, e1, e2, fun j x hj => ?_⟩
      obtain ⟨y, h1, h2⟩ := e3 j x hj
      exact ⟨y, h1, hA _ _ (List.all_eq_true.1 hx x (List.mem_of_getElem? hj)) h2⟩
    | ptr κ i r =>
      obtain ⟨R, g, j, h1, ⟨o, e1, e2⟩, e3⟩ := hxu
      obtain ⟨R0, R', k1, k2, k3⟩ := hR κ hx
      rw [h1] at k1; injection k1 with k1; subst k1
      exact ⟨R', g, j, k2, ⟨o, e1, by rw [k3.k]; exact e2⟩, e3⟩
    | tup l => exact hxu.elim
  refine ⟨h.tsz, h.dfr, fun t => ?_, fun κ R' hR' => ?_, h.wr, h.fr, h.fz, fun ρ R' hρ hR' => ?_⟩
  · show VRel σ' β w ((look σ'.t t).getD .any) _
    cases hl : look σ'.t t with
    | none => trivial
    | some v =>
      have h1 := tAll_at ht hl
      have h2 := h.tmps t
      rw [h1] at h2
      have h3 := List.all_eq_true.1 hv (t, v) (look_mem hl)
      show VRel σ' β w v _
      cases v with
      | tup l =>
        obtain ⟨us, e1, e2, e3⟩ := h2
        refine ⟨us, e1, e2, fun j x hj => ?_⟩
        obtain ⟨y, k1, k2⟩ := e3 j x hj
        exact ⟨y, k1, hV0 _ _ (List.all_eq_true.1 h3 x (List.mem_of_getElem? hj)) k2⟩
      | any => trivial
      | a x => exact hV0 (.a x) _ h3 h2
      | agg l => exact hV0 (.agg l) _ h3 h2
      | ptr κ i r => exact hV0 (.ptr κ i r) _ h3 h2
  · obtain ⟨R, k1, k2⟩ := rAll_at hr hR'
    have h0 := h.roots κ R k1
    have hop := List.all_eq_true.1 hc (κ, R') (look_mem hR')
    refine ⟨fun i r hi hrr hl => ?_, fun hf => ?_⟩
    · have hg := k2.at_ i r hi hrr
      rw [k2.n] at hi; rw [k2.k] at hrr
      obtain ⟨g, j, u, ⟨o, e1, e2⟩, f2, f3, f4, f5⟩ := h0.cells i r hi hrr rfl
      refine ⟨g, j, u, ⟨o, e1, by rw [k2.k]; exact e2⟩, f2, by rw [k2.o]; exact f3, by rw [k2.o]; exact f4, ?_⟩
      have hcl : clOk σ'.r (R'.get i r) = true := look2_none R'.op (clOk σ'.r) hop i r _ rfl
      unfold CellRel at f5 ⊢
      rw [hg] at hcl ⊢
      rw [k2.o]
      cases hq : R.get i r with
      | ref κ2 lo n => rw [hq] at f5 hcl; exact href hcl f5
      | cl c => rw [hq] at f5; exact f5
    · obtain ⟨f1, f2⟩ := k2.full hf
      obtain ⟨m0, m1, m2, m3, m4⟩ := h0.full f1
      rw [k2.o, k2.k, k2.n, f2]
      exact ⟨fun _ _ _ _ => rfl, m1, m2, m3, m4⟩
  · obtain ⟨R, k1, _⟩ := rAll_at hr hR'
    exact h.ex ρ R hρ k1

/-- Less is told. -/
theorem St.le.sub (ht : tAll σ σ'.t) (hr : rAll σ σ'.r) (hv : σ'.t.all (fun p => vOk σ'.r p.2) = true) (hc : σ'.r.all (fun p => p.2.op.all fun q => clOk σ'.r q.2) = true) : σ.le σ' := by
  rintro F N a w ⟨ω, β, h⟩
  exact ⟨ω, β, h.sub ht hr hv hc⟩

/-! Regions that draw their order. -/
def AY (P : Program) (F : Fm) (N : Nat) (ops : Array Oper) (Q : Exit → St → Prop) (fuel : Nat) (listed : Array Bool) (σ : St) : Prop := ∀ a w, Rel F N σ a w → wpAny P .any ops (CQ F N Q) fuel listed a w
def AYs (P : Program) (F : Fm) (N : Nat) (ops : Array Oper) (Q : Exit → St → Prop) (fuel : Nat) (listed : Array Bool) (σ : St) (rs : List Nat) : Prop :=
  ∀ i ∈ rs, ∃ o, ops[i]? = some o ∧ AL P F N ops (AThen (fun s => AY P F N ops Q fuel (listed.setIfInBounds i true) s) Q) [o] σ

theorem AYs.nil {fuel : Nat} {listed : Array Bool} : AYs P F N ops Q fuel listed σ [] := fun _ h => by cases h
theorem AYs.cons {fuel : Nat} {listed : Array Bool} {i : Nat} {rs : List Nat} (ho : ops[i]? = some o) (h : AL P F N ops (AThen (fun s => AY P F N ops Q fuel (listed.setIfInBounds i true) s) Q) [o] σ) (hs : AYs P F N ops Q fuel listed σ rs) :
    AYs P F N ops Q fuel listed σ (i :: rs) := fun j hj => by
  rcases List.mem_cons.1 hj with rfl | hj
  · exact ⟨o, ho, h⟩
  · exact hs j hj

theorem wp_turn {a : Act} {w : World} {K K' : Act → World → Prop} {Q1 Q2 : Exit → Act → World → Prop} (hk : ∀ a w, K a w → K' a w) (hq : ∀ c a w, Q1 (.panic c) a w → Q2 (.panic c) a w) (ho : LetsOut Q1 → LetsOut Q2) (h : Oper.wp P o a w K Q1) : Oper.wp P o a w K' Q2 := by
  unfold Oper.wp at *
  generalize (execOp a.eval o).run P w = r at *
  cases r with
  | ok n w' =>
    cases n <;> simp only [Oper.upon] at h ⊢ <;>
      first
        | exact hk _ _ h
        | exact Calls.mono h (fun e w'' he => by cases e <;> first | exact hk _ _ he | exact hq _ _ _ he | exact ho he)
        | exact Rows.mono h (fun _ _ he => hk _ _ he)
  | halt x w' => cases x <;> simp only [Oper.upon] at h ⊢ <;> first | exact hq _ _ _ h | exact h

theorem AY.step {fuel : Nat} {listed : Array Bool} (rs : List Nat) (hr : Region.ready .any ops listed = rs) (hne : rs ≠ []) (h : AYs P F N ops Q fuel listed σ rs) : AY P F N ops Q (fuel + 1) listed σ := by
  intro a w hrel
  refine wpAny_ready hr hne (fun i hi => ?_)
  obtain ⟨o, ho, hl⟩ := h i hi
  have hw := hl a w hrel
  unfold wpOp
  rw [ho]
  dsimp only
  unfold wpList at hw
  have hK : ∀ a w, wpList P ops (CQ F N (AThen (fun s => AY P F N ops Q fuel (listed.setIfInBounds i true) s) Q)) [] a w → wpAny P .any ops (CQ F N Q) fuel (listed.setIfInBounds i true) a w := by
    rintro a w ⟨s, h1, h2⟩
    exact h1 a w h2
  split at hw
  · rename_i hwant
    rw [if_pos hwant]
    rcases hw with hw | ⟨hw, hlo⟩
    · exact .inl (wp_turn hK (fun c a w h => h) (fun h => h) hw)
    · exact .inr ⟨hw, hlo⟩
  · rename_i hwant
    rw [if_neg hwant]
    exact hK _ _ hw
theorem AY.done {fuel : Nat} {listed : Array Bool} (hr : Region.ready .any ops listed = []) (h : Q .normal σ) : AY P F N ops Q fuel listed σ := fun a w hrel => wpAny_done hr ⟨σ, h, hrel⟩ fuel
theorem AC.draw {id : Nat} (hm : P.follows .mixedOrders = true) (h : AY P F N ops Q ops.size (Array.replicate ops.size false) σ) : AC P F N (.region id ops true) Q σ := by
  intro a w hr
  obtain ⟨ω, β, h1⟩ := hr
  refine wp_region_any hm (h a _ ⟨ω, β, ?_⟩)
  exact h1.drew
end
end Go.Tr
namespace Go.Tr
open Go Go.RowKit

section
variable {P : Program} {F : Fm} {N : Nat} {Q : Exit → St → Prop} {σ : St} {ops : Array Oper} {o : Oper} {rest : List Oper}

theorem AL.add {t u : Nat} {x y : Operand} {i j : Int} (hop : o.op = .binOp .add t x y u) (hg : o.guard = none) (hd : okD N o.dst = true) (hx : σ.ev x = .a (.lit (.int .i64 i))) (hy : σ.ev y = .a (.lit (.int .i64 j)))
    (hb : -9223372036854775808 ≤ i + j ∧ i + j ≤ 9223372036854775807) (k : AL P F N ops Q rest (σ.putO o.dst (.a (.lit (.int .i64 (i + j)))))) : AL P F N ops Q (o :: rest) σ :=
  AL.int2 hop hg hd hx hy rfl trivial (by rw [wr_in hb]; exact k)
theorem AL.sub {t u : Nat} {x y : Operand} {i j : Int} (hop : o.op = .binOp .sub t x y u) (hg : o.guard = none) (hd : okD N o.dst = true) (hx : σ.ev x = .a (.lit (.int .i64 i))) (hy : σ.ev y = .a (.lit (.int .i64 j)))
    (hb : -9223372036854775808 ≤ i - j ∧ i - j ≤ 9223372036854775807) (k : AL P F N ops Q rest (σ.putO o.dst (.a (.lit (.int .i64 (i - j)))))) : AL P F N ops Q (o :: rest) σ :=
  AL.int2 hop hg hd hx hy rfl trivial (by rw [wr_in hb]; exact k)
theorem AL.mul {t u : Nat} {x y : Operand} {i j : Int} (hop : o.op = .binOp .mul t x y u) (hg : o.guard = none) (hd : okD N o.dst = true) (hx : σ.ev x = .a (.lit (.int .i64 i))) (hy : σ.ev y = .a (.lit (.int .i64 j)))
    (hb : -9223372036854775808 ≤ i * j ∧ i * j ≤ 9223372036854775807) (k : AL P F N ops Q rest (σ.putO o.dst (.a (.lit (.int .i64 (i * j)))))) : AL P F N ops Q (o :: rest) σ :=
  AL.int2 hop hg hd hx hy rfl trivial (by rw [wr_in hb]; exact k)

theorem run_equal_bool {t d : Nat} (h : P.underlying t = some .bool) (b c : Bool) (w : World) : (Op.equalIn (d + 1) t (.bool b) (.bool c)).run P w = .ok (b == c) w := by
  have h1 : (underlying t).run P w = .ok .bool w := by simp [underlying, h, go_sem]
  rw [Op.equalIn, Sem.run_bind, h1]
  rfl
theorem AL.bEq {t u : Nat} {x y : Operand} {b c : Bool} (hop : o.op = .binOp .eql t x y u) (hg : o.guard = none) (hd : okD N o.dst = true) (hx : σ.ev x = .a (.lit (.bool b))) (hy : σ.ev y = .a (.lit (.bool c))) (hu : P.underlying t = some .bool)
    (k : AL P F N ops Q rest (σ.putO o.dst (.a (.lit (.bool (b == c)))))) : AL P F N ops Q (o :: rest) σ := by
  refine AL.val hg hd (fun a w ω β h => ⟨.bool (b == c), ?_, VRel.lit rfl⟩) k
  refine run_bin _ w hop (by rw [ev_lit h hx, ev_lit h hy]; rfl) ?_
  rw [ev_lit h hx, ev_lit h hy]
  have h1 := run_equal_bool (P := P) (d := 9999) hu b c w
  simp [Go.binOp, Op.equal, go_sem, Op.maxDepth, h1]
theorem AL.bNe {t u : Nat} {x y : Operand} {b c : Bool} (hop : o.op = .binOp .neq t x y u) (hg : o.guard = none) (hd : okD N o.dst = true) (hx : σ.ev x = .a (.lit (.bool b))) (hy : σ.ev y = .a (.lit (.bool c))) (hu : P.underlying t = some .bool)
    (k : AL P F N ops Q rest (σ.putO o.dst (.a (.lit (.bool (b != c)))))) : AL P F N ops Q (o :: rest) σ := by
  refine AL.val hg hd (fun a w ω β h => ⟨.bool (b != c), ?_, VRel.lit rfl⟩) k
  refine run_bin _ w hop (by rw [ev_lit h hx, ev_lit h hy]; rfl) ?_
  rw [ev_lit h hx, ev_lit h hy]
  have h1 := run_equal_bool (P := P) (d := 9999) hu b c w
  simp [Go.binOp, Op.equal, go_sem, Op.maxDepth, h1]
  cases b <;> cases c <;> rfl

/-- An operation that gives its value in whatever world. -/
def Pure1 (P : Program) (F : Fm) (N : Nat) (σ : St) (o : Oper) (v : V) : Prop := ∀ a w ω β, Rel1 F N σ a w ω β → ∃ u, (∀ w', (execOp a.eval o).run P w' = .ok (.value u) w') ∧ VRel σ β w v u
theorem AY.take {fuel : Nat} {listed : Array Bool} (i : Nat) {v : V} (hi : ops[i]? = some o) (hg : o.guard = none) (hs : Region.noSelect ops = true) (hf : Region.free .any ops listed i = true) (hr : (Region.ready .any ops listed).contains i = true)
    (hnp : ∀ c s, ¬ Q (.panic c) s) (hd : okD N o.dst = true) (hy : Pure1 P F N σ o v) (k : AY P F N ops Q fuel (listed.setIfInBounds i true) (σ.putO o.dst v)) : AY P F N ops Q (fuel + 1) listed σ := by
  intro a w hr'
  obtain ⟨ω, β, h⟩ := hr'
  obtain ⟨u, h1, h2⟩ := hy a w ω β h
  refine wpAny_take hi hs hf hr (fun c a w hq => ?_) (.inl ⟨by simp [Region.wanted, hg], h1⟩) (k _ _ ⟨ω, β, h.putO hd h2⟩)
  obtain ⟨s, hq, _⟩ := hq
  exact absurd hq (hnp c s)
theorem Pure1.move {x : Operand} (hop : o.op = .move x ∨ o.op = .assign x) : Pure1 P F N σ o (σ.ev x) := fun a w ω β h => ⟨a.eval x, fun w' => by rcases hop with e | e <;> simp [execOp, e, go_sem], h.ev x⟩
theorem Pure1.int2 {op : BinOp} {t u : Nat} {x y : Operand} {kx : IntKind} {i j : Int} {p : Prop} {v : Value} (hop : o.op = .binOp op t x y u) (hx : σ.ev x = .a (.lit (.int kx i)))
    (hy : σ.ev y = .a (.lit (.int kx j))) (hr : intOp op kx i j = some (p, v)) (hp : p) : Pure1 P F N σ o (.a (.lit v)) := fun a w ω β h => ⟨v, fun w' => by
  exact run_bin _ w' hop (by rw [ev_lit h hx, ev_lit h hy]; exact run_guard_int _ _ _ _ _ _ _ _ _) (by rw [ev_lit h hx, ev_lit h hy]; exact run_int2 w' t hr hp), VRel.lit (by
  cases op <;> simp only [intOp, Option.some.injEq, Prod.mk.injEq, reduceCtorEq] at hr <;> obtain ⟨rfl, rfl⟩ := hr <;> rfl)⟩
theorem Pure1.add {t u : Nat} {x y : Operand} {i j : Int} (hop : o.op = .binOp .add t x y u) (hx : σ.ev x = .a (.lit (.int .i64 i))) (hy : σ.ev y = .a (.lit (.int .i64 j)))
    (hb : -9223372036854775808 ≤ i + j ∧ i + j ≤ 9223372036854775807) : Pure1 P F N σ o (.a (.lit (.int .i64 (i + j)))) := by
  have := Pure1.int2 (P := P) (F := F) (N := N) hop hx hy (v := .int .i64 (wr .i64 (i + j))) (p := True) rfl trivial
  rwa [wr_in hb] at this
theorem Pure1.not {t : Nat} {x : Operand} {b : Bool} (hop : o.op = .unOp .not t x) (hx : σ.ev x = .a (.lit (.bool b))) : Pure1 P F N σ o (.a (.lit (.bool !b))) := fun a w ω β h => ⟨.bool !b, fun w' => by
  have e := ev_lit h hx
  generalize a.eval = ρ at e ⊢
  simp [execOp, hop, go_sem, e, Op.unary], VRel.lit rfl⟩
theorem Pure1.len {T : Nat → Option TyI} {t : Nat} (hT : TOk P T) {x : Operand} {κ lo n e ke bs kt : Nat} {z : List ZC} (hop : o.op = .call { callee := .builtin .len, args := #[x], argTypes := #[t] }) (hx : σ.ev x = .a (.ref κ lo n))
    (ht : T t = some ⟨kt, .sl e ke bs, z⟩) : Pure1 P F N σ o (.a (.lit (.int .i64 n))) := fun a w ω β h => by
  obtain ⟨h1, _⟩ := (hT t _ ht).kind
  have := h.ev x
  rw [hx] at this
  obtain ⟨R', e1, _, A, c, e2, _⟩ := this
  refine ⟨.int .i64 n, fun w' => ?_, VRel.lit rfl⟩
  generalize a.eval = ρ at e2 ⊢
  simp [execOp, hop, go_sem, e2, resolve, invoke, builtin, Builtin.len_, underlying, h1, goInt]
theorem Pure1.fieldAddr {T : Nat → Option TyI} (hT : TOk P T) {s f off sz : Nat} {x : Operand} {κ i r ks : Nat} {pl : List (Nat × Nat)} {z : List ZC} (hop : o.op = .fieldAddr s x f) (hx : σ.ev x = .ptr κ i r)
    (ht : T s = some ⟨ks, .st pl, z⟩) (hf : pl[f]? = some (off, sz)) : Pure1 P F N σ o (.ptr κ i (r + off)) := fun a w ω β h => by
  obtain ⟨fs, h1, h2, h3⟩ := (hT s _ ht).kind
  obtain ⟨fd, h4', hfd⟩ := mapM_at _ _ _ h2 f _ hf
  have h4 : fs[f]? = some fd := by rw [← Array.getElem?_toList]; exact h4'
  cases h6 : P.info? fd.type with
  | none => rw [h6] at hfd; cases hfd
  | some inf =>
  rw [h6] at hfd
  injection hfd with hfd
  injection hfd with h5 h8
  have h7 : inf.size ≠ 0 := by
    have := List.all_eq_true.1 h3 _ (List.mem_of_getElem? hf)
    simp at this; omega
  have := h.ev x
  rw [hx] at this
  obtain ⟨R, g, j, e1, ⟨o', e2, e3⟩, e⟩ := this
  refine ⟨.pointer (some ⟨g, j + off, none⟩), fun w' => ?_, R, g, j + off, e1, ⟨o', e2, by omega⟩, rfl⟩
  subst h5
  generalize a.eval = ρ at e ⊢
  by_cases h0 : fd.offset = 0 <;> simp [execOp, hop, go_sem, e, Instr.fieldAt, underlying, h1, h4, Instr.sureAddr, fieldPlace, sizeOf, typeInfo, h6, h7, Addr.add, h0]
theorem Pure1.indexN {T : Nat → Option TyI} (hT : TOk P T) {t e ke bs kt : Nat} {z : List ZC} {x ix : Operand} {κ n q : Nat} {ki : IntKind} {i : Int} {R : Root} (hop : o.op = .indexAddr t x ix) (hx : σ.ev x = .a (.ref κ 0 n)) (hi : σ.ev ix = .a (.lit (.int ki i)))
    (ht : T t = some ⟨kt, .sl e ke bs, z⟩) (hR : σ.rt κ = some R) (hk : R.k = ke) (hq : i = (q : Int)) (hb : q < n) : Pure1 P F N σ o (.ptr κ q 0) := fun a w ω β h => by
  obtain ⟨h1, inf, zv, h2, h3, _⟩ := (hT t _ ht).kind
  have := h.ev x
  rw [hx] at this
  obtain ⟨R', e1, _, A, c, e2, e3, _, _, _, e5⟩ := this
  rw [hR] at e1; injection e1 with e1; subst e1
  obtain ⟨g, o', e6, e7⟩ := e5 (by omega)
  refine ⟨.pointer (some ⟨g, o' + q * R.k, none⟩), fun w' => ?_, R, g, _, hR, ⟨o', e6, rfl⟩, rfl⟩
  have hadd : (⟨g, o' + 0 * R.k, none⟩ : Addr).add (i.toNat * inf.size) = ⟨g, o' + q * R.k, none⟩ := by
    rw [h3, ← hk, show i.toNat = q by omega, add_addr]; simp
  have ei := ev_lit h hi
  have hb2 : 0 ≤ i ∧ i < (n : Int) := by omega
  have hadd' : (⟨g, o', none⟩ : Addr).add (i.toNat * inf.size) = ⟨g, o' + q * R.k, none⟩ := by rw [← hadd]; simp
  generalize a.eval = ρ at e2 ei ⊢
  simp [execOp, hop, go_sem, e2, e7, ei, Instr.indexAt, asIntOf, underlying, h1, sizeOf, typeInfo, h2, hb2.1, hb2.2, hadd']
  rw [h3, ← hk, show i.toNat = q by omega]

/-- The ways of a piece of code meet. -/
theorem AC.join {x y : Code} {Q0 : Exit → St → Prop} (σ' : St) (h : AC P F N x (AThen (fun s => s.le σ') Q0) σ) (k : AC P F N y Q σ') : AC P F N x (AThen (AC P F N y Q) Q0) σ :=
  AC.mono h fun e s hs => by
    cases e with
    | normal => exact AC.le hs k
    | exit id => exact hs
    | goto l => exact hs
    | ret => exact hs
    | panic c => exact hs
    | outgrown => exact hs

/-- A loop, its head told by a row of states. -/
theorem AC.loopN {c : Code} (S : Nat → St) (p : Nat → Prop) (M : Nat → Nat) (i0 : Nat) (hp : p i0) (h0 : σ.le (S i0)) (round : ∀ i, p i → AC P F N c (AThen (fun s => ∃ j, p j ∧ M j < M i ∧ s.le (S j)) Q) (S i)) : AC P F N (.loop c) Q σ :=
  AC.loopS (ι := {i // p i}) (fun i => S i.1) (fun i => M i.1) ⟨i0, hp⟩ h0 fun i => AC.mono (round i.1 i.2) fun e s h => by
    cases e with
    | normal =>
      obtain ⟨j, h1, h2, h3⟩ := h
      exact ⟨⟨j, h1⟩, h2, h3⟩
    | exit id => exact h
    | goto l => exact h
    | ret => exact h
    | panic c => exact h
    | outgrown => exact h

/-- A guard whose truth is known. -/
theorem AL.gOnE {j dj : Nat} {b c : Bool} {oj : Oper} (hg : o.guard = some (j, b)) (hj : ops[j]? = some oj) (hdj : oj.dst = some dj) (hb : σ.tv dj = .a (.lit (.bool c))) (hN : dj < N) (hc : c = b) (k : AL P F N ops Q ({ o with guard := none } :: rest) σ) : AL P F N ops Q (o :: rest) σ :=
  AL.gOn hg hj hdj (by rw [hb, hc]) hN k
theorem AL.gOffE {j dj : Nat} {b c : Bool} {oj : Oper} (hg : o.guard = some (j, b)) (hd : okD N o.dst = true) (hj : ops[j]? = some oj) (hdj : oj.dst = some dj) (hb : σ.tv dj = .a (.lit (.bool c))) (hN : dj < N) (hc : c = !b) (k : AL P F N ops Q rest (σ.putO o.dst .any)) : AL P F N ops Q (o :: rest) σ :=
  AL.gOff hg hd hj hdj hb hN hc k
theorem AL.gSplit {j dj : Nat} {b c : Bool} {oj : Oper} (hg : o.guard = some (j, b)) (hd : okD N o.dst = true) (hj : ops[j]? = some oj) (hdj : oj.dst = some dj) (hb : σ.tv dj = .a (.lit (.bool c))) (hN : dj < N)
    (k1 : c = b → AL P F N ops Q ({ o with guard := none } :: rest) σ) (k2 : c = (!b) → AL P F N ops Q rest (σ.putO o.dst .any)) : AL P F N ops Q (o :: rest) σ := by
  by_cases hc : c = b
  · exact AL.gOnE hg hj hdj hb hN hc (k1 hc)
  · have hc' : c = !b := by cases c <;> cases b <;> simp_all
    exact AL.gOff hg hd hj hdj hb hN hc' (k2 hc')
theorem AL.pickE {c x y : Operand} {b b' : Bool} (hop : o.op = .pick c x y) (hg : o.guard = none) (hd : okD N o.dst = true) (hc : σ.ev c = .a (.lit (.bool b))) (hb : b = b') (k : AL P F N ops Q rest (σ.putO o.dst (bif b' then σ.ev x else σ.ev y))) : AL P F N ops Q (o :: rest) σ := by
  subst hb; exact AL.pick hop hg hd hc k

theorem lits_rel {β : Nat → Bs} {w : World} {vs : List Value} {u : Value} (h : VRel σ β w (.agg (vs.map .lit)) u) : u = .agg vs.toArray := by
  obtain ⟨us, e1, e2, e3⟩ := h
  subst e1
  congr 1
  apply Array.ext_getElem?
  intro j
  rw [List.length_map] at e2
  by_cases hj : j < vs.length
  · obtain ⟨y, h1, h2⟩ := e3 j (.lit vs[j]) (by simp [hj])
    obtain ⟨h2, _⟩ := h2
    rw [h1, h2]; simp [hj]
  · rw [Array.getElem?_eq_none (by omega), Array.getElem?_eq_none (by simpa using hj)]
/-- Two structs of one-cell fields are compared. -/
theorem AL.eqA {t u : Nat} {x y : Operand} {lx ly : List At} {b : Bool} (vx vy : List Value) (hop : o.op = .binOp .eql t x y u) (hg : o.guard = none) (hd : okD N o.dst = true) (hx : σ.ev x = .agg lx) (hy : σ.ev y = .agg ly) (hlx : lx = vx.map .lit) (hly : ly = vy.map .lit) (hm : P.eqGuardType P.depth t = false)
    (hrun : ∀ w, (Op.equalIn 10000 t (.agg vx.toArray) (.agg vy.toArray)).run P w = .ok b w) (k : AL P F N ops Q rest (σ.putO o.dst (.a (.lit (.bool b))))) : AL P F N ops Q (o :: rest) σ := by
  subst hlx hly
  refine AL.val hg hd (fun a w ω β h => ⟨.bool b, ?_, VRel.lit rfl⟩) k
  have h1 := h.ev x
  have h2 := h.ev y
  rw [hx] at h1; rw [hy] at h2
  refine run_bin _ w hop (by rw [lits_rel h1, lits_rel h2]; exact run_eqGuard_agg _ _ _ _ _ _ _ hm) ?_
  rw [lits_rel h1, lits_rel h2]
  simp only [Go.binOp, Op.equal, Op.maxDepth, Sem.run_bind, hrun]
  rfl
theorem AL.neA {t u : Nat} {x y : Operand} {lx ly : List At} {b : Bool} (vx vy : List Value) (hop : o.op = .binOp .neq t x y u) (hg : o.guard = none) (hd : okD N o.dst = true) (hx : σ.ev x = .agg lx) (hy : σ.ev y = .agg ly) (hlx : lx = vx.map .lit) (hly : ly = vy.map .lit) (hm : P.eqGuardType P.depth t = false)
    (hrun : ∀ w, (Op.equalIn 10000 t (.agg vx.toArray) (.agg vy.toArray)).run P w = .ok b w) (k : AL P F N ops Q rest (σ.putO o.dst (.a (.lit (.bool !b))))) : AL P F N ops Q (o :: rest) σ := by
  subst hlx hly
  refine AL.val hg hd (fun a w ω β h => ⟨.bool !b, ?_, VRel.lit rfl⟩) k
  have h1 := h.ev x
  have h2 := h.ev y
  rw [hx] at h1; rw [hy] at h2
  refine run_bin _ w hop (by rw [lits_rel h1, lits_rel h2]; exact run_eqGuard_agg _ _ _ _ _ _ _ hm) ?_
  rw [lits_rel h1, lits_rel h2]
  simp only [Go.binOp, Op.equal, Op.maxDepth, Sem.run_bind, hrun]
  rfl

variable {T : Nat → Option TyI}
theorem AL.allocD (hT : TOk P T) {t m d : Nat} {kd : TK} {z : List ZC} (hop : o.op = .alloc t) (hg : o.guard = none) (hdst : o.dst = some d) (hd : d < N) (ht : T t = some ⟨m, kd, z⟩) (hz : z.all ZC.ok = true) (hkk : d < 1000000) (hdd : σ.rt d = none)
    (k : AL P F N ops Q rest ((σ.setR d ⟨.own, false, t, m, 1, zrow z, []⟩).put d (.ptr d 0 0))) : AL P F N ops Q (o :: rest) σ :=
  AL.alloc hT hop hg (by rw [hdst]; simpa [okD] using hd) ht hz hkk hdd (by rw [hdst]; exact k)
theorem AL.boxD (hT : TOk P T) {t m d : Nat} {kd : TK} {z : List ZC} {x : Operand} {l : List At} (hop : o.op = .box t x) (hg : o.guard = none) (hdst : o.dst = some d) (hd : d < N) (ht : T t = some ⟨m, kd, z⟩) (hx : (σ.ev x).atoms = some l) (hlen : l.length = m) (hkk : d < 1000000) (hdd : σ.rt d = none)
    (k : AL P F N ops Q rest ((σ.setR d (boxR t m l)).put d (.ptr d 0 0))) : AL P F N ops Q (o :: rest) σ :=
  AL.box hT hop hg (by rw [hdst]; simpa [okD] using hd) ht hx hlen hkk hdd (by rw [hdst]; exact k)
theorem AL.makeD (hT : TOk P T) {t e ke bs kt d : Nat} {kd : TK} {z zt : List ZC} {x y : Operand} {kx ky : IntKind} {i j : Int} (n : Nat) (hop : o.op = .makeSlice t x y) (hg : o.guard = none) (hdst : o.dst = some d) (hd : d < N) (ht : T t = some ⟨kt, .sl e ke bs, zt⟩) (he : T e = some ⟨ke, kd, z⟩) (hz : z.all ZC.ok = true)
    (hx : σ.ev x = .a (.lit (.int kx i))) (hy : σ.ev y = .a (.lit (.int ky j))) (hi : i = (n : Int)) (hj : j = (n : Int)) (hb : bs * n ≤ 281474976710656) (hn : n ≤ 9223372036854775807) (hkk : d < 1000000) (hdd : σ.rt d = none)
    (k : AL P F N ops Q rest ((σ.setR d ⟨.own, true, e, ke, n, zrow z, []⟩).put d (.a (.ref d 0 n)))) : AL P F N ops Q (o :: rest) σ :=
  AL.make hT hop hg (by rw [hdst]; simpa [okD] using hd) ht he hz hx hy hi hj hb (by unfold maxLen; omega) hkk hdd (by rw [hdst]; exact k)
theorem AL.buildSlD (hT : TOk P T) {t e ke bs kt d n : Nat} {kd : TK} {z zt : List ZC} {parts : Array (Nat × Operand)} {qs : List (Nat × List At)} (hop : o.op = .buildSlice t n parts) (hg : o.guard = none) (hdst : o.dst = some d) (hd : d < N)
    (ht : T t = some ⟨kt, .sl e ke bs, zt⟩) (he : T e = some ⟨ke, kd, z⟩) (hz : z.all ZC.ok = true) (hp : PartsOk σ (fun i => some (i * ke, ke)) parts.toList qs) (hok : fillOk (n * ke) qs = true) (hn0 : 0 < n) (hn : n * ke ≤ 2 ^ 24) (hkk : d < 1000000) (hdd : σ.rt d = none)
    (k : AL P F N ops Q rest ((σ.setR d (litR e ke n (fillA (zerosA z n) qs))).put d (.a (.ref d 0 n)))) : AL P F N ops Q (o :: rest) σ :=
  AL.buildSl hT hop hg (by rw [hdst]; simpa [okD] using hd) ht he hz hp hok hn0 hn hkk hdd (by rw [hdst]; exact k)
theorem AL.peekD (hT : TOk P T) {t k d : Nat} {kd : TK} {z : List ZC} {x : Operand} {κ i r : Nat} {R : Root} {ow : Ow} {e ke n : Nat} {row : Nat → Nat → C} (hop : o.op = .load t x) (hg : o.guard = none) (hdst : o.dst = some d) (hd : d < N) (hx : σ.ev x = .ptr κ i r)
    (ht : T t = some ⟨k, kd, z⟩) (hk : scK kd = true) (hR : σ.rt κ = some R) (hi : i < R.n) (hr : r < R.k) (hl : R.get i r = .cl (.sl ow e ke n row)) (how : ow = .own → R.o = .own) (hkk : d < 1000000) (hdd : σ.rt d = none)
    (k : AL P F N ops Q rest ((σ.setR d (lookR R κ i r ow e ke n row)).put d (.a (.ref d 0 n)))) : AL P F N ops Q (o :: rest) σ :=
  AL.loadPeek hT hop hg (by rw [hdst]; simpa [okD] using hd) hx ht hk hR hi hr hl how hkk hdd (by rw [hdst]; exact k)

theorem AL.indexN (hT : TOk P T) {t e ke bs kt : Nat} {z : List ZC} {x ix : Operand} {κ n q : Nat} {ki : IntKind} {i : Int} {R : Root} (hop : o.op = .indexAddr t x ix) (hg : o.guard = none) (hd : okD N o.dst = true) (hx : σ.ev x = .a (.ref κ 0 n)) (hi : σ.ev ix = .a (.lit (.int ki i)))
    (ht : T t = some ⟨kt, .sl e ke bs, z⟩) (hR : σ.rt κ = some R) (hk : R.k = ke) (hq : i = (q : Int)) (hb : q < n) (k : AL P F N ops Q rest (σ.putO o.dst (.ptr κ q 0))) : AL P F N ops Q (o :: rest) σ :=
  AL.indexSl hT hop hg hd hx hi ht hR hk (by omega) (by rw [show 0 + i.toNat = q by omega]; exact k)

/-- A cell that is known in another way. -/
theorem AL.load1E (hT : TOk P T) {t k : Nat} {kd : TK} {z : List ZC} {x : Operand} {κ i r : Nat} {R : Root} {c : C} {v : Value} (hop : o.op = .load t x) (hg : o.guard = none) (hd : okD N o.dst = true) (hx : σ.ev x = .ptr κ i r)
    (ht : T t = some ⟨k, kd, z⟩) (hk : scK kd = true) (hR : σ.rt κ = some R) (hi : i < R.n) (hr : r < R.k) (hc : R.get i r = .cl c) (hv : c = .lit v) (k : AL P F N ops Q rest (σ.putO o.dst (.a (.lit v)))) : AL P F N ops Q (o :: rest) σ :=
  AL.load1 hT hop hg hd hx ht hk hR hi hr rfl (by rw [show R.atom κ i r = .lit v by unfold Root.atom; rw [hc, hv]]; exact k)
theorem AL.loadAggE (hT : TOk P T) {t m : Nat} {kd : TK} {z : List ZC} {x : Operand} {κ i r : Nat} {R : Root} {l : List At} (hop : o.op = .load t x) (hg : o.guard = none) (hd : okD N o.dst = true) (hx : σ.ev x = .ptr κ i r)
    (ht : T t = some ⟨m, kd, z⟩) (hk : agK kd = true) (hR : σ.rt κ = some R) (hi : i < R.n) (hr : r + m ≤ R.k) (he : atomsL R κ i r m = l) (k : AL P F N ops Q rest (σ.putO o.dst (.agg l))) : AL P F N ops Q (o :: rest) σ :=
  AL.loadAgg hT hop hg hd hx ht hk hR hi hr (liveL_true _ _ _ _) (by rw [he]; exact k)
theorem AL.stor (hT : TOk P T) {t m : Nat} {kd : TK} {z : List ZC} {x y : Operand} {κ i r : Nat} {R : Root} {l : List At} (hop : o.op = .store t x y) (hg : o.guard = none) (hd : o.dst = none) (hx : σ.ev x = .ptr κ i r)
    (ht : T t = some ⟨m, kd, z⟩) (hy : (σ.ev y).atoms = some l) (hlen : l.length = m) (hR : σ.rt κ = some R) (ho : R.o = .own) (hi : i < R.n) (hr : r + m ≤ R.k) (k : AL P F N ops Q rest (σ.wrs κ R i r l)) : AL P F N ops Q (o :: rest) σ :=
  AL.store hT hop hg hd hx ht hy hlen hR ho hi hr (liveL_true _ _ _ _) k

end
theorem get_op (R : Root) (i r q s : Nat) (x : Cl) : ({ R with op := ((i, r), x) :: R.op } : Root).get q s = if s = r then (if q = i then x else R.get q s) else R.get q s := rfl
theorem get_wrL_ne {i q r : Nat} (h : q ≠ i) : ∀ (l : List Cl) (R : Root) (r0 : Nat), (R.wrL i r0 l).get q r = R.get q r
  | [], _, _ => rfl
  | x :: l, R, r0 => by
    rw [Root.wrL, get_wrL_ne h l, get_op, if_neg h]
    split <;> rfl
theorem get_wrL_out {i q r : Nat} : ∀ (l : List Cl) (R : Root) (r0 : Nat), (r < r0 ∨ r0 + l.length ≤ r) → (R.wrL i r0 l).get q r = R.get q r
  | [], _, _, _ => rfl
  | x :: l, R, r0, h => by
    simp only [List.length_cons] at h
    rw [Root.wrL, get_wrL_out l _ _ (by omega), get_op, if_neg (by omega)]
theorem get_wrL_eq {i r : Nat} : ∀ (l : List Cl) (R : Root) (r0 : Nat), (r0 ≤ r ∧ r < r0 + l.length) → (R.wrL i r0 l).get i r = (l[r - r0]?).getD (.cl .any)
  | [], _, _, h => by simp at h; omega
  | x :: l, R, r0, h => by
    simp only [List.length_cons] at h
    rw [Root.wrL]
    by_cases e : r = r0
    · subst e
      rw [get_wrL_out l _ _ (by omega), get_op, if_pos rfl, if_pos rfl, Nat.sub_self]
      rfl
    · rw [get_wrL_eq l _ _ (by omega), show r - r0 = (r - (r0 + 1)) + 1 by omega, List.getElem?_cons_succ]
theorem BwOk.nil {σ : St} : BwOk σ [] := ⟨fun ρ b h => by simp at h, fun κ R _ => by cases h : R.o <;> simp [viewOk, bwFind]⟩
theorem BwOk.one {σ : St} {κ : Nat} {R : Root} (hR : σ.rt κ = some R) (ho : R.o = .own) (hop : R.op = []) (hv : σ.r.all (fun p => match p.2.o with | .vw κ' _ _ => Nat.blt κ' κ || Nat.blt κ κ' | _ => true) = true) : BwOk σ [⟨κ, 0, true, ⟨R.k, R.n, R.row⟩⟩] := by
  refine ⟨fun ρ b h => ?_, fun κ2 R2 h2 => ?_⟩
  · cases ρ with
    | succ ρ => simp at h
    | zero =>
      injection h with h; subst h
      refine ⟨by simp [bwFind], R, hR, ho, rfl, by simp, ⟨rfl, rfl⟩, fun i r _ _ => ?_⟩
      show R.get (0 + i) r = .cl (R.row i r)
      rw [Nat.zero_add]; unfold Root.get; rw [hop]; rfl
  · have := List.all_eq_true.1 hv _ (look_mem h2)
    cases ho2 : R2.o with
    | own => trivial
    | fro => trivial
    | vw κ' i r =>
      simp only [ho2] at this
      simp only [Bool.or_eq_true, Nat.blt_eq] at this
      show bwFind _ 0 κ' = none
      simp only [bwFind]
      rw [if_neg (by omega)]
theorem litInt {a b : Int} (h : a = b) : V.a (.lit (.int .i64 a)) = V.a (.lit (.int .i64 b)) := by rw [h]
theorem clInt {a b : Int} (h : a = b) : C.lit (.int .i64 a) = C.lit (.int .i64 b) := by rw [h]
theorem one_ok {b : Bw} {x : Xr} (h : x.k = b.x.k ∧ x.n = b.x.n ∧ x.mine) : ∀ (ρ : Nat) (b' : Bw) (x' : Xr), [b][ρ]? = some b' → [x][ρ]? = some x' → x'.k = b'.x.k ∧ x'.n = b'.x.n ∧ x'.mine := by
  intro ρ b' x' h1 h2
  cases ρ with
  | zero => injection h1 with h1; injection h2 with h2; subst h1 h2; exact h
  | succ ρ => simp at h1
theorem PartsOk.cons {σ : St} {place : Nat → Option (Nat × Nat)} {i off : Nat} {x : Operand} {xs : List At} {ps : List (Nat × Operand)} {qs : List (Nat × List At)} (hx : (σ.ev x).atoms = some xs) (hp : place i = some (off, xs.length)) (hr : PartsOk σ place ps qs) : PartsOk σ place ((i, x) :: ps) ((off, xs) :: qs) := ⟨hp, hx, hr⟩
theorem PartsOk.nil {σ : St} {place : Nat → Option (Nat × Nat)} : PartsOk σ place [] [] := trivial
theorem not_of {b : Bool} (h : b = false) : ¬ b = true := by rw [h]; exact Bool.false_ne_true
end Go.Tr
namespace Go.Tr
open Go Go.RowKit Go.ChangeShapes Go.WideShapes Go.ChangeAt Go.Deep

/-- What lies in a cell of a type: an integer, a flag, a slice of elements of several cells. -/
inductive Dt where
  | i
  | b
  | sl (l : List Dt)

inductive DtOk : Dt → C → Prop
  | i {z : Int} (h : -9223372036854775808 ≤ z ∧ z ≤ 9223372036854775807) : DtOk .i (.lit (.int .i64 z))
  | b {x : Bool} : DtOk .b (.lit (.bool x))
  | sl {l : List Dt} {e n : Nat} {row : Nat → Nat → C} (hn : n ≤ 9223372036854775807) (h : ∀ i r d, i < n → l[r]? = some d → DtOk d (row i r)) : DtOk (.sl l) (.sl .fro e l.length n row)

mutual
inductive TyDs (P : Program) : TypeId → List Dt → Prop
  | int {t : TypeId} (h : P.underlying t = some (.int .i64)) : TyDs P t [.i]
  | bool {t : TypeId} (h : P.underlying t = some .bool) : TyDs P t [.b]
  | slice {t e : TypeId} {l : List Dt} (h : P.underlying t = some (.slice e)) (he : TyDs P e l) (hc : P.cellsOf e = l.length) (h0 : 0 < l.length) : TyDs P t [.sl l]
  | struct {t : TypeId} {fs : Array Field} {ds : List Dt} (h : P.underlying t = some (.struct fs)) (hf : FsDs P fs.toList 0 ds) (hc : P.cellsOf t = ds.length) : TyDs P t ds
inductive FsDs (P : Program) : List Field → Nat → List Dt → Prop
  | nil {off : Nat} : FsDs P [] off []
  | cons {f : Field} {fs : List Field} {off : Nat} {d ds : List Dt} (h : TyDs P f.type d) (ho : f.offset = off) (hc : P.cellsOf f.type = d.length) (hr : FsDs P fs (off + d.length) ds) : FsDs P (f :: fs) off (d ++ ds)
end

/-- Whatever cell is there. -/
def there (W : World) (b j : Nat) : Prop := ∃ v, W.cell? ⟨b, j, none⟩ = some v
def TreeAt (W : World) (d : Dt) (u : Value) (c : C) : Prop := DtOk d c ∧ CRel W (there W) c (fun _ _ => False) u

theorem wf_in {n : Int} (h : (Lit.int .i64 n).wf = true) : -9223372036854775808 ≤ n ∧ n ≤ 9223372036854775807 := by
  simpa [Lit.wf, IntKind.min, IntKind.max, IntKind.bits, IntKind.signed] using h
theorem spot_none {w : World} {b o : Nat} {s} {v : Value} (h : w.cell? ⟨b, o, s⟩ = some v) : s = none := by
  cases s with
  | none => rfl
  | some s => simp [World.cell?] at h; split at h <;> simp_all

section
variable {H : Type} {enc : TypeId × Value → H} {P : Program} {W : World}

theorem fields_tree {n : Nat} (ih : ∀ (t : TypeId) (cs : List Value) (y : DataW H × List MemPlace) (ds : List Dt), DataW.trod enc P W 0 (fun _ => true) true n t cs = some y → TyDs P t ds → ∀ (j : Nat) (d : Dt), ds[j]? = some d → ∃ u c, cs[j]? = some u ∧ TreeAt W d u c) (cs : List Value) :
    ∀ (fs : List Field) (off : Nat) (ds : List Dt), FsDs P fs off ds → (∀ (i : Nat) (f : Field), fs[i]? = some f → ∃ x, DataW.trod enc P W 0 (fun _ => true) true n f.type ((cs.drop f.offset).take (P.cellsOf f.type)) = some x) →
      ∀ (j : Nat) (d : Dt), ds[j]? = some d → ∃ u c, cs[off + j]? = some u ∧ TreeAt W d u c
  | [], off, ds, hf, _, j, d, hj => by cases hf; simp at hj
  | f :: fs, off, ds, hf, hx, j, d, hj => by
    cases hf with
    | @cons _ _ _ d1 ds2 h ho hc hr =>
      rw [List.getElem?_append] at hj
      split at hj
      · rename_i hlt
        obtain ⟨x, hx0⟩ := hx 0 f rfl
        obtain ⟨u, c, h1, h2⟩ := ih _ _ _ _ hx0 h j d hj
        refine ⟨u, c, ?_, h2⟩
        rw [List.getElem?_take, hc, if_pos hlt, List.getElem?_drop, ho] at h1
        exact h1
      · rename_i hge
        obtain ⟨u, c, h1, h2⟩ := fields_tree ih cs fs (off + d1.length) ds2 hr (fun i f' hf' => hx (i + 1) f' hf') (j - d1.length) d hj
        exact ⟨u, c, by rw [← h1]; congr 1; omega, h2⟩

/-- What a trodden value holds, as trees. -/
theorem trees_of : ∀ (n : Nat) (t : TypeId) (cs : List Value) (y : DataW H × List MemPlace) (ds : List Dt), DataW.trod enc P W 0 (fun _ => true) true n t cs = some y → TyDs P t ds → ∀ (j : Nat) (d : Dt), ds[j]? = some d → ∃ u c, cs[j]? = some u ∧ TreeAt W d u c := by
  intro n
  induction n using Nat.strongRecOn with
  | _ n ih =>
    intro t cs y ds h hd j d hj
    cases hd with
    | int ht =>
      obtain ⟨z, hz, _, hw⟩ := DataW.trod_int ht h
      subst hz
      cases j with
      | succ j => simp at hj
      | zero => injection hj with hj; subst hj; exact ⟨_, _, rfl, .i (wf_in hw), rfl, rfl⟩
    | bool ht =>
      obtain ⟨z, hz, _⟩ := DataW.trod_bool ht h
      subst hz
      cases j with
      | succ j => simp at hj
      | zero => injection hj with hj; subst hj; exact ⟨_, _, rfl, .b, rfl, rfl⟩
    | @slice _ e l ht he hc h0 =>
      cases j with
      | succ j => simp at hj
      | zero =>
        injection hj with hj; subst hj
        rcases open_slice ht h with ⟨hcs, _⟩ | ⟨a, len, cap, m, n', D, Pl, hcs, _, hl, hm, hmm, _, hi⟩
        · subst hcs
          exact ⟨_, .sl .fro 0 l.length 0 (fun _ _ => .any), rfl, .sl (by omega) (fun i r d hi => by omega), none, 0, rfl, Nat.le_refl _, Nat.zero_le _, fun _ => rfl, fun hp => by omega⟩
        · subst hcs
          obtain ⟨k, hk⟩ : ∃ k, n = k + 1 := by
            rcases DataW.trod_slice ht h with ⟨hx, _⟩ | ⟨_, _, _, _, _, k, hk, _⟩
            · simp at hx
            · exact ⟨k, hk⟩
          have hel : ∀ i, i < len → ∃ cs' n'' y', n'' < n ∧ (∀ r, r < l.length → ∃ u, cs'[r]? = some u ∧ W.cell? (a.add (i * l.length + r)) = some u) ∧ DataW.trod enc P W 0 (fun _ => true) true n'' e cs' = some y' := by
            intro i hlt
            rcases DataW.trod_slice ht h with ⟨hx, _⟩ | ⟨a', len', cap', elems, rest, k', hk', hx, _, _, _, _, hlen, helm, _⟩
            · simp at hx
            · injection hx with hx; injection hx with e1 e2 e3
              injection e1 with e1
              subst e1 e2
              have h1 := helm i hlt
              have hil : i < elems.length := by omega
              rw [List.getElem?_eq_getElem hil] at h1
              cases hcs2 : W.cells? 0 (a.add (i * P.cellsOf e)) (P.cellsOf e) with
              | none => rw [hcs2] at h1; cases h1
              | some cs' =>
                rw [hcs2] at h1
                obtain ⟨_, hsz, hat⟩ := World.cells?_some hcs2
                refine ⟨cs', k', elems[i], by omega, fun r hr => ?_, h1⟩
                have hrl : r < cs'.length := by rw [hsz, hc]; exact hr
                have h5 := hat r (by rw [hc]; exact hr)
                exact ⟨cs'[r], List.getElem?_eq_getElem hrl, by rw [← Go.Deep.add_add, ← hc, h5, List.getElem?_eq_getElem hrl]⟩
          classical
          have hgood : ∀ i r, ∃ c, ∀ d, i < len → l[r]? = some d → ∃ u, W.cell? (a.add (i * l.length + r)) = some u ∧ TreeAt W d u c := by
            intro i r
            by_cases hlt : i < len
            · cases hd : l[r]? with
              | none => exact ⟨.any, fun d _ hd' => by cases hd'⟩
              | some d =>
                obtain ⟨cs', n'', y', hn'', hcell, htr⟩ := hel i hlt
                obtain ⟨u, c, h1, h2⟩ := ih n'' hn'' e cs' y' l htr he r d hd
                obtain ⟨u', h3, h4⟩ := hcell r (List.getElem?_eq_some_iff.1 hd).1
                rw [h1] at h3; injection h3 with h3; subst h3
                exact ⟨c, fun d' _ hd' => by injection hd' with hd'; subst hd'; exact ⟨u, h4, h2⟩⟩
            · exact ⟨.any, fun d h => absurd h hlt⟩
          refine ⟨_, .sl .fro 0 l.length len (fun i r => (hgood i r).choose), rfl, .sl (by unfold maxLen at hm; omega) (fun i r d hlt hd => by
            obtain ⟨u, _, h2⟩ := (hgood i r).choose_spec d hlt hd
            exact h2.1), some a, cap, rfl, hl, hm, (fun hh => by cases hh), fun hp => ?_⟩
          rcases a with ⟨b, o, s⟩
          have hs : s = none := by
            obtain ⟨d0, hd0⟩ : ∃ d, l[0]? = some d := ⟨l[0], List.getElem?_eq_getElem h0⟩
            obtain ⟨u, h1, _⟩ := (hgood 0 0).choose_spec d0 hp hd0
            rw [Nat.zero_mul, Nat.zero_add] at h1
            have : Addr.add ⟨b, o, s⟩ 0 = ⟨b, o, s⟩ := by unfold Addr.add; simp
            rw [this] at h1
            exact spot_none h1
          subst hs
          refine ⟨b, o, rfl, fun i r hlt hr => ?_⟩
          obtain ⟨d, hd⟩ : ∃ d, l[r]? = some d := ⟨l[r], List.getElem?_eq_getElem hr⟩
          obtain ⟨u, h1, h2⟩ := (hgood i r).choose_spec d hlt hd
          rw [add_addr] at h1
          exact ⟨u, h1, ⟨u, h1⟩, h2.2⟩
    | struct ht hf hc =>
      obtain ⟨xs, k, hk, _, hcl, hxl, hx⟩ := DataW.trod_struct ht h
      subst hk
      have := fields_tree (n := k) (fun t cs y ds h1 h2 => ih k (by omega) t cs y ds h1 h2) cs _ 0 ds hf (fun i f hfi => by
        rw [Array.getElem?_toList] at hfi
        have hi : i < xs.length := by rw [hxl]; exact (Array.getElem?_eq_some_iff.1 hfi).1
        exact ⟨xs[i], by rw [hx i f hfi, List.getElem?_eq_getElem hi]⟩) j d hj
      rwa [Nat.zero_add] at this

/-- One argument of a law. -/
theorem arg_tree {t : TypeId} {v : Value} {d : DataW H} {ps : List MemPlace} {ds : List Dt} (h : DataW.Trod enc P W 0 (fun _ => true) true t v d ps) (hd : TyDs P t ds) : ∀ (j : Nat) (d : Dt), ds[j]? = some d → ∃ u c, v.cells[j]? = some u ∧ TreeAt W d u c := by
  obtain ⟨fuel, hf⟩ := h
  intro j d hj
  obtain ⟨u, c, h1, h2⟩ := trees_of fuel t _ _ ds hf hd j d hj
  exact ⟨u, c, by simpa using h1, h2⟩

open Classical in
/-- All that is there is frozen. -/
noncomputable def qAll (W : World) : Qm := fun b j => if there W b j then some .fro else none
theorem qAll_fro {b j : Nat} (h : there W b j) : qAll W b j = some .fro := if_pos h
theorem qAll_wof (b j : Nat) : ¬ Wof (qAll W) b j := by
  rintro ⟨x, h1, h2⟩
  unfold qAll at h1
  split at h1
  · injection h1 with h1; exact h2 h1.symm
  · cases h1
theorem TreeAt.aa {d : Dt} {u : Value} {c : C} (h : TreeAt W d u c) (A : Nat → Bs) (i j : Nat) : AaRel W (qAll W) A i j (.c c) u :=
  CRel.mono (fun _ _ hz => qAll_fro hz) _ _ _ _ h.2 (fun _ _ h => h.elim)

theorem DtOk.int {c : C} (h : DtOk .i c) : ∃ z, c = .lit (.int .i64 z) ∧ -9223372036854775808 ≤ z ∧ z ≤ 9223372036854775807 := by cases h with | i h => exact ⟨_, rfl, h⟩
theorem DtOk.bool {c : C} (h : DtOk .b c) : ∃ z, c = .lit (.bool z) := by cases h with | b => exact ⟨_, rfl⟩
theorem DtOk.slice {l : List Dt} {c : C} (h : DtOk (.sl l) c) : ∃ e n row, c = .sl .fro e l.length n row ∧ n ≤ 9223372036854775807 ∧ ∀ i r d, i < n → l[r]? = some d → DtOk d (row i r) := by cases h with | sl hn h => exact ⟨_, _, _, rfl, hn, h⟩
theorem ag_agg {cs : Array Value} {l : List C} {A : Nat → Bs} {i : Nat} (hs : cs.size = l.length) (h : ∀ (j : Nat) (c : C), l[j]? = some c → ∃ u, cs[j]? = some u ∧ CRel W (there W) c (fun _ _ => False) u) : AgRel W (qAll W) A i (.agg (l.map .c)) (.agg cs) := by
  refine ⟨cs, rfl, by simpa using hs, fun j c hj => ?_⟩
  rw [List.getElem?_map] at hj
  cases hl : l[j]? with
  | none => rw [hl] at hj; cases hj
  | some x =>
    rw [hl] at hj; injection hj with hj; subst hj
    obtain ⟨u, h1, h2⟩ := h j x hl
    exact ⟨u, h1, CRel.mono (fun _ _ hz => qAll_fro hz) _ _ _ _ h2 (fun _ _ h => h.elim)⟩

/-- What a law's contract gives, in the frame's words. -/
theorem Run.law {f : FuncId} {args : List Ag} {cargs : Array Value} (hrun : Run P f args [] fun outs ext => outs = [.one (.lit (.bool true))] ∧ ext = []) (hsz : cargs.size = args.length)
    (hargs : ∀ (i : Nat) (x : Ag), args[i]? = some x → ∃ u, cargs[i]? = some u ∧ AgRel W (qAll W) (fun _ => ⟨none, 0⟩) i x u) :
    Calls P f cargs W fun e w' => e = .returned (.bool true) ∧ Below W.heap.size W w' := by
  refine (hrun W (qAll W) (fun _ => ⟨none, 0⟩) cargs ⟨hsz, hargs, fun ρ x h => by simp at h, fun b j x hx => ?_⟩).mono fun e w' h => ?_
  · unfold qAll at hx
    split at hx
    · rename_i hh; obtain ⟨v, hv⟩ := hh; exact World.block_lt_of_cell? W ⟨b, j, none⟩ hv
    · cases hx
  · obtain ⟨us, outs, ext, q', rfl, ⟨rfl, rfl⟩, hx⟩ := h
    match us, hx.size with
    | [u], _ =>
      obtain ⟨u', hu, hr⟩ := hx.outs 0 _ rfl
      injection hu with hu; subst hu
      obtain ⟨hr, _⟩ := hr
      refine ⟨by rw [hr]; rfl, hx.fr.os, hx.fr.tape, hx.fr.output, hx.fr.mt.size, fun k hk => ?_⟩
      have hkk : W.heap[k]? = some W.heap[k] := Array.getElem?_eq_getElem hk
      cases ho : W.heap[k] with
      | cells cur e fz =>
        rw [ho] at hkk
        obtain ⟨cur', h1, h2⟩ := hx.fr.mt.blk k cur e fz hkk
        rw [hkk, h1]
        have : cur' = cur := by
          apply Array.ext_getElem?
          intro j
          have := hx.fr.cell k j hk (qAll_wof k j)
          simpa [World.cell?, hkk, h1] using this
        rw [this]
      | _ => exact hx.fr.other k hk (fun cur e fz hh => by rw [hkk, ho] at hh; cases hh)
end
end Go.Tr
