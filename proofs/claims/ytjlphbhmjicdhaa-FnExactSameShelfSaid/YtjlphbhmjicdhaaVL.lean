/- Calls by contract; loops; states told anew. -/
import Derived.Test.YtjlphbhmjicdhaaVK
import Derived.Test.YtjlphbhmjicdhaaVB2
set_option linter.unusedVariables false
set_option linter.unusedSimpArgs false
universe u
namespace Go.Tr
open Go Go.RowKit

/-- What is lent. -/
inductive PsA (τ : TS) : At → TC → Prop where
  | lit (v : Value) : PsA τ (.lit v) (.lit v)
  | any : PsA τ .any .any
  | nilL {e k : Nat} : PsA τ (.nil e k) (.lit (.slice none 0 0))
  | nil {e k e' k' : Nat} {X : Type} {enc : X → Nat → TC} {dec : List Value → Option X} {d : X} : PsA τ (.nil e k) (.sl e' k' X enc dec d [])
  | ref {κ n e k : Nat} {o : RO} {f : Bool} {X : Type} {enc : X → Nat → TC} {dec : List Value → Option X} {d : X} {xs : List X} (h : lkR τ.r κ = some (.ty o f e k X enc dec d xs)) (hn : n = xs.length) : PsA τ (.ref κ 0 n) (.sl e k X enc dec d xs)
  | seg {κ lo n e k : Nat} {o : RO} {f : Bool} {X : Type} {enc : X → Nat → TC} {dec : List Value → Option X} {d : X} {xs ys : List X} (h : lkR τ.r κ = some (.ty o f e k X enc dec d xs)) (hn : lo + n ≤ xs.length) (hy : ys = (xs.drop lo).take n) : PsA τ (.ref κ lo n) (.sl e k X enc dec d ys)
inductive PsL (τ : TS) : List At → List TA → Prop where
  | nil : PsL τ [] []
  | cons {x : At} {l : List At} {t : TC} {ts : List TA} (h : PsA τ x t) (hr : PsL τ l ts) : PsL τ (x :: l) (.c t :: ts)
inductive PsV (τ : TS) : V → TAg → Prop where
  | one {x : At} {t : TC} (h : PsA τ x t) : PsV τ (.a x) (.one (.c t))
  | agg {l : List At} {ts : List TA} (h : PsL τ l ts) : PsV τ (.agg l) (.agg ts)
inductive PsVs (τ : TS) : List V → List TAg → Prop where
  | nil : PsVs τ [] []
  | cons {v : V} {l : List V} {t : TAg} {ts : List TAg} (h : PsV τ v t) (hr : PsVs τ l ts) : PsVs τ (v :: l) (t :: ts)

def outsE : List TAr → TS → Nat → TS × List V
  | [], σ, _ => (σ, [])
  | .one t :: l, σ, c => match cellsE [.m t] σ c with | (σ', xs, c') => (match outsE l σ' c' with | (σ'', vs) => (σ'', .a (xs.headD .any) :: vs))
  | .agg ts :: l, σ, c => match cellsE (ts.map .m) σ c with | (σ', xs, c') => (match outsE l σ' c' with | (σ'', vs) => (σ'', .agg xs :: vs))
theorem outsE_ok : ∀ (l : List TAr) (s : St) (τ : TS) (c : Nat), Sm s τ → Sm (layOuts (l.map TAr.er) s c).1 (outsE l τ c).1 ∧ (layOuts (l.map TAr.er) s c).2 = (outsE l τ c).2 ∧ ∀ v ∈ (outsE l τ c).2, stV v = v ∧ stV0 v = v
  | [], s, τ, c, h => ⟨h, rfl, fun v hv => by cases hv⟩
  | .one t :: l, s, τ, c, h => by
    obtain ⟨h1, h2, h3⟩ := cellsE_ok [.m t] s τ c h
    have e1 : (addCells [.c (t.er .own)] s c).2.2 = (cellsE [.m t] τ c).2.2 := congrArg Prod.snd h2
    have e2 : (addCells [.c (t.er .own)] s c).2.1 = (cellsE [.m t] τ c).2.1 := congrArg Prod.fst h2
    simp only [List.map_cons, TAr.er, layOuts, layOut, outsE]
    rw [e1, e2]
    obtain ⟨k1, k2, k3⟩ := outsE_ok l _ _ (cellsE [.m t] τ c).2.2 h1
    refine ⟨k1, by rw [← k2]; rfl, fun v hv => ?_⟩
    rcases List.mem_cons.1 hv with rfl | hv
    · have hh := all_st h3
      have : stA ((cellsE [.m t] τ c).2.1.headD .any) = (cellsE [.m t] τ c).2.1.headD .any := by
        cases hq : (cellsE [.m t] τ c).2.1 with
        | nil => rfl
        | cons y ys => rw [hq] at hh; simp only [List.map_cons, List.cons.injEq] at hh; simp [hh.1]
      exact ⟨by simp only [stV, this], by simp only [stV0, this]⟩
    · exact k3 v hv
  | .agg ts :: l, s, τ, c, h => by
    obtain ⟨h1, h2, h3⟩ := cellsE_ok (ts.map .m) s τ c h
    have hm : (ts.map (TC.er .own)).map Aa.c = (ts.map TA.m).map TA.er := by simp [Function.comp, TA.er]
    have e1 : (addCells ((ts.map (TC.er .own)).map .c) s c).2.2 = (cellsE (ts.map .m) τ c).2.2 := by rw [hm]; exact congrArg Prod.snd h2
    have e2 : (addCells ((ts.map (TC.er .own)).map .c) s c).2.1 = (cellsE (ts.map .m) τ c).2.1 := by rw [hm]; exact congrArg Prod.fst h2
    simp only [List.map_cons, TAr.er, layOuts, layOut, outsE]
    rw [e1, e2]
    obtain ⟨k1, k2, k3⟩ := outsE_ok l _ _ (cellsE (ts.map .m) τ c).2.2 (by rw [← hm] at h1; exact h1)
    refine ⟨k1, by rw [← k2], fun v hv => ?_⟩
    rcases List.mem_cons.1 hv with rfl | hv
    · have hh := all_st h3
      exact ⟨by simp only [stV, hh], by simp only [stV0, hh]⟩
    · exact k3 v hv
def keyOf (o : Oper) : Nat := match o.dst with | some d => 2000000 + 128 * d | none => 2900000
def freeT (a : Nat) : List (Nat × TRoot) → Bool
  | [] => true
  | p :: l => (Nat.blt p.1 a || Nat.ble (a + 100) p.1) && freeT a l
theorem freeT_ok {a : Nat} : ∀ {l : List (Nat × TRoot)}, freeT a l = true → freeIn a (a + 100) (l.map fun p => (p.1, p.2.er)) = true
  | [], _ => rfl
  | p :: l, h => by
    simp only [freeT, Bool.and_eq_true] at h
    simp only [List.map_cons, freeIn, Bool.and_eq_true]
    exact ⟨h.1, freeT_ok h.2⟩
def cntT : List TAr → Nat
  | [] => 0
  | .one _ :: l => 1 + cntT l
  | .agg ts :: l => ts.length + cntT l
theorem cntT_eq : ∀ l : List TAr, cnts (l.map TAr.er) = cntT l
  | [] => rfl
  | .one _ :: l => by simp [cnts, cntT, TAr.er, cnt, cntT_eq l]
  | .agg ts :: l => by simp [cnts, cntT, TAr.er, cnt, cntT_eq l]

section
variable {P : Program} {F : Fm} {N : Nat} {G : Gt} {o : Oper} {τ : TS} {k : TS → Prop}

theorem PsA.noSp {x : At} {t : TC} (h : PsA τ x t) : stA x = x := by cases h <;> rfl
theorem bw_none (κ : Nat) : bwFind [] 0 κ = none := rfl
theorem PsA.ok {x : At} {t : TC} (h : PsA τ x t) {a : Act} {w : World} {ω : Om} {β : Nat → Bs} {u : Value} (hr : Rel1 F N τ.er a w ω β) (hx : ARel τ.er β w (stA x) u) (A : Nat → Bs) (i j : Nat) : AaRel w (qOf ω β []) A i j (.c (t.er .fro)) u := by
  rw [h.noSp] at hx
  have key : ∀ {κ lo n e k : Nat} {o : RO} {f : Bool} {X : Type} {enc : X → Nat → TC} {dec : List Value → Option X} {d : X} {xs ys : List X}, lkR τ.r κ = some (.ty o f e k X enc dec d xs) → ys.length = n → (∀ i, i < n → ys.getD i d = xs.getD (lo + i) d) → ARel τ.er β w (.ref κ lo n) u →
      AaRel w (qOf ω β []) A i j (.c ((TC.sl e k X enc dec d ys).er .fro)) u := by
    intro κ lo n e k o f X enc dec d xs ys hR hl hg hx
    have hRe := TS.rt_some hR
    have h1 := passA_ok (bs := []) hr hx (by simp only [passA, bw_none, hRe]; cases o <;> trivial) i j
    simp only [passA, bw_none, hRe] at h1
    refine CSame.rel _ _ _ _ ?_ h1
    refine ⟨rfl, (fun h => by cases h), rfl, hl, fun i r hi hr => ?_⟩
    show CSame (lend ((enc (xs.getD (lo + i) d) r).er (owOf o))) ((enc (ys.getD i d) r).er .fro)
    rw [hg i hi, TC.lend]; exact CSame.rfl _
  cases h with
  | lit v => exact hx
  | any => exact hx
  | nilL => exact ⟨hx, rfl⟩
  | nil =>
    have hx : u = .slice none 0 0 := hx
    subst hx
    exact ⟨none, 0, rfl, Nat.le_refl _, Nat.zero_le _, fun _ => rfl, fun h => absurd h (Nat.not_lt_zero _)⟩
  | ref h hn => exact key h hn.symm (fun i _ => by rw [Nat.zero_add]) hx
  | seg h hn hy =>
    subst hy
    refine key h ?_ (fun i hi => ?_) hx
    · simp; omega
    · simp [List.getD, List.getElem?_take, hi, List.getElem?_drop]
theorem PsL.ok {l : List At} {ts : List TA} (h : PsL τ l ts) {a : Act} {w : World} {ω : Om} {β : Nat → Bs} (hr : Rel1 F N τ.er a w ω β) (A : Nat → Bs) (i : Nat) : ∀ (us : List Value) (j0 : Nat), us.length = l.length → (∀ (j : Nat) (x : At) (u : Value), l[j]? = some x → us[j]? = some u → ARel τ.er β w (stA x) u) →
    l.length = ts.length ∧ ∀ (j : Nat) (t : TA), ts[j]? = some t → ∃ y, us[j]? = some y ∧ AaRel w (qOf ω β []) A i (j0 + j) t.er y := by
  induction h with
  | nil => intro us j0 _ _; exact ⟨rfl, fun j t hj => by simp at hj⟩
  | cons h _ ih =>
    intro us j0 hl hx
    cases us with
    | nil => simp at hl
    | cons u us =>
      obtain ⟨e1, e2⟩ := ih us (j0 + 1) (by simpa using hl) (fun j x u' hj hu => hx (j + 1) x u' hj hu)
      refine ⟨by simp [e1], fun j t hj => ?_⟩
      cases j with
      | zero => injection hj with hj; subst hj; exact ⟨u, rfl, h.ok hr (hx 0 _ u rfl rfl) A _ _⟩
      | succ j =>
        obtain ⟨y, f1, f2⟩ := e2 j t hj
        exact ⟨y, f1, by rw [show j0 + (j + 1) = j0 + 1 + j by omega]; exact f2⟩
theorem PsV.ok {v : V} {t : TAg} (h : PsV τ v t) {a : Act} {w : World} {ω : Om} {β : Nat → Bs} {u : Value} (hr : Rel1 F N τ.er a w ω β) (hx : VRel τ.er β w (stV v) u) (A : Nat → Bs) (i : Nat) : AgRel w (qOf ω β []) A i t.er u := by
  cases h with
  | one h => exact h.ok hr hx A _ _
  | agg h =>
    obtain ⟨us, e1, e2, e3⟩ := hx
    rw [List.length_map] at e2
    obtain ⟨f1, f2⟩ := h.ok hr A i us.toList 0 (by simpa using e2) (fun j x u hj hu => by
      obtain ⟨y, g1, g2⟩ := e3 j (stA x) (by rw [List.getElem?_map, hj]; rfl)
      rw [Array.getElem?_toList, g1] at hu
      injection hu with hu; subst hu; exact g2)
    refine ⟨us, e1, by simp [e2, f1], fun j c hj => ?_⟩
    rw [List.getElem?_map] at hj
    rename_i l ts
    cases hq : ts[j]? with
    | none => rw [hq] at hj; cases hj
    | some t =>
      rw [hq] at hj; injection hj with hj; subst hj
      obtain ⟨y, g1, g2⟩ := f2 j t hq
      rw [Nat.zero_add] at g2
      exact ⟨y, by rw [← Array.getElem?_toList]; exact g1, g2⟩
theorem PsVs.ok {args : List Operand} {ts : List TAg} (h : PsVs τ (args.map (evS τ)) ts) {a : Act} {w : World} {ω : Om} {β : Nat → Bs} (hr : Rel1 F N τ.er a w ω β) (A : Nat → Bs) : Ent w (qOf ω β []) A (args.map a.eval).toArray (ts.map TAg.er) [] := by
  have key : ∀ (args : List Operand) (ts : List TAg) (i0 : Nat), PsVs τ (args.map (evS τ)) ts → args.length = ts.length ∧ ∀ (i : Nat) (t : TAg), ts[i]? = some t → ∃ u, (args.map a.eval)[i]? = some u ∧ AgRel w (qOf ω β []) A (i0 + i) t.er u := by
    intro args
    induction args with
    | nil => intro ts i0 h; cases h; exact ⟨rfl, fun i t hi => by simp at hi⟩
    | cons x args ih =>
      intro ts i0 h
      cases h with
      | cons h hr' =>
        obtain ⟨e1, e2⟩ := ih _ (i0 + 1) hr'
        refine ⟨by simp [e1], fun i t hi => ?_⟩
        cases i with
        | zero =>
          injection hi with hi; subst hi
          exact ⟨a.eval x, rfl, h.ok hr (by have := hr.ev x; rw [evS_eq] at this; exact this) A _⟩
        | succ i =>
          obtain ⟨u, f1, f2⟩ := e2 i t hi
          exact ⟨u, f1, by rw [show i0 + (i + 1) = i0 + 1 + i by omega]; exact f2⟩
  obtain ⟨e1, e2⟩ := key args ts 0 h
  refine ⟨by simp [e1], fun i x hx => ?_, fun ρ x hx => by simp at hx, fun b j x hx => ?_⟩
  · rw [List.getElem?_map] at hx
    cases hq : ts[i]? with
    | none => rw [hq] at hx; cases hx
    | some t =>
      rw [hq] at hx; injection hx with hx; subst hx
      obtain ⟨u, f1, f2⟩ := e2 i t hq
      rw [Nat.zero_add] at f2
      exact ⟨u, by simpa using f1, f2⟩
  · obtain ⟨y, hy⟩ := q_some hx
    exact (hr.wr b j y hy).1

/-- Behind a call. -/
def nextK (o : Oper) (outs : List TAr) (τ : TS) (k : TS → Prop) : Prop :=
  match outsE outs τ (keyOf o) with
  | (τ', vs) => fS τ' fun τ' => match o.dst with
    | some d => putK τ' d (tupV vs) k
    | none => k τ'
theorem tupV_st {vs : List V} (h : ∀ v ∈ vs, stV v = v ∧ stV0 v = v) : stV (tupV vs) = tupV vs := by
  match vs, h with
  | [], _ => rfl
  | [v], h => exact (h v (List.mem_cons_self ..)).1
  | v :: v2 :: vs, h =>
    show V.tup ((v :: v2 :: vs).map stV0) = .tup (v :: v2 :: vs)
    congr 1
    refine (List.map_congr_left (fun x hx => (h x hx).2)).trans (List.map_id _)

theorem run_callV {o : Oper} {a : Act} {w : World} {f : FuncId} {fn : Func} {x : Operand} {args : Array Operand} {ats : Array TypeId} (hop : o.op = .call { callee := .value x, args, argTypes := ats }) (hx : a.eval x = .func (.func f) #[] #[])
    (hf : P.funcs[f]? = some fn) (hname : (fn.name == "runtime.NumGoroutine") = false) (hb : fn.body.isNone = false) : (execOp a.eval o).run P w = .ok (.enter f (args.map a.eval)) w := by
  have h1 : ¬ fn.name = "runtime.NumGoroutine" := by simpa using hname
  have h2 : ¬ fn.body = none := by cases hx : fn.body <;> simp_all
  unfold execOp
  simp [hop, resolve, Deferred.ofValue, invoke, callFunc, hf, h1, h2, hx]
/-- A call of a function whose contract is known: what is handed in is lent. -/
theorem OpK.call {f : FuncId} {ags : Array Operand} {ats : Array TypeId} {args : List TAg} {outs : List TAr} {fx : Operand} (hrun : RunT P f args [] outs []) (hop : o.op = .call ⟨.value fx, ags, ats⟩) (hfx : evS τ fx = .a (.lit (.func (.func f) #[] #[]))) (hg : o.guard = none) (hd : okD N o.dst = true) (hE : F.nE ≤ 1000000)
    (hps : PsVs τ (ags.toList.map (evS τ)) args) (hfree : freeT (keyOf o) τ.r = true) (hcnt : Nat.ble (cntT outs) 100 = true) (hk : nextK o outs τ k) : OpK P F N o τ k := by
  obtain ⟨fn, hf, hname, hb⟩ := hrun.fn
  refine ⟨fun ops Q rest kk => ?_⟩
  intro a w hr
  obtain ⟨ω, β, h⟩ := hr
  have hkey : 2000000 ≤ keyOf o := by unfold keyOf; split <;> omega
  -- the base's rule, at the arguments as they stand
  have hent := hps.ok h (aOf β [])
  refine wpList_plain hg fun K hK => ?_
  unfold Oper.wp
  rw [run_callV hop (ev_lit (v := .func (.func f) #[] #[]) h (by rw [evS_eq, hfx]; rfl)) hf hname hb, Oper.upon_enter]
  have hargs : ags.map a.eval = (ags.toList.map a.eval).toArray := by apply Array.ext'; rw [Array.toList_map]
  rw [hargs]
  refine (hrun.run w _ _ _ hent).mono fun e w' he => ?_
  obtain ⟨us, outs0, ext0, q', rfl, ⟨rfl, rfl⟩, hx⟩ := he
  have hmine : ∀ x ∈ outs.map TAr.er, x.mine := by
    intro x hx
    obtain ⟨t, _, rfl⟩ := List.mem_map.1 hx
    cases t with
    | one t => exact t.mine
    | agg ts => intro c hc; obtain ⟨t, _, rfl⟩ := List.mem_map.1 hc; exact t.mine
  obtain ⟨ω', β', hrel⟩ := call_backQ h BwOk.nil (fun _ _ _ _ => rfl) (fun b j y hy _ hn => by rw [q_none hn] at hy; cases hy) hx rfl (fun ρ b x hb => by simp at hb) hE (keyOf o) hkey (freeT_ok hfree) hmine (by rw [cntT_eq]; exact Nat.le_of_ble_eq_true hcnt) hd
  refine hK _ _ ?_
  obtain ⟨s1, s2, s3⟩ := outsE_ok outs τ.er τ (keyOf o) ⟨fun t => TS.tv_er τ t, fun κ => by rw [TS.rt_er]; exact OSim.rfl _⟩
  unfold nextK at hk
  generalize outsE outs τ (keyOf o) = p at hk s1 s2 s3
  obtain ⟨τ', vs⟩ := p
  dsimp only at hk s1 s2 s3
  rw [fS_eq] at hk
  have hst := tupV_st s3
  cases hds : o.dst with
  | none =>
    rw [hds] at hk hrel
    exact kk _ hk _ _ (s1.le _ _ _ _ ⟨ω', β', hrel⟩)
  | some d =>
    rw [hds] at hk hrel
    dsimp only at hk
    rw [putK_eq] at hk
    refine kk _ hk _ _ ?_
    have h2 := s1.put d (tupV vs)
    rw [hst, ← s2] at h2
    rw [← s2]
    exact h2.le _ _ _ _ ⟨ω', β', hrel⟩
end
end Go.Tr
