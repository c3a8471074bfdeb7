/- Loops; regions whose order is drawn. -/
import Derived.Test.YtjlphbhmjicdhaaVL
set_option linter.unusedVariables false
set_option linter.unusedSimpArgs false
universe u
namespace Go.Tr
open Go Go.RowKit

def leT (τ τ' : TS) : Prop := τ.er.le τ'.er
def tAllT (τ : TS) : List (Nat × V) → Prop
  | [] => True
  | p :: l => lkT τ.t p.1 = p.2 ∧ tAllT τ l
def rAllT (τ : TS) : List (Nat × TRoot) → Prop
  | [] => True
  | p :: l => lkR τ.r p.1 = some p.2 ∧ rAllT τ l
def hasT (l : List (Nat × TRoot)) (κ : Nat) : Bool := (lkR l κ).isSome
def atT (l : List (Nat × TRoot)) : At → Bool
  | .ref κ _ _ => hasT l κ
  | .spot κ _ _ => hasT l κ
  | _ => true
def vT0 (l : List (Nat × TRoot)) : V → Bool
  | .a x => atT l x
  | .agg xs => xs.all (atT l)
  | .ptr κ _ _ => hasT l κ
  | .any => true
  | .tup _ => false
def clT (l : List (Nat × TRoot)) : TCl → Bool
  | .ref κ _ _ => hasT l κ
  | _ => true
def rtT (l : List (Nat × TRoot)) : TRoot → Bool
  | .ty _ _ _ _ _ _ _ _ _ => true
  | .box _ cs => cs.all (clT l)
  | .litr _ _ cs => cs.all fun c => c.all (clT l)
  | .raw R => R.op.isEmpty
  | .tyo _ _ _ _ _ _ _ _ _ _ key _ => hasT l key
/-- All that a state names is there. -/
def okTS (τ : TS) : Bool := τ.t.all (fun p => vT0 τ.r p.2) && τ.r.all (fun p => rtT τ.r p.2)

theorem hasT_er {l : List (Nat × TRoot)} {κ : Nat} (h : hasT l κ = true) : hasR (l.map fun p => (p.1, p.2.er)) κ = true := by
  unfold hasT at h
  unfold hasR
  rw [lkR_eq]
  cases hq : lkR l κ with
  | none => rw [hq] at h; cases h
  | some R => rfl
theorem atT_er {l : List (Nat × TRoot)} {x : At} (h : atT l x = true) : atOk (l.map fun p => (p.1, p.2.er)) (stA x) = true := by
  cases x <;> first | rfl | exact hasT_er h
theorem vT0_er {l : List (Nat × TRoot)} {v : V} (h : vT0 l v = true) : vOk (l.map fun p => (p.1, p.2.er)) (stV v) = true := by
  cases v with
  | any => rfl
  | a x => exact atT_er h
  | agg xs =>
    show (xs.map stA).all (atOk _) = true
    rw [List.all_eq_true]
    intro y hy
    obtain ⟨x, hx, rfl⟩ := List.mem_map.1 hy
    exact atT_er (List.all_eq_true.1 h x hx)
  | ptr κ i r => exact hasT_er h
  | tup l => cases h
theorem clT_er {l : List (Nat × TRoot)} {c : TCl} (h : clT l c = true) : clOk (l.map fun p => (p.1, p.2.er)) c.er = true := by
  cases c with
  | cl t => rfl
  | ref κ a b => exact hasT_er h
theorem mkop_mem {i : Nat} {f : Cl → Bool} : ∀ {l : List Cl} {r : Nat}, l.all f = true → (mkop i r l).all (fun q => f q.2) = true
  | [], _, _ => rfl
  | x :: l, r, h => by
    simp only [List.all_cons, Bool.and_eq_true] at h
    simp only [mkop, List.all_cons, Bool.and_eq_true]
    exact ⟨h.1, mkop_mem h.2⟩
theorem mkops_mem {k : Nat} {f : Cl → Bool} : ∀ {n : Nat} {l : List Cl}, l.all f = true → (litR.mkops k n l).all (fun q => f q.2) = true
  | 0, l, _ => rfl
  | n + 1, l, h => by
    simp only [litR.mkops, List.all_append, Bool.and_eq_true]
    exact ⟨mkops_mem (List.all_eq_true.2 fun x hx => List.all_eq_true.1 h x (List.mem_of_mem_take hx)), mkop_mem (List.all_eq_true.2 fun x hx => List.all_eq_true.1 h x (List.mem_of_mem_drop hx))⟩
theorem leT.of {τ τ' : TS} (h1 : tAllT τ τ'.t) (h2 : rAllT τ τ'.r) (h3 : okTS τ' = true) : leT τ τ' := by
  simp only [okTS, Bool.and_eq_true] at h3
  refine St.le.sub ?_ ?_ ?_ ?_
  · have key : ∀ l : List (Nat × V), tAllT τ l → tAll τ.er (l.map fun p => (p.1, stV p.2)) := by
      intro l
      induction l with
      | nil => intro _; trivial
      | cons p l ih => intro h; exact ⟨by rw [TS.tv_er, h.1], ih h.2⟩
    exact key _ h1
  · have key : ∀ l : List (Nat × TRoot), rAllT τ l → rAll τ.er (l.map fun p => (p.1, p.2.er)) := by
      intro l
      induction l with
      | nil => intro _; trivial
      | cons p l ih => intro h; exact ⟨⟨p.2.er, TS.rt_some h.1, RSame.rfl _⟩, ih h.2⟩
    exact key _ h2
  · rw [List.all_eq_true]
    intro p hp
    obtain ⟨q, hq, rfl⟩ := List.mem_map.1 hp
    exact vT0_er (List.all_eq_true.1 h3.1 q hq)
  · rw [List.all_eq_true]
    intro p hp
    obtain ⟨q, hq, rfl⟩ := List.mem_map.1 hp
    have hk := List.all_eq_true.1 h3.2 q hq
    obtain ⟨n, R⟩ := q
    cases R with
    | ty => rfl
    | box e cs =>
      refine mkop_mem ?_
      rw [List.all_eq_true]
      intro y hy
      obtain ⟨c, hc, rfl⟩ := List.mem_map.1 hy
      exact clT_er (List.all_eq_true.1 hk c hc)
    | litr e k cs =>
      refine mkops_mem ?_
      rw [List.all_eq_true]
      intro y hy
      obtain ⟨l, hl, hyl⟩ := List.mem_flatten.1 hy
      obtain ⟨c, hc, rfl⟩ := List.mem_map.1 hl
      obtain ⟨x, hx, rfl⟩ := List.mem_map.1 hyl
      exact clT_er (List.all_eq_true.1 (List.all_eq_true.1 hk c hc) x hx)
    | raw R => show R.op.all _ = true; rw [List.isEmpty_iff.1 hk]; rfl
    | tyo f e k X enc dec d xs i r key n => show (clOk _ (.ref key 0 n) && true) = true; rw [Bool.and_true]; exact hasT_er hk

def TLoop {ι : Type} (S : ι → TS) (p : ι → Prop) (M : ι → Nat) (i : ι) (Q : Exit → TS → Prop) : Exit → TS → Prop
  | .normal, τ => ∃ j, leT τ (S j) ∧ p j ∧ M j < M i
  | e, τ => Q e τ
section
variable {P : Program} {F : Fm} {N : Nat} {G : Gt} {σ : TS} {Q : Exit → TS → Prop}
theorem CodeK.loop {c : Code} {ι : Type} (hG : GOk P G) (hE : F.nE ≤ 1000000) (S : ι → TS) (p : ι → Prop) (M : ι → Nat) (i0 : ι) (h0 : leT σ (S i0)) (hp : p i0) (round : ∀ i, p i → vcC P F N G c (S i) (TLoop S p M i Q)) : CodeK P F N (.loop c) σ Q := by
  refine ⟨AC.loopS (ι := {i : ι // p i}) (fun i => (S i.1).er) (fun i => M i.1) ⟨i0, hp⟩ h0 fun i => ?_⟩
  refine AC.mono (vcC_ok hG hE (round i.1 i.2)) (fun e s hq => ?_)
  obtain ⟨τ, h1, h2⟩ := hq
  cases e with
  | normal =>
    obtain ⟨j, h3, h4, h5⟩ := h2
    exact ⟨⟨j, h4⟩, h5, h1.trans h3⟩
  | exit id => exact ⟨τ, h1, h2⟩
  | goto l => exact ⟨τ, h1, h2⟩
  | ret => exact ⟨τ, h1, h2⟩
  | panic c => exact ⟨τ, h1, h2⟩
  | outgrown => exact ⟨τ, h1, h2⟩
/-- The state told anew, ahead of a piece of code. -/
theorem CodeK.le {c : Code} (τ : TS) (h0 : leT σ τ) (hG : GOk P G) (hE : F.nE ≤ 1000000) (h : vcC P F N G c τ Q) : CodeK P F N c σ Q := ⟨AC.le h0 (vcC_ok hG hE h)⟩

/-- In which order the operations of a region are looked at. -/
inductive Plan where
  | done
  | take (i : Nat) (p : Plan)
  | alt (i : Nat) (p q : Plan)
  | stop
def pureOp : Op → Bool
  | .move _ | .assign _ | .pick _ _ _ | .binOp _ _ _ _ _ | .unOp _ _ _ | .nilCheck _ | .fieldAddr _ _ _ | .indexAddr _ _ _ | .slice _ _ _ _ _ | .extract _ _ => true
  | .call c => match c.callee with
    | .builtin .len => true
    | _ => false
  | _ => false
def Plan.chk (ops : Array Oper) : Plan → Nat → Array Bool → Option (List Nat) → Bool
  | .done, _, listed, none => (Region.ready .any ops listed).isEmpty
  | .take i p, f + 1, listed, none => Region.noSelect ops && Region.free .any ops listed i && (Region.ready .any ops listed).contains i && (match ops[i]? with | some o => pureOp o.op | none => false) && p.chk ops f (listed.setIfInBounds i true) none
  | .alt i p q, f + 1, listed, rem => !(Region.ready .any ops listed).isEmpty && p.chk ops f (listed.setIfInBounds i true) none && q.chk ops (f + 1) listed (some ((rem.getD (Region.ready .any ops listed)).filter (· != i)))
  | .stop, _, _, some rs => rs.isEmpty
  | _, _, _, _ => false
def vcY (P : Program) (F : Fm) (N : Nat) (G : Gt) (ops : Array Oper) : Plan → TS → (TS → Prop) → Prop
  | .done, σ, k => k σ
  | .take i p, σ, k => match ops[i]? with
    | some o => vcG P F N G ops o σ fun σ => vcY P F N G ops p σ k
    | none => False
  | .alt i p q, σ, k => (match ops[i]? with
    | some o => vcG P F N G ops o σ fun σ => vcY P F N G ops p σ k
    | none => False) ∧ vcY P F N G ops q σ k
  | .stop, _, _ => True

variable {o : Oper} {k : TS → Prop} {ops : Array Oper} {QB : Exit → St → Prop}
theorem AY.takeOffT {s : St} {Q : Exit → St → Prop} {fuel : Nat} {listed : Array Bool} (i : Nat) {j dj : Nat} {b c : Bool} {oj : Oper} (hi : ops[i]? = some o) (hg : o.guard = some (j, b)) (hj : ops[j]? = some oj) (hdj : oj.dst = some dj) (hb : s.tv dj = .a (.lit (.bool c))) (hN : dj < N) (hc : c = !b) (hs : Region.noSelect ops = true) (hf : Region.free .any ops listed i = true) (hr : (Region.ready .any ops listed).contains i = true)
    (hnp : ∀ c s, ¬ Q (.panic c) s) (hd : okD N o.dst = true) (k : AY P F N ops Q fuel (listed.setIfInBounds i true) (s.putO o.dst (.tup []))) : AY P F N ops Q (fuel + 1) listed s := by
  intro a w hr'
  obtain ⟨ω, β, h⟩ := hr'
  refine wpAny_take hi hs hf hr (fun c a w hq => ?_) (.inr ⟨by rw [guard_val h hg hj hdj hb hN, hc]; cases b <;> rfl, rfl⟩) (k _ _ ⟨ω, β, h.putO hd (v := .tup []) ⟨#[], rfl, rfl, fun j x hx => by simp at hx⟩⟩)
  obtain ⟨s, hq, _⟩ := hq
  exact absurd hq (hnp c s)
theorem AY.takeOffU {s : St} {Q : Exit → St → Prop} {fuel : Nat} {listed : Array Bool} (i : Nat) {j dj : Nat} {b : Bool} {oj : Oper} (hi : ops[i]? = some o) (hg : o.guard = some (j, b)) (hj : ops[j]? = some oj) (hdj : oj.dst = some dj) (hb : s.tv dj = .tup []) (hN : dj < N) (hs : Region.noSelect ops = true) (hf : Region.free .any ops listed i = true) (hr : (Region.ready .any ops listed).contains i = true)
    (hnp : ∀ c s, ¬ Q (.panic c) s) (hd : okD N o.dst = true) (k : AY P F N ops Q fuel (listed.setIfInBounds i true) (s.putO o.dst (.tup []))) : AY P F N ops Q (fuel + 1) listed s := by
  intro a w hr'
  obtain ⟨ω, β, h⟩ := hr'
  have hw : Region.wanted o (yielded ops a.tmps) = false := by
    have := h.tmps dj
    rw [hb] at this
    obtain ⟨us, hv, _⟩ := this
    have h2 : a.tmps[dj]? = some (.tuple us) := by
      have : dj < a.tmps.size := by rw [h.tsz]; exact hN
      rw [Array.getElem?_eq_getElem this]
      rw [Array.getD_eq_getD_getElem?, Array.getElem?_eq_getElem this] at hv
      rw [← hv]; rfl
    simp [Region.wanted, hg, yielded, hj, hdj, h2]
  refine wpAny_take hi hs hf hr (fun c a w hq => ?_) (.inr ⟨hw, rfl⟩) (k _ _ ⟨ω, β, h.putO hd (v := .tup []) ⟨#[], rfl, rfl, fun j x hx => by simp at hx⟩⟩)
  obtain ⟨s, hq, _⟩ := hq
  exact absurd hq (hnp c s)
/-- An operation that reads no memory, at once. -/
theorem takeG_ok (hG : GOk P G) (hE : F.nE ≤ 1000000) {i fuel : Nat} {listed : Array Bool} (hi : ops[i]? = some o) (hs : Region.noSelect ops = true) (hf : Region.free .any ops listed i = true) (hr : (Region.ready .any ops listed).contains i = true) (hpu : pureOp o.op = true)
    (hnp : ∀ c s, ¬ QB (.panic c) s) (kk : ∀ τ, k τ → AY P F N ops QB fuel (listed.setIfInBounds i true) τ.er) (h : vcG P F N G ops o σ k) : AY P F N ops QB (fuel + 1) listed σ.er := by
  have put' : ∀ {σ : TS} {d : Nat} {v : V}, putK σ d v k → AY P F N ops QB fuel (listed.setIfInBounds i true) (σ.er.put d (stV v)) := fun {σ d v} h => by
    rw [putK_eq] at h; exact kk _ h
  have as' : ∀ {σ : TS} {d : Nat} {v : V}, asK σ d v k → AY P F N ops QB fuel (listed.setIfInBounds i true) (σ.er.put d (stV v)) := fun {σ d v} h => by
    rw [asK_eq] at h
    intro a w hr
    refine kk _ h a w (le_lk (s := σ.er.put d (stV v)) (τ := ⟨(d, v) :: erl σ.t d, σ.r⟩) (fun t => ?_) (fun κ => ?_) _ _ _ _ hr)
    · rw [lkT_cons, lkT_erl, St.tv_put]
      by_cases e : t = d
      · simp [e]
      · simp [e, TS.tv_er]
    · rw [show (σ.er.put d (stV v)).rt κ = σ.er.rt κ from rfl, TS.rt_er]; exact OSim.rfl _
  have main : ∀ (σ : TS) (o' : Oper), o'.op = o.op → o'.dst = o.dst → o'.guard = none → o'.type = o.type → vcO P F N G o' σ k → ∃ v, Pure1 P F N σ.er o' v ∧ AY P F N ops QB fuel (listed.setIfInBounds i true) (σ.er.putO o.dst v) := by
    intro σ o' e1 e2 e3 e4 h
    have hrd : rdP P F N G o' σ (fun v => stO o' σ v k) := by
      rw [← e1] at hpu
      unfold vcO at h
      cases hop : o'.op <;> rw [hop] at hpu h <;> first | exact h | (exfalso; simp [pureOp] at hpu; done) | skip
      rename_i c
      obtain ⟨ce, ar, at_⟩ := c
      cases ce with
      | value f => simp [pureOp] at hpu
      | invoke a b => simp [pureOp] at hpu
      | builtin b => cases b <;> first | exact h | (simp [pureOp] at hpu)
    obtain ⟨v, hv, hp⟩ := rdP_ok hG hrd
    refine ⟨_, hp, ?_⟩
    unfold stO at hv
    rw [e2] at hv
    cases hds : o.dst with
    | none => rw [hds] at hv; exact kk _ hv
    | some d =>
      rw [hds] at hv
      dsimp only at hv
      split at hv
      · exact as' hv
      · exact put' hv
  unfold vcG at h
  cases hd : okD N o.dst with
  | false => rw [hd] at h; exact h.elim
  | true =>
    rw [hd] at h
    simp only [cond_true] at h
    split at h
    · rename_i hg
      obtain ⟨v, h1, h2⟩ := main σ o rfl rfl hg rfl h
      exact AY.take i hi hg hs hf hr hnp hd h1 h2
    · rename_i j b hg
      split at h
      · rename_i oj hj
        split at h
        · rename_i dj hdj
          cases hN : Nat.blt dj N with
          | false => rw [hN] at h; exact h.elim
          | true =>
            rw [hN] at h
            simp only [cond_true] at h
            simp only [blt_dec, decide_eq_true_eq] at hN
            have skip : ∀ τ : TS, (match o.dst with | some d => putK τ d (.tup []) k | none => k τ) → AY P F N ops QB fuel (listed.setIfInBounds i true) (τ.er.putO o.dst (.tup [])) := by
              intro τ hq
              cases hds : o.dst with
              | none => rw [hds] at hq; exact kk _ hq
              | some d => rw [hds] at hq; exact put' hq
            split at h
            · rename_i c hc
              have mm : ∀ c0 : Bool, c = c0 → (asK σ dj (.a (.lit (.bool c0))) fun σ => bif (b == c0) then vcO P F N G { o with guard := none } σ k else (match o.dst with | some d => putK σ d (.tup []) k | none => k σ)) → AY P F N ops QB (fuel + 1) listed σ.er := by
                intro c0 e hq
                subst e
                rw [asK_eq] at hq
                have hle : σ.er.le (TS.mk ((dj, .a (.lit (.bool c))) :: erl σ.t dj) σ.r).er := by
                  refine le_lk (fun t => .inr ?_) (fun κ => by rw [← TS.rt_er]; exact OSim.rfl _)
                  rw [lkT_cons, lkT_erl]
                  by_cases e2 : t = dj
                  · subst e2; rw [if_pos rfl, TS.tv_er, hc]
                  · rw [if_neg e2, if_neg e2]; exact (TS.tv_er σ t).symm
                have goal : AY P F N ops QB (fuel + 1) listed (TS.mk ((dj, .a (.lit (.bool c))) :: erl σ.t dj) σ.r).er := by
                  have htv : (TS.mk ((dj, .a (.lit (.bool c))) :: erl σ.t dj) σ.r).er.tv dj = .a (.lit (.bool c)) := by rw [TS.tv_er, lkT_cons, if_pos rfl]; rfl
                  by_cases hbc : b = c
                  · subst hbc
                    simp only [beq_self_eq_true, cond_true] at hq
                    obtain ⟨v, h1, h2⟩ := main _ { o with guard := none } rfl rfl rfl rfl hq
                    exact AY.takeOn i hi hg hj hdj htv hN rfl hs hf hr hnp hd h1 h2
                  · have : (b == c) = false := by simpa using hbc
                    rw [this] at hq
                    simp only [cond_false] at hq
                    exact AY.takeOffT i hi hg hj hdj htv hN (by cases b <;> cases c <;> simp_all) hs hf hr hnp hd (skip _ hq)
                exact fun a w hr => goal a w (hle _ _ _ _ hr)
              rcases h.ok with ⟨e, hq⟩ | ⟨e, hq⟩
              · refine mm true e ?_
                rw [asK_eq] at hq ⊢
                cases b <;> exact hq
              · refine mm false e ?_
                rw [asK_eq] at hq ⊢
                cases b <;> exact hq
            · rename_i hc
              exact AY.takeOffU i hi hg hj hdj (by rw [TS.tv_er, hc]; rfl) hN hs hf hr hnp hd (skip _ h)
            · exact h.elim
        · exact h.elim
      · exact h.elim

theorem vcY_ok (hG : GOk P G) (hE : F.nE ≤ 1000000) (hnp : ∀ c s, ¬ QB (.panic c) s) (kk : ∀ τ, k τ → QB .normal τ.er) : ∀ {p : Plan} {fuel : Nat} {listed : Array Bool} {rem : Option (List Nat)} {σ : TS}, p.chk ops fuel listed rem = true → vcY P F N G ops p σ k →
    (rem = none → AY P F N ops QB fuel listed σ.er) ∧ (∀ rs, rem = some rs → ∀ i ∈ rs, ∃ f, fuel = f + 1 ∧ ∃ o, ops[i]? = some o ∧ AL P F N ops (AThen (fun s => AY P F N ops QB f (listed.setIfInBounds i true) s) QB) [o] σ.er) := by
  intro p
  induction p with
  | done =>
    intro fuel listed rem σ hc h
    cases rem with
    | some rs => simp [Plan.chk] at hc
    | none =>
      refine ⟨fun _ => ?_, (fun rs hrs => by cases hrs)⟩
      simp only [Plan.chk, List.isEmpty_iff] at hc
      exact AY.done hc (kk _ h)
  | take i p ih =>
    intro fuel listed rem σ hc h
    cases fuel with
    | zero => simp [Plan.chk] at hc
    | succ f =>
      cases rem with
      | some rs => simp [Plan.chk] at hc
      | none =>
        refine ⟨fun _ => ?_, (fun rs hrs => by cases hrs)⟩
        simp only [Plan.chk, Bool.and_eq_true] at hc
        obtain ⟨⟨⟨⟨c1, c2⟩, c3⟩, c4⟩, c5⟩ := hc
        simp only [vcY] at h
        cases ho : ops[i]? with
        | none => rw [ho] at h; exact h.elim
        | some o =>
          rw [ho] at h c4
          exact takeG_ok hG hE ho c1 c2 c3 c4 hnp (fun τ hτ => (ih c5 hτ).1 rfl) h
  | alt i p q ihp ihq =>
    intro fuel listed rem σ hc h
    cases fuel with
    | zero => simp [Plan.chk] at hc
    | succ f =>
      simp only [Plan.chk, Bool.and_eq_true, Bool.not_eq_true', List.isEmpty_eq_false_iff] at hc
      obtain ⟨⟨c1, c2⟩, c3⟩ := hc
      obtain ⟨h1, h2⟩ := h
      have hstep : ∃ o, ops[i]? = some o ∧ AL P F N ops (AThen (fun s => AY P F N ops QB f (listed.setIfInBounds i true) s) QB) [o] σ.er := by
        cases ho : ops[i]? with
        | none => rw [ho] at h1; exact h1.elim
        | some o =>
          rw [ho] at h1
          exact ⟨o, rfl, vcG_ok hG hE (fun τ hτ => AL.nil ((ihp c2 hτ).1 rfl)) h1⟩
      have hrest := (ihq c3 h2).2 _ rfl
      have all : ∀ rs, (rem.getD (Region.ready .any ops listed)) = rs → ∀ j ∈ rs, ∃ f', f + 1 = f' + 1 ∧ ∃ o, ops[j]? = some o ∧ AL P F N ops (AThen (fun s => AY P F N ops QB f' (listed.setIfInBounds j true) s) QB) [o] σ.er := by
        intro rs hrs j hj
        by_cases e : j = i
        · subst e; exact ⟨f, rfl, hstep⟩
        · exact hrest j (by rw [hrs]; simp [hj, e])
      cases rem with
      | none =>
        refine ⟨fun _ => ?_, (fun rs hrs => by cases hrs)⟩
        refine AY.step (Region.ready .any ops listed) rfl c1 (fun j hj => ?_)
        obtain ⟨f', e1, o, e2, e3⟩ := all _ rfl j hj
        injection e1 with e1; subst e1
        exact ⟨o, e2, e3⟩
      | some rs0 =>
        refine ⟨(fun hh => by cases hh), fun rs hrs => ?_⟩
        injection hrs with hrs; subst hrs
        exact all _ rfl
  | stop =>
    intro fuel listed rem σ hc h
    cases rem with
    | none => simp [Plan.chk] at hc
    | some rs =>
      refine ⟨(fun hh => by cases hh), fun rs' hrs => ?_⟩
      injection hrs with hrs; subst hrs
      simp only [Plan.chk, List.isEmpty_iff] at hc
      subst hc
      intro i hi; cases hi

/-- A region whose order is drawn. -/
theorem CodeK.draw {id : Nat} (hG : GOk P G) (hE : F.nE ≤ 1000000) (hm : P.follows .mixedOrders = true) (hnp : ∀ c τ, ¬ Q (.panic c) τ) (p : Plan) (hc : p.chk ops ops.size (Array.replicate ops.size false) none = true) (h : vcY P F N G ops p σ (Q .normal)) : CodeK P F N (.region id ops true) σ Q :=
  ⟨AC.draw hm ((vcY_ok (QB := eQ Q) hG hE (fun c s ⟨τ, _, hq⟩ => hnp c τ hq) (fun τ hτ => eQ_of hτ) hc h).1 rfl)⟩
end
end Go.Tr
