/- A call at which slices are given away and others handed in to be written, over cells told ahead. -/
import Derived.Test.YtjlphbhmjicdhaaUN
import Derived.Test.YtjlphbhmjicdhaaVRs
set_option linter.unusedVariables false
set_option linter.unusedSimpArgs false
universe u
namespace Go.Tr
open Go Go.RowKit
section
variable {P : Program} {F : Fm} {N : Nat} {G : Gt} {o : Oper} {τ σ : TS} {k : TS → Prop}
theorem posOf_mem {ms : List (Nat × Nat × Nat)} {κ : Nat} (h : (posOf ms κ).isSome = true) : κ ∈ ms.map Prod.fst := by
  induction ms with
  | nil => cases h
  | cons p l ih =>
    simp only [posOf, beq_dec] at h
    by_cases e : p.1 = κ
    · rw [List.map_cons, e]; exact List.mem_cons_self
    · simp only [e, decide_false, cond_false] at h
      exact List.mem_cons_of_mem _ (ih h)
theorem dropL_o : ∀ (l : List Nat) (τ : TS) (κ : Nat) (R : TRoot), lkR (τ.dropL l).r κ = some R → κ ∉ l ∧ ∃ R0, lkR τ.r κ = some R0 ∧ R.er.o = R0.er.o
  | [], τ, κ, R, h => ⟨by simp, R, h, rfl⟩
  | d :: l, τ, κ, R, h => by
    obtain ⟨h0, R1, h1, h2⟩ := dropL_o l (τ.drop d) κ R h
    rw [drop_lk] at h1
    split at h1
    · cases h1
    · rename_i hne
      cases hq : lkR τ.r κ with
      | none => rw [hq] at h1; cases h1
      | some R0 =>
        rw [hq] at h1; injection h1 with h1; subst h1
        exact ⟨by simp [hne, h0], R0, rfl, by rw [h2, kill_o]⟩
/-- What is given away leaves the caller. -/
theorem give_ok {a : Act} {w : World} {ω : Om} {β : Nat → Bs} {ms : List (Nat × Nat × Nat)} (h : Rel1 F N τ.er a w ω β) (hms : ∀ m ∈ ms, noVw m.1 τ.r = true) : Rel1 F N (τ.dropL (ms.map Prod.fst)).er a w (rmM ω ms) β := by
  refine unown (dropL_rel h) (fun κ hp => ?_) (fun κ R κ2 i2 r2 hR ho => ?_)
  · cases hq : lkR (τ.dropL (ms.map Prod.fst)).r κ with
    | none => rfl
    | some R => exact absurd (posOf_mem hp) (dropL_o _ _ _ _ hq).1
  · cases hp : posOf ms κ2 with
    | none => rfl
    | some p =>
      obtain ⟨_, R0, hR0, hoo⟩ := dropL_o _ _ _ _ hR
      obtain ⟨m, hm, rfl⟩ := List.mem_map.1 (posOf_mem (ms := ms) (κ := κ2) (by rw [hp]; rfl))
      exact absurd (hoo.symm.trans ho) (noVw_ok (hms m hm) κ R0.er i2 r2 (by rw [hR0]; rfl))
theorem Ent.qTx {hc : Hc} {w : World} {q : Qm} {A : Nat → Bs} {cargs : Array Value} {args : List Ag} {ext : List Xr} (h : Ent w q A cargs args ext) (hc1 : ∀ b j y, q b j = some y → y ≠ .fro → ¬ ∃ v, hc b j v) (hlt : ∀ b j v, hc b j v → b < w.heap.size) : Ent w (Tr.qT hc q) A cargs args ext := by
  have h0 : ∀ b j y, q b j = some y → Tr.qT hc q b j = some y := by
    intro b j y hy
    unfold Tr.qT
    by_cases hh : ∃ v, hc b j v
    · rw [if_pos hh]
      by_cases hne : y = .fro
      · rw [hne]
      · exact absurd hh (hc1 b j y hy hne)
    · rw [if_neg hh]; exact hy
  have hA : ∀ (i j : Nat) (x : Aa) (u : Value), AaRel w q A i j x u → AaRel w (Tr.qT hc q) A i j x u := by
    intro i j x u hx
    cases x with
    | h ρ n => exact hx
    | c x => exact CRel.mono (fun b j hz => h0 b j _ hz) _ _ _ _ hx (fun b j hf => h0 b j _ hf)
  refine ⟨h.size, fun i x hi => ?_, fun ρ x hx i r hi hr => ?_, fun b j x hx => ?_⟩
  · obtain ⟨u, h1, h2⟩ := h.args i x hi
    refine ⟨u, h1, ?_⟩
    cases x with
    | one c => exact hA _ _ _ _ h2
    | ptr ρ => exact h2
    | agg l =>
      obtain ⟨us, e1, e2, e3⟩ := h2
      refine ⟨us, e1, e2, fun j c hj => ?_⟩
      obtain ⟨y, f1, f2⟩ := e3 j c hj
      exact ⟨y, f1, hA _ _ _ _ f2⟩
  · obtain ⟨g, o, u, e1, e2, e3, e4, e5⟩ := h.ext ρ x hx i r hi hr
    exact ⟨g, o, u, e1, e2, h0 _ _ _ e3, e4, CRel.mono (fun b j hz => h0 b j _ hz) _ _ _ _ e5 (fun b j hf => h0 b j _ hf)⟩
  · unfold Tr.qT at hx
    split at hx
    · rename_i hh; obtain ⟨v, hv⟩ := hh; exact hlt _ _ _ hv
    · exact h.lt b j x hx
theorem bk_bw {τ1 : TS} {bs : List Bt} (hb : ∀ b ∈ bs, BtOk τ1 b) (hvw : ∀ b ∈ bs, noVw b.κ τ1.r = true) (hnd : (bs.map Bt.κ).Nodup) : BwOk τ1.er (bs.map Bt.b) := by
  refine ⟨fun ρ c hc => ?_, fun κ R2 h2 => ?_⟩
  · rw [List.getElem?_map] at hc
    cases hq : bs[ρ]? with
    | none => rw [hq] at hc; cases hc
    | some b =>
      rw [hq] at hc; injection hc with hc; subst hc
      obtain ⟨R, hR, hRo, hRk, hRn, hRw, hRg, hRs⟩ := (hb b (List.mem_of_getElem? hq)).ok
      refine ⟨?_, R.er, TS.rt_some hR, hRo, hRk, hRn, hRw, hRg⟩
      have := bwFind_nd (ρ0 := 0) hnd hq
      rw [Nat.zero_add] at this; exact this
  · rw [TS.rt_er] at h2
    cases ho : R2.o with
    | own => trivial
    | fro => trivial
    | vw κ' i r =>
      show bwFind _ 0 κ' = none
      refine bwFind_none fun b hm => ?_
      intro e; subst e
      exact noVw_ok (hvw b hm) κ R2 i r h2 ho
theorem bk_sm {τ1 : TS} {bs : List Bt} (hb : ∀ b ∈ bs, BtOk τ1 b) (hnd : (bs.map Bt.κ).Nodup) : Sm (τ1.er.back (bs.map Bt.b) ((bs.map Bt.x').map TX.er)) ⟨τ1.t, bkR bs τ1.r⟩ := by
  refine ⟨fun t => ?_, fun κ => ?_⟩
  · have : ((fun p : Nat × V => (p.1, p.2.map (dimB (bs.map Bt.b)) none)) ∘ fun p : Nat × V => (p.1, stV p.2)) = fun p => (p.1, stV p.2) := by
      funext p; show (p.1, _) = _; rw [map_stV]
    have e2 := TS.tv_er τ1 t
    cases bs with
    | nil => exact e2
    | cons b0 bs0 =>
      show (look (List.map (fun p : Nat × V => (p.1, p.2.map (dimB ((b0 :: bs0).map Bt.b)) none)) (τ1.t.map fun p => (p.1, stV p.2))) t).getD .any = _
      rw [List.map_map, this]; exact e2
  · rw [rt_back (by simp)]
    show OSim _ ((lkR (bkR bs τ1.r) κ).map TRoot.er)
    rcases lkR_bkR (l := bs) (r := τ1.r) (κ := κ) hnd with ⟨h1, h2⟩ | ⟨ρ, b, h1, h2, h3⟩
    · rw [bwFind_none h1, h2, TS.rt_er]
      exact OSim.rfl _
    · subst h2
      have hf := bwFind_nd (ρ0 := 0) hnd h1
      rw [Nat.zero_add] at hf
      obtain ⟨R, hR, hRo, hRk, hRn, hRw, hRg, hRs⟩ := (hb b (List.mem_of_getElem? h1)).ok
      rw [hf, h3]
      have e4 : ((bs.map Bt.x').map TX.er)[ρ]? = some b.x'.er := by rw [List.getElem?_map, List.getElem?_map, h1]; rfl
      simp only [e4]
      show OSim (some (match τ1.er.rt b.κ with | some R => mixR b.b R b.x'.er | none => _)) _
      rw [TS.rt_some hR]
      exact hRs
/-- Behind a call, out of what it gives back; some slices were handed in to be written. -/
theorem call_kx {τ1 : TS} {bs : List Bt} {ops : Array Oper} {Q : Exit → St → Prop} {rest : List Oper} {a : Act} {w w' : World} {ω : Om} {β : Nat → Bs} {q q' : Qm} {us : List Value} {outs : List TAr} (hb : ∀ b ∈ bs, BtOk τ1 b) (hvw : ∀ b ∈ bs, noVw b.κ τ1.r = true) (hnd : (bs.map Bt.κ).Nodup)
    (h : Rel1 F N τ1.er a w ω β) (hq1 : ∀ b j x, ω b j = some x → q b j = qOf ω β (bs.map Bt.b) b j) (hq2 : ∀ b j y, q b j = some y → y ≠ .fro → ω b j = none → b < w.heap.size ∧ (F.W b j ∨ F.w0.heap.size ≤ b)) (hd : okD N o.dst = true) (hE : F.nE ≤ 1000000) (hfree : freeT (keyOf o) τ1.r = true) (hcnt : Nat.ble (cntT outs) 100 = true)
    (hx : Exi w w' q q' (aOf β (bs.map Bt.b)) us (outs.map TAr.er) ((bs.map Bt.x').map TX.er)) (hk : nextK o outs ⟨τ1.t, bkR bs τ1.r⟩ k) (kk : ∀ τ, k τ → AL P F N ops Q rest τ.er) : wpList P ops (CQ F N Q) rest (a.put o.dst (outVal us)) w' := by
  have hkey : 2000000 ≤ keyOf o := by unfold keyOf; split <;> omega
  have hmine : ∀ x ∈ outs.map TAr.er, x.mine := by
    intro x hx
    obtain ⟨t, _, rfl⟩ := List.mem_map.1 hx
    cases t with
    | one t => exact t.mine
    | agg ts => intro c hc; obtain ⟨t, _, rfl⟩ := List.mem_map.1 hc; exact t.mine
  have hs : ∀ (ρ : Nat) (c : Bw) (x : Xr), (bs.map Bt.b)[ρ]? = some c → ((bs.map Bt.x').map TX.er)[ρ]? = some x → x.k = c.x.k ∧ x.n = c.x.n ∧ x.mine := by
    intro ρ c x h1 h2
    rw [List.getElem?_map] at h1
    rw [List.getElem?_map, List.getElem?_map] at h2
    cases hq : bs[ρ]? with
    | none => rw [hq] at h1; cases h1
    | some b =>
      rw [hq] at h1 h2; injection h1 with h1; injection h2 with h2; subst h1 h2
      have hbb := hb b (List.mem_of_getElem? hq)
      exact ⟨hbb.k, hbb.n, b.x'.mine⟩
  obtain ⟨ω', β', hrel⟩ := call_backQ h (bk_bw hb hvw hnd) hq1 hq2 hx (by simp) hs hE (keyOf o) hkey (freeT_ok hfree) hmine (by rw [cntT_eq]; exact Nat.le_of_ble_eq_true hcnt) hd
  obtain ⟨s1, s2, s3⟩ := outsE_ok outs _ _ (keyOf o) (bk_sm hb hnd)
  unfold nextK at hk
  generalize outsE outs ⟨τ1.t, bkR bs τ1.r⟩ (keyOf o) = p at hk s1 s2 s3
  obtain ⟨τ', vs⟩ := p
  dsimp only at hk s1 s2 s3
  rw [fS_eq] at hk
  have hst := tupV_st s3
  cases hds : o.dst with
  | none =>
    rw [hds] at hk hrel
    exact kk _ hk _ _ (s1.le _ _ _ _ ⟨ω', β', hrel⟩)
  | some d =>
    rw [hds] at hk hrel
    dsimp only at hk
    rw [putK_eq] at hk
    refine kk _ hk _ _ ?_
    have h2 := s1.put d (tupV vs)
    rw [hst, ← s2] at h2
    rw [← s2]
    exact h2.le _ _ _ _ ⟨ω', β', hrel⟩
theorem gq1 {hc : Hc} (hA : AmbF hc F) {a : Act} {w : World} {ω : Om} {β : Nat → Bs} {ms : List (Nat × Nat × Nat)} {bs : List Bw} (h : Rel1 F N τ.er a w ω β) : ∀ b j x, rmM ω ms b j = some x → qT hc (qM ω ms (qOf (rmM ω ms) β bs)) b j = qOf (rmM ω ms) β bs b j := by
  intro b j x hx
  unfold qT
  by_cases hh : ∃ v, hc b j v
  · rw [if_pos hh]
    obtain ⟨v, hv⟩ := hh
    obtain rfl := (hA.at_ h hv).2.2.2 x (rmM_some hx)
    rw [q_fro hx]
  · rw [if_neg hh, qM_eq hx]
theorem gq2 {hc : Hc} {a : Act} {w : World} {ω : Om} {β : Nat → Bs} {ms : List (Nat × Nat × Nat)} {bs : List Bw} (h : Rel1 F N τ.er a w ω β) : ∀ b j y, qT hc (qM ω ms (qOf (rmM ω ms) β bs)) b j = some y → y ≠ .fro → rmM ω ms b j = none → b < w.heap.size ∧ (F.W b j ∨ F.w0.heap.size ≤ b) := by
  intro b j y hy hne hn
  unfold qT at hy
  split at hy
  · injection hy with hy; exact absurd hy.symm hne
  · cases ho : ω b j with
    | none =>
      unfold qM at hy
      rw [ho] at hy
      rw [q_none hn] at hy; cases hy
    | some x =>
      have := h.wr b j x ho
      refine ⟨this.1, this.2 (fun e => ?_)⟩
      subst e
      unfold rmM at hn; rw [ho] at hn; cases hn
theorem gent {hc : Hc} (hA : AmbF hc F) {a : Act} {w : World} {ω : Om} {β : Nat → Bs} {ms : List (Nat × Nat × Nat)} {bs : List Bw} {A : Nat → Bs} {cargs : Array Value} {args : List Ag} {ext : List Xr} (h : Rel1 F N τ.er a w ω β) (he : Ent w (qM ω ms (qOf (rmM ω ms) β bs)) A cargs args ext) : Ent w (qT hc (qM ω ms (qOf (rmM ω ms) β bs))) A cargs args ext := by
  refine he.qTx (fun b j y hy hne ⟨v, hv⟩ => ?_) (fun b j v hv => (hA.at_ h hv).2.2.1)
  have hx := (hA.at_ h hv).2.2.2
  unfold qM at hy
  cases ho : ω b j with
  | none =>
    rw [ho] at hy
    have hr : rmM ω ms b j = none := by unfold rmM; rw [ho]
    rw [q_none hr] at hy; cases hy
  | some x =>
    obtain rfl := hx x ho
    rw [ho] at hy
    have hr : rmM ω ms b j = some .fro := by unfold rmM; rw [ho]
    have hy' : qOf (rmM ω ms) β bs b j = some y := hy
    rw [q_fro hr] at hy'; injection hy' with hy'; exact hne hy'.symm
/-- The whole rule. -/
theorem OpK.callG {hc : Hc} {f : FuncId} {ags : Array Operand} {ats : Array TypeId} {args : List TAg} {outs : List TAr} {fx : Operand} (bs : List Bt) (ms : List (Nat × Nat × Nat)) (hrun : RunH P hc f args (bs.map Bt.x) outs (bs.map Bt.x')) (hA : AmbF hc F) (hop : o.op = .call ⟨.value fx, ags, ats⟩) (hfx : evS τ fx = .a (.lit (.func (.func f) #[] #[]))) (hg : o.guard = none) (hd : okD N o.dst = true) (hE : F.nE ≤ 1000000)
    (hms : ∀ m ∈ ms, noVw m.1 τ.r = true) (hb : ∀ b ∈ bs, BtOk (τ.dropL (ms.map Prod.fst)) b) (hvw : ∀ b ∈ bs, noVw b.κ (τ.dropL (ms.map Prod.fst)).r = true) (hnd : (bs.map Bt.κ).Nodup) (hps : QsVs τ (τ.dropL (ms.map Prod.fst)) bs ms 0 (ags.toList.map (evS τ)) args)
    (hfree : freeT (keyOf o) (τ.dropL (ms.map Prod.fst)).r = true) (hcnt : Nat.ble (cntT outs) 100 = true) (hk : nextK o outs ⟨(τ.dropL (ms.map Prod.fst)).t, bkR bs (τ.dropL (ms.map Prod.fst)).r⟩ k) : OpK P F N o τ k := by
  obtain ⟨fn, hf, hname, hb0⟩ := hrun.fn
  refine ⟨fun ops Q rest kk => ?_⟩
  intro a w hr
  obtain ⟨ω, β, h⟩ := hr
  have h1 := give_ok h hms
  have hent := hps.ok h h1 (bk_bw hb hvw hnd) (fun κ' R hR => dropL_keep _ τ κ' R hR)
  rw [show (bs.map fun b => b.x.er) = (bs.map Bt.x).map TX.er from (List.map_map (g := TX.er) (f := Bt.x) (l := bs)).symm] at hent
  have hentT := gent hA h hent
  refine wpList_plain hg fun K hK => ?_
  unfold Oper.wp
  rw [run_callV hop (ev_lit (v := .func (.func f) #[] #[]) h (by rw [evS_eq, hfx]; rfl)) hf hname hb0, Oper.upon_enter]
  have hargs : ags.map a.eval = (ags.toList.map a.eval).toArray := by apply Array.ext'; rw [Array.toList_map]
  rw [hargs]
  refine (hrun.run w _ _ _ hentT (hA.now h _)).mono fun e w' he => ?_
  obtain ⟨us, outs0, ext0, q', rfl, ⟨rfl, rfl⟩, hx⟩ := he
  exact hK _ _ (call_kx hb hvw hnd h1 (gq1 hA h) (gq2 h) hd hE hfree hcnt hx hk kk)
/-- As ListK.mkCall, where slices are given away. -/
theorem ListK.mkCallG {ops : Array Oper} {o1 o2 : Oper} {l : List Oper} {hc : Hc} {cf f d1 : Nat} {caps ags : Array Operand} {ats : Array TypeId} {vs : List (Nat × Value)} {args : Value → List TAg} {outs : List TAr} {fx : Operand} (ms : List (Nat × Nat × Nat)) (hop1 : o1.op = .makeFunc (.func cf) #[] caps) (hg1 : o1.guard = none) (hd1 : o1.dst = some d1) (hN : Nat.blt d1 N = true)
    (hcap : CapOk σ caps.toList vs) (hcm : vs.all (fun p => (posOf ms p.1).isNone) = true) (hA : AmbF hc F) (hrun : ∀ ps : List (Nat × Nat), ps.length = vs.length → RunH P (hcU (hcL (hcOf ps (vs.map Prod.snd))) hc) f (args (.func (.func cf) #[] (ptrs ps))) [] outs [])
    (hop2 : o2.op = .call ⟨.value fx, ags, ats⟩) (hfd : fx = .func f) (hg2 : o2.guard = none) (hd2 : okD N o2.dst = true) (hE : F.nE ≤ 1000000) (hms : ∀ m ∈ ms, noVw m.1 σ.r = true)
    (hps : ∀ v : Value, QsVs ⟨(d1, .a (.lit v)) :: σ.t, σ.r⟩ ((⟨(d1, .a (.lit v)) :: σ.t, σ.r⟩ : TS).dropL (ms.map Prod.fst)) [] ms 0 (ags.toList.map (evS ⟨(d1, .a (.lit v)) :: σ.t, σ.r⟩)) (args v)) (hfree : freeT (keyOf o2) ((⟨(d1, .any) :: σ.t, σ.r⟩ : TS).dropL (ms.map Prod.fst)).r = true) (hcnt : Nat.ble (cntT outs) 100 = true)
    (hk : nextK o2 outs ((⟨(d1, .any) :: σ.t, σ.r⟩ : TS).dropL (ms.map Prod.fst)) fun σ => vcL P F N G ops l σ k) (hG : GOk P G) : ListK P F N ops (o1 :: o2 :: l) σ k := by
  refine ⟨fun Q kk => ?_⟩
  intro a w hr
  obtain ⟨ω, β, h⟩ := hr
  simp only [blt_dec, decide_eq_true_eq] at hN
  -- the captured boxes, read with what is given away taken out
  have hcapo : ∃ ps : List (Nat × Nat), ps.length = vs.length ∧ caps.toList.map a.eval = ps.map (fun p => Value.pointer (some ⟨p.1, p.2, none⟩)) ∧
      ∀ c ∈ hcOf ps (vs.map Prod.snd), w.cell? ⟨c.1, c.2.1, none⟩ = some c.2.2 ∧ scal c.2.2 = true ∧ qM ω ms (qOf (rmM ω ms) β []) c.1 c.2.1 = some .fro := by
    clear hrun hps hk
    revert hcm
    generalize caps.toList = cl at hcap
    induction hcap with
    | nil => intro _; exact ⟨[], rfl, rfl, fun c hc => by cases hc⟩
    | @cons x l κ e v vs hx0 hR ht ih =>
      intro hcm
      simp only [List.all_cons, Bool.and_eq_true] at hcm
      obtain ⟨ps, e1, e2, e3⟩ := ih hcm.2
      have hRe := TS.rt_some hR
      obtain ⟨g, j, u, h1, h2, h3, h4, h5⟩ := (h.roots κ _ hRe).cells 0 0 Nat.zero_lt_one (Nat.zero_lt_one) rfl
      have hx := h.ev x
      rw [evS_eq, hx0] at hx
      obtain ⟨R', g', j', f1, ⟨o', f2, f3⟩, f4⟩ := hx
      rw [hRe] at f1; injection f1 with f1; subst f1
      obtain ⟨o2, k1, k2⟩ := h1
      rw [k1] at f2; injection f2 with f2; injection f2 with f5 f6 _
      subst f5 f6
      have hj : j' = j := by rw [k2, f3]
      subst hj
      unfold CellRel at h5
      rw [show (TRoot.box e [TCl.cl (.lit v)]).er.get 0 0 = .cl (.lit v) from by rw [box_get]; rfl] at h5
      obtain ⟨rfl, hsc⟩ := h5
      refine ⟨(g, j') :: ps, by simp [e1], by simp only [List.map_cons, e2, f4], fun c hc => ?_⟩
      rcases List.mem_cons.1 hc with rfl | hc
      · refine ⟨h2, hsc, ?_⟩
        have h3' : ω g j' = some (.row κ) := h3
        have hpn : posOf ms κ = none := by
          cases hq : posOf ms κ with
          | none => rfl
          | some p => rw [hq] at hcm; cases hcm.1
        have hrm : rmM ω ms g j' = some (.row κ) := by unfold rmM; rw [h3']; dsimp only; rw [hpn]; rfl
        unfold qM
        rw [h3']; dsimp only; rw [hpn]; dsimp only
        simp only [qOf, hrm]; rfl
      · exact e3 c hc
  obtain ⟨ps, e1, e2, e3⟩ := hcapo
  have hrn := hrun ps e1
  obtain ⟨fn, hf, hname, hb⟩ := hrn.fn
  have hce : caps.map a.eval = ptrs ps := by
    unfold ptrs; rw [← e2]; apply Array.ext'; rw [Array.toList_map]
  have hr1 : (execOp a.eval o1).run P w = .ok (.value (.func (.func cf) #[] (ptrs ps))) w := by
    rw [← hce]
    simp [execOp, hop1, go_sem, Instr.makeFunc]
  have hA1 : Rel1 F N (TS.mk ((d1, .a (.lit (.func (.func cf) #[] (ptrs ps)))) :: σ.t) σ.r).er (a.put (some d1) (.func (.func cf) #[] (ptrs ps))) w ω β := h.put hN (v := .a (.lit (.func (.func cf) #[] (ptrs ps)))) (VRel.lit rfl)
  have hA2 : Rel1 F N (TS.mk ((d1, .any) :: σ.t) σ.r).er (a.put (some d1) (.func (.func cf) #[] (ptrs ps))) w ω β := h.put hN (v := .any) trivial
  refine wpList_plain hg1 fun K hK => ?_
  unfold Oper.wp
  rw [hr1, Oper.upon_value, hd1]
  refine hK _ _ ?_
  have hent := (hps (.func (.func cf) #[] (ptrs ps))).ok hA1 (give_ok hA1 hms) (bs := []) BwOk.nil (fun κ' R hR => dropL_keep _ _ κ' R hR)
  have hentT := gent hA h hent
  refine wpList_plain hg2 fun K hK => ?_
  unfold Oper.wp
  rw [run_callV hop2 (by subst hfd; rfl) hf hname hb, Oper.upon_enter]
  have hargs : ags.map (a.put (some d1) (.func (.func cf) #[] (ptrs ps))).eval = (ags.toList.map (a.put (some d1) (.func (.func cf) #[] (ptrs ps))).eval).toArray := by apply Array.ext'; rw [Array.toList_map]
  rw [hargs]
  refine (hrn.run w _ _ _ hentT (fun g j v hm => ?_)).mono fun e w' he => ?_
  · rcases hm with hm | hm
    · obtain ⟨e5, e6, e7⟩ := e3 _ hm
      refine ⟨e5, e6, ?_⟩
      unfold qT
      split
      · rfl
      · exact e7
    · exact hA.now h _ g j v hm
  · obtain ⟨us, outs0, ext0, q', rfl, ⟨rfl, rfl⟩, hx⟩ := he
    exact hK _ _ (call_kx (bs := []) (fun b hb => by cases hb) (fun b hb => by cases hb) List.nodup_nil (give_ok hA2 hms) (gq1 hA h) (gq2 h) hd2 hE hfree hcnt hx hk (fun τ hτ => vcL_ok hG hE kk hτ))
end
end Go.Tr
