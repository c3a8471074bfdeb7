/- Contracts that lean on cells told ahead: tables, captured variables; function values that capture variables. -/
import Derived.Test.YtjlphbhmjicdhaaVY
set_option linter.unusedVariables false
set_option linter.unusedSimpArgs false
universe u
namespace Go.Tr
open Go Go.RowKit

/-- Cells told ahead: block, place, value. -/
abbrev Hc := Nat → Nat → Value → Prop
def hcL (l : List (Nat × Nat × Value)) : Hc := fun g j v => (g, j, v) ∈ l
def hcU (a b : Hc) : Hc := fun g j v => a g j v ∨ b g j v
def hc0 : Hc := fun _ _ _ => False
def AmbW (hc : Hc) (w : World) (q : Qm) : Prop := ∀ g j v, hc g j v → w.cell? ⟨g, j, none⟩ = some v ∧ scal v = true ∧ q g j = some .fro
def AmbF (hc : Hc) (F : Fm) : Prop := ∀ g j v, hc g j v → F.w0.cell? ⟨g, j, none⟩ = some v ∧ scal v = true ∧ ¬ F.W g j ∧ F.Z g j
def RunP (P : Program) (hc : Hc) (f : FuncId) (args : List Ag) (ext : List Xr) (Post : List Ar → List Xr → Prop) : Prop :=
  ∀ w q A cargs, Ent w q A cargs args ext → AmbW hc w q → Calls P f cargs w fun e w' => ∃ us outs ext' q', e = .returned (outVal us) ∧ Post outs ext' ∧ Exi w w' q q' A us outs ext'
/-- A function's contract, over cells told ahead. -/
structure RunH (P : Program) (hc : Hc) (f : FuncId) (args : List TAg) (ext : List TX) (outs : List TAr) (ext' : List TX) : Prop where
  fn : CallF P f
  run : RunP P hc f (args.map TAg.er) (ext.map TX.er) fun o e => o = outs.map TAr.er ∧ e = ext'.map TX.er
theorem RunT.toH {P : Program} {f : FuncId} {args : List TAg} {ext : List TX} {outs : List TAr} {ext' : List TX} (h : RunT P f args ext outs ext') (hc : Hc) : RunH P hc f args ext outs ext' :=
  ⟨h.fn, fun w q A cargs he _ => h.run w q A cargs he⟩
theorem RunH.toT {P : Program} {f : FuncId} {args : List TAg} {ext : List TX} {outs : List TAr} {ext' : List TX} (h : RunH P hc0 f args ext outs ext') : RunT P f args ext outs ext' :=
  ⟨h.fn, fun w q A cargs he => h.run w q A cargs he (fun _ _ _ hc => hc.elim)⟩
theorem RunH.mono {P : Program} {hc hc' : Hc} {f : FuncId} {args : List TAg} {ext : List TX} {outs : List TAr} {ext' : List TX} (h : RunH P hc f args ext outs ext') (hs : ∀ g j v, hc g j v → hc' g j v) : RunH P hc' f args ext outs ext' :=
  ⟨h.fn, fun w q A cargs he ha => h.run w q A cargs he (fun g j v hm => ha g j v (hs g j v hm))⟩
theorem RunP.sim {P : Program} {hc : Hc} {f : FuncId} {args : List Ag} {ext : List Xr} {outs' : List Ar} {ext' : List Xr} (h : RunP P hc f args ext fun o e => ArsSim o outs' ∧ XrsSim e ext') : RunP P hc f args ext fun o e => o = outs' ∧ e = ext' := by
  intro w q A cargs hent ha
  refine (h w q A cargs hent ha).mono fun e w' he => ?_
  obtain ⟨us, outs, ex, q', h1, ⟨h2, h3⟩, h4⟩ := he
  exact ⟨us, outs', ext', q', h1, ⟨rfl, rfl⟩, h4.sim h2 h3⟩
theorem RunP.of_body {P : Program} {hc : Hc} {T : Nat → Option TyI} (hT : TOk P T) {f : FuncId} {fn : Func} {c : Code} (hf : P.funcs[f]? = some fn) (hb : fn.body = some c) {args : List Ag} {ext : List Xr} {Post : List Ar → List Xr → Prop}
    (hn : args.length ≤ fn.ntmps) (hp : argsOk ext args) (ms : List (Nat × Nat)) (hms : ms.length = ext.length) (h : ∀ F : Fm, F.nE = ext.length → AmbF hc F → AC P F fn.ntmps c (Fin T fn ms Post) (enterSt args ext)) : RunP P hc f args ext Post := by
  intro w q A cargs hent ha
  obtain ⟨ω, β, hrel⟩ := hent.rel (N := fn.ntmps) hn hp
  refine calls_of_wp hf hb (wp_mono (h ⟨w, Wof q, fun b j => q b j = some .fro, ext.length, A⟩ rfl (fun g j v hm => by obtain ⟨h1, h2, h3⟩ := ha g j v hm; exact ⟨h1, h2, fun ⟨x, hx, hne⟩ => hne (by rw [h3] at hx; injection hx with hx; exact hx.symm), h3⟩) _ _ ⟨ω, β, hrel⟩) fun e a w' hq => ?_)
  obtain ⟨σ, hfin, ω', β', hrel'⟩ := hq
  have hd : a.defers = [] := hrel'.dfr
  rw [← hms] at hrel'
  obtain ⟨us, outs, ext', q', k1, k2, k3⟩ := fin_exit hT hrel' hfin
  rcases hfin.1 with rfl | rfl
  · exact ⟨hd, _, k1, us, outs, ext', q', rfl, k2, k3⟩
  · exact ⟨hd, _, k1, us, outs, ext', q', rfl, k2, k3⟩
theorem RunH.of_vc {P : Program} {G : Gt} (hG : GOk P G) {hc : Hc} {f : FuncId} {fn : Func} {c : Code} (hf : P.funcs[f]? = some fn) (hb : fn.body = some c) (hname : (fn.name == "runtime.NumGoroutine") = false) {args : List TAg} {ext : List TX} {outs : List TAr} {ext' : List TX}
    (hn : args.length ≤ fn.ntmps) (hp : argsOk (ext.map TX.er) (args.map TAg.er)) (hx : ext.length ≤ 1000000) (hms : ext'.length = ext.length) (h : ∀ F : Fm, F.nE ≤ 1000000 → AmbF hc F → fS (enterE args ext) fun σ => vcC P F fn.ntmps G c σ (finT G fn outs ext')) : RunH P hc f args ext outs ext' := by
  refine ⟨⟨fn, hf, hname, by rw [hb]; rfl⟩, RunP.sim ?_⟩
  refine RunP.of_body hG.T hf hb (by simpa using hn) hp (ext'.map fun x => (x.er.k, x.er.n)) (by simp [hms]) (fun F hF hA => ?_)
  have hE : F.nE ≤ 1000000 := by rw [hF]; simpa using hx
  have h1 := h F hE hA
  rw [fS_eq] at h1
  refine AC.le (enterE_ok args ext) (AC.unle (AC.mono (vcC_ok hG hE h1) (fun e s hq => ?_)))
  obtain ⟨τ, hle, hfin⟩ := hq
  obtain ⟨τ', hle', hfin'⟩ := finT_ok hfin
  exact ⟨τ'.er, hle.trans hle', hfin'⟩

section
variable {P : Program} {F : Fm} {N : Nat} {G : Gt} {o : Oper} {τ σ : TS} {k : TS → Prop}
/-- The cells that are told count as frozen. -/
noncomputable def qT (hc : Hc) (q : Qm) : Qm := fun b j => @ite _ (∃ v, hc b j v) (Classical.propDecidable _) (some .fro) (q b j)
theorem AmbF.at_ {hc : Hc} (hA : AmbF hc F) {s : St} {a : Act} {w : World} {ω : Om} {β : Nat → Bs} (h : Rel1 F N s a w ω β) {g j : Nat} {v : Value} (hm : hc g j v) : w.cell? ⟨g, j, none⟩ = some v ∧ scal v = true ∧ g < w.heap.size ∧ ∀ x, ω g j = some x → x = .fro := by
  obtain ⟨h1, h2, h3, h4⟩ := hA g j v hm
  have hb := World.block_lt_of_cell? F.w0 _ h1
  refine ⟨(h.fr.cell _ _ hb h3).trans h1, h2, Nat.lt_of_lt_of_le hb h.fr.mt.size, fun x hx => ?_⟩
  cases x with
  | fro => rfl
  | _ =>
    rcases (h.wr _ _ _ hx).2 (by intro e; cases e) with h4 | h4
    · exact absurd h4 h3
    · exact absurd hb (Nat.not_lt.2 h4)
theorem AmbF.q1 {hc : Hc} (hA : AmbF hc F) {s : St} {a : Act} {w : World} {ω : Om} {β : Nat → Bs} (h : Rel1 F N s a w ω β) (bs : List Bw) : ∀ b j x, ω b j = some x → qT hc (qOf ω β bs) b j = qOf ω β bs b j := by
  intro b j x hx
  unfold qT
  by_cases hh : ∃ v, hc b j v
  · rw [if_pos hh]
    obtain ⟨v, hv⟩ := hh
    obtain rfl := (hA.at_ h hv).2.2.2 x hx
    rw [q_fro hx]
  · rw [if_neg hh]
theorem AmbF.q2 {hc : Hc} {ω : Om} {β : Nat → Bs} {bs : List Bw} (b j : Nat) (y : Wq) {p : Prop} (hy : qT hc (qOf ω β bs) b j = some y) (hne : y ≠ .fro) (hn : ω b j = none) : p := by
  unfold qT at hy
  split at hy
  · injection hy with hy; exact absurd hy.symm hne
  · rw [q_none hn] at hy; cases hy
theorem AmbF.now {hc : Hc} (hA : AmbF hc F) {s : St} {a : Act} {w : World} {ω : Om} {β : Nat → Bs} (h : Rel1 F N s a w ω β) (q : Qm) : AmbW hc w (qT hc q) := by
  intro g j v hm
  obtain ⟨h1, h2, _⟩ := hA.at_ h hm
  exact ⟨h1, h2, if_pos ⟨v, hm⟩⟩
theorem Ent.qT {hc : Hc} {w : World} {q : Qm} {A : Nat → Bs} {cargs : Array Value} {args : List TAg} (h : Ent w q A cargs (args.map TAg.er) []) (hc1 : ∀ b j y, q b j = some y → y ≠ .fro → ¬ ∃ v, hc b j v) (hlt : ∀ b j v, hc b j v → b < w.heap.size) : Ent w (Tr.qT hc q) A cargs (args.map TAg.er) [] := by
  have h0 : ∀ b j y, q b j = some y → Tr.qT hc q b j = some y := by
    intro b j y hy
    unfold Tr.qT
    by_cases hh : ∃ v, hc b j v
    · rw [if_pos hh]
      by_cases hne : y = .fro
      · rw [hne]
      · exact absurd hh (hc1 b j y hy hne)
    · rw [if_neg hh]; exact hy
  have hA : ∀ (i j : Nat) (x : Aa) (u : Value), AaRel w q A i j x u → AaRel w (Tr.qT hc q) A i j x u := by
    intro i j x u hx
    cases x with
    | h ρ n => exact hx
    | c x => exact CRel.mono (fun b j hz => h0 b j _ hz) _ _ _ _ hx (fun b j hf => h0 b j _ hf)
  refine ⟨h.size, fun i x hi => ?_, fun ρ x hx => by simp at hx, fun b j x hx => ?_⟩
  · obtain ⟨u, h1, h2⟩ := h.args i x hi
    refine ⟨u, h1, ?_⟩
    cases x with
    | one c => exact hA _ _ _ _ h2
    | ptr ρ => exact h2
    | agg l =>
      obtain ⟨us, e1, e2, e3⟩ := h2
      refine ⟨us, e1, e2, fun j c hj => ?_⟩
      obtain ⟨y, f1, f2⟩ := e3 j c hj
      exact ⟨y, f1, hA _ _ _ _ f2⟩
  · unfold Tr.qT at hx
    split at hx
    · rename_i hh; obtain ⟨v, hv⟩ := hh; exact hlt _ _ _ hv
    · exact h.lt b j x hx
theorem AmbF.ent {hc : Hc} (hA : AmbF hc F) {s : St} {a : Act} {w : World} {ω : Om} {β : Nat → Bs} (h : Rel1 F N s a w ω β) {A : Nat → Bs} {cargs : Array Value} {args : List TAg} (he : Ent w (qOf ω β []) A cargs (args.map TAg.er) []) : Ent w (qT hc (qOf ω β [])) A cargs (args.map TAg.er) [] := by
  refine he.qT (fun b j y hy hne ⟨v, hv⟩ => ?_) (fun b j v hv => (hA.at_ h hv).2.2.1)
  obtain ⟨x, hx⟩ := q_some hy
  obtain rfl := (hA.at_ h hv).2.2.2 x hx
  rw [q_fro hx] at hy; injection hy with hy; exact hne hy.symm
/-- A call of a function value, nothing bound to it. -/
theorem run_callC {o : Oper} {a : Act} {w : World} {f : FuncId} {fn : Func} {x : Operand} {args : Array Operand} {ats : Array TypeId} {caps : Array Value} (hop : o.op = .call { callee := .value x, args, argTypes := ats }) (hx : a.eval x = .func (.func f) #[] caps)
    (hf : P.funcs[f]? = some fn) (hname : (fn.name == "runtime.NumGoroutine") = false) (hb : fn.body.isNone = false) : (execOp a.eval o).run P w = .ok (.enter f (args.map a.eval ++ caps)) w := by
  have h1 : ¬ fn.name = "runtime.NumGoroutine" := by simpa using hname
  have h2 : ¬ fn.body = none := by cases hx : fn.body <;> simp_all
  unfold execOp
  simp [hop, resolve, Deferred.ofValue, invoke, callFunc, hf, h1, h2, hx]
def capA (caps : Array Value) : List TAg := caps.toList.map fun v => .one (.c (.lit v))
theorem capA_lit (ps : Array Value) (i : Nat) (t : TAg) (h : (capA ps)[i]? = some t) : ∃ v, ps[i]? = some v ∧ t = .one (.c (.lit v)) := by
  unfold capA at h
  rw [List.getElem?_map, Array.getElem?_toList] at h
  cases hq : ps[i]? with
  | none => rw [hq] at h; cases h
  | some v => rw [hq] at h; injection h with h; exact ⟨v, rfl, h.symm⟩
theorem Ent.caps {w : World} {q : Qm} {A : Nat → Bs} {cargs : Array Value} {args : List TAg} (h : Ent w q A cargs (args.map TAg.er) []) {caps : Array Value} (hs : ∀ v ∈ caps, scal v = true) : Ent w q A (cargs ++ caps) ((args ++ capA caps).map TAg.er) [] := by
  have hl : cargs.size = args.length := by rw [h.size, List.length_map]
  refine ⟨by simp [capA, hl], fun i x hi => ?_, fun ρ x hx => by simp at hx, h.lt⟩
  rw [List.map_append] at hi
  by_cases hlt : i < args.length
  · rw [List.getElem?_append_left (by simpa using hlt)] at hi
    obtain ⟨u, h1, h2⟩ := h.args i x hi
    exact ⟨u, by rw [Array.getElem?_append_left (by omega)]; exact h1, h2⟩
  · rw [List.getElem?_append_right (by simp; omega), List.length_map, List.getElem?_map] at hi
    cases hq : (capA caps)[i - args.length]? with
    | none => rw [hq] at hi; cases hi
    | some t =>
      rw [hq] at hi; injection hi with hi
      obtain ⟨v, h1, rfl⟩ := capA_lit _ _ _ hq
      subst hi
      exact ⟨v, by rw [Array.getElem?_append_right (by omega), hl]; exact h1, rfl, hs v (Array.mem_of_getElem? h1)⟩
/-- Behind a call, out of what it gives back. -/
theorem call_k {ops : Array Oper} {Q : Exit → St → Prop} {rest : List Oper} {a : Act} {w w' : World} {ω : Om} {β : Nat → Bs} {q q' : Qm} {us : List Value} {outs : List TAr} (h : Rel1 F N τ.er a w ω β) (hq1 : ∀ b j x, ω b j = some x → q b j = qOf ω β [] b j) (hq2 : ∀ b j y, q b j = some y → y ≠ .fro → ω b j = none → b < w.heap.size ∧ (F.W b j ∨ F.w0.heap.size ≤ b)) (hd : okD N o.dst = true) (hE : F.nE ≤ 1000000) (hfree : freeT (keyOf o) τ.r = true) (hcnt : Nat.ble (cntT outs) 100 = true)
    (hx : Exi w w' q q' (aOf β []) us (outs.map TAr.er) []) (hk : nextK o outs τ k) (kk : ∀ τ, k τ → AL P F N ops Q rest τ.er) : wpList P ops (CQ F N Q) rest (a.put o.dst (outVal us)) w' := by
  have hkey : 2000000 ≤ keyOf o := by unfold keyOf; split <;> omega
  have hmine : ∀ x ∈ outs.map TAr.er, x.mine := by
    intro x hx
    obtain ⟨t, _, rfl⟩ := List.mem_map.1 hx
    cases t with
    | one t => exact t.mine
    | agg ts => intro c hc; obtain ⟨t, _, rfl⟩ := List.mem_map.1 hc; exact t.mine
  obtain ⟨ω', β', hrel⟩ := call_backQ h BwOk.nil hq1 hq2 hx rfl (fun ρ b x hb => by simp at hb) hE (keyOf o) hkey (freeT_ok hfree) hmine (by rw [cntT_eq]; exact Nat.le_of_ble_eq_true hcnt) hd
  obtain ⟨s1, s2, s3⟩ := outsE_ok outs τ.er τ (keyOf o) ⟨fun t => TS.tv_er τ t, fun κ => by rw [TS.rt_er]; exact OSim.rfl _⟩
  unfold nextK at hk
  generalize outsE outs τ (keyOf o) = p at hk s1 s2 s3
  obtain ⟨τ', vs⟩ := p
  dsimp only at hk s1 s2 s3
  rw [fS_eq] at hk
  have hst := tupV_st s3
  cases hds : o.dst with
  | none =>
    rw [hds] at hk hrel
    exact kk _ hk _ _ (s1.le _ _ _ _ ⟨ω', β', hrel⟩)
  | some d =>
    rw [hds] at hk hrel
    dsimp only at hk
    rw [putK_eq] at hk
    refine kk _ hk _ _ ?_
    have h2 := s1.put d (tupV vs)
    rw [hst, ← s2] at h2
    rw [← s2]
    exact h2.le _ _ _ _ ⟨ω', β', hrel⟩
/-- A call of a function whose contract leans on cells told ahead. -/
theorem OpK.callH {hc : Hc} {f : FuncId} {ags : Array Operand} {ats : Array TypeId} {args : List TAg} {outs : List TAr} {fx : Operand} (hrun : RunH P hc f args [] outs []) (hA : AmbF hc F) (hop : o.op = .call ⟨.value fx, ags, ats⟩) (hfx : evS τ fx = .a (.lit (.func (.func f) #[] #[]))) (hg : o.guard = none) (hd : okD N o.dst = true) (hE : F.nE ≤ 1000000)
    (hps : PsVs τ (ags.toList.map (evS τ)) args) (hfree : freeT (keyOf o) τ.r = true) (hcnt : Nat.ble (cntT outs) 100 = true) (hk : nextK o outs τ k) : OpK P F N o τ k := by
  obtain ⟨fn, hf, hname, hb⟩ := hrun.fn
  refine ⟨fun ops Q rest kk => ?_⟩
  intro a w hr
  obtain ⟨ω, β, h⟩ := hr
  have hent := hA.ent h (hps.ok h (aOf β []))
  refine wpList_plain hg fun K hK => ?_
  unfold Oper.wp
  rw [run_callV hop (ev_lit (v := .func (.func f) #[] #[]) h (by rw [evS_eq, hfx]; rfl)) hf hname hb, Oper.upon_enter]
  have hargs : ags.map a.eval = (ags.toList.map a.eval).toArray := by apply Array.ext'; rw [Array.toList_map]
  rw [hargs]
  refine (hrun.run w _ _ _ hent (hA.now h _)).mono fun e w' he => ?_
  obtain ⟨us, outs0, ext0, q', rfl, ⟨rfl, rfl⟩, hx⟩ := he
  exact hK _ _ (call_k h (hA.q1 h []) (fun b j y hy hne hn => AmbF.q2 b j y hy hne hn) hd hE hfree hcnt hx hk kk)
/-- A call of a function value that captures cells told ahead. -/
theorem OpK.callC {hc : Hc} {f : FuncId} {caps : Array Value} {ags : Array Operand} {ats : Array TypeId} {args : List TAg} {outs : List TAr} {fx : Operand} (hrun : RunH P hc f (args ++ capA caps) [] outs []) (hA : AmbF hc F) (hcs : ∀ v ∈ caps, scal v = true) (hop : o.op = .call ⟨.value fx, ags, ats⟩) (hfx : evS τ fx = .a (.lit (.func (.func f) #[] caps))) (hg : o.guard = none) (hd : okD N o.dst = true) (hE : F.nE ≤ 1000000)
    (hps : PsVs τ (ags.toList.map (evS τ)) args) (hfree : freeT (keyOf o) τ.r = true) (hcnt : Nat.ble (cntT outs) 100 = true) (hk : nextK o outs τ k) : OpK P F N o τ k := by
  obtain ⟨fn, hf, hname, hb⟩ := hrun.fn
  refine ⟨fun ops Q rest kk => ?_⟩
  intro a w hr
  obtain ⟨ω, β, h⟩ := hr
  have hent := (hA.ent h (hps.ok h (aOf β []))).caps hcs
  refine wpList_plain hg fun K hK => ?_
  unfold Oper.wp
  rw [run_callC hop (ev_lit (v := .func (.func f) #[] caps) h (by rw [evS_eq, hfx]; rfl)) hf hname hb, Oper.upon_enter]
  have hargs : ags.map a.eval = (ags.toList.map a.eval).toArray := by apply Array.ext'; rw [Array.toList_map]
  rw [hargs]
  refine (hrun.run w _ _ _ hent (hA.now h _)).mono fun e w' he => ?_
  obtain ⟨us, outs0, ext0, q', rfl, ⟨rfl, rfl⟩, hx⟩ := he
  exact hK _ _ (call_k h (hA.q1 h []) (fun b j y hy hne hn => AmbF.q2 b j y hy hne hn) hd hE hfree hcnt hx hk kk)
/-- A told cell is read. -/
theorem OpK.ldH (hG : GOk P G) {hc : Hc} (hA : AmbF hc F) {t m g j : Nat} {kd : TK} {z : List ZC} {x : Operand} {v : Value} (hop : o.op = .load t x) (hg : o.guard = none) (hd : okD N o.dst = true) (hx : evS σ x = .a (.lit (.pointer (some ⟨g, j, none⟩)))) (ht : G.T t = some ⟨m, kd, z⟩) (hk : scK kd = true) (hm : hc g j v)
    (h : stO o σ (.a (.lit v)) k) : OpK P F N o σ k :=
  ⟨fun ops Q rest kk => by
    obtain ⟨d, h1, h2⟩ := sc_of hG.T ht hk
    refine AL.val hg hd (fun a w ω β hr => ?_) (stO_ok hd kk h)
    obtain ⟨e1, e2, e3⟩ := hA.at_ hr hm
    exact ⟨v, run_load _ w hop (ev_lit hr (by rw [evS_eq, hx]; rfl)) (run_loadVar_sc (w := w) h1 h2 e1), VRel.lit e2⟩⟩
theorem OpK.ldI (hG : GOk P G) {hc : List (Nat × Nat × Value)} (i : Nat) (hA : AmbF (hcL hc) F) {t m g j : Nat} {kd : TK} {z : List ZC} {x : Operand} {v : Value} (hop : o.op = .load t x) (hg : o.guard = none) (hd : okD N o.dst = true) (hx : evS σ x = .a (.lit (.pointer (some ⟨g, j, none⟩)))) (ht : G.T t = some ⟨m, kd, z⟩) (hk : scK kd = true) (hm : hc[i]? = some (g, j, v))
    (h : stO o σ (.a (.lit v)) k) : OpK P F N o σ k := OpK.ldH hG hA hop hg hd hx ht hk (List.mem_of_getElem? hm) h
/-- Told cells are read together. -/
theorem OpK.ldHA (hG : GOk P G) {hc : Hc} (hA : AmbF hc F) {t m g j : Nat} {kd : TK} {z : List ZC} {x : Operand} (vs : List Value) (hop : o.op = .load t x) (hg : o.guard = none) (hd : okD N o.dst = true) (hx : evS σ x = .a (.lit (.pointer (some ⟨g, j, none⟩)))) (ht : G.T t = some ⟨m, kd, z⟩) (hk : agK kd = true) (hl : vs.length = m) (hm : ∀ q v, vs[q]? = some v → hc g (j + q) v)
    (h : stO o σ (.agg (vs.map .lit)) k) : OpK P F N o σ k :=
  ⟨fun ops Q rest kk => by
    have hF := hG.T t _ ht
    obtain ⟨d, h1, h2⟩ : ∃ d, P.underlying t = some d ∧ scD d = false := by
      have h := hF.kind
      cases kd with
      | st pl => obtain ⟨fs, h1, _⟩ := h; exact ⟨_, h1, rfl⟩
      | arr n e ke => exact ⟨_, h.1, rfl⟩
      | sc => cases hk
      | sl _ _ _ => cases hk
      | ot => cases hk
    obtain ⟨inf, zv, h3, h4, _⟩ := hF.info
    refine AL.val hg hd (fun a w ω β hr => ?_) (stO_ok hd kk h)
    have hat : ∀ q v, vs[q]? = some v → w.cell? ⟨g, j + q, none⟩ = some v ∧ scal v = true := fun q v hq => by
      obtain ⟨e1, e2, _⟩ := hA.at_ hr (hm q v hq); exact ⟨e1, e2⟩
    refine ⟨.agg ((List.range m).map fun q => vs.getD q undef).toArray, run_load _ w hop (ev_lit hr (by rw [evS_eq, hx]; rfl)) (run_loadVar_agg (P := P) (w := w) (g := g) (j := j) h1 h2 h3 (show inf.size = m from h4) (fun q => vs.getD q undef) (fun q hq => ?_)), _, rfl, by simp [hl], fun i x hi => ?_⟩
    · have hv : vs[q]? = some (vs[q]'(by omega)) := List.getElem?_eq_getElem (by omega)
      rw [(hat q _ hv).1, List.getD_eq_getElem?_getD, hv]; rfl
    · rw [List.getElem?_map, List.getElem?_map] at hi
      cases hq : vs[i]? with
      | none => rw [hq] at hi; cases hi
      | some v =>
        rw [hq] at hi; injection hi with hi; subst hi
        have hlt : i < m := by rw [← hl]; exact (List.getElem?_eq_some_iff.1 hq).1
        refine ⟨v, ?_, rfl, (hat i v hq).2⟩
        simp [List.getElem?_range, hlt, List.getD_eq_getElem?_getD, hq]⟩
/-- An element of an array that is told ahead. -/
theorem PK.ixH (hG : GOk P G) {t g j n e ke kt : Nat} {z : List ZC} {x ix : Operand} {ki : IntKind} {i : Int} {kv : V → Prop} (hop : o.op = .indexAddr t x ix) (hx : evS σ x = .a (.lit (.pointer (some ⟨g, j, none⟩)))) (hi : evS σ ix = .a (.lit (.int ki i))) (ht : G.T t = some ⟨kt, .arr n e ke, z⟩) (hb : 0 ≤ i ∧ i < n)
    (h : kv (.a (.lit (.pointer (some ⟨g, j + i.toNat * ke, none⟩))))) : PK P F N o σ kv := by
  refine ⟨_, h, fun a w ω β hr => ?_⟩
  obtain ⟨h1, inf, h2, h3⟩ := (hG.T t _ ht).kind
  have ex : a.eval x = .pointer (some ⟨g, j, none⟩) := ev_lit hr (by rw [evS_eq, hx]; rfl)
  have ei : a.eval ix = .int ki i := ev_lit hr (by rw [evS_eq, hi]; rfl)
  refine ⟨.pointer (some ⟨g, j + i.toNat * ke, none⟩), fun w' => ?_, rfl, rfl⟩
  have hadd : (⟨g, j, none⟩ : Addr).add (i.toNat * inf.size) = ⟨g, j + i.toNat * ke, none⟩ := by
    rw [h3]; unfold Addr.add
    split
    · rename_i e0; rw [e0]; simp
    · rfl
  generalize a.eval = ρ at ex ei ⊢
  simp [execOp, hop, go_sem, ex, ei, Instr.indexAt, asIntOf, underlying, h1, sizeOf, typeInfo, h2, hb.1, hb.2, hadd, Instr.sureAddr]
  rw [h3]

theorem OpK.max {t t' : Nat} {x y : Operand} {i j : Int} (hop : o.op = .call { callee := .builtin .max, args := #[x, y], argTypes := #[t, t'] }) (hg : o.guard = none) (hd : okD N o.dst = true) (hx : evS σ x = .a (.lit (.int .i64 i))) (hy : evS σ y = .a (.lit (.int .i64 j)))
    (h : stO o σ (.a (.lit (.int .i64 (if i < j then j else i)))) k) : OpK P F N o σ k :=
  ⟨fun ops Q rest kk => AL.val hg hd (fun a w ω β hr => by
    have h1 : a.eval x = .int .i64 i := ev_lit hr (by rw [evS_eq, hx]; rfl)
    have h2 : a.eval y = .int .i64 j := ev_lit hr (by rw [evS_eq, hy]; rfl)
    refine ⟨.int .i64 (if i < j then j else i), ?_, VRel.lit rfl⟩
    generalize a.eval = ρ at h1 h2 ⊢
    simp [execOp, hop, go_sem, h1, h2, resolve, invoke, builtin, Builtin.max_, Builtin.max2]) (stO_ok hd kk h)⟩
/-- Pointers to captured variables, at these places. -/
def ptrs (ps : List (Nat × Nat)) : Array Value := (ps.map fun p => Value.pointer (some ⟨p.1, p.2, none⟩)).toArray
def hcOf : List (Nat × Nat) → List Value → List (Nat × Nat × Value)
  | p :: ps, v :: vs => (p.1, p.2, v) :: hcOf ps vs
  | _, _ => []
theorem ptrs_scal (ps : List (Nat × Nat)) : ∀ v ∈ ptrs ps, scal v = true := by
  intro v hv
  unfold ptrs at hv
  rw [List.mem_toArray] at hv
  obtain ⟨p, _, rfl⟩ := List.mem_map.1 hv
  rfl
inductive CapOk (σ : TS) : List Operand → List (Nat × Value) → Prop where
  | nil : CapOk σ [] []
  | cons {x : Operand} {l : List Operand} {κ e : Nat} {v : Value} {vs : List (Nat × Value)} (h : evS σ x = .ptr κ 0 0) (hR : lkR σ.r κ = some (.box e [.cl (.lit v)])) (ht : CapOk σ l vs) : CapOk σ (x :: l) ((κ, v) :: vs)
theorem CapOk.ok {s : List Operand} {vs : List (Nat × Value)} (h : CapOk σ s vs) {a : Act} {w : World} {ω : Om} {β : Nat → Bs} (hr : Rel1 F N σ.er a w ω β) : ∃ ps : List (Nat × Nat), ps.length = vs.length ∧ s.map a.eval = ps.map (fun p => Value.pointer (some ⟨p.1, p.2, none⟩)) ∧
    ∀ c ∈ hcOf ps (vs.map Prod.snd), w.cell? ⟨c.1, c.2.1, none⟩ = some c.2.2 ∧ scal c.2.2 = true ∧ qOf ω β [] c.1 c.2.1 = some .fro := by
  induction h with
  | nil => exact ⟨[], rfl, rfl, fun c hc => by cases hc⟩
  | @cons x l κ e v vs h hR ht ih =>
    obtain ⟨ps, e1, e2, e3⟩ := ih
    have hRe := TS.rt_some hR
    obtain ⟨g, j, u, h1, h2, h3, h4, h5⟩ := (hr.roots κ _ hRe).cells 0 0 Nat.zero_lt_one (Nat.zero_lt_one) rfl
    have hx := hr.ev x
    rw [evS_eq, h] at hx
    obtain ⟨R', g', j', f1, ⟨o', f2, f3⟩, f4⟩ := hx
    rw [hRe] at f1; injection f1 with f1; subst f1
    obtain ⟨o2, k1, k2⟩ := h1
    rw [k1] at f2; injection f2 with f2; injection f2 with f5 f6 _
    subst f5 f6
    have hj : j' = j := by rw [k2, f3]
    subst hj
    unfold CellRel at h5
    rw [show (TRoot.box e [TCl.cl (.lit v)]).er.get 0 0 = .cl (.lit v) from by rw [box_get]; rfl] at h5
    obtain ⟨rfl, hsc⟩ := h5
    refine ⟨(g, j') :: ps, by simp [e1], by simp only [List.map_cons, e2, f4], fun c hc => ?_⟩
    rcases List.mem_cons.1 hc with rfl | hc
    · refine ⟨h2, hsc, ?_⟩
      have h3' : ω g j' = some (.row κ) := h3
      simp only [qOf, h3']; rfl
    · exact e3 c hc
/-- A function value is made and handed to a call at once. -/
theorem ListK.mkCall {ops : Array Oper} {o1 o2 : Oper} {l : List Oper} {hc : Hc} {cf f d1 : Nat} {caps ags : Array Operand} {ats : Array TypeId} {vs : List (Nat × Value)} {args : Value → List TAg} {outs : List TAr} {fx : Operand} (hop1 : o1.op = .makeFunc (.func cf) #[] caps) (hg1 : o1.guard = none) (hd1 : o1.dst = some d1) (hN : Nat.blt d1 N = true)
    (hcap : CapOk σ caps.toList vs) (hA : AmbF hc F) (hrun : ∀ ps : List (Nat × Nat), ps.length = vs.length → RunH P (hcU (hcL (hcOf ps (vs.map Prod.snd))) hc) f (args (.func (.func cf) #[] (ptrs ps))) [] outs [])
    (hop2 : o2.op = .call ⟨.value fx, ags, ats⟩) (hfx : evS σ fx = .a (.lit (.func (.func f) #[] #[]))) (hfd : fx = .func f) (hg2 : o2.guard = none) (hd2 : okD N o2.dst = true) (hE : F.nE ≤ 1000000)
    (hps : ∀ v : Value, PsVs ⟨(d1, .a (.lit v)) :: σ.t, σ.r⟩ (ags.toList.map (evS ⟨(d1, .a (.lit v)) :: σ.t, σ.r⟩)) (args v)) (hfree : freeT (keyOf o2) σ.r = true) (hcnt : Nat.ble (cntT outs) 100 = true)
    (hk : nextK o2 outs ⟨(d1, .any) :: σ.t, σ.r⟩ fun σ => vcL P F N G ops l σ k) (hG : GOk P G) : ListK P F N ops (o1 :: o2 :: l) σ k := by
  refine ⟨fun Q kk => ?_⟩
  intro a w hr
  obtain ⟨ω, β, h⟩ := hr
  simp only [blt_dec, decide_eq_true_eq] at hN
  obtain ⟨ps, e1, e2, e3⟩ := hcap.ok h
  have hrn := hrun ps e1
  obtain ⟨fn, hf, hname, hb⟩ := hrn.fn
  have hce : caps.map a.eval = ptrs ps := by
    unfold ptrs; rw [← e2]; apply Array.ext'; rw [Array.toList_map]
  have hr1 : (execOp a.eval o1).run P w = .ok (.value (.func (.func cf) #[] (ptrs ps))) w := by
    rw [← hce]
    simp [execOp, hop1, go_sem, Instr.makeFunc]
  have hA1 : Rel1 F N (TS.mk ((d1, .a (.lit (.func (.func cf) #[] (ptrs ps)))) :: σ.t) σ.r).er (a.put (some d1) (.func (.func cf) #[] (ptrs ps))) w ω β := h.put hN (v := .a (.lit (.func (.func cf) #[] (ptrs ps)))) (VRel.lit rfl)
  have hA2 : Rel1 F N (TS.mk ((d1, .any) :: σ.t) σ.r).er (a.put (some d1) (.func (.func cf) #[] (ptrs ps))) w ω β := h.put hN (v := .any) trivial
  refine wpList_plain hg1 fun K hK => ?_
  unfold Oper.wp
  rw [hr1, Oper.upon_value, hd1]
  refine hK _ _ ?_
  have hent := hA.ent hA1 ((hps (.func (.func cf) #[] (ptrs ps))).ok hA1 (aOf β []))
  refine wpList_plain hg2 fun K hK => ?_
  unfold Oper.wp
  rw [run_callV hop2 (by subst hfd; rfl) hf hname hb, Oper.upon_enter]
  have hargs : ags.map (a.put (some d1) (.func (.func cf) #[] (ptrs ps))).eval = (ags.toList.map (a.put (some d1) (.func (.func cf) #[] (ptrs ps))).eval).toArray := by apply Array.ext'; rw [Array.toList_map]
  rw [hargs]
  refine (hrn.run w _ _ _ hent (fun g j v hm => ?_)).mono fun e w' he => ?_
  · rcases hm with hm | hm
    · obtain ⟨e5, e6, e7⟩ := e3 _ hm
      refine ⟨e5, e6, ?_⟩
      obtain ⟨x, hx⟩ := q_some e7
      rw [hA.q1 h [] _ _ x hx]; exact e7
    · exact hA.now h _ g j v hm
  · obtain ⟨us, outs0, ext0, q', rfl, ⟨rfl, rfl⟩, hx⟩ := he
    exact hK _ _ (call_k hA2 (hA.q1 h []) (fun b j y hy hne hn => AmbF.q2 b j y hy hne hn) hd2 hE hfree hcnt hx hk (fun τ hτ => vcL_ok hG hE kk hτ))
end
end Go.Tr
