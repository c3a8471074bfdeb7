/- A call to which one slice is handed in to be written. -/
import Derived.Test.YtjlphbhmjicdhaaVQ
set_option linter.unusedVariables false
set_option linter.unusedSimpArgs false
universe u
namespace Go.Tr
open Go Go.RowKit
section
variable {P : Program} {F : Fm} {N : Nat} {G : Gt} {o : Oper} {τ : TS} {k : TS → Prop}
theorem posOf_nil (κ : Nat) : posOf [] κ = none := rfl
theorem rmM_nil (ω : Om) : rmM ω [] = ω := by
  funext b j; unfold rmM
  split
  · rename_i κ h; simp only [posOf_nil, Option.isSome_none]; rw [h]; rfl
  · rename_i κ i r h; simp only [posOf_nil, Option.isSome_none]; rw [h]; rfl
  · rfl
theorem qM_nil (ω : Om) (q : Qm) : qM ω [] q = q := by
  funext b j; unfold qM
  split <;> rfl
theorem dimB_st (bs : List Bw) (x : At) : dimB bs (stA x) = stA x := by cases x <;> rfl
theorem map_stV (bs : List Bw) (v : V) : (stV v).map (dimB bs) none = stV v := by
  have h0 : ∀ v, (stV0 v).map0 (dimB bs) none = stV0 v := by
    intro v
    cases v with
    | a x => show V.a _ = _; rw [dimB_st]; rfl
    | agg l => show V.agg ((l.map stA).map (dimB bs)) = V.agg (l.map stA); rw [List.map_map]; congr 1; apply List.map_congr_left; intro x _; exact dimB_st bs x
    | ptr κ i r => show (if none = some κ then V.any else V.ptr κ i r) = _; rw [if_neg (by simp)]; rfl
    | any => rfl
    | tup l => rfl
  cases v with
  | a x => exact h0 (.a x)
  | agg l => exact h0 (.agg l)
  | ptr κ i r => exact h0 (.ptr κ i r)
  | any => rfl
  | tup l => show V.tup ((l.map stV0).map (V.map0 (dimB bs) none)) = V.tup (l.map stV0); rw [List.map_map]; congr 1; apply List.map_congr_left; intro x _; exact h0 x
/-- What comes back of one slice that was handed in. -/
theorem OpK.callB {f : FuncId} {ags : Array Operand} {ats : Array TypeId} {args : List TAg} {outs : List TAr} {fx : Operand} (b : Bt) (hrun : RunT P f args [b.x] outs [b.x']) (hop : o.op = .call ⟨.value fx, ags, ats⟩) (hfx : evS τ fx = .a (.lit (.func (.func f) #[] #[]))) (hg : o.guard = none) (hd : okD N o.dst = true) (hE : F.nE ≤ 1000000)
    (hb : BtOk τ b) (hvw : noVw b.κ τ.r = true) (hps : QsVs τ τ [b] [] 0 (ags.toList.map (evS τ)) args) (hfree : freeT (keyOf o) τ.r = true) (hcnt : Nat.ble (cntT outs) 100 = true) (hk : nextK o outs ⟨τ.t, (b.κ, b.R') :: erl τ.r b.κ⟩ k) : OpK P F N o τ k := by
  obtain ⟨fn, hf, hname, hb0⟩ := hrun.fn
  refine ⟨fun ops Q rest kk => ?_⟩
  intro a w hr
  obtain ⟨ω, β, h⟩ := hr
  have hkey : 2000000 ≤ keyOf o := by unfold keyOf; split <;> omega
  obtain ⟨R, hR, hRo, hRk, hRn, hRw, hRg, hRs⟩ := hb.ok
  have hbw : BwOk τ.er ([b].map Bt.b) := by
    refine ⟨fun ρ c hc => ?_, fun κ R2 h2 => ?_⟩
    · cases ρ with
      | succ ρ => simp at hc
      | zero =>
        injection hc with hc; subst hc
        exact ⟨by simp [bwFind], R.er, TS.rt_some hR, hRo, hRk, hRn, hRw, hRg⟩
    · rw [TS.rt_er] at h2
      cases ho : R2.o with
      | own => trivial
      | fro => trivial
      | vw κ' i r =>
        have hne : b.κ ≠ κ' := by
          intro e; subst e
          exact noVw_ok hvw κ R2 i r h2 ho
        show bwFind _ 0 κ' = none
        simp only [List.map_cons, List.map_nil, bwFind]
        rw [if_neg (by exact hne)]
  have hent := hps.ok h (by rw [rmM_nil]; exact h) hbw (fun κ R h => ⟨R, h, rfl, Nat.le_refl _⟩)
  rw [rmM_nil, qM_nil] at hent
  refine wpList_plain hg fun K hK => ?_
  unfold Oper.wp
  rw [run_callV hop (ev_lit (v := .func (.func f) #[] #[]) h (by rw [evS_eq, hfx]; rfl)) hf hname hb0, Oper.upon_enter]
  have hargs : ags.map a.eval = (ags.toList.map a.eval).toArray := by apply Array.ext'; rw [Array.toList_map]
  rw [hargs]
  refine (hrun.run w _ _ _ hent).mono fun e w' he => ?_
  obtain ⟨us, outs0, ext0, q', rfl, ⟨rfl, rfl⟩, hx⟩ := he
  have hmine : ∀ x ∈ outs.map TAr.er, x.mine := by
    intro x hx
    obtain ⟨t, _, rfl⟩ := List.mem_map.1 hx
    cases t with
    | one t => exact t.mine
    | agg ts => intro c hc; obtain ⟨t, _, rfl⟩ := List.mem_map.1 hc; exact t.mine
  have hs : ∀ (ρ : Nat) (c : Bw) (x : Xr), ([b].map Bt.b)[ρ]? = some c → ([b.x'].map TX.er)[ρ]? = some x → x.k = c.x.k ∧ x.n = c.x.n ∧ x.mine := by
    intro ρ c x h1 h2
    cases ρ with
    | succ ρ => simp at h1
    | zero =>
      injection h1 with h1; injection h2 with h2; subst h1 h2
      exact ⟨hb.k, hb.n, b.x'.mine⟩
  obtain ⟨ω', β', hrel⟩ := call_backQ h hbw (fun _ _ _ _ => rfl) (fun b j y hy _ hn => by rw [q_none hn] at hy; cases hy) hx rfl hs hE (keyOf o) hkey (freeT_ok hfree) hmine (by rw [cntT_eq]; exact Nat.le_of_ble_eq_true hcnt) hd
  refine hK _ _ ?_
  have hsm : Sm (τ.er.back ([b].map Bt.b) ([b.x'].map TX.er)) ⟨τ.t, (b.κ, b.R') :: erl τ.r b.κ⟩ := by
    refine ⟨fun t => ?_, fun κ => ?_⟩
    · have : ((fun p : Nat × V => (p.1, p.2.map (dimB ([b].map Bt.b)) none)) ∘ fun p : Nat × V => (p.1, stV p.2)) = fun p => (p.1, stV p.2) := by
        funext p; show (p.1, _) = _; rw [map_stV]
      have e2 := TS.tv_er τ t
      show (look (List.map (fun p : Nat × V => (p.1, p.2.map (dimB ([b].map Bt.b)) none)) (τ.t.map fun p => (p.1, stV p.2))) t).getD .any = _
      rw [List.map_map, this]; exact e2
    · rw [rt_back rfl, lkR_cons, lkR_erl]
      simp only [List.map_cons, List.map_nil, bwFind]
      by_cases e : b.κ = κ
      · subst e
        rw [if_pos (show b.b.κ = b.κ from rfl), if_pos rfl]
        show OSim (some (match τ.er.rt b.κ with | some R => mixR b.b R b.x'.er | none => _)) _
        rw [TS.rt_some hR]
        exact hRs
      · rw [if_neg (show ¬ b.b.κ = κ from e), if_neg (fun h => e h.symm), if_neg (fun h => e h.symm), TS.rt_er]
        exact OSim.rfl _
  obtain ⟨s1, s2, s3⟩ := outsE_ok outs _ _ (keyOf o) hsm
  unfold nextK at hk
  generalize outsE outs ⟨τ.t, (b.κ, b.R') :: erl τ.r b.κ⟩ (keyOf o) = p at hk s1 s2 s3
  obtain ⟨τ', vs⟩ := p
  dsimp only at hk s1 s2 s3
  rw [fS_eq] at hk
  have hst := tupV_st s3
  cases hds : o.dst with
  | none =>
    rw [hds] at hk hrel
    exact kk _ hk _ _ (s1.le _ _ _ _ ⟨ω', β', hrel⟩)
  | some d =>
    rw [hds] at hk hrel
    dsimp only at hk
    rw [putK_eq] at hk
    refine kk _ hk _ _ ?_
    have h2 := s1.put d (tupV vs)
    rw [hst, ← s2] at h2
    rw [← s2]
    exact h2.le _ _ _ _ ⟨ω', β', hrel⟩
end
end Go.Tr
