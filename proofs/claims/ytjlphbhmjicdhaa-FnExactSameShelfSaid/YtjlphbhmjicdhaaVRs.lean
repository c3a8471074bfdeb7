/- A call to which several slices are handed in to be written. -/
import Derived.Test.YtjlphbhmjicdhaaVR
set_option linter.unusedVariables false
set_option linter.unusedSimpArgs false
universe u
namespace Go.Tr
open Go Go.RowKit
section
variable {P : Program} {F : Fm} {N : Nat} {G : Gt} {o : Oper} {τ : TS} {k : TS → Prop}
def bkR : List Bt → List (Nat × TRoot) → List (Nat × TRoot)
  | [], r => r
  | b :: bs, r => (b.κ, b.R') :: erl (bkR bs r) b.κ
theorem bwFind_none {l : List Bt} {ρ κ : Nat} (h : ∀ b ∈ l, b.κ ≠ κ) : bwFind (l.map Bt.b) ρ κ = none := by
  induction l generalizing ρ with
  | nil => rfl
  | cons b l ih =>
    simp only [List.map_cons, bwFind]
    rw [if_neg (show ¬ b.b.κ = κ from h b (by simp)), ih (fun c hc => h c (by simp [hc]))]
theorem bwFind_nd : ∀ {l : List Bt} {ρ0 ρ : Nat} {b : Bt}, (l.map Bt.κ).Nodup → l[ρ]? = some b → bwFind (l.map Bt.b) ρ0 b.κ = some (ρ0 + ρ, b.b)
  | [], _, _, _, _, h => by simp at h
  | c :: l, ρ0, 0, b, hn, h => by
    injection h with h; subst h
    simp only [List.map_cons, bwFind]
    rw [if_pos (show c.b.κ = c.κ from rfl)]; rfl
  | c :: l, ρ0, ρ + 1, b, hn, h => by
    have h' : l[ρ]? = some b := h
    rw [List.map_cons, List.nodup_cons] at hn
    have hne : c.κ ≠ b.κ := fun e => hn.1 (List.mem_map.2 ⟨b, List.mem_of_getElem? h', e.symm⟩)
    simp only [List.map_cons, bwFind]
    rw [if_neg (show ¬ c.b.κ = b.κ from hne), bwFind_nd hn.2 h']
    rw [show ρ0 + 1 + ρ = ρ0 + (ρ + 1) by omega]
theorem lkR_bkR : ∀ {l : List Bt} {r : List (Nat × TRoot)} {κ : Nat}, (l.map Bt.κ).Nodup → ((∀ b ∈ l, b.κ ≠ κ) ∧ lkR (bkR l r) κ = lkR r κ) ∨ ∃ (ρ : Nat) (b : Bt), l[ρ]? = some b ∧ b.κ = κ ∧ lkR (bkR l r) κ = some b.R'
  | [], r, κ, _ => .inl ⟨fun b h => by simp at h, rfl⟩
  | c :: l, r, κ, hn => by
    rw [List.map_cons, List.nodup_cons] at hn
    simp only [bkR]
    rw [lkR_cons, lkR_erl]
    by_cases e : κ = c.κ
    · refine .inr ⟨0, c, rfl, e.symm, ?_⟩
      rw [if_pos e]
    · rw [if_neg e, if_neg e]
      rcases lkR_bkR (l := l) (r := r) (κ := κ) hn.2 with ⟨h1, h2⟩ | ⟨ρ, b, h1, h2, h3⟩
      · exact .inl ⟨fun b hb => by
          rcases List.mem_cons.1 hb with rfl | hb
          · exact fun h => e h.symm
          · exact h1 b hb, h2⟩
      · exact .inr ⟨ρ + 1, b, h1, h2, h3⟩
/-- What comes back of the slices that were handed in. -/
theorem OpK.callBs {f : FuncId} {ags : Array Operand} {ats : Array TypeId} {args : List TAg} {outs : List TAr} {fx : Operand} (bs : List Bt) (hrun : RunT P f args (bs.map Bt.x) outs (bs.map Bt.x')) (hop : o.op = .call ⟨.value fx, ags, ats⟩) (hfx : evS τ fx = .a (.lit (.func (.func f) #[] #[]))) (hg : o.guard = none) (hd : okD N o.dst = true) (hE : F.nE ≤ 1000000)
    (hb : ∀ b ∈ bs, BtOk τ b) (hvw : ∀ b ∈ bs, noVw b.κ τ.r = true) (hnd : (bs.map Bt.κ).Nodup) (hps : QsVs τ τ bs [] 0 (ags.toList.map (evS τ)) args) (hfree : freeT (keyOf o) τ.r = true) (hcnt : Nat.ble (cntT outs) 100 = true) (hk : nextK o outs ⟨τ.t, bkR bs τ.r⟩ k) : OpK P F N o τ k := by
  obtain ⟨fn, hf, hname, hb0⟩ := hrun.fn
  refine ⟨fun ops Q rest kk => ?_⟩
  intro a w hr
  obtain ⟨ω, β, h⟩ := hr
  have hkey : 2000000 ≤ keyOf o := by unfold keyOf; split <;> omega
  have hbw : BwOk τ.er (bs.map Bt.b) := by
    refine ⟨fun ρ c hc => ?_, fun κ R2 h2 => ?_⟩
    · rw [List.getElem?_map] at hc
      cases hq : bs[ρ]? with
      | none => rw [hq] at hc; cases hc
      | some b =>
        rw [hq] at hc; injection hc with hc; subst hc
        obtain ⟨R, hR, hRo, hRk, hRn, hRw, hRg, hRs⟩ := (hb b (List.mem_of_getElem? hq)).ok
        refine ⟨?_, R.er, TS.rt_some hR, hRo, hRk, hRn, hRw, hRg⟩
        have := bwFind_nd (ρ0 := 0) hnd hq
        rw [Nat.zero_add] at this; exact this
    · rw [TS.rt_er] at h2
      cases ho : R2.o with
      | own => trivial
      | fro => trivial
      | vw κ' i r =>
        show bwFind _ 0 κ' = none
        refine bwFind_none fun b hm => ?_
        intro e; subst e
        exact noVw_ok (hvw b hm) κ R2 i r h2 ho
  have hent := hps.ok h (by rw [rmM_nil]; exact h) hbw (fun κ R h => ⟨R, h, rfl, Nat.le_refl _⟩)
  rw [rmM_nil, qM_nil] at hent
  rw [show (bs.map fun b => b.x.er) = (bs.map Bt.x).map TX.er from (List.map_map (g := TX.er) (f := Bt.x) (l := bs)).symm] at hent
  refine wpList_plain hg fun K hK => ?_
  unfold Oper.wp
  rw [run_callV hop (ev_lit (v := .func (.func f) #[] #[]) h (by rw [evS_eq, hfx]; rfl)) hf hname hb0, Oper.upon_enter]
  have hargs : ags.map a.eval = (ags.toList.map a.eval).toArray := by apply Array.ext'; rw [Array.toList_map]
  rw [hargs]
  refine (hrun.run w _ _ _ hent).mono fun e w' he => ?_
  obtain ⟨us, outs0, ext0, q', rfl, ⟨rfl, rfl⟩, hx⟩ := he
  have hmine : ∀ x ∈ outs.map TAr.er, x.mine := by
    intro x hx
    obtain ⟨t, _, rfl⟩ := List.mem_map.1 hx
    cases t with
    | one t => exact t.mine
    | agg ts => intro c hc; obtain ⟨t, _, rfl⟩ := List.mem_map.1 hc; exact t.mine
  have hs : ∀ (ρ : Nat) (c : Bw) (x : Xr), (bs.map Bt.b)[ρ]? = some c → ((bs.map Bt.x').map TX.er)[ρ]? = some x → x.k = c.x.k ∧ x.n = c.x.n ∧ x.mine := by
    intro ρ c x h1 h2
    rw [List.getElem?_map] at h1
    rw [List.getElem?_map, List.getElem?_map] at h2
    cases hq : bs[ρ]? with
    | none => rw [hq] at h1; cases h1
    | some b =>
      rw [hq] at h1 h2; injection h1 with h1; injection h2 with h2; subst h1 h2
      have hbb := hb b (List.mem_of_getElem? hq)
      exact ⟨hbb.k, hbb.n, b.x'.mine⟩
  obtain ⟨ω', β', hrel⟩ := call_backQ h hbw (fun _ _ _ _ => rfl) (fun b j y hy _ hn => by rw [q_none hn] at hy; cases hy) hx (by simp) hs hE (keyOf o) hkey (freeT_ok hfree) hmine (by rw [cntT_eq]; exact Nat.le_of_ble_eq_true hcnt) hd
  refine hK _ _ ?_
  have hsm : Sm (τ.er.back (bs.map Bt.b) ((bs.map Bt.x').map TX.er)) ⟨τ.t, bkR bs τ.r⟩ := by
    refine ⟨fun t => ?_, fun κ => ?_⟩
    · have : ((fun p : Nat × V => (p.1, p.2.map (dimB (bs.map Bt.b)) none)) ∘ fun p : Nat × V => (p.1, stV p.2)) = fun p => (p.1, stV p.2) := by
        funext p; show (p.1, _) = _; rw [map_stV]
      have e2 := TS.tv_er τ t
      cases bs with
      | nil => exact e2
      | cons b0 bs0 =>
        show (look (List.map (fun p : Nat × V => (p.1, p.2.map (dimB ((b0 :: bs0).map Bt.b)) none)) (τ.t.map fun p => (p.1, stV p.2))) t).getD .any = _
        rw [List.map_map, this]; exact e2
    · rw [rt_back (by simp)]
      show OSim _ ((lkR (bkR bs τ.r) κ).map TRoot.er)
      rcases lkR_bkR (l := bs) (r := τ.r) (κ := κ) hnd with ⟨h1, h2⟩ | ⟨ρ, b, h1, h2, h3⟩
      · rw [bwFind_none h1, h2, TS.rt_er]
        exact OSim.rfl _
      · subst h2
        have hf := bwFind_nd (ρ0 := 0) hnd h1
        rw [Nat.zero_add] at hf
        obtain ⟨R, hR, hRo, hRk, hRn, hRw, hRg, hRs⟩ := (hb b (List.mem_of_getElem? h1)).ok
        rw [hf, h3]
        have e4 : ((bs.map Bt.x').map TX.er)[ρ]? = some b.x'.er := by rw [List.getElem?_map, List.getElem?_map, h1]; rfl
        simp only [e4]
        show OSim (some (match τ.er.rt b.κ with | some R => mixR b.b R b.x'.er | none => _)) _
        rw [TS.rt_some hR]
        exact hRs
  obtain ⟨s1, s2, s3⟩ := outsE_ok outs _ _ (keyOf o) hsm
  unfold nextK at hk
  generalize outsE outs ⟨τ.t, bkR bs τ.r⟩ (keyOf o) = p at hk s1 s2 s3
  obtain ⟨τ', vs⟩ := p
  dsimp only at hk s1 s2 s3
  rw [fS_eq] at hk
  have hst := tupV_st s3
  cases hds : o.dst with
  | none =>
    rw [hds] at hk hrel
    exact kk _ hk _ _ (s1.le _ _ _ _ ⟨ω', β', hrel⟩)
  | some d =>
    rw [hds] at hk hrel
    dsimp only at hk
    rw [putK_eq] at hk
    refine kk _ hk _ _ ?_
    have h2 := s1.put d (tupV vs)
    rw [hst, ← s2] at h2
    rw [← s2]
    exact h2.le _ _ _ _ ⟨ω', β', hrel⟩
end
end Go.Tr
