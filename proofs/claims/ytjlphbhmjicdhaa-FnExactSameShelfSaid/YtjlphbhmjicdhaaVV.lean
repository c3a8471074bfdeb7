/- A call to which one slice is given away. -/
import Derived.Test.YtjlphbhmjicdhaaVU
set_option linter.unusedVariables false
set_option linter.unusedSimpArgs false
universe u
namespace Go.Tr
open Go Go.RowKit
section
variable {P : Program} {F : Fm} {N : Nat} {G : Gt} {o : Oper} {τ : TS} {k : TS → Prop}
theorem kill_o (κ : Nat) (R : TRoot) : (R.kill κ).er.o = R.er.o := by cases R <;> rfl
theorem lkR_kl (κ : Nat) : ∀ (l : List (Nat × TRoot)) (n : Nat), lkR (l.map fun p => (p.1, p.2.kill κ)) n = (lkR l n).map (TRoot.kill κ)
  | [], n => rfl
  | p :: l, n => by simp only [List.map_cons, lkR, beq_dec]; by_cases h : n = p.1 <;> simp [h, lkR_kl κ l]
theorem drop_lk (τ : TS) (κ n : Nat) : lkR (τ.drop κ).r n = if n = κ then none else (lkR τ.r n).map (TRoot.kill κ) := by
  show lkR ((erl τ.r κ).map fun p => (p.1, p.2.kill κ)) n = _
  rw [lkR_kl, lkR_erl]
  by_cases h : n = κ <;> simp [h]
theorem OpK.callM {f : FuncId} {ags : Array Operand} {ats : Array TypeId} {args : List TAg} {outs : List TAr} {fx : Operand} (κ i j : Nat) (hrun : RunT P f args [] outs []) (hop : o.op = .call ⟨.value fx, ags, ats⟩) (hfx : evS τ fx = .a (.lit (.func (.func f) #[] #[]))) (hg : o.guard = none) (hd : okD N o.dst = true) (hE : F.nE ≤ 1000000)
    (hvw : noVw κ τ.r = true) (hps : QsVs τ (τ.drop κ) [] [(κ, i, j)] 0 (ags.toList.map (evS τ)) args) (hfree : freeT (keyOf o) (τ.drop κ).r = true) (hcnt : Nat.ble (cntT outs) 100 = true) (hk : nextK o outs (τ.drop κ) k) : OpK P F N o τ k := by
  obtain ⟨fn, hf, hname, hb0⟩ := hrun.fn
  refine ⟨fun ops Q rest kk => ?_⟩
  intro a w hr
  obtain ⟨ω, β, h⟩ := hr
  have hkey : 2000000 ≤ keyOf o := by unfold keyOf; split <;> omega
  have h0 : Rel1 F N (τ.drop κ).er a w ω β := dropL_rel (l := [κ]) h
  have hpo : ∀ κ', (posOf [(κ, i, j)] κ').isSome = true → κ' = κ := by
    intro κ' hp
    simp only [posOf, beq_dec] at hp
    by_cases e : κ = κ'
    · exact e.symm
    · simp [e] at hp
  have h1 : Rel1 F N (τ.drop κ).er a w (rmM ω [(κ, i, j)]) β := by
    refine unown h0 (fun κ' hp => ?_) (fun κ' R κ2 i2 r2 hR ho => ?_)
    · rw [drop_lk, if_pos (hpo κ' hp)]
    · cases hp : posOf [(κ, i, j)] κ2 with
      | none => rfl
      | some p =>
        have e := hpo κ2 (by rw [hp]; rfl)
        subst e
        rw [drop_lk] at hR
        split at hR
        · cases hR
        · cases hq : lkR τ.r κ' with
          | none => rw [hq] at hR; cases hR
          | some R0 =>
            rw [hq] at hR; injection hR with hR; subst hR
            rw [kill_o] at ho
            exact absurd ho (noVw_ok hvw κ' R0.er i2 r2 (by rw [hq]; rfl))
  have hbw : BwOk (τ.drop κ).er (([] : List Bt).map Bt.b) := BwOk.nil
  have hent := hps.ok h h1 hbw (fun κ' R hR => dropL_keep [κ] τ κ' R hR)
  refine wpList_plain hg fun K hK => ?_
  unfold Oper.wp
  rw [run_callV hop (ev_lit (v := .func (.func f) #[] #[]) h (by rw [evS_eq, hfx]; rfl)) hf hname hb0, Oper.upon_enter]
  have hargs : ags.map a.eval = (ags.toList.map a.eval).toArray := by apply Array.ext'; rw [Array.toList_map]
  rw [hargs]
  refine (hrun.run w _ _ _ hent).mono fun e w' he => ?_
  obtain ⟨us, outs0, ext0, q', rfl, ⟨rfl, rfl⟩, hx⟩ := he
  have hmine : ∀ x ∈ outs.map TAr.er, x.mine := by
    intro x hx
    obtain ⟨t, _, rfl⟩ := List.mem_map.1 hx
    cases t with
    | one t => exact t.mine
    | agg ts => intro c hc; obtain ⟨t, _, rfl⟩ := List.mem_map.1 hc; exact t.mine
  obtain ⟨ω', β', hrel⟩ := call_backQ h1 hbw (fun b j' x hx => qM_eq hx) (fun b j' y hy _ hn => by
      cases ho : ω b j' with
      | none =>
        unfold qM at hy
        rw [ho] at hy
        rw [q_none hn] at hy; cases hy
      | some x =>
        have := h.wr b j' x ho
        refine ⟨this.1, this.2 (fun e => ?_)⟩
        subst e
        unfold rmM at hn; rw [ho] at hn; cases hn) hx rfl (fun ρ b x hb => by simp at hb) hE (keyOf o) hkey (freeT_ok hfree) hmine (by rw [cntT_eq]; exact Nat.le_of_ble_eq_true hcnt) hd
  refine hK _ _ ?_
  obtain ⟨s1, s2, s3⟩ := outsE_ok outs (τ.drop κ).er (τ.drop κ) (keyOf o) ⟨fun t => TS.tv_er _ t, fun κ => by rw [TS.rt_er]; exact OSim.rfl _⟩
  unfold nextK at hk
  generalize outsE outs (τ.drop κ) (keyOf o) = p at hk s1 s2 s3
  obtain ⟨τ', vs⟩ := p
  dsimp only at hk s1 s2 s3
  rw [fS_eq] at hk
  have hst := tupV_st s3
  cases hds : o.dst with
  | none =>
    rw [hds] at hk hrel
    exact kk _ hk _ _ (s1.le _ _ _ _ ⟨ω', β', hrel⟩)
  | some d =>
    rw [hds] at hk hrel
    dsimp only at hk
    rw [putK_eq] at hk
    refine kk _ hk _ _ ?_
    have h2 := s1.put d (tupV vs)
    rw [hst, ← s2] at h2
    rw [← s2]
    exact h2.le _ _ _ _ ⟨ω', β', hrel⟩
end
end Go.Tr
