/- What is left to show is enough: one operation, a list of them, code. -/
import Derived.Test.YtjlphbhmjicdhaaVH
set_option linter.unusedVariables false
set_option linter.unusedSimpArgs false
universe u
namespace Go.Tr
open Go Go.RowKit
section
variable {P : Program} {F : Fm} {N : Nat} {G : Gt} {o : Oper} {σ : TS} {k : TS → Prop} {ops : Array Oper} {Q : Exit → St → Prop} {rest : List Oper}

theorem vcO_ok (hG : GOk P G) (hE : F.nE ≤ 1000000) (hg : o.guard = none) (hd : okD N o.dst = true) (kk : ∀ τ, k τ → AL P F N ops Q rest τ.er) (h : vcO P F N G o σ k) : AL P F N ops Q (o :: rest) σ.er := by
  unfold vcO at h
  split at h
  · rename_i t x hop
    exact ld_ok hG hE hg hd hop kk h
  · rename_i t x y hop
    split at h
    · rename_i hdst
      exact st_ok hG hg hdst hop kk h
    · exact h.h _ _ _ kk
  · rename_i t hop
    split at h
    · rename_i m kd z ht
      cases hz : z.all ZC.ok with
      | false => rw [hz] at h; exact h.h _ _ _ kk
      | true =>
        rw [hz] at h
        refine bx_ok hg hd kk h (fun d hdst hdN hd6 hn => ⟨⟨.own, false, t, m, 1, zrow z, []⟩, ?_, fun hk => AL.allocD hG.T hop hg hdst hdN ht hz hd6 hn hk⟩)
        have hzl := zall_ok hG.T ht
        change z.length = m at hzl
        refine ⟨rfl, (fun hf => by cases hf), by show (z.map zTCl).length = m; simp [hzl], rfl, fun i r hi hr => ?_⟩
        have hi0 : i = 0 := by
          have : i < 1 := hi
          omega
        subst hi0
        change r < m at hr
        rw [box_get, List.getElem?_map]
        obtain ⟨zc, hzc⟩ : ∃ zc, z[r]? = some zc := ⟨_, List.getElem?_eq_getElem (by omega)⟩
        rw [hzc]
        show ClSim (.cl (zrow z 0 r)) _
        rw [zrow_at hzc]
        cases zc with
        | lit v => exact CSame.rfl _
        | sl e k => exact CSame.rfl (.sl .own e k 0 (fun _ _ => .any))
    · exact h.h _ _ _ kk
  · rename_i t x hop
    split at h
    · rename_i m kd z l ht hl
      cases hb : Nat.beq l.length m with
      | false => rw [hb] at h; exact h.h _ _ _ kk
      | true =>
        rw [hb] at h
        simp only [cond_true] at h
        simp only [beq_dec, decide_eq_true_eq] at hb
        refine bx_ok hg hd kk h (fun d hdst hdN hd6 hn => ⟨boxR t m l, ?_, fun hk => AL.boxD hG.T hop hg hdst hdN ht (by rw [evS_eq]; exact hl) hb hd6 hn hk⟩)
        have : (TRoot.box t (l.map toTCl)).er = boxR t m l := by
          simp only [TRoot.er, boxR, toTCl_list (stV_atoms hl), List.length_map, hb]
        rw [this]; exact RSim.rfl _
    · exact h.h _ _ _ kk
  · rename_i t parts hop
    split at h
    · rename_i m pl z ht
      split at h
      · rename_i qs hqs
        cases hb : fillOk m qs && z.all ZC.ok with
        | false => rw [hb] at h; exact h.h _ _ _ kk
        | true =>
          rw [hb] at h
          simp only [cond_true] at h
          simp only [Bool.and_eq_true] at hb
          split at h
          · rename_i d hdst
            refine AL.build hG.T hop hg hd ht hb.2 (partsQ_ok hqs) hb.1 ?_
            rw [hdst]
            have := put_ok (σ := σ) kk h
            rw [show stV (.agg (fillA (z.map ZC.at_) qs)) = .agg (fillA (z.map ZC.at_) qs) by simp only [stV]; rw [fillA_st _ _ (zat_st z) (partsQ_st hqs)]] at this
            exact this
          · exact h.h _ _ _ kk
      · exact h.h _ _ _ kk
    · exact h.h _ _ _ kk
  · rename_i t x y hop
    exact mk_ok hG hg hd hop kk h
  · rename_i t n parts hop
    exact bs_ok hG hg hd hop kk h
  · rename_i c hop
    split at h
    · exact rd_ok hG hg hd kk h
    · rename_i s x t t'
      cases hb : Nat.beq t' t with
      | false => rw [hb] at h; exact h.h _ _ _ kk
      | true =>
        rw [hb] at h
        simp only [cond_true] at h
        simp only [beq_dec, decide_eq_true_eq] at hb
        exact ap_ok hG hE hg hd hb hop kk h
    · exact h.h _ _ _ kk
  all_goals first | exact rd_ok hG hg hd kk h | exact h.h _ _ _ kk

theorem AL.gOffT {s : St} {j dj : Nat} {b c : Bool} {oj : Oper} (hg : o.guard = some (j, b)) (hd : okD N o.dst = true) (hj : ops[j]? = some oj) (hdj : oj.dst = some dj) (hb : s.tv dj = .a (.lit (.bool c))) (hN : dj < N) (hc : c = !b) (k : AL P F N ops Q rest (s.putO o.dst (.tup []))) : AL P F N ops Q (o :: rest) s := by
  intro a w hr
  obtain ⟨ω, β, h⟩ := hr
  have hv : a.tmps.getD dj undef = .bool c := by have := h.tmps dj; rw [hb] at this; exact this.1
  have hw : Region.wanted o (yielded ops a.tmps) = false := by
    have h2 : a.tmps[dj]? = some (.bool c) := by
      have : dj < a.tmps.size := by rw [h.tsz]; exact hN
      rw [Array.getElem?_eq_getElem this]
      rw [Array.getD_eq_getD_getElem?, Array.getElem?_eq_getElem this] at hv
      rw [← hv]; rfl
    cases b <;> subst hc <;> simp [Region.wanted, hg, yielded, hj, hdj, h2]
  unfold wpList
  rw [if_neg (by rw [hw]; simp)]
  exact k _ _ ⟨ω, β, h.putO hd (v := .tup []) ⟨#[], rfl, rfl, fun j x hx => by simp at hx⟩⟩
/-- A guard that was not looked at itself. -/
theorem AL.gOffU {s : St} {j dj : Nat} {b : Bool} {oj : Oper} (hg : o.guard = some (j, b)) (hd : okD N o.dst = true) (hj : ops[j]? = some oj) (hdj : oj.dst = some dj) (hb : s.tv dj = .tup []) (hN : dj < N) (k : AL P F N ops Q rest (s.putO o.dst (.tup []))) : AL P F N ops Q (o :: rest) s := by
  intro a w hr
  obtain ⟨ω, β, h⟩ := hr
  have hv : ∃ us, a.tmps.getD dj undef = .tuple us := by have := h.tmps dj; rw [hb] at this; obtain ⟨us, e, _⟩ := this; exact ⟨us, e⟩
  have hw : Region.wanted o (yielded ops a.tmps) = false := by
    obtain ⟨us, hv⟩ := hv
    have h2 : a.tmps[dj]? = some (.tuple us) := by
      have : dj < a.tmps.size := by rw [h.tsz]; exact hN
      rw [Array.getElem?_eq_getElem this]
      rw [Array.getD_eq_getD_getElem?, Array.getElem?_eq_getElem this] at hv
      rw [← hv]; rfl
    simp [Region.wanted, hg, yielded, hj, hdj, h2]
  unfold wpList
  rw [if_neg (by rw [hw]; simp)]
  exact k _ _ ⟨ω, β, h.putO hd (v := .tup []) ⟨#[], rfl, rfl, fun j x hx => by simp at hx⟩⟩
theorem vcG_ok (hG : GOk P G) (hE : F.nE ≤ 1000000) (kk : ∀ τ, k τ → AL P F N ops Q rest τ.er) (h : vcG P F N G ops o σ k) : AL P F N ops Q (o :: rest) σ.er := by
  unfold vcG at h
  cases hd : okD N o.dst with
  | false => rw [hd] at h; exact h.elim
  | true =>
    rw [hd] at h
    simp only [cond_true] at h
    split at h
    · rename_i hg
      exact vcO_ok hG hE hg hd kk h
    · rename_i j b hg
      split at h
      · rename_i oj hj
        split at h
        · rename_i dj hdj
          cases hN : Nat.blt dj N with
          | false => rw [hN] at h; exact h.elim
          | true =>
            rw [hN] at h
            simp only [cond_true] at h
            simp only [blt_dec, decide_eq_true_eq] at hN
            have skip : ∀ τ : TS, (match o.dst with | some d => putK τ d (.tup []) k | none => k τ) → AL P F N ops Q rest (τ.er.putO o.dst (.tup [])) := by
              intro τ hq
              cases hds : o.dst with
              | none => rw [hds] at hq; exact kk _ hq
              | some d => rw [hds] at hq; exact put_ok kk hq
            split at h
            · rename_i c hc
              have main : ∀ c0 : Bool, c = c0 → (asK σ dj (.a (.lit (.bool c0))) fun σ => bif (b == c0) then vcO P F N G { o with guard := none } σ k else (match o.dst with | some d => putK σ d (.tup []) k | none => k σ)) → AL P F N ops Q (o :: rest) σ.er := by
                intro c0 e hq
                subst e
                rw [asK_eq] at hq
                refine AL.le (le_lk (τ := ⟨(dj, .a (.lit (.bool c))) :: erl σ.t dj, σ.r⟩) (fun t => .inr ?_) (fun κ => by rw [← TS.rt_er]; exact OSim.rfl _)) ?_
                · rw [lkT_cons, lkT_erl]
                  by_cases e2 : t = dj
                  · subst e2; rw [if_pos rfl, TS.tv_er, hc]
                  · rw [if_neg e2, if_neg e2]; exact (TS.tv_er σ t).symm
                · have htv : (TS.mk ((dj, .a (.lit (.bool c))) :: erl σ.t dj) σ.r).er.tv dj = .a (.lit (.bool c)) := by rw [TS.tv_er, lkT_cons, if_pos rfl]; rfl
                  by_cases hbc : b = c
                  · subst hbc
                    simp only [beq_self_eq_true, cond_true] at hq
                    exact AL.gOn hg hj hdj htv hN (vcO_ok (o := { o with guard := none }) hG hE rfl hd kk hq)
                  · have : (b == c) = false := by simpa using hbc
                    rw [this] at hq
                    simp only [cond_false] at hq
                    exact AL.gOffT hg hd hj hdj htv hN (by cases b <;> cases c <;> simp_all) (skip _ hq)
              rcases h.ok with ⟨e, hq⟩ | ⟨e, hq⟩
              · refine main true e ?_
                rw [asK_eq] at hq ⊢
                cases b <;> exact hq
              · refine main false e ?_
                rw [asK_eq] at hq ⊢
                cases b <;> exact hq
            · rename_i hc
              exact AL.gOffU hg hd hj hdj (by rw [TS.tv_er, hc]; rfl) hN (skip _ h)
            · exact h.elim
        · exact h.elim
      · exact h.elim

theorem vcL_ok (hG : GOk P G) (hE : F.nE ≤ 1000000) : ∀ {l : List Oper} {σ : TS} {k : TS → Prop}, (∀ τ, k τ → Q .normal τ.er) → vcL P F N G ops l σ k → AL P F N ops Q l σ.er
  | [], σ, k, kk, h => AL.nil (kk _ h)
  | o :: l, σ, k, kk, h => by
    simp only [vcL] at h
    split at h
    · exact h.h _ kk
    · split at h
      · exact h.h _ kk
      · exact vcG_ok hG hE (fun τ hτ => vcL_ok hG hE kk hτ) h

theorem eQ_mono {Q1 Q2 : Exit → TS → Prop} (h : ∀ e τ, Q1 e τ → Q2 e τ) {e : Exit} {s : St} (hq : eQ Q1 e s) : eQ Q2 e s := by
  obtain ⟨τ, h1, h2⟩ := hq
  exact ⟨τ, h1, h _ _ h2⟩
theorem eQ_of {Q : Exit → TS → Prop} {e : Exit} {τ : TS} (h : Q e τ) : eQ Q e τ.er := ⟨τ, St.le.refl _, h⟩

theorem vcC_ok (hG : GOk P G) (hE : F.nE ≤ 1000000) : ∀ {c : Code} {σ : TS} {Q : Exit → TS → Prop}, vcC P F N G c σ Q → AC P F N c (eQ Q) σ.er := by
  intro c
  induction c with
  | skip => intro σ Q h; exact AC.skip (eQ_of h)
  | region id ops dr =>
    intro σ Q h
    cases dr with
    | false =>
      have := vcL_ok (ops := ops) (Q := eQ Q) hG hE (fun τ hτ => eQ_of hτ) h
      have h2 := AC.region (id := id) (l := ops.toList) (P := P) (F := F) (N := N) (Q := eQ Q) (σ := σ.er) (by rw [Array.toArray_toList]; exact this)
      rw [Array.toArray_toList] at h2; exact h2
    | true => exact h.h
  | seq a b iha ihb =>
    intro σ Q h
    refine AC.seq (AC.mono (iha h) (fun e s hq => ?_))
    obtain ⟨τ, h1, h2⟩ := hq
    cases e with
    | normal => exact AC.le h1 (ihb h2)
    | exit id => exact ⟨τ, h1, h2⟩
    | goto l => exact ⟨τ, h1, h2⟩
    | ret => exact ⟨τ, h1, h2⟩
    | panic c => exact ⟨τ, h1, h2⟩
    | outgrown => exact ⟨τ, h1, h2⟩
  | cond c x y ihx ihy =>
    intro σ Q h
    simp only [vcC] at h
    split at h
    · rename_i b hc
      refine AC.cond (by rw [evS_eq, hc]; rfl) (fun e => ?_) (fun e => ?_)
      · subst e; exact ihx h
      · subst e; exact ihy h
    · exact h.elim
  | block id c ih =>
    intro σ Q h
    refine AC.block (AC.mono (ih h) (fun e s hq => ?_))
    obtain ⟨τ, h1, h2⟩ := hq
    cases e with
    | exit id' =>
      simp only [TIn, beq_dec] at h2
      show if id' = id then eQ Q .normal s else eQ Q (.exit id') s
      by_cases e : id' = id
      · rw [if_pos e]; simp only [e, decide_true, cond_true] at h2; exact ⟨τ, h1, h2⟩
      · rw [if_neg e]; simp only [e, decide_false, cond_false] at h2; exact ⟨τ, h1, h2⟩
    | normal => exact ⟨τ, h1, h2⟩
    | goto l => exact ⟨τ, h1, h2⟩
    | ret => exact ⟨τ, h1, h2⟩
    | panic c => exact ⟨τ, h1, h2⟩
    | outgrown => exact ⟨τ, h1, h2⟩
  | exit id => intro σ Q h; exact AC.exit (eQ_of h)
  | ret => intro σ Q h; exact AC.ret (eQ_of h)
  | loop c ih => intro σ Q h; exact h.h
  | rangeFunc f ps a b _ _ => intro σ Q h; exact h.h
  | scope b _ => intro σ Q h; exact h.h
  | label l => intro σ Q h; exact h.h
  | goto l => intro σ Q h; exact h.h
  | refuse w => intro σ Q h; exact h.h
/-- On with the operations. -/
theorem ListO.go (hG : GOk P G) (hE : F.nE ≤ 1000000) {o : Oper} {l : List Oper} {σ : TS} {k : TS → Prop} (h : vcG P F N G ops o σ fun σ => vcL P F N G ops l σ k) : ListO P F N ops (o :: l) σ k :=
  ⟨fun Q kk => vcG_ok hG hE (fun τ hτ => vcL_ok hG hE kk hτ) h⟩
end
end Go.Tr
