/- Calls: what comes back, where something was given away too. -/
import Derived.Test.YtjlphbhmjicdhaaVJ
set_option linter.unusedVariables false
set_option linter.unusedSimpArgs false
namespace Go.Tr
open Go Go.RowKit
section
variable {F : Fm} {N : Nat} {σ : St} {a : Act} {w : World} {ω : Om} {β : Nat → Bs} {bs : List Bw}
theorem Rel1.backQ {q : Qm} (h : Rel1 F N σ a w ω β) (hbw : BwOk σ bs) (hq1 : ∀ b j x, ω b j = some x → q b j = qOf ω β bs b j) (hq2 : ∀ b j y, q b j = some y → y ≠ .fro → ω b j = none → b < w.heap.size ∧ (F.W b j ∨ F.w0.heap.size ≤ b)) {w' : World} {q' : Qm} {us : List Value} {outs : List Ar} {ext : List Xr} (hx : Exi w w' q q' (aOf β bs) us outs ext)
    (hl : ext.length = bs.length) (hs : ∀ (ρ : Nat) (b : Bw) (x : Xr), bs[ρ]? = some b → ext[ρ]? = some x → x.k = b.x.k ∧ x.n = b.x.n ∧ x.mine) :
    Rel1 F N (σ.back bs ext) a w' (oOf w ω bs q q') β := by
  have hm := hx.fr.mt
  have hW : ∀ {b j x}, Wof q b j → ω b j = some x → Wof (qOf ω β bs) b j := fun {b j x} hw hx => by
    obtain ⟨y, hy, hne⟩ := hw
    exact ⟨y, by rw [← hq1 b j x hx]; exact hy, hne⟩
  have hkeep : ∀ b j x, ω b j = some x → ¬ Wof q b j → oOf w ω bs q q' b j = some x ∧ w'.cell? ⟨b, j, none⟩ = w.cell? ⟨b, j, none⟩ := by
    intro b j x hxx hn
    have hb := (h.wr b j x hxx).1
    refine ⟨?_, hx.fr.cell b j hb hn⟩
    unfold oOf
    rw [if_neg (by rintro (h1 | h1); exact hn h1; omega)]
    exact hxx
  have hcell : ∀ (b : Bw) (ρ κ : Nat), bwFind bs 0 κ = some (ρ, b) → ∀ g j, q' g j = some (.cell ρ) → oOf w ω bs q q' g j = some (.row κ) := by
    intro b ρ κ hf g j hq
    obtain ⟨h1, h2, _⟩ := rt_back_some hbw hl hf
    unfold oOf
    rw [if_pos ((hx.lt g j _ hq).2.1 (by intro e; cases e)), hq]
    simp only [h2, h1]
  have hsub : ∀ (b : Bw) (ρ κ : Nat), bwFind bs 0 κ = some (ρ, b) → ∀ g j i r, q' g j = some (.ext ρ i r) → oOf w ω bs q q' g j = some (.sub κ (b.i0 + i) r) := by
    intro b ρ κ hf g j i r hq
    obtain ⟨h1, h2, _⟩ := rt_back_some hbw hl hf
    unfold oOf
    rw [if_pos ((hx.lt g j _ hq).2.1 (by intro e; cases e)), hq]
    simp only [h2, h1]
  have hmine : ∀ κ R, σ.rt κ = some R → bwFind bs 0 κ = none → ∀ b j x, ω b j = some x → Mine R.o κ x → ¬ Wof q b j := by
    intro κ R hR hf b j x hxx hmi
    intro hwq
    refine not_wof hxx (fun κ' hk => ?_) (hW hwq hxx)
    have hv := hbw.vw κ R hR
    rcases hk with rfl | ⟨i, r, rfl⟩
    · obtain ⟨rfl, _⟩ := hmi; exact hf
    · rcases hmi with rfl | ho
      · exact hf
      · rw [ho] at hv; exact hv
  have href : ∀ {κ lo n u}, RefRel σ β κ lo n u → RefRel (σ.back bs ext) β κ lo n u := by
    rintro κ lo n u ⟨R, hR, k1⟩
    cases hf : bwFind bs 0 κ with
    | none => exact ⟨R, by rw [rt_back_none hl hf]; exact hR, k1⟩
    | some p =>
      obtain ⟨ρ, b⟩ := p
      obtain ⟨_, _, R', x, q1, _, q3⟩ := rt_back_some hbw hl hf
      rw [hR] at q1; injection q1 with q1; subst q1
      exact ⟨_, q3, k1.le (R' := mixR b R x) rfl (Nat.le_refl _)⟩
  have hA : ∀ x u, ARel σ β w x u → ARel (σ.back bs ext) β w' (dimB bs x) u := by
    intro x u hxu
    cases x with
    | any => exact hxu
    | lit v => exact hxu
    | nil e k => exact hxu
    | ref κ lo n => exact href hxu
    | spot κ i r =>
      have hone := ARel.one h hxu
      simp only [dimB]
      cases hf : bwFind bs 0 κ with
      | some p => exact hone
      | none =>
        obtain ⟨R, g, j, hR, hi, hr, hlv, ha, hc⟩ := hxu
        refine ⟨R, g, j, by rw [rt_back_none hl hf]; exact hR, hi, hr, hlv, ha, ?_⟩
        obtain ⟨g', j', u', ha', k2, k3, _⟩ := (h.roots κ R hR).cells i r hi hr hlv
        obtain ⟨o1, e1, e2⟩ := ha
        obtain ⟨o2, m1, m2⟩ := ha'
        rw [e1] at m1; injection m1 with m1; injection m1 with m3 m4 _
        subst m3 m4
        have hj : j' = j := by rw [e2, m2]
        subst hj
        obtain ⟨y, hy, hmi⟩ := k3.mine
        exact (hkeep _ _ _ hy (hmine κ R hR hf _ _ _ hy hmi)).2.trans hc
  have hP : ∀ κ R, σ.rt κ = some R → ∃ R', (σ.back bs ext).rt κ = some R' ∧ R'.k = R.k := by
    intro κ R hR
    cases hf : bwFind bs 0 κ with
    | none => exact ⟨R, by rw [rt_back_none hl hf]; exact hR, rfl⟩
    | some p =>
      obtain ⟨ρ, b⟩ := p
      obtain ⟨_, _, R', x, q1, _, q3⟩ := rt_back_some hbw hl hf
      rw [hR] at q1; injection q1 with q1; subst q1
      exact ⟨_, q3, rfl⟩
  refine ⟨h.tsz, h.dfr, fun t => ?_, fun κ R' hR' => ?_, fun b j x hxx => ?_, h.fr.step hx.fr (fun b j hw => ?_), fun b j hxx => ?_, fun ρ R' hρ hR' => ?_⟩
  · cases hbs : bs with
    | nil =>
      subst hbs
      exact VRel.same (fun x u hxu => by have := hA x u hxu; cases x <;> exact this) (fun κ R hR => ⟨rfl, hP κ R hR⟩) (h.tmps t)
    | cons b0 bs0 =>
      have : (σ.back (b0 :: bs0) ext).tv t = (σ.tv t).map (dimB (b0 :: bs0)) none := St.tv_map σ _ rfl t
      rw [this]
      rw [hbs] at hA hP
      exact VRel.map (fun x u hxu => hA x u hxu) (fun κ R _ hR => ⟨rfl, hP κ R hR⟩) (h.tmps t)
  · cases hf : bwFind bs 0 κ with
    | none =>
      rw [rt_back_none hl hf] at hR'
      exact (h.roots κ R' hR').upd (fun i r κ' lo n _ u hu => href hu) rfl hm (fun b j x hxx hmi => hkeep b j x hxx (hmine κ R' hR' hf b j x hxx hmi))
    | some p =>
      obtain ⟨ρ, b⟩ := p
      obtain ⟨q1, q2, R, x, hR, hxe, hrt⟩ := rt_back_some hbw hl hf
      rw [hrt] at hR'; injection hR' with hR'; subst hR'
      obtain ⟨_, R0, hR0, ho, hk, hn, hwh, hg⟩ := hbw.at_ _ _ q2
      rw [q1, hR] at hR0; injection hR0 with hR0; subst hR0
      obtain ⟨s1, s2, s3⟩ := hs ρ b x q2 hxe
      have hroot := h.roots κ R hR
      have hext := hx.ext ρ x hxe
      have hin : ∀ i r, b.i0 ≤ i → i < b.i0 + b.x.n → r < R.k → ∃ g o u, (β κ).A = some ⟨g, o, none⟩ ∧ w'.cell? ⟨g, o + (i * R.k + r), none⟩ = some u ∧ q' g (o + (i * R.k + r)) = some (.cell ρ) ∧ w'.frozen? ⟨g, o + (i * R.k + r), none⟩ = false ∧
          CRel w' (fun b j => q' b j = some .fro) (x.row (i - b.i0) r) (fun b' j => q' b' j = some (.ext ρ (i - b.i0) r)) u := by
        intro i r h1 h2 h3
        obtain ⟨g, o, u, e1, e2, e3, e4, e5⟩ := hext (i - b.i0) r (by omega) (by omega)
        simp only [aOf, q2, q1] at e1
        cases hbA : (β κ).A with
        | none => rw [hbA] at e1; cases e1
        | some a0 =>
          rw [hbA] at e1
          injection e1 with e1
          obtain ⟨g0, o0, sp⟩ := a0
          injection e1 with f1 f2 f3
          dsimp only at f1 f2 f3
          subst f1 f3
          have hadd : o + ((i - b.i0) * x.k + r) = o0 + (i * R.k + r) := by
            rw [s1, ← f2, ← hk]
            have : i * R.k = b.i0 * R.k + (i - b.i0) * R.k := by rw [← Nat.add_mul]; congr 1; omega
            omega
          rw [hadd] at e2 e3 e4
          exact ⟨g0, o0, u, rfl, e2, e3, e4, e5⟩
      refine ⟨fun i r hi hr _ => ?_, fun hfull => ?_⟩
      · change i < R.n at hi; change r < R.k at hr
        by_cases hr2 : b.i0 ≤ i ∧ i < b.i0 + b.x.n
        · obtain ⟨g, o, u, e1, e2, e3, e4, e5⟩ := hin i r hr2.1 hr2.2 hr
          refine ⟨g, o + (i * R.k + r), u, ⟨o, e1, rfl⟩, e2, ?_, fun _ => e4, ?_⟩
          · show Tg _ R.o κ g _
            rw [ho]; exact hcell b ρ κ hf g _ e3
          · have hget : (mixR b R x).get i r = .cl (x.row (i - b.i0) r) := by
              rw [mix_get]
              cases hw : b.wh with
              | true => rw [hw] at hwh; simp only [cond_true] at hwh ⊢; rw [show i - b.i0 = i by omega]
              | false => simp only [cond_false]; rw [if_pos hr2]
            unfold CellRel
            rw [hget]
            refine CRel.mine _ _ _ (s3 _ _ (by omega) (by omega)) (CRel.mono (fun _ _ h => h) _ _ _ _ e5 (fun b' j' hq => ?_))
            show Sr _ R.o κ i r b' j'
            rw [ho]
            have := hsub b ρ κ hf b' j' _ _ hq
            rw [show b.i0 + (i - b.i0) = i by omega] at this
            exact this
        · have hwf : b.wh = false := by
            cases hw : b.wh with
            | false => rfl
            | true => rw [hw] at hwh; simp only [cond_true] at hwh; omega
          rw [hwf] at hwh
          simp only [cond_false] at hwh
          obtain ⟨g, j, u, ⟨o, e1, e2⟩, k2, k3, k4, k5⟩ := hroot.cells i r hi hr rfl
          rw [ho] at k3
          have k3' : ω g j = some (.row κ) := k3
          have hnw : ¬ Wof q g j := by
            intro hw
            obtain ⟨y, hy, _, κ', ρ', b', hf', hcase⟩ := wof_tag (hW hw k3')
            rw [k3'] at hy; injection hy with hy; subst hy
            rcases hcase with ⟨e, a0, ea, el, er⟩ | ⟨_, _, e, _⟩
            · injection e with e; subst e
              rw [hf] at hf'; injection hf' with hf'; injection hf' with _ hf'; subst hf'
              rw [e1] at ea; injection ea with ea; subst ea
              change o + _ ≤ j at el; change j < o + _ at er
              rw [← hk] at el er
              rw [e2] at el er
              apply hr2
              constructor
              · by_cases h1 : b.i0 ≤ i
                · exact h1
                · have : (i + 1) * R.k ≤ b.i0 * R.k := Nat.mul_le_mul_right _ (by omega)
                  rw [Nat.add_mul] at this; omega
              · by_cases h1 : i < b.i0 + b.x.n
                · exact h1
                · have : (b.i0 + b.x.n) * R.k ≤ i * R.k := Nat.mul_le_mul_right _ (by omega)
                  omega
            · cases e
          obtain ⟨t1, t2⟩ := hkeep _ _ _ k3' hnw
          refine ⟨g, j, u, ⟨o, e1, e2⟩, t2.trans k2, ?_, fun _ => (hm.frozen k2).trans (k4 ho), ?_⟩
          · show Tg _ R.o κ g _
            rw [ho]; exact t1
          · have hg1 : R.get i r = .cl (R.row i r) := by unfold Root.get; rw [hwh]; rfl
            have hget : (mixR b R x).get i r = .cl (R.row i r) := by
              rw [mix_get, hwf]
              simp only [cond_false]; rw [if_neg hr2]
            unfold CellRel at k5 ⊢
            rw [hg1] at k5
            rw [hget]
            have hz : ∀ b' j', ω b' j' = some .fro → ¬ Wof q b' j' := fun b' j' hq hwq => not_wof hq (fun κ' hk => by rcases hk with e | ⟨_, _, e⟩ <;> cases e) (hW hwq hq)
            have hsb : ∀ b' j', ω b' j' = some (.sub κ i r) → ¬ Wof q b' j' := by
              intro b' j' hq hw
              obtain ⟨y, hy, _, κ', ρ', b2, hf', hcase⟩ := wof_tag (hW hw hq)
              rw [hq] at hy; injection hy with hy; subst hy
              rcases hcase with ⟨e, _⟩ | ⟨i', r', e, el, er⟩
              · cases e
              · injection e with e0 e1 e2; subst e0 e1 e2
                rw [hf] at hf'; injection hf' with hf'; injection hf' with _ hf'; subst hf'
                exact hr2 ⟨el, er⟩
            show CRel w' (Zr _ R.o) (R.row i r) (Sr _ R.o κ i r) u
            rw [ho] at k5 ⊢
            exact CRel.mono (fun b' j' hq => (hkeep _ _ _ hq (hz _ _ hq)).1) _ _ _ _ (CRel.frame hm (fun b' j' hq => (hkeep _ _ _ hq (hz _ _ hq)).2) _ _ _ k5 (fun b' j' hq => (hkeep _ _ _ hq (hsb _ _ hq)).2)) (fun b' j' hq => (hkeep _ _ _ hq (hsb _ _ hq)).1)
      · obtain ⟨m0, m1, m2, m3, m4⟩ := hroot.full hfull
        refine ⟨fun _ _ _ _ => rfl, m1, m2, m3, ?_⟩
        rcases m4 with m4 | ⟨g, cur, n1, n2, n3, n4⟩
        · exact .inl m4
        · obtain ⟨cur', c1, c2⟩ := hm.blk _ _ _ _ n2
          refine .inr ⟨g, cur', n1, c1, c2.trans n3, fun j hj => ?_⟩
          by_cases hw : Wof q g j
          · obtain ⟨y, hy, _, κ', ρ', b', hf', hcase⟩ := wof_tag (hW hw (n4 j hj).1)
            rw [(n4 j hj).1] at hy; injection hy with hy; subst hy
            rcases hcase with ⟨e, a0, ea, el, er⟩ | ⟨_, _, e, _⟩
            · injection e with e; subst e
              rw [hf] at hf'; injection hf' with hf'; injection hf' with _ hf'; subst hf'
              rw [n1] at ea; injection ea with ea; subst ea
              change 0 + _ ≤ j at el; change j < 0 + _ at er
              rw [← hk, Nat.zero_add] at el er
              have hk0 : 0 < R.k := by
                rcases Nat.eq_zero_or_pos R.k with h0 | h0
                · rw [h0] at er; omega
                · exact h0
              have d1 : b.i0 ≤ j / R.k := (Nat.le_div_iff_mul_le hk0).2 el
              have d2 : j / R.k < b.i0 + b.x.n := (Nat.div_lt_iff_lt_mul hk0).2 er
              obtain ⟨g2, o2, u, e1, e2, e3, e4', e5'⟩ := hin (j / R.k) (j % R.k) d1 d2 (Nat.mod_lt _ hk0)
              rw [n1] at e1; injection e1 with e1; injection e1 with f1 f2 _
              subst f1 f2
              have : 0 + (j / R.k * R.k + j % R.k) = j := by rw [Nat.zero_add, Nat.mul_comm]; exact Nat.div_add_mod j R.k
              rw [this] at e3 e2
              exact ⟨hcell b ρ κ hf _ _ e3, ⟨u, e2, CRel.one e5'⟩⟩
            · cases e
          · exact ⟨(hkeep _ _ _ (n4 j hj).1 hw).1, (n4 j hj).2.eq (hkeep _ _ _ (n4 j hj).1 hw).2⟩
  · unfold oOf at hxx
    split at hxx
    · rename_i hc
      have hwf : ∀ y, q' b j = some y → y ≠ .fro → b < w'.heap.size ∧ (x ≠ .fro → F.W b j ∨ F.w0.heap.size ≤ b) := by
        intro y hy hne
        obtain ⟨l1, l2, _⟩ := hx.lt b j y hy
        refine ⟨l1, fun _ => ?_⟩
        rcases l2 hne with l2 | l2
        · cases hob : ω b j with
          | none => obtain ⟨y', hy', hn'⟩ := l2; exact (hq2 b j y' hy' hn' hob).2
          | some x0 =>
            obtain ⟨z, hz, hzn, _⟩ := wof_tag (hW l2 hob)
            exact (h.wr b j z hz).2 hzn
        · have := h.fr.mt.size; exact .inr (by omega)
      split at hxx
      · rename_i hq; exact hwf _ hq (by intro e; cases e)
      · rename_i hq; exact hwf _ hq (by intro e; cases e)
      · cases hxx
    · obtain ⟨k1, k2⟩ := h.wr b j x hxx
      exact ⟨Nat.lt_of_lt_of_le k1 hm.size, k2⟩
  · cases hob : ω b j with
    | none => obtain ⟨y', hy', hn'⟩ := hw; exact (hq2 b j y' hy' hn' hob).2
    | some x0 =>
      obtain ⟨z, hz, hzn, _⟩ := wof_tag (hW hw hob)
      exact (h.wr b j z hz).2 hzn
  · unfold oOf at hxx
    split at hxx
    · split at hxx
      · split at hxx <;> cases hxx
      · split at hxx <;> cases hxx
      · cases hxx
    · exact h.fz b j hxx
  · cases hf : bwFind bs 0 (1000000 + ρ) with
    | none => rw [rt_back_none hl hf] at hR'; exact h.ex ρ R' hρ hR'
    | some p =>
      obtain ⟨ρ', b⟩ := p
      obtain ⟨_, _, R, x, hR, _⟩ := rt_back_some hbw hl hf
      exact h.ex ρ R hρ hR

theorem call_backQ {q : Qm} (h : Rel1 F N σ a w ω β) (hbw : BwOk σ bs) (hq1 : ∀ b j x, ω b j = some x → q b j = qOf ω β bs b j) (hq2' : ∀ b j y, q b j = some y → y ≠ .fro → ω b j = none → b < w.heap.size ∧ (F.W b j ∨ F.w0.heap.size ≤ b))
    {w' : World} {q' : Qm} {us : List Value} {outs : List Ar} {ext : List Xr} (hx : Exi w w' q q' (aOf β bs) us outs ext) (hl : ext.length = bs.length) (hs : ∀ (ρ : Nat) (b : Bw) (x : Xr), bs[ρ]? = some b → ext[ρ]? = some x → x.k = b.x.k ∧ x.n = b.x.n ∧ x.mine)
    (hE : F.nE ≤ 1000000) (c : Nat) (hc : 2000000 ≤ c) (hfree : freeIn c (c + 100) σ.r = true) (hm : ∀ x ∈ outs, x.mine) (hct : cnts outs ≤ 100) {dst : Option Nat} (hd : okD N dst = true) :
    ∃ ω' β', Rel1 F N ((layOuts outs (σ.back bs ext) c).1.putO dst (tupV (layOuts outs (σ.back bs ext) c).2)) (a.put dst (outVal us)) w' ω' β' := by
  have hback := h.backQ hbw hq1 hq2' hx hl hs
  let q2 : Qm := fun b j => match q' b j with | some .fro => none | y => y
  have hq2 : ∀ b j y, q2 b j = some y ↔ (q' b j = some y ∧ y ≠ .fro) := by
    intro b j y
    show (match q' b j with | some .fro => none | y => y) = some y ↔ _
    cases hq : q' b j with
    | none => simp
    | some z =>
      cases z <;> simp <;> (rintro rfl; simp)
  have hqb : ∀ b j y, q2 b j = some y → y ≠ .fro → b < w'.heap.size ∧ (F.W b j ∨ F.w0.heap.size ≤ b) := by
    intro b j y hy hne
    obtain ⟨l1, l2, _⟩ := hx.lt b j y ((hq2 b j y).1 hy).1
    refine ⟨l1, ?_⟩
    rcases l2 hne with l2 | l2
    · cases hob : ω b j with
      | none => obtain ⟨y', hy', hn'⟩ := l2; exact (hq2' b j y' hy' hn' hob).2
      | some x0 =>
        obtain ⟨y', hy', hne'⟩ := l2
        obtain ⟨z, hz, hzn, _⟩ := wof_tag (bs := bs) (ω := ω) (β := β) ⟨y', by rw [← hq1 b j x0 hob]; exact hy', hne'⟩
        exact (h.wr b j z hz).2 hzn
    · have := h.fr.mt.size; exact .inr (by omega)
  have hfresh : ∀ κ, c ≤ κ → κ < c + 100 → (σ.back bs ext).rt κ = none := by
    intro κ hκ hκ2
    cases hfd : bwFind bs 0 κ with
    | none => rw [rt_back_none hl hfd]; exact look_free hfree hκ hκ2
    | some p =>
      obtain ⟨ρ, b⟩ := p
      obtain ⟨_, _, R, _, hR, _⟩ := rt_back_some hbw hl hfd
      have := look_free hfree hκ hκ2
      rw [show look σ.r κ = some R from hR] at this; cases this
  have hinv : Inv F N (σ.back bs ext) a w' q2 (oOf w ω bs q q') β c (c + 100) (fun y => ∃ ρ, y = .cell ρ ∨ ∃ i r, y = .ext ρ i r) := by
    refine ⟨hback, fun κ hκ hκ2 => hfresh κ hκ (by omega), fun b j y h1 h2 h3 => ?_, fun b j hq => absurd rfl ((hq2 b j _).1 hq).2⟩
    have hq := ((hq2 b j y).1 h1).1
    unfold oOf
    rw [if_pos ((hx.lt b j y hq).2.1 h2), hq]
    cases y with
    | arg i r => rfl
    | ext ρ i r => exact absurd ⟨ρ, .inr ⟨i, r, rfl⟩⟩ h3
    | cell ρ => exact absurd ⟨ρ, .inl rfl⟩ h3
    | fro => exact absurd rfl h2
  obtain ⟨ω', β', k1, k2, k3, k4⟩ := layOuts_ok (nx := 1000000 + F.nE) (Nat.le_refl _) hqb outs us (i := 0) hinv (by omega) (by omega) (fun i' j _ hd => by
      obtain ⟨ρ, hd⟩ := hd
      rcases hd with hd | ⟨_, _, hd⟩ <;> cases hd) hx.size (fun j x hj => by
      obtain ⟨u, e1, e2⟩ := hx.outs j x hj
      have hmx := hm x (List.mem_of_getElem? hj)
      refine ⟨u, e1, ?_⟩
      rw [Nat.zero_add]
      cases x with
      | one c => exact CRel.mine _ _ _ hmx (CRel.mono (fun _ _ h => h) _ _ _ _ e2 (fun b j hh => (hq2 b j _).2 ⟨hh, by intro e; cases e⟩))
      | agg l =>
        obtain ⟨ys, f1, f2, f3⟩ := e2
        refine ⟨ys, f1, f2, fun j' c hc => ?_⟩
        obtain ⟨y, g1, g2⟩ := f3 j' c hc
        exact ⟨y, g1, CRel.mine _ _ _ (hmx c (List.mem_of_getElem? hc)) (CRel.mono (fun _ _ h => h) _ _ _ _ g2 (fun b j hh => (hq2 b j _).2 ⟨hh, by intro e; cases e⟩))⟩)
  refine ⟨ω', β', k1.putO hd ?_⟩
  generalize (layOuts outs (σ.back bs ext) c).2 = vs at k3 k4 ⊢
  match vs, us, k3, k4 with
  | [], [], _, _ => exact ⟨#[], rfl, rfl, fun j x hj => by simp at hj⟩
  | [v], [u], _, k4 =>
    obtain ⟨_, u', hu, hv⟩ := k4 0 v rfl
    injection hu with hu; subst hu; exact hv
  | v :: v2 :: vs, u :: u2 :: us, k3, k4 =>
    refine ⟨(u :: u2 :: us).toArray, rfl, by simpa using k3.symm, fun j x hj => ?_⟩
    obtain ⟨hfl, y, hy, hv⟩ := k4 j x hj
    exact ⟨y, by simpa using hy, hv.zero hfl⟩

end
end Go.Tr
