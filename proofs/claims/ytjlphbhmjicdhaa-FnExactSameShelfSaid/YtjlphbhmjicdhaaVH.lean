/- What is left to show is enough: variables, literals, append; code. -/
import Derived.Test.YtjlphbhmjicdhaaVG
set_option linter.unusedVariables false
set_option linter.unusedSimpArgs false
universe u
namespace Go.Tr
open Go Go.RowKit

theorem mkop_map (f : Cl → Cl) (i : Nat) : ∀ (l : List Cl) (r : Nat), (mkop i r l).map (fun p => (p.1, f p.2)) = mkop i r (l.map f)
  | [], _ => rfl
  | x :: l, r => by simp [mkop, mkop_map f i l]
theorem mkops_map (f : Cl → Cl) (k : Nat) : ∀ (n : Nat) (l : List Cl), (litR.mkops k n l).map (fun p => (p.1, f p.2)) = litR.mkops k n (l.map f)
  | 0, l => rfl
  | n + 1, l => by simp only [litR.mkops, List.map_append, mkops_map f k n, mkop_map, List.map_take, List.map_drop]
theorem TCl.kill_er (κ : Nat) (c : TCl) : (c.kill κ).er = c.er.kill κ := by
  cases c with
  | cl t => rfl
  | ref a b n =>
    simp only [TCl.kill, beq_dec, TCl.er, Cl.kill]
    by_cases h : a = κ <;> simp [h, TCl.er, TC.er]
theorem TRoot.kill_er (κ : Nat) (R : TRoot) : (R.kill κ).er = R.er.kill κ := by
  cases R with
  | ty o f e k X enc dec d xs => rfl
  | box e cs =>
    simp only [TRoot.kill, TRoot.er, Root.kill, List.length_map, mkop_map, List.map_map]
    congr 2
    apply List.map_congr_left
    intro c _
    exact TCl.kill_er κ c
  | litr e k cs =>
    simp only [TRoot.kill, TRoot.er, Root.kill, List.length_map, mkops_map, List.map_flatten, List.map_map]
    congr 3
    apply List.map_congr_left
    intro l _
    simp only [Function.comp, List.map_map]
    apply List.map_congr_left
    intro c _
    exact TCl.kill_er κ c
  | raw R => rfl
  | tyo => rfl
theorem killA_st (κ : Nat) (x : At) : stA (killA' κ x) = killA κ (stA x) := by
  cases x with
  | ref a b n => simp only [killA', beq_dec, stA, killA]; by_cases h : a = κ <;> simp [h, stA]
  | spot a b n => simp only [killA', beq_dec, stA, killA]; by_cases h : a = κ <;> simp [h, stA]
  | _ => rfl
theorem killV_st (κ : Nat) (v : V) : stV (killV κ v) = (stV v).map (killA κ) (some κ) := by
  cases v with
  | any => rfl
  | a x => simp [killV, stV, V.map, V.map0, killA_st]
  | agg l => simp [killV, stV, V.map, V.map0, Function.comp, killA_st]
  | ptr a b c =>
    simp only [killV, beq_dec, stV, V.map, V.map0]
    by_cases h : κ = a <;> simp [h, stV]
  | tup l =>
    simp only [killV, stV, V.map, List.map_map]
    congr 1
    apply List.map_congr_left
    intro x _
    cases x with
    | any => rfl
    | a x => simp [killV0, stV0, V.map0, Function.comp, killA_st]
    | agg l => simp [killV0, stV0, V.map0, Function.comp, killA_st]
    | ptr a b c =>
      simp only [Function.comp, killV0, beq_dec, stV0, V.map0]
      by_cases h : κ = a <;> simp [h, stV0]
    | tup l => rfl
theorem lkT_map (f : V → V) (hf : f .any = .any) (l : List (Nat × V)) (n : Nat) : lkT (l.map fun p => (p.1, f p.2)) n = f (lkT l n) := by
  induction l with
  | nil => exact hf.symm
  | cons p l ih => simp only [List.map_cons, lkT, ih]; cases Nat.beq n p.1 <;> rfl
theorem lkR_map (f : TRoot → TRoot) (l : List (Nat × TRoot)) (n : Nat) : lkR (l.map fun p => (p.1, f p.2)) n = (lkR l n).map f := by
  induction l with
  | nil => rfl
  | cons p l ih => simp only [List.map_cons, lkR, ih]; cases Nat.beq n p.1 <;> rfl
theorem drop_tv (σ : TS) (κ t : Nat) : (σ.drop κ).er.tv t = (σ.er.drop κ).tv t := by
  rw [TS.tv_er]
  show stV (lkT (σ.t.map fun p => (p.1, killV κ p.2)) t) = (look (σ.er.t.map fun p => (p.1, p.2.map (killA κ) (some κ))) t).getD .any
  rw [lkT_map _ rfl, killV_st, St.tv_map σ.er _ rfl, TS.tv_er]
theorem drop_rt (σ : TS) (κ n : Nat) : (σ.drop κ).er.rt n = (σ.er.drop κ).rt n := by
  rw [TS.rt_er, St.rt_drop]
  show (lkR ((erl σ.r κ).map fun p => (p.1, p.2.kill κ)) n).map TRoot.er = _
  rw [lkR_map, lkR_erl]
  by_cases h : n = κ
  · simp [h]
  · simp only [h, if_neg, not_false_eq_true, if_false]
    rw [TS.rt_er]
    cases lkR σ.r n with
    | none => rfl
    | some R => simp [TRoot.kill_er]

section
variable {P : Program} {F : Fm} {N : Nat} {G : Gt} {o : Oper} {σ : TS} {k : TS → Prop} {ops : Array Oper} {Q : Exit → St → Prop} {rest : List Oper}

theorem bx_ok {t : Nat} {cs : List TCl} (hg : o.guard = none) (hd : okD N o.dst = true) (kk : ∀ τ, k τ → AL P F N ops Q rest τ.er) (h : bxK P F N o σ t cs k)
    (base : ∀ d, o.dst = some d → d < N → d < 1000000 → σ.er.rt d = none → ∃ R0, RSim R0 (TRoot.box t cs).er ∧ (AL P F N ops Q rest ((σ.er.setR d R0).put d (.ptr d 0 0)) → AL P F N ops Q (o :: rest) σ.er)) : AL P F N ops Q (o :: rest) σ.er := by
  unfold bxK at h
  split at h
  · rename_i d hdst
    cases hb : (lkR σ.r d).isNone && Nat.blt d 1000000 with
    | false => rw [hb] at h; exact h.h _ _ _ kk
    | true =>
      rw [hb] at h
      simp only [cond_true] at h
      simp only [Bool.and_eq_true, blt_dec, decide_eq_true_eq] at hb
      obtain ⟨R0, hs, hk⟩ := base d hdst (by simpa [hdst, okD] using hd) hb.2 (none_of hb.1)
      exact hk (new_ok hs kk h)
  · exact h.h _ _ _ kk

theorem zall_ok {T : Nat → Option TyI} (hT : TOk P T) {t : Nat} {i : TyI} (ht : T t = some i) : i.z.length = i.k := (hT t _ ht).zl

theorem partsQ_ok {place : Nat → Option (Nat × Nat)} : ∀ {ps : List (Nat × Operand)} {qs : List (Nat × List At)}, partsQ σ place ps = some qs → PartsOk σ.er place ps qs
  | [], qs, h => by injection h with h; subst h; trivial
  | (i, x) :: ps, qs, h => by
    simp only [partsQ] at h
    split at h
    · rename_i off sz xs hp hx
      cases hb : Nat.beq sz xs.length with
      | false => rw [hb] at h; cases h
      | true =>
        rw [hb] at h
        simp only [cond_true] at h
        simp only [beq_dec, decide_eq_true_eq] at hb
        split at h
        · rename_i qs' hq
          injection h with h; subst h
          exact ⟨by rw [hp, hb], by rw [evS_eq]; exact hx, partsQ_ok hq⟩
        · cases h
    · cases h
theorem fillA_st : ∀ (qs : List (Nat × List At)) (l : List At), l.map stA = l → (∀ p ∈ qs, p.2.map stA = p.2) → (fillA l qs).map stA = fillA l qs
  | [], l, h, _ => h
  | (off, xs) :: qs, l, h, hq => by
    refine fillA_st qs _ ?_ (fun p hp => hq p (List.mem_cons_of_mem _ hp))
    have := hq (off, xs) (List.mem_cons_self ..)
    simp only [spl, List.map_append, List.map_take, List.map_drop, h]
    rw [show xs.map stA = xs from this]
theorem partsQ_st {place : Nat → Option (Nat × Nat)} : ∀ {ps : List (Nat × Operand)} {qs : List (Nat × List At)}, partsQ σ place ps = some qs → ∀ p ∈ qs, p.2.map stA = p.2
  | [], qs, h, p, hp => by injection h with h; subst h; cases hp
  | (i, x) :: ps, qs, h, p, hp => by
    simp only [partsQ] at h
    split at h
    · rename_i off sz xs hpl hx
      cases hb : Nat.beq sz xs.length with
      | false => rw [hb] at h; cases h
      | true =>
        rw [hb] at h
        simp only [cond_true] at h
        split at h
        · rename_i qs' hq
          injection h with h; subst h
          rcases List.mem_cons.1 hp with rfl | hp
          · exact stV_atoms hx
          · exact partsQ_st hq p hp
        · cases h
    · cases h
theorem zat_st (z : List ZC) : (z.map ZC.at_).map stA = z.map ZC.at_ := by
  rw [List.map_map]
  apply List.map_congr_left
  intro x _
  cases x <;> rfl

theorem zeroOk_ok {X : Type} {enc : X → Nat → TC} {x : X} : ∀ {z : List ZC} {r : Nat}, zeroOk enc x r z = true → z.all ZC.ok = true ∧ ∀ q zc, z[q]? = some zc → CSame zc.c ((enc x (r + q)).er .own)
  | [], r, h => ⟨rfl, fun q zc hq => by simp at hq⟩
  | zc :: zs, r, h => by
    simp only [zeroOk, Bool.and_eq_true] at h
    obtain ⟨h1, h2⟩ := h
    obtain ⟨h3, h4⟩ := zeroOk_ok h2
    have hz : zc.ok = true ∧ CSame zc.c ((enc x r).er .own) := by
      split at h1
      · rename_i a he
        split at h1
        · rw [he]; exact ⟨rfl, rfl⟩
        · cases h1
      · rename_i he; rw [he]; exact ⟨rfl, rfl⟩
      · rename_i e k e' k' he
        simp only [Bool.and_eq_true, beq_dec, decide_eq_true_eq] at h1
        rw [he]
        obtain ⟨rfl, rfl⟩ := h1
        exact ⟨rfl, rfl, fun _ => rfl, rfl, rfl, fun i r hi => by omega⟩
      · rename_i e k X' enc' dec' d' e' k' he
        simp only [Bool.and_eq_true, beq_dec, decide_eq_true_eq] at h1
        rw [he]
        obtain ⟨rfl, rfl⟩ := h1
        exact ⟨rfl, rfl, fun _ => rfl, rfl, rfl, fun i r hi => by omega⟩
      · cases h1
    refine ⟨by simp [hz.1, h3], fun q zc' hq => ?_⟩
    cases q with
    | zero => injection hq with hq; subst hq; exact hz.2
    | succ q => have := h4 q zc' hq; rwa [show r + 1 + q = r + (q + 1) by omega] at this

theorem mk_ok (hG : GOk P G) (hg : o.guard = none) (hd : okD N o.dst = true) {t : Nat} {x y : Operand} (hop : o.op = .makeSlice t x y) (kk : ∀ τ, k τ → AL P F N ops Q rest τ.er) (h : mkK P F N G o σ t x y k) : AL P F N ops Q (o :: rest) σ.er := by
  unfold mkK at h
  split at h
  · rename_i kx i ky j kt e ke bs zt d hx hy ht hdst
    split at h
    · rename_i E ke' kd z hed he
      cases hb : (lkR σ.r d).isNone && Nat.blt d 1000000 && Nat.beq ke ke' && zeroOk E.enc E.d 0 z with
      | false => rw [hb] at h; exact h.h _ _ _ kk
      | true =>
        rw [hb] at h
        simp only [cond_true] at h
        simp only [Bool.and_eq_true, blt_dec, beq_dec, decide_eq_true_eq] at hb
        obtain ⟨⟨⟨hb1, hb2⟩, hb3⟩, hb4⟩ := hb
        subst hb3
        obtain ⟨⟨hi⟩, h⟩ := h
        obtain ⟨hz1, hz2⟩ := zeroOk_ok hb4
        have hzl := zall_ok hG.T he
        refine AL.makeD hG.T i.toNat hop hg hdst (by simpa [hdst, okD] using hd) ht he hz1 (by rw [evS_eq, hx]; rfl) (by rw [evS_eq, hy]; rfl) (by omega) (by omega) hi.2.2.1 (by omega) hb2 (none_of hb1) ?_
        have := new_ok (R0 := ⟨.own, true, e, ke, i.toNat, zrow z, []⟩) ?_ kk h
        · rw [show (stV (V.a (At.ref d 0 (List.replicate i.toNat E.d).length))) = .a (.ref d 0 i.toNat) by simp [stV, stA]] at this
          exact this
        · refine ⟨rfl, fun hf => ⟨rfl, rfl⟩, rfl, by show (List.replicate i.toNat E.d).length = i.toNat; simp, fun i' r hi' hr => ?_⟩
          change i' < i.toNat at hi'; change r < ke at hr
          rw [ty_get]
          have hget : (List.replicate i.toNat E.d).getD i' E.d = E.d := by simp [List.getD, List.getElem?_replicate, hi']
          rw [hget]
          obtain ⟨zc, hzc⟩ : ∃ zc, z[r]? = some zc := ⟨_, List.getElem?_eq_getElem (by simpa [hzl] using hr)⟩
          have := hz2 r zc hzc
          rw [Nat.zero_add] at this
          show CSame (zrow z i' r) _
          rw [zrow_at hzc]; exact this
    · exact h.h _ _ _ kk
  · exact h.h _ _ _ kk

theorem bs_ok (hG : GOk P G) (hg : o.guard = none) (hd : okD N o.dst = true) {t n : Nat} {parts : Array (Nat × Operand)} (hop : o.op = .buildSlice t n parts) (kk : ∀ τ, k τ → AL P F N ops Q rest τ.er) (h : bsK P F N G o σ t n parts.toList k) : AL P F N ops Q (o :: rest) σ.er := by
  unfold bsK at h
  split at h
  · rename_i kt e ke bs zt d hp ht hdst
    split at h
    · rename_i E hed
      cases hb : (lkR σ.r d).isNone && Nat.blt d 1000000 with
      | false => rw [hb] at h; exact h.h _ _ _ kk
      | true =>
        rw [hb] at h
        simp only [cond_true] at h
        simp only [Bool.and_eq_true, blt_dec, decide_eq_true_eq] at hb
        refine AL.buildSl0D hG.T hop (by rw [← Array.toArray_toList (xs := parts), hp]) hg hdst (by simpa [hdst, okD] using hd) ht hb.2 (none_of hb.1) ?_
        exact new_ok (R0 := ⟨.own, true, e, ke, 0, fun _ _ => .any, []⟩) ⟨rfl, fun hf => ⟨rfl, rfl⟩, rfl, rfl, fun i r hi => absurd hi (Nat.not_lt_zero _)⟩ kk h
    · exact h.h _ _ _ kk
  · rename_i x kt e ke bs zt d hp ht hdst
    split at h
    · rename_i l ke' kd z hl he
      cases hb : (lkR σ.r d).isNone && Nat.blt d 1000000 && Nat.beq l.length ke && Nat.beq ke ke' && Nat.ble ke 16777216 && z.all ZC.ok with
      | false => rw [hb] at h; exact h.h _ _ _ kk
      | true =>
        rw [hb] at h
        simp only [cond_true] at h
        simp only [Bool.and_eq_true, blt_dec, beq_dec, ble_dec, decide_eq_true_eq] at hb
        obtain ⟨⟨⟨⟨⟨hb1, hb2⟩, hb3⟩, hb4⟩, hb5⟩, hzok⟩ := hb
        subst hb4
        have hzl := zall_ok hG.T he
        change z.length = ke at hzl
        have hlst := stV_atoms hl
        refine AL.buildSlD hG.T (qs := [(0 * ke, l)]) hop hg hdst (by simpa [hdst, okD] using hd) ht he hzok (by rw [hp]; exact ⟨by rw [hb3], by rw [evS_eq]; exact hl, trivial⟩) (by simp [fillOk, hb3]) (by omega) (by omega) hb2 (none_of hb1) ?_
        have hfill : fillA (zerosA z 1) [(0 * ke, l)] = l := by
          simp only [fillA, spl, zerosA, List.append_nil, Nat.zero_mul, List.take_zero, List.nil_append, Nat.zero_add]
          rw [List.drop_of_length_le (by simp [hzl, hb3])]; simp
        rw [hfill]
        refine new_ok (v := .a (.ref d 0 1)) (R := .litr e ke [l.map toTCl]) ?_ kk h
        have : (TRoot.litr e ke [l.map toTCl]).er = litR e ke 1 l := by
          simp only [TRoot.er, litR, List.map_cons, List.map_nil, List.flatten_cons, List.flatten_nil, List.append_nil, List.length_cons, List.length_nil, Nat.zero_add, toTCl_list hlst]
        rw [this]; exact RSim.rfl _
    · exact h.h _ _ _ kk
  · exact h.h _ _ _ kk

theorem lit_atoms {cs : List TCl} {κ : Nat} {vs : List Value} (h : litsA (cs.map (tclA κ 0 0)) = some vs) : ∀ (q : Nat) (c : TCl), cs[q]? = some c → ∃ v, vs[q]? = some v ∧ c.er = .cl (.lit v) := by
  have h1 := litsA_ok h
  intro q c hc
  have h2 : (cs.map (tclA κ 0 0))[q]? = some (tclA κ 0 0 c) := by rw [List.getElem?_map, hc]; rfl
  rw [h1, List.getElem?_map] at h2
  cases hv : vs[q]? with
  | none => rw [hv] at h2; cases h2
  | some v =>
    rw [hv] at h2; injection h2 with h2
    refine ⟨v, rfl, ?_⟩
    cases c with
    | ref a b n => cases h2
    | cl t =>
      cases t with
      | lit v' => injection h2 with h2; subst h2; rfl
      | any => cases h2
      | nil => cases h2
      | sl => cases h2

theorem ap1_ok (hG : GOk P G) (hE : F.nE ≤ 1000000) (hg : o.guard = none) {σ0 : TS} {s x : Operand} {t κ n κs e ke bs kt d' : Nat} {z : List ZC} (hop : o.op = .call { callee := .builtin .append, args := #[s, x], argTypes := #[t, t] }) (hdst : o.dst = some d') (hd : d' < N) (ht : G.T t = some ⟨kt, .sl e ke bs, z⟩)
    (hs : evS σ s = .a (.ref κ 0 n)) (hx : evS σ x = .a (.ref κs 0 1)) {k0 : TS → Prop} (k0k : OpK P F N o σ0 k0 → AL P F N ops Q (o :: rest) σ.er) (kk : ∀ τ, k τ → AL P F N ops Q rest τ.er) (h : ap1 P F N o σ0 σ κ n κs e ke bs d' k0 k) : AL P F N ops Q (o :: rest) σ.er := by
  unfold ap1 at h
  split at h
  · rename_i e' ke' X enc dec d xs es ks cs hR hS
    split at h
    · rename_i vs hvs
      split at h
      · rename_i x' hdec
        cases hb : Nat.beq e e' && Nat.beq ke ke' && Nat.beq ks ke && (Nat.blt κ 1000000 || Nat.ble 2000000 κ) && Nat.beq vs.length ke && Nat.beq cs.length ks with
        | false => rw [hb] at h; exact k0k h
        | true =>
          rw [hb] at h
          simp only [cond_true] at h
          simp only [Bool.and_eq_true, Bool.or_eq_true, Nat.ble_eq, blt_dec, beq_dec, decide_eq_true_eq] at hb
          obtain ⟨⟨⟨⟨⟨hb1, hb2⟩, hb3⟩, hb4⟩, hb5⟩, hb6⟩ := hb
          subst hb1 hb2 hb3
          obtain ⟨⟨hn⟩, ⟨hmx, hbs⟩, h⟩ := h
          obtain ⟨h, henc⟩ := encOk_ok h
          rw [dropK, fS_eq, setK_eq, putK_eq] at h
          have hRe := TS.rt_some hR
          have hSe := TS.rt_some hS
          refine AL.append1 hG.T hop hg (by simp [hdst, okD, hd]) ht (by rw [evS_eq, hs]; rfl) hRe rfl hn rfl rfl (by rw [evS_eq, hx]; rfl) hSe rfl (liveL_true _ _ _ _) (hb4.elim okK_lt (okK_big hE)) hmx hbs ?_
          rw [hdst]
          refine AL.le (le_lk (τ := ⟨(d', .a (.ref κ 0 (xs ++ [x']).length)) :: (σ.drop κ).t, (κ, .ty .own true e ks X enc dec d (xs ++ [x'])) :: erl (σ.drop κ).r κ⟩) (fun t' => .inr ?_) (fun κ' => ?_)) (kk _ h)
          · rw [lkT_cons]
            show _ = (((σ.er.drop κ).setR κ _).put d' _).tv t'
            rw [St.tv_put]
            by_cases e2 : t' = d'
            · simp [e2, stV, stA, hn]
            · simp only [e2, if_neg, not_false_eq_true, if_false]
              rw [← TS.tv_er, drop_tv]; rfl
          · rw [lkR_cons, lkR_erl]
            show OSim (if κ' = κ then some _ else (σ.er.drop κ).rt κ') _
            by_cases e2 : κ' = κ
            · rw [if_pos e2, if_pos e2]
              refine ⟨rfl, fun _ => ⟨rfl, rfl⟩, rfl, by show (xs ++ [x']).length = xs.length + 1; simp, fun i r hi hr => ?_⟩
              change i < xs.length + 1 at hi; change r < ks at hr
              rw [ty_get]
              show ClSim (look2 (mkop xs.length 0 ((atomsL (TRoot.litr es ks [cs]).er κs 0 0 ks).map fun x => (killA κ x).cl) ++ []) i r (.cl ((enc (xs.getD i d) r).er .own))) _
              rw [look2_mkop]
              by_cases hin : i = xs.length
              · subst hin
                have hl1 : ((atomsL (TRoot.litr es ks [cs]).er κs 0 0 ks).map fun x => (killA κ x).cl).length = ks := by simp [atomsL_len]
                rw [if_pos ⟨rfl, Nat.zero_le _, by omega⟩, Nat.sub_zero, List.getElem?_map, atomsL_at _ _ _ _ _ _ hr, Nat.zero_add]
                have hcs : ∃ c, cs[r]? = some c := ⟨_, List.getElem?_eq_getElem (by omega)⟩
                obtain ⟨c, hc⟩ := hcs
                obtain ⟨v, hv, hce⟩ := lit_atoms hvs r c hc
                have hat : (TRoot.litr es ks [cs]).er.atom κs 0 r = .lit v := by
                  unfold Root.atom
                  rw [litr_get hb6 hr, hc]
                  show (match c.er with | .ref a b n => At.ref a b n | .cl (.lit v) => .lit v | .cl (.sl _ _ _ _ _) => .spot κs 0 r | .cl _ => .any) = _
                  rw [hce]
                have he := henc r v hv
                rw [Nat.zero_add] at he
                have hgd : (xs ++ [x']).getD xs.length d = x' := by simp [List.getD]
                rw [hat, hgd, he]
                exact CSame.rfl _
              · rw [if_neg (by omega)]
                have hgd : (xs ++ [x']).getD i d = xs.getD i d := by
                  simp only [List.getD]; rw [List.getElem?_append_left (by omega)]
                rw [hgd]; exact CSame.rfl _
            · rw [if_neg e2, if_neg e2, if_neg e2]
              rw [← TS.rt_er, drop_rt]; exact OSim.rfl _
      · exact k0k h
    · exact k0k h
  · exact k0k h

theorem ap_ok (hG : GOk P G) (hE : F.nE ≤ 1000000) (hg : o.guard = none) (hd : okD N o.dst = true) {s x : Operand} {t t' : Nat} (htt : t' = t) (hop : o.op = .call { callee := .builtin .append, args := #[s, x], argTypes := #[t, t'] }) (kk : ∀ τ, k τ → AL P F N ops Q rest τ.er) (h : apK P F N G o σ s x t k) : AL P F N ops Q (o :: rest) σ.er := by
  subst htt
  unfold apK at h
  split at h
  · rename_i κ n κs m kt e ke bs z d' hs hx ht hdst
    split at h
    · split at h
      · exact ap1_ok hG hE hg hop hdst (by simpa [hdst, okD] using hd) ht hs hx (fun h => h.h _ _ _ kk) kk h
      · exact h.h _ _ _ kk
    · exact h.h _ _ _ kk
  · rename_i e0 k0 κs m kt e ke bs z d' hs hx ht hdst
    split at h
    rotate_left
    · exact h.h _ _ _ kk
    split at h
    rotate_left
    · exact h.h _ _ _ kk
    split at h
    · rename_i E ts hed
      cases hb : (lkR σ.r d').isNone && Nat.blt d' 1000000 with
      | false => rw [hb] at h; exact h.h _ _ _ kk
      | true =>
        rw [hb] at h
        simp only [cond_true] at h
        simp only [Bool.and_eq_true, blt_dec, decide_eq_true_eq] at hb
        rw [asK_eq, setK_eq] at h
        have hts : σ.er.tv ts = .a (.nil e0 k0) := by rw [TS.tv_er]; have : lkT σ.t ts = _ := hs; rw [this]; rfl
        refine AL.pre (fun a w ω β hr => hr.nilRoot e ke hts (okK_lt hb.2) (none_of hb.1)) ?_
        refine AL.le (le_lk (τ := ⟨(ts, .a (.ref d' 0 0)) :: erl σ.t ts, (d', .ty .own true e ke E.X E.enc E.dec E.d []) :: erl σ.r d'⟩) (fun t' => .inr ?_) (fun κ' => ?_)) ?_
        · rw [lkT_cons, lkT_erl, St.tv_put]
          by_cases e2 : t' = ts
          · simp [e2, stV, stA]
          · simp only [e2, if_neg, not_false_eq_true, if_false]; exact (TS.tv_er σ t').symm
        · rw [lkR_cons, lkR_erl]
          show OSim (if κ' = d' then some (nilR e ke) else σ.er.rt κ') _
          by_cases e2 : κ' = d'
          · rw [if_pos e2, if_pos e2]; exact ⟨rfl, fun hf => ⟨rfl, rfl⟩, rfl, rfl, fun i r hi => absurd hi (Nat.not_lt_zero _)⟩
          · rw [if_neg e2, if_neg e2, if_neg e2, TS.rt_er]; exact OSim.rfl _
        · have hxe : evS ⟨(ts, .a (.ref d' 0 0)) :: erl σ.t ts, (d', .ty .own true e ke E.X E.enc E.dec E.d []) :: erl σ.r d'⟩ x = .a (.ref κs 0 1) := by
            cases x with
            | tmp tx =>
              have hx' : lkT σ.t tx = .a (.ref κs 0 1) := hx
              have hne : tx ≠ ts := by
                rintro rfl
                have : lkT σ.t tx = .a (.nil e0 k0) := hs
                rw [this] at hx'; cases hx'
              show lkT ((ts, _) :: erl σ.t ts) tx = _
              rw [lkT_cons, lkT_erl, if_neg hne, if_neg hne]; exact hx'
            | _ => exact hx
          have hse : evS ⟨(ts, .a (.ref d' 0 0)) :: erl σ.t ts, (d', .ty .own true e ke E.X E.enc E.dec E.d []) :: erl σ.r d'⟩ (.tmp ts) = .a (.ref d' 0 0) := by
            show lkT ((ts, _) :: erl σ.t ts) ts = _
            rw [lkT_cons, if_pos rfl]
          exact ap1_ok hG hE hg hop hdst (by simpa [hdst, okD] using hd) ht hse hxe (fun h => h.h _ _ _ kk) kk h
    · exact h.h _ _ _ kk
  · exact h.h _ _ _ kk
end
end Go.Tr
