/- Arrays of truth values at an index that is not told; a nil slice that is grown. -/
import Derived.Test.YtjlphbhmjicdhaaVX
set_option linter.unusedVariables false
set_option linter.unusedSimpArgs false
universe u
namespace Go.Tr
open Go Go.RowKit
def arrRoot (e n : Nat) (bs : List Bool) : Root := ⟨.own, false, e, n, 1, fun _ r => .lit (.bool (bs.getD r false)), []⟩
/-- An array variable that holds these truth values. -/
def arrR (e n : Nat) (bs : List Bool) : TRoot := .raw (arrRoot e n bs)
section
variable {P : Program} {F : Fm} {N : Nat} {G : Gt} {o : Oper} {σ : TS} {k : TS → Prop} {Q : Exit → TS → Prop}
theorem OpK.ldA (hG : GOk P G) {t m e n κ r : Nat} {kd : TK} {z : List ZC} {x : Operand} {bs : List Bool} (hop : o.op = .load t x) (hg : o.guard = none) (hd : okD N o.dst = true) (hx : evS σ x = .ptr κ 0 r) (ht : G.T t = some ⟨m, kd, z⟩) (hk : scK kd = true) (hR : lkR σ.r κ = some (arrR e n bs)) (hr : r < n)
    (h : stO o σ (.a (.lit (.bool (bs.getD r false)))) k) : OpK P F N o σ k :=
  ⟨fun ops Q rest kk => AL.load1E hG.T hop hg hd (by rw [evS_eq, hx]; rfl) ht hk (TS.rt_some hR) Nat.zero_lt_one hr (c := .lit (.bool (bs.getD r false))) rfl rfl (stO_ok hd kk h)⟩
theorem OpK.stA (hG : GOk P G) {t e n κ r : Nat} {kd : TK} {z : List ZC} {x y : Operand} {bs : List Bool} {b : Bool} (hop : o.op = .store t x y) (hg : o.guard = none) (hd : o.dst = none) (hx : evS σ x = .ptr κ 0 r) (ht : G.T t = some ⟨1, kd, z⟩) (hy : evS σ y = .a (.lit (.bool b))) (hR : lkR σ.r κ = some (arrR e n bs)) (hr : r < n) (hn : n = bs.length)
    (h : setK σ κ (arrR e n (bs.set r b)) k) : OpK P F N o σ k := by
  rw [setK_eq] at h
  refine ⟨fun ops Q rest kk => ?_⟩
  have hye : (σ.er.ev y).atoms = some [.lit (.bool b)] := by rw [evS_eq, hy]; rfl
  refine AL.store hG.T hop hg hd (by rw [evS_eq, hx]; rfl) ht hye rfl (TS.rt_some hR) rfl Nat.zero_lt_one (show r + 1 ≤ n by omega) (liveL_true _ _ _ _) ?_
  refine AL.le (le_lk (τ := ⟨σ.t, (κ, arrR e n (bs.set r b)) :: erl σ.r κ⟩) (fun t' => .inr ?_) (fun κ' => ?_)) (kk _ h)
  · show _ = (look (σ.er.t.map fun p => (p.1, p.2.map (dimA κ) none)) t').getD .any
    rw [St.tv_map σ.er _ rfl, TS.tv_er, dim_st]
  · show OSim (if κ' = κ then some _ else σ.er.rt κ') _
    rw [lkR_cons, lkR_erl]
    by_cases e1 : κ' = κ
    · rw [if_pos e1, if_pos e1]
      have hw := wrL_same 0 ([At.lit (.bool b)].map At.cl) (arrRoot e n bs) r
      refine ⟨hw.1.symm, (fun hf => by cases hf), hw.2.2.2.1.symm, hw.2.2.2.2.symm, fun i r' hi hr' => ?_⟩
      have hi0 : i = 0 := by
        have : i < (arrRoot e n bs).n := by rw [← hw.2.2.2.2]; exact hi
        exact Nat.lt_one_iff.1 this
      subst hi0
      by_cases e2 : r' = r
      · subst e2
        rw [show ((arrR e n bs).er.wrL 0 r' ([At.lit (.bool b)].map At.cl)).get 0 r' = _ from get_wrL_eq _ _ _ ⟨Nat.le_refl _, by simp⟩, Nat.sub_self]
        show CSame (.lit (.bool b)) (.lit (.bool ((bs.set r' b).getD r' false)))
        have : (bs.set r' b).getD r' false = b := by simp [List.getD, show r' < bs.length by omega]
        rw [this]; exact CSame.rfl _
      · rw [show ((arrR e n bs).er.wrL 0 r ([At.lit (.bool b)].map At.cl)).get 0 r' = _ from get_wrL_out _ _ _ (by simp; omega)]
        show CSame (.lit (.bool (bs.getD r' false))) (.lit (.bool ((bs.set r b).getD r' false)))
        have : (bs.set r b).getD r' false = bs.getD r' false := by simp [List.getD, List.getElem?_set, show ¬ r = r' from fun e => e2 e.symm]
        rw [this]; exact CSame.rfl _
    · rw [if_neg e1, if_neg e1, if_neg e1, TS.rt_er]; exact OSim.rfl _
/-- An array variable is told as a list. -/
theorem CodeK.arr {c : Code} (hG : GOk P G) (hE : F.nE ≤ 1000000) {κ e : Nat} {cs : List TCl} (n : Nat) (hR : lkR σ.r κ = some (.box e cs)) (hcs : cs = List.replicate n (.cl (.lit (.bool false)))) (h : vcC P F N G c ⟨σ.t, (κ, arrR e n (List.replicate n false)) :: erl σ.r κ⟩ Q) : CodeK P F N c σ Q := by
  refine CodeK.le _ ?_ hG hE h
  refine le_lk (fun t => .inr (TS.tv_er σ t).symm) (fun κ' => ?_)
  rw [TS.rt_er, lkR_cons, lkR_erl]
  by_cases e1 : κ' = κ
  · subst e1
    rw [if_pos rfl, hR]
    subst hcs
    refine ⟨rfl, (fun hf => by cases hf), by simp [arrR, arrRoot, TRoot.er], rfl, fun i r hi hr => ?_⟩
    have hi0 : i = 0 := Nat.lt_one_iff.1 hi
    subst hi0
    have hr2 : r < n := by simpa [TRoot.er] using hr
    rw [box_get, List.getElem?_replicate, if_pos hr2]
    show CSame (.lit (.bool false)) (.lit (.bool ((List.replicate n false).getD r false)))
    have : (List.replicate n false).getD r false = false := by rw [List.getD_eq_getElem?_getD, List.getElem?_replicate]; split <;> rfl
    rw [this]; exact CSame.rfl _
  · rw [if_neg e1, if_neg e1]; exact OSim.rfl _
/-- A nil slice is told as an own row with nothing in it. -/
theorem CodeK.nilT {c : Code} (hG : GOk P G) (hE : F.nE ≤ 1000000) (ts d e ke : Nat) (X : Type) (enc : X → Nat → TC) (dec : List Value → Option X) (D : X) {e0 k0 : Nat} (hts : lkT σ.t ts = .a (.nil e0 k0)) (hd : lkR σ.r d = none) (hd' : d < 1000000) (h : vcC P F N G c ⟨(ts, .a (.ref d 0 0)) :: erl σ.t ts, (d, .ty .own true e ke X enc dec D []) :: erl σ.r d⟩ Q) : CodeK P F N c σ Q := by
  refine ⟨AC.nilRoot e ke (t := ts) (d := d) (e0 := e0) (k0 := k0) (by rw [TS.tv_er, hts]; rfl) hd' (by rw [TS.rt_er, hd]; rfl) ?_⟩
  refine AC.le (le_lk (τ := ⟨(ts, .a (.ref d 0 0)) :: erl σ.t ts, (d, .ty .own true e ke X enc dec D []) :: erl σ.r d⟩) (fun t' => .inr ?_) (fun κ' => ?_)) (vcC_ok hG hE h)
  · rw [lkT_cons, lkT_erl, St.tv_put]
    by_cases e2 : t' = ts
    · simp [e2, stV, stA]
    · simp only [e2, if_neg, not_false_eq_true, if_false]; exact (TS.tv_er σ t').symm
  · rw [lkR_cons, lkR_erl]
    show OSim (if κ' = d then some (nilR e ke) else σ.er.rt κ') _
    by_cases e2 : κ' = d
    · rw [if_pos e2, if_pos e2]; exact ⟨rfl, fun hf => ⟨rfl, rfl⟩, rfl, rfl, fun i r hi => absurd hi (Nat.not_lt_zero _)⟩
    · rw [if_neg e2, if_neg e2, if_neg e2, TS.rt_er]; exact OSim.rfl _
end
end Go.Tr
