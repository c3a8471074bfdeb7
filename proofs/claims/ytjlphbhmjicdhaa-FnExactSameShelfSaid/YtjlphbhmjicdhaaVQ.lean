/- A whole slice of flat elements is appended. -/
import Derived.Test.YtjlphbhmjicdhaaVP
set_option linter.unusedVariables false
set_option linter.unusedSimpArgs false
universe u
namespace Go.Tr
open Go Go.RowKit
section
variable {P : Program} {F : Fm} {N : Nat} {G : Gt} {o : Oper} {σ : TS} {k : TS → Prop}
theorem OpK.apps (hG : GOk P G) {s x : Operand} {t κ n κs e e2 ke bs kt d' m : Nat} {z : List ZC} {X : Type} {enc enc2 : X → Nat → TC} {dec dec2 : List Value → Option X} {d d2 : X} {xs ys : List X} {f : Bool} {ro : RO} (hop : o.op = .call { callee := .builtin .append, args := #[s, x], argTypes := #[t, t] }) (hg : o.guard = none) (hdst : o.dst = some d') (hd : okD N o.dst = true)
    (ht : G.T t = some ⟨kt, .sl e ke bs, z⟩) (hs : evS σ s = .a (.ref κ 0 n)) (hR : lkR σ.r κ = some (.ty .own true e ke X enc dec d xs)) (hn : n = xs.length) (hx : evS σ x = .a (.ref κs 0 m)) (hS : lkR σ.r κs = some (.ty ro f e2 ke X enc2 dec2 d2 ys)) (hm : m = ys.length)
    (hfl : ∀ (x : X) (r : Nat), r < ke → ∃ v, enc x r = .lit v ∧ enc2 x r = .lit v) (hkk : Nat.blt κ 1000000 = true) (h63 : xs.length + m ≤ maxLen ∧ (xs.length + m) * bs ≤ 140737488355328)
    (h : dropK σ κ fun σ => setK σ κ (.ty .own true e ke X enc dec d (xs ++ ys)) fun σ => putK σ d' (.a (.ref κ 0 (xs ++ ys).length)) k) : OpK P F N o σ k := by
  subst hm
  refine ⟨fun ops Q rest kk => ?_⟩
  rw [dropK, fS_eq, setK_eq, putK_eq] at h
  simp only [blt_dec, decide_eq_true_eq] at hkk
  have hRe := TS.rt_some hR
  have hSe := TS.rt_some hS
  refine AL.appendL hG.T hop hg hd ht (by rw [evS_eq, hs]; rfl) hRe rfl hn rfl rfl rfl (by rw [evS_eq, hx]; rfl) hSe rfl rfl (fun _ _ _ _ => rfl) (okK_lt hkk) h63.1 h63.2 ?_
  rw [hdst]
  refine AL.le (le_lk (τ := ⟨(d', .a (.ref κ 0 (xs ++ ys).length)) :: (σ.drop κ).t, (κ, .ty .own true e ke X enc dec d (xs ++ ys)) :: erl (σ.drop κ).r κ⟩) (fun t' => .inr ?_) (fun κ' => ?_)) (kk _ h)
  · rw [lkT_cons]
    show _ = (((σ.er.drop κ).setR κ _).put d' _).tv t'
    rw [St.tv_put]
    by_cases e2 : t' = d'
    · simp [e2, stV, stA, hn]
    · simp only [e2, if_neg, not_false_eq_true, if_false]
      rw [← TS.tv_er, drop_tv]; rfl
  · rw [lkR_cons, lkR_erl]
    show OSim (if κ' = κ then some _ else (σ.er.drop κ).rt κ') _
    by_cases e2 : κ' = κ
    · rw [if_pos e2, if_pos e2]
      refine ⟨rfl, fun _ => ⟨rfl, rfl⟩, rfl, by show (xs ++ ys).length = xs.length + ys.length; simp, fun i r hi hr => ?_⟩
      change i < xs.length + ys.length at hi; change r < ke at hr
      rw [ty_get]
      show ClSim (.cl (if i < xs.length then (enc (xs.getD i d) r).er .own else flat ((enc2 (ys.getD (0 + (i - xs.length)) d2) r).er (owOf ro)))) _
      by_cases hin : i < xs.length
      · rw [if_pos hin]
        have hgd : (xs ++ ys).getD i d = xs.getD i d := by simp only [List.getD]; rw [List.getElem?_append_left hin]
        rw [hgd]; exact CSame.rfl _
      · rw [if_neg hin, Nat.zero_add]
        have hj : i - xs.length < ys.length := by omega
        have hgd : (xs ++ ys).getD i d = ys.getD (i - xs.length) d2 := by
          simp only [List.getD]; rw [List.getElem?_append_right (by omega), List.getElem?_eq_getElem hj]; rfl
        rw [hgd]
        obtain ⟨v, h1, h2⟩ := hfl (ys.getD (i - xs.length) d2) r hr
        rw [h1, h2]
        exact CSame.rfl _
    · rw [if_neg e2, if_neg e2, if_neg e2]
      rw [← TS.rt_er, drop_rt]; exact OSim.rfl _
end
end Go.Tr
