/- A slice that lies in an element of an own row is opened, to be written, and closed again. -/
import Derived.Test.YtjlphbhmjicdhaaVZ
set_option linter.unusedVariables false
set_option linter.unusedSimpArgs false
universe u
namespace Go.Tr
open Go Go.RowKit
theorem okK_far' {F : Fm} (hE : F.nE ≤ 1000000) {κ : Nat} (h : (Nat.blt κ 1000000 || Nat.ble 2000000 κ) = true) : okK F κ := by
  simp only [Bool.or_eq_true, Nat.ble_eq, blt_dec, decide_eq_true_eq] at h
  intro ρ hρ e; omega
section
variable {P : Program} {F : Fm} {N : Nat} {G : Gt} {o : Oper} {σ : TS} {k : TS → Prop}
theorem ListO.open_ (hG : GOk P G) (hE : F.nE ≤ 1000000) {ops : Array Oper} {l : List Oper} (key : Nat) {t m κ i r e kw e' k' dd : Nat} {kd : TK} {z : List ZC} {x : Operand} {full : Bool} {X Y : Type} {enc : X → Nat → TC} {dec : List Value → Option X} {d : X} {xs : List X} {enc' : Y → Nat → TC} {dec' : List Value → Option Y} {d' : Y} {ys : List Y}
    (hop : o.op = .load t x) (hg : o.guard = none) (hdst : o.dst = some dd) (hd : Nat.blt dd N = true) (hx : evS σ x = .ptr κ i r) (ht : G.T t = some ⟨m, kd, z⟩) (hk : scK kd = true) (hR : lkR σ.r κ = some (.ty .own full e kw X enc dec d xs)) (hi : i < xs.length) (hr : r < kw)
    (hc : enc (xs.getD i d) r = .sl e' k' Y enc' dec' d' ys) (hkey : lkR σ.r key = none) (hkk : (Nat.blt key 1000000 || Nat.ble 2000000 key) = true) (hvw : noVw κ σ.r = true)
    (h : fS ⟨(dd, .a (.ref key 0 ys.length)) :: σ.t, (κ, .tyo full e kw X enc dec d xs i r key ys.length) :: (key, .ty .own true e' k' Y enc' dec' d' ys) :: erl σ.r κ⟩ fun σ => vcL P F N G ops l σ k) : ListO P F N ops (o :: l) σ k := by
  refine ⟨fun Q kk => ?_⟩
  rw [fS_eq] at h
  simp only [blt_dec, decide_eq_true_eq] at hd
  have hRe := TS.rt_some hR
  have hne : κ ≠ key := by rintro rfl; rw [hkey] at hR; cases hR
  have hgR : (TRoot.ty .own full e kw X enc dec d xs).er.get i r = .cl (.sl .own e' k' ys.length (fun i r => (enc' (ys.getD i d') r).er .own)) := by
    rw [ty_get, hc]; rfl
  -- the state with the cell open
  have hopen : ∀ a w, Rel F N σ.er a w → Rel F N (TS.mk σ.t ((κ, .tyo full e kw X enc dec d xs i r key ys.length) :: (key, .ty .own true e' k' Y enc' dec' d' ys) :: erl σ.r κ)).er a w := by
    intro a w ⟨ω, β, hrel⟩
    obtain ⟨ω', β', h1, _⟩ := hrel.open_ hRe rfl hi hr hgR (okK_far' hE hkk) (by rw [TS.rt_er, hkey]; rfl) (fun κ' R' hR' => noVw_ok hvw κ' R' i r (by rw [← TS.rt_er]; exact hR'))
    refine ⟨ω', β', le_of_osim (fun t => ?_) (fun κ' => ?_) h1⟩
    · rfl
    · rw [rt_mk, lkR_cons, lkR_cons, lkR_erl]
      show OSim (if κ' = κ then some _ else if κ' = key then some _ else σ.er.rt κ') _
      by_cases e1 : κ' = κ
      · rw [if_pos e1, if_pos e1]; exact RSim.rfl _
      · rw [if_neg e1, if_neg e1]
        by_cases e2 : κ' = key
        · rw [if_pos e2, if_pos e2]; exact RSim.rfl _
        · rw [if_neg e2, if_neg e2, if_neg e1, TS.rt_er]; exact OSim.rfl _
  have hRo : (TS.mk σ.t ((κ, .tyo full e kw X enc dec d xs i r key ys.length) :: (key, .ty .own true e' k' Y enc' dec' d' ys) :: erl σ.r κ)).er.rt κ = some (TRoot.tyo full e kw X enc dec d xs i r key ys.length).er := by
    rw [rt_mk, lkR_cons, if_pos rfl]; rfl
  have hat : (TRoot.tyo full e kw X enc dec d xs i r key ys.length).er.atom κ i r = .ref key 0 ys.length := by
    unfold Root.atom
    show (match look2 [((i, r), Cl.ref key 0 ys.length)] i r _ with | .ref κ' lo n => At.ref κ' lo n | .cl (.lit v) => .lit v | .cl (.sl _ _ _ _ _) => .spot κ i r | .cl _ => .any) = _
    simp [look2]
  have hevx : (TS.mk σ.t ((κ, .tyo full e kw X enc dec d xs i r key ys.length) :: (key, .ty .own true e' k' Y enc' dec' d' ys) :: erl σ.r κ)).er.ev x = .ptr κ i r := by
    rw [evS_eq, show evS (TS.mk σ.t _) x = evS σ x by cases x <;> rfl, hx]; rfl
  have hld : AL P F N ops Q (o :: l) (TS.mk σ.t ((κ, .tyo full e kw X enc dec d xs i r key ys.length) :: (key, .ty .own true e' k' Y enc' dec' d' ys) :: erl σ.r κ)).er := by
    refine AL.load1 hG.T hop hg (by rw [hdst]; simpa [okD] using hd) hevx ht hk hRo hi hr rfl ?_
    rw [hat, hdst]
    exact vcL_ok hG hE kk h
  exact fun a w hr => hld a w (hopen a w hr)
/-- The open slice goes back into its element. -/
def closeT (σ : TS) (κ key : Nat) (full : Bool) (e kw : Nat) (X : Type) (enc : X → Nat → TC) (dec : List Value → Option X) (d : X) (xs : List X) : TS := ⟨(σ.drop key).t, (κ, .ty .own full e kw X enc dec d xs) :: erl (σ.drop key).r κ⟩
theorem close_le {κ key i r n e kw e' k' : Nat} {full : Bool} {X Y : Type} {enc : X → Nat → TC} {dec : List Value → Option X} {d : X} {xs : List X} {enc' : Y → Nat → TC} {dec' : List Value → Option Y} {d' : Y} {ys : List Y} (x' : X)
    (hR : lkR σ.r κ = some (.tyo full e kw X enc dec d xs i r key n)) (hD : lkR σ.r key = some (.ty .own true e' k' Y enc' dec' d' ys)) (hn : n = ys.length) (hne : Nat.beq κ key = false) (hv : noVw key σ.r = true) (hi : i < xs.length) (hr : r < kw)
    (hx : enc x' r = .sl e' k' Y enc' dec' d' ys) (ho : ∀ r', r' < kw → r' ≠ r → enc x' r' = enc (xs.getD i d) r') : leT σ (closeT σ κ key full e kw X enc dec d (xs.set i x')) := by
  subst hn
  have hne' : κ ≠ key := by simpa [beq_dec] using hne
  intro F N a w ⟨ω, β, h⟩
  have hg : (TRoot.tyo full e kw X enc dec d xs i r key ys.length).er.get i r = .ref key 0 ys.length := by
    show look2 [((i, r), Cl.ref key 0 ys.length)] i r _ = _
    simp [look2]
  obtain ⟨ω', h1⟩ := h.close (TS.rt_some hR) hi hr (d := key) (n := ys.length) hg (TS.rt_some hD) hne' rfl rfl (fun κ' R' i' r' hR' => noVw_ok hv κ' R' i' r' (by rw [← TS.rt_er]; exact hR'))
  refine ⟨ω', β, le_of_osim (fun t => ?_) (fun κ' => ?_) h1⟩
  · exact drop_tv σ key t
  · show OSim _ ((TS.mk (σ.drop key).t ((κ, .ty .own full e kw X enc dec d (xs.set i x')) :: erl (σ.drop key).r κ)).er.rt κ')
    rw [rt_mk, lkR_cons, lkR_erl]
    show OSim ((St.drop _ key).rt κ') _
    rw [St.rt_drop]
    by_cases e1 : κ' = key
    · rw [if_pos e1]
      have e2 : κ' ≠ κ := fun h => hne' (h.symm.trans e1)
      rw [if_neg e2, if_neg e2, ← rt_mk (σ.drop key).t, drop_rt, St.rt_drop, if_pos e1]
      trivial
    · rw [if_neg e1]
      show OSim (((if κ' = κ then some _ else σ.er.rt κ') : Option Root).map (Root.kill key)) _
      by_cases e2 : κ' = κ
      · rw [if_pos e2, if_pos e2]
        refine ⟨rfl, fun hf => ⟨hf, rfl⟩, rfl, ?_, fun i' r' hi' hr' => ?_⟩
        · show (xs.set i x').length = xs.length; simp
        · change i' < xs.length at hi'; change r' < kw at hr'
          have hgk := Root.get_kill key { (TRoot.tyo full e kw X enc dec d xs i r key ys.length).er with op := ((i, r), .cl ((TRoot.ty .own true e' k' Y enc' dec' d' ys).er.shutN ys.length)) :: (TRoot.tyo full e kw X enc dec d xs i r key ys.length).er.op } i' r'
          rw [hgk, ty_get, ty_set_get enc d x' xs i i' r' hi]
          have hget : ({ (TRoot.tyo full e kw X enc dec d xs i r key ys.length).er with op := ((i, r), .cl ((TRoot.ty .own true e' k' Y enc' dec' d' ys).er.shutN ys.length)) :: (TRoot.tyo full e kw X enc dec d xs i r key ys.length).er.op } : Root).get i' r' = if r' = r ∧ i' = i then .cl ((TRoot.ty .own true e' k' Y enc' dec' d' ys).er.shutN ys.length) else .cl ((enc (xs.getD i' d) r').er .own) := by
            show look2 [((i, r), _), ((i, r), Cl.ref key 0 ys.length)] i' r' _ = _
            simp only [look2]
            by_cases a1 : r' = r
            · by_cases a2 : i' = i
              · simp [a1, a2]
              · simp only [a1, a2, if_true, if_false, and_false]; rfl
            · simp only [a1, if_false, false_and]; rfl
          rw [hget]
          by_cases a1 : r' = r ∧ i' = i
          · obtain ⟨rfl, rfl⟩ := a1
            rw [if_pos ⟨rfl, rfl⟩, if_pos rfl, hx]
            exact CSame.rfl _
          · rw [if_neg a1]
            by_cases a2 : i' = i
            · subst a2
              rw [if_pos rfl, ho r' hr' (fun h => a1 ⟨h, rfl⟩)]; exact CSame.rfl _
            · rw [if_neg a2]; exact CSame.rfl _
      · rw [if_neg e2, if_neg e2, if_neg e2, ← rt_mk (σ.drop key).t, drop_rt, St.rt_drop, if_neg e1]
        exact OSim.rfl _
theorem ListO.close (hG : GOk P G) (hE : F.nE ≤ 1000000) {ops : Array Oper} {l : List Oper} {κ key i r n e kw e' k' : Nat} {full : Bool} {X Y : Type} {enc : X → Nat → TC} {dec : List Value → Option X} {d : X} {xs : List X} {enc' : Y → Nat → TC} {dec' : List Value → Option Y} {d' : Y} {ys : List Y} (x' : X)
    (hR : lkR σ.r κ = some (.tyo full e kw X enc dec d xs i r key n)) (hD : lkR σ.r key = some (.ty .own true e' k' Y enc' dec' d' ys)) (hn : n = ys.length) (hne : Nat.beq κ key = false) (hv : noVw key σ.r = true) (hi : i < xs.length) (hr : r < kw)
    (hx : enc x' r = .sl e' k' Y enc' dec' d' ys) (ho : ∀ r', r' < kw → r' ≠ r → enc x' r' = enc (xs.getD i d) r') (h : fS (closeT σ κ key full e kw X enc dec d (xs.set i x')) fun σ => vcL P F N G ops l σ k) : ListO P F N ops l σ k := by
  rw [fS_eq] at h
  exact ⟨fun Q kk a w hr' => vcL_ok hG hE kk h a w (close_le x' hR hD hn hne hv hi hr hx ho _ _ _ _ hr')⟩
end
end Go.Tr
