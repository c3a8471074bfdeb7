/- A slice of an own row is opened ahead of a piece of code; it is loaded from the open cell. -/
import Derived.Test.YtnclkdpocjhphaaPB
set_option linter.unusedVariables false
set_option linter.unusedSimpArgs false
universe u
namespace Go.Tr
open Go Go.RowKit
section
variable {P : Program} {F : Fm} {N : Nat} {G : Gt} {o : Oper} {ops : Array Oper} {l : List Oper} {σ : TS} {k : TS → Prop} {Q : Exit → TS → Prop} {c : Code}
theorem open_le {key κ i r e kw e' k' : Nat} {full : Bool} {X Y : Type} {enc : X → Nat → TC} {dec : List Value → Option X} {d : X} {xs : List X} {enc' : Y → Nat → TC} {dec' : List Value → Option Y} {d' : Y} {ys : List Y}
    (hE : F.nE ≤ 1000000) (hR : lkR σ.r κ = some (.ty .own full e kw X enc dec d xs)) (hi : i < xs.length) (hr : r < kw)
    (hc : enc (xs.getD i d) r = .sl e' k' Y enc' dec' d' ys) (hkey : lkR σ.r key = none) (hkk : (Nat.blt key 1000000 || Nat.ble 2000000 key) = true) (hvw : noVw κ σ.r = true) :
    ∀ a w, Rel F N σ.er a w → Rel F N (TS.mk σ.t ((κ, .tyo full e kw X enc dec d xs i r key ys.length) :: (key, .ty .own true e' k' Y enc' dec' d' ys) :: erl σ.r κ)).er a w := by
  have hRe := TS.rt_some hR
  have hgR : (TRoot.ty .own full e kw X enc dec d xs).er.get i r = .cl (.sl .own e' k' ys.length (fun i r => (enc' (ys.getD i d') r).er .own)) := by
    rw [ty_get, hc]; rfl
  intro a w ⟨ω, β, hrel⟩
  obtain ⟨ω', β', h1, _⟩ := hrel.open_ hRe rfl hi hr hgR (okK_far' hE hkk) (by rw [TS.rt_er, hkey]; rfl) (fun κ' R' hR' => noVw_ok hvw κ' R' i r (by rw [← TS.rt_er]; exact hR'))
  refine ⟨ω', β', le_of_osim (fun t => ?_) (fun κ' => ?_) h1⟩
  · rfl
  · rw [rt_mk, lkR_cons, lkR_cons, lkR_erl]
    show OSim (if κ' = κ then some _ else if κ' = key then some _ else σ.er.rt κ') _
    by_cases e1 : κ' = κ
    · rw [if_pos e1, if_pos e1]; exact RSim.rfl _
    · rw [if_neg e1, if_neg e1]
      by_cases e2 : κ' = key
      · rw [if_pos e2, if_pos e2]; exact RSim.rfl _
      · rw [if_neg e2, if_neg e2, if_neg e1, TS.rt_er]; exact OSim.rfl _
theorem CodeK.open_ {id : Nat} (hG : GOk P G) (hE : F.nE ≤ 1000000) (key κ i r : Nat) {e kw e' k' : Nat} {full : Bool} {X Y : Type} {enc : X → Nat → TC} {dec : List Value → Option X} {d : X} {xs : List X} {enc' : Y → Nat → TC} {dec' : List Value → Option Y} {d' : Y} {ys : List Y}
    (hR : lkR σ.r κ = some (.ty .own full e kw X enc dec d xs)) (hi : i < xs.length) (hr : r < kw)
    (hc : enc (xs.getD i d) r = .sl e' k' Y enc' dec' d' ys) (hkey : lkR σ.r key = none) (hkk : (Nat.blt key 1000000 || Nat.ble 2000000 key) = true) (hvw : noVw κ σ.r = true)
    (h : fS ⟨σ.t, (κ, .tyo full e kw X enc dec d xs i r key ys.length) :: (key, .ty .own true e' k' Y enc' dec' d' ys) :: erl σ.r κ⟩ fun σ => CodeK P F N (.region id ops true) σ Q) : CodeK P F N (.region id ops true) σ Q := by
  rw [fS_eq] at h
  exact ⟨fun a w hr' => h.h a w (open_le hE hR hi hr hc hkey hkk hvw a w hr')⟩
/-- The open slice is loaded. -/
theorem OpK.ldO (hG : GOk P G) {t m κ i r e kw key n : Nat} {kd : TK} {z : List ZC} {x : Operand} {full : Bool} {X : Type} {enc : X → Nat → TC} {dec : List Value → Option X} {d : X} {xs : List X}
    (hop : o.op = .load t x) (hg : o.guard = none) (hd : okD N o.dst = true) (hx : evS σ x = .ptr κ i r) (ht : G.T t = some ⟨m, kd, z⟩) (hk : scK kd = true) (hR : lkR σ.r κ = some (.tyo full e kw X enc dec d xs i r key n)) (hi : i < xs.length) (hr : r < kw)
    (h : stO o σ (.a (.ref key 0 n)) k) : OpK P F N o σ k := by
  refine ⟨fun ops Q rest kk => ?_⟩
  have hat : (TRoot.tyo full e kw X enc dec d xs i r key n).er.atom κ i r = .ref key 0 n := by
    unfold Root.atom
    show (match look2 [((i, r), Cl.ref key 0 n)] i r _ with | .ref κ' lo n => At.ref κ' lo n | .cl (.lit v) => .lit v | .cl (.sl _ _ _ _ _) => .spot κ i r | .cl _ => .any) = _
    simp [look2]
  refine AL.load1 hG.T hop hg hd (by rw [evS_eq, hx]; rfl) ht hk (TS.rt_some hR) hi hr rfl ?_
  rw [hat]
  exact stO_ok hd kk h
end
end Go.Tr
