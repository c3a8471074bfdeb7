/- Rows whose cells are told ahead: a header that is told as a value becomes a row again. -/
import Derived.Test.YtbfkdbbgbdihdabVZ
set_option linter.unusedVariables false
set_option linter.unusedSimpArgs false
universe u
namespace Go.Tr
open Go Go.RowKit
/-- A header whose row is told, cell for cell. -/
structure RowTold (hc : Hc) (A : Option Addr) (n c k : Nat) (X : Type) (enc : X → Nat → TC) (d : X) (xs : List X) : Prop where
  len : n = xs.length
  le : n ≤ c
  mx : c ≤ maxLen
  nn : A = none → c = 0
  at_ : 0 < n → ∃ g o, A = some ⟨g, o, none⟩ ∧ ∀ i r, i < n → r < k → ∃ v, enc (xs.getD i d) r = .lit v ∧ hc g (o + (i * k + r)) v
section
variable {P : Program} {F : Fm} {N : Nat} {G : Gt} {o : Oper} {σ : TS} {k : TS → Prop}
theorem AmbF.tell {hc : Hc} (hA : AmbF hc F) {t κ e kw n c : Nat} {A : Option Addr} {X : Type} {enc : X → Nat → TC} {dec : List Value → Option X} {d : X} {xs : List X} (hT : RowTold hc A n c kw X enc d xs) (ht : lkT σ.t t = .a (.lit (.slice A n c))) (hκ : lkR σ.r κ = none) (hkk : okK F κ) {a : Act} {w : World} (hr : Rel F N σ.er a w) :
    Rel F N (TS.mk ((t, .a (.ref κ 0 n)) :: erl σ.t t) ((κ, .ty .fro false e kw X enc dec d xs) :: σ.r)).er a w := by
  obtain ⟨ω, β, h⟩ := hr
  classical
  have hω : ∀ g j x, ω g j = some x → (if ∃ v, hc g j v then some Wh.fro else ω g j) = some x := by
    intro g j x hx
    by_cases hh : ∃ v, hc g j v
    · obtain ⟨v, hv⟩ := hh
      rw [if_pos ⟨v, hv⟩, (hA.at_ h hv).2.2.2 x hx]
    · rw [if_neg hh]; exact hx
  have hrt : ∀ κ', (TS.mk ((t, .a (.ref κ 0 n)) :: erl σ.t t) ((κ, .ty .fro false e kw X enc dec d xs) :: σ.r)).er.rt κ' = if κ' = κ then some (TRoot.ty .fro false e kw X enc dec d xs).er else σ.er.rt κ' := by
    intro κ'
    rw [TS.rt_er, lkR_cons]
    by_cases e1 : κ' = κ
    · rw [if_pos e1, if_pos e1]; rfl
    · rw [if_neg e1, if_neg e1, TS.rt_er]
  have hnone : σ.er.rt κ = none := by rw [TS.rt_er, hκ]; rfl
  have hs : ∀ κ' R, σ.er.rt κ' = some R → (if κ' = κ then (⟨A, c⟩ : Bs) else β κ') = β κ' ∧ (TS.mk ((t, .a (.ref κ 0 n)) :: erl σ.t t) ((κ, .ty .fro false e kw X enc dec d xs) :: σ.r)).er.rt κ' = some R := by
    intro κ' R hR
    have hne : κ' ≠ κ := by rintro rfl; rw [hnone] at hR; cases hR
    rw [hrt, if_neg hne, if_neg hne]; exact ⟨rfl, hR⟩
  refine ⟨fun g j => if ∃ v, hc g j v then some .fro else ω g j, fun κ' => if κ' = κ then ⟨A, c⟩ else β κ', h.tsz, h.dfr, fun t' => ?_, fun κ' R hR => ?_, fun b j x hx => ?_, h.fr, fun b j hx => ?_, fun ρ R hρ hR => ?_⟩
  · rw [TS.tv_er, lkT_cons, lkT_erl]
    by_cases e1 : t' = t
    · subst e1
      rw [if_pos rfl]
      have h1 := h.tmps t'
      rw [TS.tv_er, ht] at h1
      obtain ⟨h1, _⟩ := h1
      rw [h1]
      refine ⟨_, by rw [hrt, if_pos rfl], ?_, A, c, rfl, hT.le, hT.mx, hT.nn, (fun _ => by dsimp only; rw [if_pos rfl]; exact ⟨rfl, rfl⟩), fun hp => ?_⟩
      · show 0 + n ≤ xs.length; rw [hT.len]; omega
      · obtain ⟨g, o', e2, _⟩ := hT.at_ hp
        refine ⟨g, o', by dsimp only; rw [if_pos rfl]; exact e2, by rw [e2]; simp⟩
    · rw [if_neg e1, if_neg e1]
      have h1 := h.tmps t'
      rw [TS.tv_er] at h1
      exact VRel.same (fun x u hx => ARel.grow hs (fun _ _ _ h => h) hx) (fun κ' R hR => ⟨(hs κ' R hR).1, R, (hs κ' R hR).2, rfl⟩) h1
  · by_cases he : κ' = κ
    · subst he
      rw [hrt, if_pos rfl] at hR
      injection hR with hR; subst hR
      refine ⟨fun i r hi hr _ => ?_, fun hf => by cases hf⟩
      change i < xs.length at hi; change r < kw at hr
      obtain ⟨g, o', e2, e3⟩ := hT.at_ (by rw [hT.len]; omega)
      obtain ⟨v, e4, e5⟩ := e3 i r (by rw [hT.len]; exact hi) hr
      obtain ⟨e6, e7, _, e8⟩ := hA.at_ h e5
      refine ⟨g, o' + (i * kw + r), v, ⟨o', by (try dsimp only); rw [if_pos rfl]; exact e2, rfl⟩, e6, ?_, (fun ho => by cases ho), ?_⟩
      · show (if ∃ v, hc g (o' + (i * kw + r)) v then some Wh.fro else _) = _
        rw [if_pos ⟨v, e5⟩]
      · show CellRel _ _ _ _ _ _ _ _ _
        unfold CellRel
        rw [ty_get, e4]
        exact ⟨rfl, e7⟩
    · rw [hrt, if_neg he] at hR
      refine (h.roots κ' R hR).upd (fun i r κ2 lo n _ u hu => ?_) (hs κ' R hR).1 (Meta.refl w) (fun b j x hx _ => ⟨hω b j x hx, rfl⟩)
      obtain ⟨R2, hR2, h1⟩ := hu
      exact ⟨R2, (hs _ _ hR2).2, by dsimp only; rw [(hs _ _ hR2).1]; exact h1⟩
  · (try dsimp only at hx)
    split at hx
    · rename_i hh; obtain ⟨v, hv⟩ := hh
      injection hx with hx; subst hx
      exact ⟨(hA.at_ h hv).2.2.1, fun hne => absurd rfl hne⟩
    · exact h.wr b j x hx
  · (try dsimp only at hx)
    split at hx
    · rename_i hh; obtain ⟨v, hv⟩ := hh; exact (hA b j v hv).2.2.2
    · exact h.fz b j hx
  · have hne : 1000000 + ρ ≠ κ := fun e => hkk ρ hρ e.symm
    rw [hrt, if_neg hne] at hR
    show (if 1000000 + ρ = κ then _ else _) = _
    rw [if_neg hne]; exact h.ex ρ R hρ hR
theorem okK_far (hE : F.nE ≤ 1000000) {κ : Nat} (h : (Nat.blt κ 1000000 || Nat.ble 2000000 κ) = true) : okK F κ := by
  simp only [Bool.or_eq_true, Nat.ble_eq, blt_dec, decide_eq_true_eq] at h
  intro ρ hρ e; omega
theorem OpK.tell (hG : GOk P G) {hc : Hc} (hA : AmbF hc F) (hE : F.nE ≤ 1000000) (t κ e : Nat) {kw n c : Nat} {A : Option Addr} {X : Type} {enc : X → Nat → TC} (dec : List Value → Option X) {d : X} {xs : List X} (hT : RowTold hc A n c kw X enc d xs) (ht : lkT σ.t t = .a (.lit (.slice A n c))) (hκ : lkR σ.r κ = none) (hkk : (Nat.blt κ 1000000 || Nat.ble 2000000 κ) = true)
    (hg : o.guard = none) (hd : okD N o.dst = true) (h : vcO P F N G o ⟨(t, .a (.ref κ 0 n)) :: erl σ.t t, (κ, .ty .fro false e kw X enc dec d xs) :: σ.r⟩ k) : OpK P F N o σ k :=
  ⟨fun ops Q rest kk a w hr => vcO_ok hG hE hg hd kk h a w (hA.tell hT ht hκ (okK_far hE hkk) hr)⟩
theorem ListK.tell (hG : GOk P G) {hc : Hc} (hA : AmbF hc F) (hE : F.nE ≤ 1000000) {ops : Array Oper} {l : List Oper} (t κ e : Nat) {kw n c : Nat} {A : Option Addr} {X : Type} {enc : X → Nat → TC} (dec : List Value → Option X) {d : X} {xs : List X} (hT : RowTold hc A n c kw X enc d xs) (ht : lkT σ.t t = .a (.lit (.slice A n c))) (hκ : lkR σ.r κ = none) (hkk : (Nat.blt κ 1000000 || Nat.ble 2000000 κ) = true)
    (h : vcL P F N G ops l ⟨(t, .a (.ref κ 0 n)) :: erl σ.t t, (κ, .ty .fro false e kw X enc dec d xs) :: σ.r⟩ k) : ListK P F N ops l σ k :=
  ⟨fun Q kk a w hr => vcL_ok hG hE kk h a w (hA.tell hT ht hκ (okK_far hE hkk) hr)⟩
theorem CodeK.tell (hG : GOk P G) {hc : Hc} (hA : AmbF hc F) (hE : F.nE ≤ 1000000) {cd : Code} {Q : Exit → TS → Prop} (t κ e : Nat) {kw n c : Nat} {A : Option Addr} {X : Type} {enc : X → Nat → TC} (dec : List Value → Option X) {d : X} {xs : List X} (hT : RowTold hc A n c kw X enc d xs) (ht : lkT σ.t t = .a (.lit (.slice A n c))) (hκ : lkR σ.r κ = none) (hkk : (Nat.blt κ 1000000 || Nat.ble 2000000 κ) = true)
    (h : vcC P F N G cd ⟨(t, .a (.ref κ 0 n)) :: erl σ.t t, (κ, .ty .fro false e kw X enc dec d xs) :: σ.r⟩ Q) : CodeK P F N cd σ Q :=
  ⟨fun a w hr => vcC_ok hG hE h a w (hA.tell hT ht hκ (okK_far hE hkk) hr)⟩
/-- On with the operations. -/
theorem ListK.go (hG : GOk P G) (hE : F.nE ≤ 1000000) {ops : Array Oper} {l : List Oper} (h : vcG P F N G ops o σ fun σ => vcL P F N G ops l σ k) : ListK P F N ops (o :: l) σ k :=
  ⟨fun Q kk => vcG_ok hG hE (fun τ hτ => vcL_ok hG hE kk hτ) h⟩
/-- The length that a header tells. -/
theorem PK.lenL (hG : GOk P G) {x : Operand} {t e ke bs kt n c : Nat} {z : List ZC} {A : Option Addr} {kv : V → Prop} (hop : o.op = .call { callee := .builtin .len, args := #[x], argTypes := #[t] }) (hx : evS σ x = .a (.lit (.slice A n c))) (ht : G.T t = some ⟨kt, .sl e ke bs, z⟩) (h : kv (.a (.lit (.int .i64 n)))) : PK P F N o σ kv := by
  refine ⟨_, h, fun a w ω β hr => ?_⟩
  obtain ⟨h1, _⟩ := (hG.T t _ ht).kind
  have ex : a.eval x = .slice A n c := ev_lit hr (by rw [evS_eq, hx]; rfl)
  refine ⟨.int .i64 n, fun w' => ?_, VRel.lit rfl⟩
  generalize a.eval = ρ at ex ⊢
  simp [execOp, hop, go_sem, ex, resolve, invoke, builtin, Builtin.len_, underlying, h1, goInt]
theorem OpK.capL (hG : GOk P G) {x : Operand} {t e ke bs kt n c : Nat} {z : List ZC} {A : Option Addr} (hop : o.op = .call { callee := .builtin .cap, args := #[x], argTypes := #[t] }) (hg : o.guard = none) (hd : okD N o.dst = true) (hx : evS σ x = .a (.lit (.slice A n c))) (ht : G.T t = some ⟨kt, .sl e ke bs, z⟩) (h : stO o σ (.a (.lit (.int .i64 c))) k) : OpK P F N o σ k :=
  ⟨fun ops Q rest kk => AL.val hg hd (fun a w ω β hr => by
    obtain ⟨h1, _⟩ := (hG.T t _ ht).kind
    have ex : a.eval x = .slice A n c := ev_lit hr (by rw [evS_eq, hx]; rfl)
    refine ⟨.int .i64 c, ?_, VRel.lit rfl⟩
    generalize a.eval = ρ at ex ⊢
    simp [execOp, hop, go_sem, ex, resolve, invoke, builtin, Builtin.cap_, underlying, h1, goInt]) (stO_ok hd kk h)⟩
/-- Nothing of nothing. -/
theorem PK.sliceL (hG : GOk P G) {x : Operand} {hi : Option Operand} {t e ke bs kt : Nat} {z : List ZC} {kv : V → Prop} (hop : o.op = .slice t x none hi none) (hx : evS σ x = .a (.lit (.slice none 0 0))) (hhi : hi = none ∨ ∃ y ki, hi = some y ∧ evS σ y = .a (.lit (.int ki 0))) (ht : G.T t = some ⟨kt, .sl e ke bs, z⟩) (h : kv (.a (.lit (.slice none 0 0)))) : PK P F N o σ kv := by
  refine ⟨_, h, fun a w ω β hr => ?_⟩
  obtain ⟨h1, inf, zv, h2, h3, _⟩ := (hG.T t _ ht).kind
  have ex : a.eval x = .slice none 0 0 := ev_lit hr (by rw [evS_eq, hx]; rfl)
  refine ⟨.slice none 0 0, fun w' => ?_, VRel.lit rfl⟩
  rcases hhi with rfl | ⟨y, ki, rfl, hy⟩
  · generalize a.eval = ρ at ex ⊢
    simp [execOp, hop, go_sem, ex, Instr.sliceAt, Instr.slice, Instr.sliceBounds, Instr.sliceBound, underlying, h1, sizeOf, typeInfo, h2]
  · have ey : a.eval y = .int ki 0 := ev_lit hr (by rw [evS_eq, hy]; rfl)
    generalize a.eval = ρ at ex ey ⊢
    simp [execOp, hop, go_sem, ex, ey, Instr.sliceAt, Instr.slice, Instr.sliceBounds, Instr.sliceBound, asIntOf, underlying, h1, sizeOf, typeInfo, h2]
end
end Go.Tr
