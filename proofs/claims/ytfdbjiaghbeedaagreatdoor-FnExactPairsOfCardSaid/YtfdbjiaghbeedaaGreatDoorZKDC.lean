import Derived.Test.YtfdbjiaghbeedaaGreatDoorVZ
import Derived.Lib.AppendZerosOnto
import Derived.Test.YtfdbjiaghbeedaaGreatDoorZKDA
import Derived.Test.YtfdbjiaghbeedaaGreatDoorZKDB
import Derived.Test.YtfdbjiaghbeedaaGreatDoorChecked
import Derived.Test.YtfdbjiaghbeedaaGreatDoorTie
import Derived.Lib.LaidTab
import Derived.LaidMore
import Derived.Below
import Derived.Laws.Rows
import Derived.Test.YtfdbjiaghbeedaaGreatDoorVP
section
/- Rows whose cells are told ahead: a header that is told as a value becomes a row again. -/
set_option linter.unusedVariables false
set_option linter.unusedSimpArgs false
universe u
namespace Go.Tr
open Go Go.RowKit
/-- A header whose row is told, cell for cell. -/
structure RowTold (hc : Hc) (A : Option Addr) (n c k : Nat) (X : Type) (enc : X → Nat → TC) (d : X) (xs : List X) : Prop where
  len : n = xs.length
  le : n ≤ c
  mx : c ≤ maxLen
  nn : A = none → c = 0
  at_ : 0 < n → ∃ g o, A = some ⟨g, o, none⟩ ∧ ∀ i r, i < n → r < k → ∃ v, enc (xs.getD i d) r = .lit v ∧ hc g (o + (i * k + r)) v
section
variable {P : Program} {F : Fm} {N : Nat} {G : Gt} {o : Oper} {σ : TS} {k : TS → Prop}
theorem AmbF.tell {hc : Hc} (hA : AmbF hc F) {t κ e kw n c : Nat} {A : Option Addr} {X : Type} {enc : X → Nat → TC} {dec : List Value → Option X} {d : X} {xs : List X} (hT : RowTold hc A n c kw X enc d xs) (ht : lkT σ.t t = .a (.lit (.slice A n c))) (hκ : lkR σ.r κ = none) (hkk : okK F κ) {a : Act} {w : World} (hr : Rel F N σ.er a w) :
    Rel F N (TS.mk ((t, .a (.ref κ 0 n)) :: erl σ.t t) ((κ, .ty .fro false e kw X enc dec d xs) :: σ.r)).er a w := by
  obtain ⟨ω, β, h⟩ := hr
  classical
  have hω : ∀ g j x, ω g j = some x → (if ∃ v, hc g j v then some Wh.fro else ω g j) = some x := by
    intro g j x hx
    by_cases hh : ∃ v, hc g j v
    · obtain ⟨v, hv⟩ := hh
      rw [if_pos ⟨v, hv⟩, (hA.at_ h hv).2.2.2 x hx]
    · rw [if_neg hh]; exact hx
  have hrt : ∀ κ', (TS.mk ((t, .a (.ref κ 0 n)) :: erl σ.t t) ((κ, .ty .fro false e kw X enc dec d xs) :: σ.r)).er.rt κ' = if κ' = κ then some (TRoot.ty .fro false e kw X enc dec d xs).er else σ.er.rt κ' := by
    intro κ'
    rw [TS.rt_er, lkR_cons]
    by_cases e1 : κ' = κ
    · rw [if_pos e1, if_pos e1]; rfl
    · rw [if_neg e1, if_neg e1, TS.rt_er]
  have hnone : σ.er.rt κ = none := by rw [TS.rt_er, hκ]; rfl
  have hs : ∀ κ' R, σ.er.rt κ' = some R → (if κ' = κ then (⟨A, c⟩ : Bs) else β κ') = β κ' ∧ (TS.mk ((t, .a (.ref κ 0 n)) :: erl σ.t t) ((κ, .ty .fro false e kw X enc dec d xs) :: σ.r)).er.rt κ' = some R := by
    intro κ' R hR
    have hne : κ' ≠ κ := by rintro rfl; rw [hnone] at hR; cases hR
    rw [hrt, if_neg hne, if_neg hne]; exact ⟨rfl, hR⟩
  refine ⟨fun g j => if ∃ v, hc g j v then some .fro else ω g j, fun κ' => if κ' = κ then ⟨A, c⟩ else β κ', h.tsz, h.dfr, fun t' => ?_, fun κ' R hR => ?_, fun b j x hx => ?_, h.fr, fun b j hx => ?_, fun ρ R hρ hR => ?_⟩
  · rw [TS.tv_er, lkT_cons, lkT_erl]
    by_cases e1 : t' = t
    · subst e1
      rw [if_pos rfl]
      have h1 := h.tmps t'
      rw [TS.tv_er, ht] at h1
      obtain ⟨h1, _⟩ := h1
      rw [h1]
      refine ⟨_, by rw [hrt, if_pos rfl], ?_, A, c, rfl, hT.le, hT.mx, hT.nn, (fun _ => by dsimp only; rw [if_pos rfl]; exact ⟨rfl, rfl⟩), fun hp => ?_⟩
      · show 0 + n ≤ xs.length; rw [hT.len]; omega
      · obtain ⟨g, o', e2, _⟩ := hT.at_ hp
        refine ⟨g, o', by dsimp only; rw [if_pos rfl]; exact e2, by rw [e2]; simp⟩
    · rw [if_neg e1, if_neg e1]
      have h1 := h.tmps t'
      rw [TS.tv_er] at h1
      exact VRel.same (fun x u hx => ARel.grow hs (fun _ _ _ h => h) hx) (fun κ' R hR => ⟨(hs κ' R hR).1, R, (hs κ' R hR).2, rfl⟩) h1
  · by_cases he : κ' = κ
    · subst he
      rw [hrt, if_pos rfl] at hR
      injection hR with hR; subst hR
      refine ⟨fun i r hi hr _ => ?_, fun hf => by cases hf⟩
      change i < xs.length at hi; change r < kw at hr
      obtain ⟨g, o', e2, e3⟩ := hT.at_ (by rw [hT.len]; omega)
      obtain ⟨v, e4, e5⟩ := e3 i r (by rw [hT.len]; exact hi) hr
      obtain ⟨e6, e7, _, e8⟩ := hA.at_ h e5
      refine ⟨g, o' + (i * kw + r), v, ⟨o', by (try dsimp only); rw [if_pos rfl]; exact e2, rfl⟩, e6, ?_, (fun ho => by cases ho), ?_⟩
      · show (if ∃ v, hc g (o' + (i * kw + r)) v then some Wh.fro else _) = _
        rw [if_pos ⟨v, e5⟩]
      · show CellRel _ _ _ _ _ _ _ _ _
        unfold CellRel
        rw [ty_get, e4]
        exact ⟨rfl, e7⟩
    · rw [hrt, if_neg he] at hR
      refine (h.roots κ' R hR).upd (fun i r κ2 lo n _ u hu => ?_) (hs κ' R hR).1 (Meta.refl w) (fun b j x hx _ => ⟨hω b j x hx, rfl⟩)
      obtain ⟨R2, hR2, h1⟩ := hu
      exact ⟨R2, (hs _ _ hR2).2, by dsimp only; rw [(hs _ _ hR2).1]; exact h1⟩
  · (try dsimp only at hx)
    split at hx
    · rename_i hh; obtain ⟨v, hv⟩ := hh
      injection hx with hx; subst hx
      exact ⟨(hA.at_ h hv).2.2.1, fun hne => absurd rfl hne⟩
    · exact h.wr b j x hx
  · (try dsimp only at hx)
    split at hx
    · rename_i hh; obtain ⟨v, hv⟩ := hh; exact (hA b j v hv).2.2.2
    · exact h.fz b j hx
  · have hne : 1000000 + ρ ≠ κ := fun e => hkk ρ hρ e.symm
    rw [hrt, if_neg hne] at hR
    show (if 1000000 + ρ = κ then _ else _) = _
    rw [if_neg hne]; exact h.ex ρ R hρ hR
theorem okK_far (hE : F.nE ≤ 1000000) {κ : Nat} (h : (Nat.blt κ 1000000 || Nat.ble 2000000 κ) = true) : okK F κ := by
  simp only [Bool.or_eq_true, Nat.ble_eq, blt_dec, decide_eq_true_eq] at h
  intro ρ hρ e; omega
theorem OpK.tell (hG : GOk P G) {hc : Hc} (hA : AmbF hc F) (hE : F.nE ≤ 1000000) (t κ e : Nat) {kw n c : Nat} {A : Option Addr} {X : Type} {enc : X → Nat → TC} (dec : List Value → Option X) {d : X} {xs : List X} (hT : RowTold hc A n c kw X enc d xs) (ht : lkT σ.t t = .a (.lit (.slice A n c))) (hκ : lkR σ.r κ = none) (hkk : (Nat.blt κ 1000000 || Nat.ble 2000000 κ) = true)
    (hg : o.guard = none) (hd : okD N o.dst = true) (h : vcO P F N G o ⟨(t, .a (.ref κ 0 n)) :: erl σ.t t, (κ, .ty .fro false e kw X enc dec d xs) :: σ.r⟩ k) : OpK P F N o σ k :=
  ⟨fun ops Q rest kk a w hr => vcO_ok hG hE hg hd kk h a w (hA.tell hT ht hκ (okK_far hE hkk) hr)⟩
theorem ListK.tell (hG : GOk P G) {hc : Hc} (hA : AmbF hc F) (hE : F.nE ≤ 1000000) {ops : Array Oper} {l : List Oper} (t κ e : Nat) {kw n c : Nat} {A : Option Addr} {X : Type} {enc : X → Nat → TC} (dec : List Value → Option X) {d : X} {xs : List X} (hT : RowTold hc A n c kw X enc d xs) (ht : lkT σ.t t = .a (.lit (.slice A n c))) (hκ : lkR σ.r κ = none) (hkk : (Nat.blt κ 1000000 || Nat.ble 2000000 κ) = true)
    (h : vcL P F N G ops l ⟨(t, .a (.ref κ 0 n)) :: erl σ.t t, (κ, .ty .fro false e kw X enc dec d xs) :: σ.r⟩ k) : ListK P F N ops l σ k :=
  ⟨fun Q kk a w hr => vcL_ok hG hE kk h a w (hA.tell hT ht hκ (okK_far hE hkk) hr)⟩
theorem CodeK.tell (hG : GOk P G) {hc : Hc} (hA : AmbF hc F) (hE : F.nE ≤ 1000000) {cd : Code} {Q : Exit → TS → Prop} (t κ e : Nat) {kw n c : Nat} {A : Option Addr} {X : Type} {enc : X → Nat → TC} (dec : List Value → Option X) {d : X} {xs : List X} (hT : RowTold hc A n c kw X enc d xs) (ht : lkT σ.t t = .a (.lit (.slice A n c))) (hκ : lkR σ.r κ = none) (hkk : (Nat.blt κ 1000000 || Nat.ble 2000000 κ) = true)
    (h : vcC P F N G cd ⟨(t, .a (.ref κ 0 n)) :: erl σ.t t, (κ, .ty .fro false e kw X enc dec d xs) :: σ.r⟩ Q) : CodeK P F N cd σ Q :=
  ⟨fun a w hr => vcC_ok hG hE h a w (hA.tell hT ht hκ (okK_far hE hkk) hr)⟩
/-- On with the operations. -/
theorem ListK.go (hG : GOk P G) (hE : F.nE ≤ 1000000) {ops : Array Oper} {l : List Oper} (h : vcG P F N G ops o σ fun σ => vcL P F N G ops l σ k) : ListK P F N ops (o :: l) σ k :=
  ⟨fun Q kk => vcG_ok hG hE (fun τ hτ => vcL_ok hG hE kk hτ) h⟩
/-- The length that a header tells. -/
theorem PK.lenL (hG : GOk P G) {x : Operand} {t e ke bs kt n c : Nat} {z : List ZC} {A : Option Addr} {kv : V → Prop} (hop : o.op = .call { callee := .builtin .len, args := #[x], argTypes := #[t] }) (hx : evS σ x = .a (.lit (.slice A n c))) (ht : G.T t = some ⟨kt, .sl e ke bs, z⟩) (h : kv (.a (.lit (.int .i64 n)))) : PK P F N o σ kv := by
  refine ⟨_, h, fun a w ω β hr => ?_⟩
  obtain ⟨h1, _⟩ := (hG.T t _ ht).kind
  have ex : a.eval x = .slice A n c := ev_lit hr (by rw [evS_eq, hx]; rfl)
  refine ⟨.int .i64 n, fun w' => ?_, VRel.lit rfl⟩
  generalize a.eval = ρ at ex ⊢
  simp [execOp, hop, go_sem, ex, resolve, invoke, builtin, Builtin.len_, underlying, h1, goInt]
theorem OpK.capL (hG : GOk P G) {x : Operand} {t e ke bs kt n c : Nat} {z : List ZC} {A : Option Addr} (hop : o.op = .call { callee := .builtin .cap, args := #[x], argTypes := #[t] }) (hg : o.guard = none) (hd : okD N o.dst = true) (hx : evS σ x = .a (.lit (.slice A n c))) (ht : G.T t = some ⟨kt, .sl e ke bs, z⟩) (h : stO o σ (.a (.lit (.int .i64 c))) k) : OpK P F N o σ k :=
  ⟨fun ops Q rest kk => AL.val hg hd (fun a w ω β hr => by
    obtain ⟨h1, _⟩ := (hG.T t _ ht).kind
    have ex : a.eval x = .slice A n c := ev_lit hr (by rw [evS_eq, hx]; rfl)
    refine ⟨.int .i64 c, ?_, VRel.lit rfl⟩
    generalize a.eval = ρ at ex ⊢
    simp [execOp, hop, go_sem, ex, resolve, invoke, builtin, Builtin.cap_, underlying, h1, goInt]) (stO_ok hd kk h)⟩
/-- Nothing of nothing. -/
theorem PK.sliceL (hG : GOk P G) {x : Operand} {hi : Option Operand} {t e ke bs kt : Nat} {z : List ZC} {kv : V → Prop} (hop : o.op = .slice t x none hi none) (hx : evS σ x = .a (.lit (.slice none 0 0))) (hhi : hi = none ∨ ∃ y ki, hi = some y ∧ evS σ y = .a (.lit (.int ki 0))) (ht : G.T t = some ⟨kt, .sl e ke bs, z⟩) (h : kv (.a (.lit (.slice none 0 0)))) : PK P F N o σ kv := by
  refine ⟨_, h, fun a w ω β hr => ?_⟩
  obtain ⟨h1, inf, zv, h2, h3, _⟩ := (hG.T t _ ht).kind
  have ex : a.eval x = .slice none 0 0 := ev_lit hr (by rw [evS_eq, hx]; rfl)
  refine ⟨.slice none 0 0, fun w' => ?_, VRel.lit rfl⟩
  rcases hhi with rfl | ⟨y, ki, rfl, hy⟩
  · generalize a.eval = ρ at ex ⊢
    simp [execOp, hop, go_sem, ex, Instr.sliceAt, Instr.slice, Instr.sliceBounds, Instr.sliceBound, underlying, h1, sizeOf, typeInfo, h2]
  · have ey : a.eval y = .int ki 0 := ev_lit hr (by rw [evS_eq, hy]; rfl)
    generalize a.eval = ρ at ex ey ⊢
    simp [execOp, hop, go_sem, ex, ey, Instr.sliceAt, Instr.slice, Instr.sliceBounds, Instr.sliceBound, asIntOf, underlying, h1, sizeOf, typeInfo, h2]
end
end Go.Tr
end

section
/- Rows of values: literals, appends, append of a make. -/
set_option linter.unusedVariables false
set_option linter.unusedSimpArgs false
universe u
namespace Go.Tr
open Go Go.RowKit
/-- A header: where, how long, how far. -/
abbrev Hdr := Option Addr × Nat × Nat
def encH (x : Hdr) (_ : Nat) : TC := .lit (.slice x.1 x.2.1 x.2.2)
def decH : List Value → Option Hdr
  | [.slice A n c] => some (A, n, c)
  | _ => none
def dH : Hdr := (none, 0, 0)
/-- A row of headers, told as values. -/
def tH (e : Nat) (xs : List Hdr) : TC := .sl e 1 Hdr encH decH dH xs
abbrev rH (o : RO) (f : Bool) (e : Nat) (xs : List Hdr) : TRoot := .ty o f e 1 Hdr encH decH dH xs
/-- A contract that gives nil gives an empty row. -/
theorem RunH.nilOut {P : Program} {hc : Hc} {f : FuncId} {args : List TAg} {ext ext' : List TX} (e kw : Nat) (X : Type) (enc : X → Nat → TC) (dec : List Value → Option X) (d : X) (h : RunH P hc f args ext [.one (.lit (.slice none 0 0))] ext') : RunH P hc f args ext [.one (.sl e kw X enc dec d [])] ext' := by
  refine ⟨h.fn, fun w q A cargs he ha => (h.run w q A cargs he ha).mono fun e' w' hx => ?_⟩
  obtain ⟨us, outs, ext0, q', h1, ⟨rfl, rfl⟩, hx⟩ := hx
  refine ⟨us, _, _, q', h1, ⟨rfl, rfl⟩, hx.size, fun i x hi => ?_, hx.ext, hx.lt, hx.fr⟩
  cases i with
  | succ i => simp at hi
  | zero =>
    injection hi with hi; subst hi
    obtain ⟨u, h2, h3⟩ := hx.outs 0 _ rfl
    obtain ⟨rfl, _⟩ := h3
    exact ⟨_, h2, none, 0, rfl, Nat.le_refl _, Nat.zero_le _, .inl ⟨rfl, rfl⟩⟩
section
variable {P : Program} {F : Fm} {N : Nat} {G : Gt} {o : Oper} {σ : TS} {k : TS → Prop}
theorem OpK.bs2 (hG : GOk P G) {t e bs kt d : Nat} {kd : TK} {zt z : List ZC} {x y : Operand} {A1 A2 : Option Addr} {n1 n2 c1 c2 : Nat} (hop : o.op = .buildSlice t 2 #[(0, x), (1, y)]) (hg : o.guard = none) (hdst : o.dst = some d) (hd : okD N o.dst = true) (ht : G.T t = some ⟨kt, .sl e 1 bs, zt⟩) (he : G.T e = some ⟨1, kd, z⟩) (hz : z.all ZC.ok = true)
    (hx : evS σ x = .a (.lit (.slice A1 n1 c1))) (hy : evS σ y = .a (.lit (.slice A2 n2 c2))) (hf : (lkR σ.r d).isNone = true) (hdd : d < 1000000) (h : setK σ d (rH .own true e [(A1, n1, c1), (A2, n2, c2)]) fun σ => putK σ d (.a (.ref d 0 2)) k) : OpK P F N o σ k := by
  refine ⟨fun ops Q rest kk => ?_⟩
  have hzl := zall_ok hG.T he
  change z.length = 1 at hzl
  obtain ⟨zc, rfl⟩ : ∃ zc, z = [zc] := by
    match z, hzl with
    | [zc], _ => exact ⟨zc, rfl⟩
  refine AL.buildSlD hG.T (qs := [(0, [.lit (.slice A1 n1 c1)]), (1, [.lit (.slice A2 n2 c2)])]) hop hg hdst (by simpa [hdst, okD] using hd) ht he hz ⟨rfl, by rw [evS_eq, hx]; rfl, rfl, by rw [evS_eq, hy]; rfl, trivial⟩ rfl (by decide) (by decide) hdd (none_of hf) ?_
  refine new_ok (v := .a (.ref d 0 2)) (R := rH .own true e [(A1, n1, c1), (A2, n2, c2)]) ?_ kk h
  show RSim (litR e 1 2 [.lit (.slice A1 n1 c1), .lit (.slice A2 n2 c2)]) _
  refine ⟨rfl, fun _ => ⟨rfl, rfl⟩, rfl, rfl, fun i r hi hr => ?_⟩
  change i < 2 at hi; change r < 1 at hr
  have hr0 : r = 0 := by omega
  subst hr0
  have hget := litR_get 1 (c := .cl .any) 2 [At.cl (.lit (.slice A1 n1 c1)), At.cl (.lit (.slice A2 n2 c2))] [] i 0 rfl hi (by decide)
  rw [List.append_nil] at hget
  show ClSim (look2 (litR.mkops 1 2 [At.cl (.lit (.slice A1 n1 c1)), At.cl (.lit (.slice A2 n2 c2))]) i 0 (.cl .any)) _
  rw [hget]
  have : i = 0 ∨ i = 1 := by omega
  rcases this with rfl | rfl <;> exact CSame.rfl _
/-- A whole slice of flat elements is appended; the row may be one that a call gave. -/
theorem OpK.apps2 (hG : GOk P G) (hE : F.nE ≤ 1000000) {s x : Operand} {t κ n κs e e2 ke bs kt d' m : Nat} {z : List ZC} {X : Type} {enc enc2 : X → Nat → TC} {dec dec2 : List Value → Option X} {d d2 : X} {xs ys : List X} {f : Bool} {ro : RO} (hop : o.op = .call { callee := .builtin .append, args := #[s, x], argTypes := #[t, t] }) (hg : o.guard = none) (hdst : o.dst = some d') (hd : okD N o.dst = true)
    (ht : G.T t = some ⟨kt, .sl e ke bs, z⟩) (hs : evS σ s = .a (.ref κ 0 n)) (hR : lkR σ.r κ = some (.ty .own true e ke X enc dec d xs)) (hn : n = xs.length) (hx : evS σ x = .a (.ref κs 0 m)) (hS : lkR σ.r κs = some (.ty ro f e2 ke X enc2 dec2 d2 ys)) (hm : m = ys.length)
    (hfl : ∀ (x : X) (r : Nat), r < ke → ∃ v, enc x r = .lit v ∧ enc2 x r = .lit v) (hkk : (Nat.blt κ 1000000 || Nat.ble 2000000 κ) = true) (h63 : xs.length + m ≤ maxLen ∧ (xs.length + m) * bs ≤ 140737488355328)
    (h : dropK σ κ fun σ => setK σ κ (.ty .own true e ke X enc dec d (xs ++ ys)) fun σ => putK σ d' (.a (.ref κ 0 (xs ++ ys).length)) k) : OpK P F N o σ k := by
  subst hm
  refine ⟨fun ops Q rest kk => ?_⟩
  rw [dropK, fS_eq, setK_eq, putK_eq] at h
  have hRe := TS.rt_some hR
  have hSe := TS.rt_some hS
  refine AL.appendL hG.T hop hg hd ht (by rw [evS_eq, hs]; rfl) hRe rfl hn rfl rfl rfl (by rw [evS_eq, hx]; rfl) hSe rfl rfl (fun _ _ _ _ => rfl) (okK_far hE hkk) h63.1 h63.2 ?_
  rw [hdst]
  refine AL.le (le_lk (τ := ⟨(d', .a (.ref κ 0 (xs ++ ys).length)) :: (σ.drop κ).t, (κ, .ty .own true e ke X enc dec d (xs ++ ys)) :: erl (σ.drop κ).r κ⟩) (fun t' => .inr ?_) (fun κ' => ?_)) (kk _ h)
  · rw [lkT_cons]
    show _ = (((σ.er.drop κ).setR κ _).put d' _).tv t'
    rw [St.tv_put]
    by_cases e2 : t' = d'
    · simp [e2, stV, Tr.stA, hn]
    · simp only [e2, if_neg, not_false_eq_true, if_false]
      rw [← TS.tv_er, drop_tv]; rfl
  · rw [lkR_cons, lkR_erl]
    show OSim (if κ' = κ then some _ else (σ.er.drop κ).rt κ') _
    by_cases e2 : κ' = κ
    · rw [if_pos e2, if_pos e2]
      refine ⟨rfl, fun _ => ⟨rfl, rfl⟩, rfl, by show (xs ++ ys).length = xs.length + ys.length; simp, fun i r hi hr => ?_⟩
      change i < xs.length + ys.length at hi; change r < ke at hr
      rw [ty_get]
      show ClSim (.cl (if i < xs.length then (enc (xs.getD i d) r).er .own else flat ((enc2 (ys.getD (0 + (i - xs.length)) d2) r).er (owOf ro)))) _
      by_cases hin : i < xs.length
      · rw [if_pos hin]
        have hgd : (xs ++ ys).getD i d = xs.getD i d := by simp only [List.getD]; rw [List.getElem?_append_left hin]
        rw [hgd]; exact CSame.rfl _
      · rw [if_neg hin, Nat.zero_add]
        have hj : i - xs.length < ys.length := by omega
        have hgd : (xs ++ ys).getD i d = ys.getD (i - xs.length) d2 := by
          simp only [List.getD]; rw [List.getElem?_append_right (by omega), List.getElem?_eq_getElem hj]; rfl
        rw [hgd]
        obtain ⟨v, h1, h2⟩ := hfl (ys.getD (i - xs.length) d2) r hr
        rw [h1, h2]
        exact CSame.rfl _
    · rw [if_neg e2, if_neg e2, if_neg e2]
      rw [← TS.rt_er, drop_rt]; exact OSim.rfl _
/-- The append of a make to nothing: m empty headers. -/
theorem OpK.growZ (hG : GOk P G) {s x : Operand} {t tn e bs kt d' : Nat} {kn : IntKind} {m : Nat} {zt : List ZC} {kd : TK} {ee ek : Nat} (hop : o.op = .call { callee := .builtin .append, args := #[s, x], argTypes := #[t, tn] }) (hg : o.guard = none) (hdst : o.dst = some d') (hd : okD N o.dst = true)
    (ht : G.T t = some ⟨kt, .sl e 1 bs, zt⟩) (he : G.T e = some ⟨1, kd, [.sl ee ek]⟩) (htn : P.underlying tn = some (.int kn)) (hs : evS σ s = .a (.lit (.slice none 0 0))) {i : Int} (hx : evS σ x = .a (.lit (.int .i64 i))) (hi : i = (m : Int)) (hm : 0 < m) (hmx : m ≤ maxLen ∧ m * bs ≤ 140737488355328) (hf : (lkR σ.r d').isNone = true) (hdd : d' < 1000000)
    (h : setK σ d' (rH .own true e (List.replicate m dH)) fun σ => putK σ d' (.a (.ref d' 0 m)) k) : OpK P F N o σ k := by
  subst hi
  refine ⟨fun ops Q rest kk => ?_⟩
  obtain ⟨h1, inf, zv, h2, h3, h4, h5, h6, h7, hzo⟩ := (hG.T t _ ht).kind
  have hF := hG.T e _ he
  obtain ⟨inf', zv', g3, g4, g5, g6⟩ := hF.info
  rw [h2] at g3; injection g3 with g3; subst g3
  rw [h5] at g5; injection g5 with g5; subst g5
  simp only [blt_dec, decide_eq_true_eq] at *
  have hzc : zv.cells = #[Value.slice none 0 0] := by apply Array.toList_inj.1; rw [g6]; rfl
  have hs1 : inf.size = 1 := h3
  have hge := fun w : World => grownCap_ge w (0 + m) 0 e
  have hle := fun w : World => grownCap_le_maxLen w (0 + m) 0 e (by rw [Nat.zero_add]; exact hmx.1)
  have hcel : ∀ n : Nat, Builtin.zeroCells zv.cells n = Array.replicate n (Value.slice none 0 0) := by
    intro n
    rw [hzc]
    apply Array.ext_getElem?
    intro i
    simp only [Builtin.zeroCells, List.size_toArray, List.length_cons, List.length_nil, Nat.zero_add, Nat.mul_one, Nat.mod_one, Array.getElem?_map, Array.getElem?_range, Array.getElem?_replicate]
    split <;> rfl
  refine AL.step (σ' := σ.er.setR d' ⟨.own, true, e, 1, m, fun _ _ => .lit (.slice none 0 0), []⟩) (v := .a (.ref d' 0 m)) hg hd (fun a w ω β hr => ?_) ?_
  · have hr1 := (hr.drew).alloc (okK_lt hdd) (none_of hf) (cs := #[] ++ Builtin.zeroCells zv.cells m ++ Builtin.zeroCells zv.cells (grownCap w (0 + m) 0 e - (0 + m))) (e := e) (cap := grownCap w (0 + m) 0 e) (R := ⟨.own, true, e, 1, m, fun _ _ => .lit (.slice none 0 0), []⟩) rfl (fun i r hi hr _ => ?_) (fun _ => ⟨fun _ _ _ _ => rfl, rfl, by have := hge w; show m ≤ _; omega, hle w, ?_, ?_⟩)
    · refine ⟨.slice (some ⟨w.heap.size, 0, none⟩) (0 + m) (grownCap w (0 + m) 0 e), _, _, _, ?_, hr1, ?_⟩
      · have e1 : a.eval s = .slice none 0 0 := ev_lit hr (by rw [evS_eq, hs]; rfl)
        have e2 : a.eval x = .int .i64 m := ev_lit hr (by rw [evS_eq, hx]; rfl)
        have hrun := Lib.run_append_grow_zeros (P := P) w t tn o.type e inf zv .i64 kn h1 htn h2 h5 none 0 0 [] (run_firstCells_none w.drew inf.size 0 0 0) m hm (by rw [hs1]; decide) (by omega) (by have := hmx.1; unfold maxLen at this; omega) (by rw [h4]; have := hmx.2; omega) (growslice_fits (by omega) (by rw [Nat.zero_add, h4]; exact hmx.2))
        generalize a.eval = ρ at e1 e2 ⊢
        simp [execOp, hop, resolve, invoke, builtin, e1, e2, hrun]
      · refine ⟨⟨.own, true, e, 1, m, fun _ _ => .lit (.slice none 0 0), []⟩, by show (if d' = d' then _ else _) = _; rw [if_pos rfl], by show 0 + m ≤ m; omega, some ⟨w.heap.size, 0, none⟩, grownCap w (0 + m) 0 e, by rw [Nat.zero_add], by have := hge w; omega, hle w, (by intro e; cases e), fun _ => by simp, fun _ => ⟨w.heap.size, 0, by simp, by simp⟩⟩
    · change i < m at hi; change r < 1 at hr
      refine ⟨.slice none 0 0, ?_, rfl, rfl⟩
      rw [hcel, hcel]
      show (#[] ++ Array.replicate m _ ++ Array.replicate _ _)[i * 1 + r]? = _
      have hr0 : r = 0 := by omega
      subst hr0
      rw [Array.getElem?_append_left (by simp; omega)]
      simp [Array.getElem?_replicate, hi]
    · rw [hcel, hcel]
      have := hge w
      simp only [Nat.zero_add] at *
      simp
      omega
    · intro j u hu
      rw [Array.getElem?_append] at hu
      split at hu
      · rw [Array.getElem?_append] at hu
        split at hu
        · simp at hu
        · exact zo_mod hzo (.inr (by rw [hzc]; decide)) hu
      · exact zo_mod hzo (.inr (by rw [hzc]; decide)) hu
  · rw [hdst]
    refine new_ok (v := .a (.ref d' 0 m)) (R := rH .own true e (List.replicate m dH)) ?_ kk h
    refine ⟨rfl, fun _ => ⟨rfl, rfl⟩, rfl, by show (List.replicate m dH).length = m; simp, fun i r hi hr => ?_⟩
    change i < m at hi
    rw [ty_get]
    have : (List.replicate m dH).getD i dH = dH := by rw [List.getD_eq_getElem?_getD, List.getElem?_replicate]; split <;> rfl
    rw [this]
    exact CSame.rfl _
end
end Go.Tr
end

section
namespace Go.Proofs.YtfdbjiaghbeedaaGreatDoor
open Go Go.Tr
set_option maxRecDepth 100000
set_option maxHeartbeats 4000000
set_option linter.unusedVariables false
set_option linter.unusedSimpArgs false
theorem Grow_run (n : Nat) (hn : n ≤ 1048576) : RunT Tryz.prog 224 [.one (.c (.lit (.slice none 0 0))), ti n] [] [.one (tH 135 [])] [] := by
  refine RunH.toT ?_
  by_cases h0 : n = 0
  · subst h0
    refine RunH.nilOut _ _ _ _ _ _ ?_
    refine RunH.of_vc gOk Tryz.func224 rfl rfl (Nat.le_of_ble_eq_true rfl) (by repeat' (first | exact trivial | exact ⟨_, rfl, Nat.le_refl _⟩ | exact Nat.le_of_ble_eq_true rfl | refine And.intro ?_ ?_)) (Nat.le_of_ble_eq_true rfl) rfl (fun F hE hA => ?_)
    repeat' (first | exact trivial | refine BS.d (fun h => ?_) (fun h => ?_) | refine BS.e (fun h => ?_) (fun h => ?_) | refine BS.ne (fun h => ?_) (fun h => ?_) | refine BS.n ?_ | refine BS.s (fun h => ?_) (fun h => ?_) | refine And.intro ?_ ?_ | (refine Need.mk ?_; first | with_reducible rfl | (show @Eq TC _ _; rfl) | omega | (simp only [adN_zero]; omega)) | exact OutS.whole rfl rfl | (refine ListK.go gOk hE ?_) | (refine PK.lenL gOk rfl rfl rfl ?_) | (refine OpK.capL gOk rfl rfl rfl rfl rfl ?_) | refine ListO.go gOk hE ?_)
    all_goals first | (exfalso; simp at *; done) | trace_state
  · refine RunH.of_vc gOk Tryz.func224 rfl rfl (Nat.le_of_ble_eq_true rfl) (by repeat' (first | exact trivial | exact ⟨_, rfl, Nat.le_refl _⟩ | exact Nat.le_of_ble_eq_true rfl | refine And.intro ?_ ?_)) (Nat.le_of_ble_eq_true rfl) rfl (fun F hE hA => ?_)
    repeat' (first | exact trivial | refine BS.d (fun h => ?_) (fun h => ?_) | refine BS.e (fun h => ?_) (fun h => ?_) | refine BS.ne (fun h => ?_) (fun h => ?_) | refine BS.n ?_ | refine BS.s (fun h => ?_) (fun h => ?_) | refine And.intro ?_ ?_ | (refine Need.mk ?_; first | with_reducible rfl | (show @Eq TC _ _; rfl) | omega | (simp only [adN_zero]; omega)) | exact OutS.whole rfl rfl | (refine ListK.go gOk hE ?_) | (refine PK.lenL gOk rfl rfl rfl ?_) | (refine OpK.capL gOk rfl rfl rfl rfl rfl ?_) | (refine PK.sliceL gOk rfl rfl (.inr ⟨_, _, rfl, rfl⟩) rfl ?_) | (refine OpK.growZ gOk (m := n) rfl rfl rfl rfl rfl rfl Tryz.underlying3 rfl rfl (by first | rfl | (simp; done) | omega) (by omega) (by refine ⟨?_, ?_⟩ <;> (try unfold maxLen) <;> omega) rfl (by decide) ?_) | refine ListO.go gOk hE ?_)
    all_goals first | (exfalso; omega) | exact OutS.pre (Nat.zero_le _) rfl
/-- Two rows of headers behind one another. -/
theorem Concat_run {hc : Hc} (gs os : List Hdr) (A1 A2 : Option Addr) (n1 n2 c1 c2 : Nat) (h1 : RowTold hc A1 n1 c1 1 Hdr encH dH gs) (h2 : RowTold hc A2 n2 c2 1 Hdr encH dH os) (hn : gs.length + os.length ≤ 1048576) :
    RunH Tryz.prog hc 218 [.one (.c (tH 34 [(A1, n1, c1), (A2, n2, c2)]))] [] [.one (tH 135 (gs ++ os))] [] := by
  obtain ⟨sz, z0, z1, z2⟩ : ∃ f : Nat → Int, f 0 = 0 ∧ f 1 = n1 ∧ f 2 = (n1 : Int) + n2 := ⟨fun i => if i = 0 then 0 else if i = 1 then n1 else (n1 : Int) + n2, rfl, rfl, rfl⟩
  obtain ⟨ac, a0, a1, a2⟩ : ∃ f : Nat → List Hdr, f 0 = [] ∧ f 1 = gs ∧ f 2 = gs ++ os := ⟨fun i => if i = 0 then [] else if i = 1 then gs else gs ++ os, rfl, rfl, rfl⟩
  have l1 := h1.len
  have l2 := h2.len
  have cG := Grow_run (n1 + n2) (by omega)
  refine RunH.of_vc gOk Tryz.func218 rfl rfl (Nat.le_of_ble_eq_true rfl) (by repeat' (first | exact trivial | exact ⟨_, rfl, Nat.le_refl _⟩ | exact Nat.le_of_ble_eq_true rfl | refine And.intro ?_ ?_)) (Nat.le_of_ble_eq_true rfl) rfl (fun F hE hA => ?_)
  repeat' (first | exact trivial | refine BS.d (fun h => ?_) (fun h => ?_) | refine BS.e (fun h => ?_) (fun h => ?_) | refine BS.ne (fun h => ?_) (fun h => ?_) | refine BS.n ?_ | refine BS.s (fun h => ?_) (fun h => ?_) | refine And.intro ?_ ?_ | (refine Need.mk ?_; first | with_reducible rfl | (show @Eq TC _ _; rfl) | omega | (simp only [adN_zero]; omega)) | exact OutS.whole rfl rfl | refine ListO.go gOk hE ?_)
  refine CodeK.loop gOk hE (fun i : Nat => ⟨[(0, vr 1000000 2), (3, vi (sz i)), (9, vr 1000000 2), (10, vi 2), (11, vi i)], [(1000000, rH .fro false 34 [(A1, n1, c1), (A2, n2, c2)])]⟩) (fun i => i ≤ 2) (fun i => 2 - i) 0 (by refine leT.of ?_ ?_ rfl <;> repeat' (first | exact trivial | refine And.intro rfl ?_ | refine And.intro (by first | rfl | (rw [z0]; rfl)) ?_)) (Nat.zero_le _) ?_
  rintro i hi
  obtain rfl | rfl | rfl : i = 0 ∨ i = 1 ∨ i = 2 := by omega
  · rw [z0]
    repeat' (first | exact trivial | refine BS.d (fun h => ?_) (fun h => ?_) | refine BS.e (fun h => ?_) (fun h => ?_) | refine BS.ne (fun h => ?_) (fun h => ?_) | refine BS.n ?_ | refine BS.s (fun h => ?_) (fun h => ?_) | refine And.intro ?_ ?_ | (refine Need.mk ?_; first | with_reducible rfl | (show @Eq TC _ _; rfl) | omega | (simp only [adN_zero]; omega)) | exact OutS.whole rfl rfl | (refine ListK.go gOk hE ?_) | (refine PK.lenL gOk rfl rfl rfl ?_) | refine ListO.go gOk hE ?_)
    all_goals (try simp only [adN_zero] at *)
    all_goals first
      | (exfalso; omega)
      | (refine Need.mk ?_; first | omega | exact Nat.le_of_ble_eq_true rfl | (simp; omega) | (dsimp only [List.getD, List.getElem?_cons_zero, List.getElem?_cons_succ, Option.getD_some]; omega))
      | (refine ⟨1, (by refine leT.of ?_ ?_ rfl <;> repeat' (first | exact trivial | refine And.intro rfl ?_ | refine And.intro (by first | rfl | (rw [z1]; simp [lkT, vi]; done) | (rw [z1]; simp [lkT]; rfl)) ?_)), by omega, by decide⟩)
  · rw [z1]
    repeat' (first | exact trivial | refine BS.d (fun h => ?_) (fun h => ?_) | refine BS.e (fun h => ?_) (fun h => ?_) | refine BS.ne (fun h => ?_) (fun h => ?_) | refine BS.n ?_ | refine BS.s (fun h => ?_) (fun h => ?_) | refine And.intro ?_ ?_ | (refine Need.mk ?_; first | with_reducible rfl | (show @Eq TC _ _; rfl) | omega | (simp only [adN_zero]; omega)) | exact OutS.whole rfl rfl | (refine ListK.go gOk hE ?_) | (refine PK.lenL gOk rfl rfl rfl ?_) | refine ListO.go gOk hE ?_)
    all_goals (try simp only [adN_zero] at *)
    all_goals first
      | (exfalso; omega)
      | (refine Need.mk ?_; first | omega | exact Nat.le_of_ble_eq_true rfl | (simp; omega) | (dsimp only [List.getD, List.getElem?_cons_zero, List.getElem?_cons_succ, Option.getD_some]; omega))
      | (refine ⟨2, (by refine leT.of ?_ ?_ rfl <;> repeat' (first | exact trivial | refine And.intro rfl ?_ | refine And.intro (by first | rfl | (rw [z2]; rfl)) ?_)), by omega, by decide⟩)
  · rw [z2]
    repeat' (first | exact trivial | refine BS.d (fun h => ?_) (fun h => ?_) | refine BS.e (fun h => ?_) (fun h => ?_) | refine BS.ne (fun h => ?_) (fun h => ?_) | refine BS.n ?_ | refine BS.s (fun h => ?_) (fun h => ?_) | refine And.intro ?_ ?_ | (refine Need.mk ?_; first | with_reducible rfl | (show @Eq TC _ _; rfl) | omega | (simp only [adN_zero]; omega)) | exact OutS.whole rfl rfl | (refine OpK.call cG rfl rfl rfl rfl hE ?_ rfl rfl ?_; focus ((repeat' (first | exact PsA.lit _ | exact PsA.ref rfl rfl | constructor)); all_goals (fail "ps"))) | refine ListO.go gOk hE ?_)
    all_goals first | (exfalso; omega) | skip
    refine CodeK.loop gOk hE (fun i : Nat => ⟨[(0, vr 1000000 2), (6, vr 2003072 (ac i).length), (25, vr 1000000 2), (26, vi 2), (27, vi i)], [(2003072, rH .own true 135 (ac i)), (1000000, rH .fro false 34 [(A1, n1, c1), (A2, n2, c2)])]⟩) (fun i => i ≤ 2) (fun i => 2 - i) 0 (by refine leT.of ?_ ?_ rfl <;> repeat' (first | exact trivial | refine And.intro rfl ?_ | refine And.intro (by first | rfl | (rw [a0]; rfl)) ?_)) (Nat.zero_le _) ?_
    rintro i hi
    obtain rfl | rfl | rfl : i = 0 ∨ i = 1 ∨ i = 2 := by omega
    · rw [a0]
      repeat' (first | exact trivial | refine BS.d (fun h => ?_) (fun h => ?_) | refine BS.e (fun h => ?_) (fun h => ?_) | refine BS.ne (fun h => ?_) (fun h => ?_) | refine BS.n ?_ | refine BS.s (fun h => ?_) (fun h => ?_) | refine And.intro ?_ ?_ | (refine Need.mk ?_; first | with_reducible rfl | (show @Eq TC _ _; rfl) | omega | (simp only [adN_zero]; omega)) | exact OutS.whole rfl rfl | (refine OpK.tell gOk hA hE 32 5000 135 decH h1 rfl rfl rfl rfl rfl ?_) | (refine OpK.apps2 gOk hE rfl rfl rfl rfl rfl rfl rfl rfl rfl rfl l1 (fun x r _ => ⟨_, rfl, rfl⟩) rfl (by refine ⟨?_, ?_⟩ <;> (try unfold maxLen) <;> simp <;> omega) ?_) | refine ListO.go gOk hE ?_)
      all_goals first
        | (exfalso; omega)
        | (refine Need.mk ?_; first | omega | exact Nat.le_of_ble_eq_true rfl | (simp; omega))
        | (refine ⟨1, (by refine leT.of ?_ ?_ rfl <;> repeat' (first | exact trivial | refine And.intro rfl ?_ | refine And.intro (by first | rfl | (rw [a1]; rfl) | (rw [a1]; simp; done) | (rw [a1]; simp; rfl)) ?_)), by omega, by decide⟩)
    · rw [a1]
      repeat' (first | exact trivial | refine BS.d (fun h => ?_) (fun h => ?_) | refine BS.e (fun h => ?_) (fun h => ?_) | refine BS.ne (fun h => ?_) (fun h => ?_) | refine BS.n ?_ | refine BS.s (fun h => ?_) (fun h => ?_) | refine And.intro ?_ ?_ | (refine Need.mk ?_; first | with_reducible rfl | (show @Eq TC _ _; rfl) | omega | (simp only [adN_zero]; omega)) | exact OutS.whole rfl rfl | (refine OpK.tell gOk hA hE 32 5000 135 decH h2 rfl rfl rfl rfl rfl ?_) | (refine OpK.apps2 gOk hE rfl rfl rfl rfl rfl rfl rfl rfl rfl rfl l2 (fun x r _ => ⟨_, rfl, rfl⟩) rfl (by refine ⟨?_, ?_⟩ <;> (try unfold maxLen) <;> omega) ?_) | refine ListO.go gOk hE ?_)
      all_goals first
        | (exfalso; omega)
        | (refine Need.mk ?_; first | omega | exact Nat.le_of_ble_eq_true rfl | (simp; omega))
        | (refine ⟨2, (by refine leT.of ?_ ?_ rfl <;> repeat' (first | exact trivial | refine And.intro rfl ?_ | refine And.intro (by first | rfl | (rw [a2]; rfl)) ?_)), by omega, by decide⟩)
    · rw [a2]
      repeat' (first | exact trivial | refine BS.d (fun h => ?_) (fun h => ?_) | refine BS.e (fun h => ?_) (fun h => ?_) | refine BS.ne (fun h => ?_) (fun h => ?_) | refine BS.n ?_ | refine BS.s (fun h => ?_) (fun h => ?_) | refine And.intro ?_ ?_ | (refine Need.mk ?_; first | with_reducible rfl | (show @Eq TC _ _; rfl) | omega | (simp only [adN_zero]; omega)) | exact OutS.whole rfl rfl | refine ListO.go gOk hE ?_)
      all_goals first | (exfalso; omega) | exact OutS.whole rfl rfl
end Go.Proofs.YtfdbjiaghbeedaaGreatDoor
end

section
namespace Go.Proofs.YtfdbjiaghbeedaaGreatDoor
open Go Go.Tr
set_option maxRecDepth 100000
set_option maxHeartbeats 4000000
set_option linter.unusedVariables false
set_option linter.unusedSimpArgs false
/-- Slots that are told apart, the slots before them being these. -/
def okS : List Int → List Int → Bool
  | _, [] => true
  | s, x :: l => if (0 ≤ x ∧ x < 24) ∧ x ∉ s then okS (s ++ [x]) l else false
theorem okS_no {s : List Int} {x : Int} {l : List Int} (h : ¬ ((0 ≤ x ∧ x < 24) ∧ x ∉ s)) : okS s (x :: l) = false := by rw [okS, if_neg h]
theorem okS_yes {s : List Int} {x : Int} {l : List Int} (h : (0 ≤ x ∧ x < 24) ∧ x ∉ s) : okS s (x :: l) = okS (s ++ [x]) l := by rw [okS, if_pos h]
theorem seen_step {bs : List Bool} {s : List Int} {v : Int} (hbl : bs.length = 24) (hv : 0 ≤ v ∧ v < 24) (hbs : ∀ z : Nat, z < 24 → bs.getD z false = decide ((z : Int) ∈ s)) : ∀ z : Nat, z < 24 → (bs.set v.toNat true).getD z false = decide ((z : Int) ∈ s ++ [v]) := by
  intro z hz
  obtain ⟨n, rfl⟩ := Int.eq_ofNat_of_zero_le hv.1
  simp only [Int.toNat_natCast]
  by_cases e1 : n = z
  · subst e1
    rw [List.getD_eq_getElem?_getD, List.getElem?_set_self (by omega)]
    simp
  · rw [List.getD_eq_getElem?_getD, List.getElem?_set_ne e1, ← List.getD_eq_getElem?_getD, hbs z hz]
    apply decide_eq_decide.2
    simp; omega
theorem slotOk_run (x : Int) : RunT Tryz.prog 142 [ti x] [] [ob (decide (0 ≤ x ∧ x < 24))] [] := by
  refine RunT.of_vc gOk Tryz.func142 rfl rfl (Nat.le_of_ble_eq_true rfl) (by repeat' (first | exact trivial | exact ⟨_, rfl, Nat.le_refl _⟩ | exact Nat.le_of_ble_eq_true rfl | refine And.intro ?_ ?_)) (Nat.le_of_ble_eq_true rfl) rfl (fun F hE => ?_)
  repeat' (first | exact trivial | refine BS.d (fun h => ?_) (fun h => ?_) | refine BS.e (fun h => ?_) (fun h => ?_) | refine BS.ne (fun h => ?_) (fun h => ?_) | refine BS.n ?_ | refine BS.s (fun h => ?_) (fun h => ?_) | refine And.intro ?_ ?_ | (refine Need.mk ?_; first | with_reducible rfl | (show @Eq TC _ _; rfl) | omega | (simp only [adN_zero]; omega)) | exact OutS.whole rfl rfl | refine ListO.go gOk hE ?_)
  all_goals (refine Need.mk ?_; first | rfl | (symm; apply decide_eq_true; omega) | (symm; apply decide_eq_false; omega) | (apply decide_eq_decide.2; omega))
/-- A row of headers, each of which tells a row of numbers. -/
structure Hs (hc : Hc) (hs : List Hdr) (xss : List (List Int)) : Prop where
  len : hs.length = xss.length
  at_ : ∀ i, i < hs.length → RowTold hc (hs.getD i dH).1 (hs.getD i dH).2.1 (hs.getD i dH).2.2 1 Int encI 0 (xss.getD i [])
theorem eachSlot_told {hc : Hc} (gs os : List Hdr) (xss : List (List Int)) (A1 A2 : Option Addr) (n1 n2 c1 c2 : Nat) (h1 : RowTold hc A1 n1 c1 1 Hdr encH dH gs) (h2 : RowTold hc A2 n2 c2 1 Hdr encH dH os) (hn : gs.length + os.length ≤ 1048576) (hX : Hs hc (gs ++ os) xss) (hx : ∀ i, (xss.getD i []).length ≤ 1048576) :
    RunH Tryz.prog hc 185 [.agg [.c (.lit (.slice A1 n1 c1)), .c (.lit (.slice A2 n2 c2))]] [] [ob (okS [] xss.flatten)] [] := by
  have cC := Concat_run gs os A1 A2 n1 n2 c1 c2 h1 h2 hn
  have hlen : (gs ++ os).length ≤ 1048576 := by simp; omega
  refine RunH.of_vc gOk Tryz.func185 rfl rfl (Nat.le_of_ble_eq_true rfl) (by repeat' (first | exact trivial | exact ⟨_, rfl, Nat.le_refl _⟩ | exact Nat.le_of_ble_eq_true rfl | refine And.intro ?_ ?_)) (Nat.le_of_ble_eq_true rfl) rfl (fun F hE hA => ?_)
  repeat' (first | exact trivial | refine BS.d (fun h => ?_) (fun h => ?_) | refine BS.e (fun h => ?_) (fun h => ?_) | refine BS.ne (fun h => ?_) (fun h => ?_) | refine BS.n ?_ | refine BS.s (fun h => ?_) (fun h => ?_) | refine And.intro ?_ ?_ | (refine Need.mk ?_; first | with_reducible rfl | (show @Eq TC _ _; rfl) | omega | (simp only [adN_zero]; omega)) | exact OutS.whole rfl rfl | (refine OpK.bs2 gOk rfl rfl rfl rfl rfl rfl rfl rfl rfl rfl (by decide) ?_) | (refine OpK.callH cC hA rfl rfl rfl rfl hE ?_ rfl rfl ?_; focus ((repeat' (first | exact PsA.lit _ | exact PsA.ref rfl rfl | constructor)); all_goals (fail "ps"))) | refine ListO.go gOk hE ?_)
  generalize gs ++ os = hs at *
  refine CodeK.arr gOk hE (κ := 3) 24 (by rfl) (by rfl) ?_
  refine CodeK.loop gOk hE (fun i : Nat × List Int × List Bool => ⟨[(3, .ptr 3 0 0), (13, vr 2001664 hs.length), (14, vi hs.length), (15, vi i.1)], [(2001664, rH .own true 135 hs), (3, arrR 195 24 i.2.2)]⟩) (fun i => i.1 ≤ hs.length ∧ i.2.2.length = 24 ∧ (∀ z : Nat, z < 24 → i.2.2.getD z false = decide ((z : Int) ∈ i.2.1)) ∧ okS [] xss.flatten = okS i.2.1 (xss.drop i.1).flatten) (fun i => hs.length - i.1) (0, [], List.replicate 24 false) (by refine leT.of ?_ ?_ rfl <;> repeat' (first | exact trivial | refine And.intro rfl ?_ | refine And.intro (by first | rfl | (simp; done) | (simp <;> rfl)) ?_)) ⟨Nat.zero_le _, rfl, by decide, rfl⟩ ?_
  rintro ⟨i, s, bs⟩ ⟨hi, hbl, hbs, hq⟩
  dsimp only at hi hbl hbs hq
  by_cases hi2 : i < hs.length
  · have hT := hX.at_ i hi2
    have hTl := hT.len
    have hxi := hx i
    have hxl := hX.len
    rw [drop_cons [] (by omega), List.flatten_cons] at hq
    obtain ⟨R, hR⟩ : ∃ R, R = (xss.drop (i + 1)).flatten := ⟨_, rfl⟩
    rw [← hR] at hq
    repeat' (first | exact trivial | refine BS.d (fun h => ?_) (fun h => ?_) | refine BS.e (fun h => ?_) (fun h => ?_) | refine BS.ne (fun h => ?_) (fun h => ?_) | refine BS.n ?_ | refine BS.s (fun h => ?_) (fun h => ?_) | refine And.intro ?_ ?_ | (refine Need.mk ?_; first | with_reducible rfl | (show @Eq TC _ _; rfl) | omega | (simp only [adN_zero]; omega)) | exact OutS.whole rfl rfl | (refine ListK.tell gOk hA hE 20 5000 3 decI hT rfl rfl rfl ?_) | refine ListO.go gOk hE ?_)
    all_goals (try simp only [adN_zero] at *)
    all_goals first | (exfalso; omega) | (refine Need.mk ?_; omega) | skip
    refine CodeK.loop gOk hE (fun k : Nat × List Int × List Bool => ⟨[(3, .ptr 3 0 0), (13, vr 2001664 hs.length), (14, vi hs.length), (15, vi i), (20, vr 5000 (hs.getD i dH).2.1), (21, vi (hs.getD i dH).2.1), (22, vi k.1)], [(2001664, rH .own true 135 hs), (3, arrR 195 24 k.2.2), (5000, rI .fro false (xss.getD i []))]⟩) (fun k => k.1 ≤ (xss.getD i []).length ∧ k.2.2.length = 24 ∧ (∀ z : Nat, z < 24 → k.2.2.getD z false = decide ((z : Int) ∈ k.2.1)) ∧ okS [] xss.flatten = okS k.2.1 ((xss.getD i []).drop k.1 ++ R)) (fun k => (xss.getD i []).length - k.1) (0, s, bs) (by refine leT.of ?_ ?_ rfl <;> repeat' (first | exact trivial | refine And.intro rfl ?_ | refine And.intro (by first | rfl | (simp; done) | (simp <;> rfl)) ?_)) ⟨Nat.zero_le _, hbl, hbs, hq⟩ ?_
    rintro ⟨k, s', bs'⟩ ⟨hk, hbl', hbs', hq'⟩
    dsimp only at hk hbl' hbs' hq'
    by_cases hk2 : k < (xss.getD i []).length
    · rw [drop_cons 0 hk2, List.cons_append] at hq'
      have c2 := slotOk_run ((xss.getD i []).getD k 0)
      by_cases hv : 0 ≤ ((xss.getD i []).getD k 0) ∧ ((xss.getD i []).getD k 0) < 24
      · rw [decide_eq_true hv] at c2
        have hz := hbs' ((xss.getD i []).getD k 0).toNat (by omega)
        rw [Int.toNat_of_nonneg hv.1] at hz
        repeat' (first | exact trivial | refine BS.d (fun h => ?_) (fun h => ?_) | refine BS.e (fun h => ?_) (fun h => ?_) | refine BS.ne (fun h => ?_) (fun h => ?_) | refine BS.n ?_ | refine BS.s (fun h => ?_) (fun h => ?_) | refine And.intro ?_ ?_ | (refine Need.mk ?_; first | with_reducible rfl | (show @Eq TC _ _; rfl) | omega | (simp only [adN_zero]; omega)) | exact OutS.whole rfl rfl | (refine OpK.call c2 rfl rfl rfl rfl hE ?_ rfl rfl ?_; focus ((repeat' (first | exact PsA.lit _ | exact PsA.ref rfl rfl | constructor)); all_goals (fail "ps"))) | refine ListO.go gOk hE ?_)
        all_goals (try simp only [adN_zero] at *)
        all_goals first | (exfalso; omega) | (refine Need.mk ?_; omega) | skip
        refine OpK.ldA gOk (by rfl) (by rfl) (by rfl) (by rfl) (by rfl) (by rfl) (by rfl) (by omega) ?_
        rw [show 0 + ((xss.getD i []).getD k 0).toNat * 1 = ((xss.getD i []).getD k 0).toNat by omega, hz]
        by_cases hin : ((xss.getD i []).getD k 0) ∈ s'
        · rw [decide_eq_true hin]
          rw [okS_no (fun h => h.2 hin)] at hq'
          rw [hq']
          repeat' (first | exact trivial | refine BS.d (fun h => ?_) (fun h => ?_) | refine BS.e (fun h => ?_) (fun h => ?_) | refine BS.ne (fun h => ?_) (fun h => ?_) | refine BS.n ?_ | refine BS.s (fun h => ?_) (fun h => ?_) | refine And.intro ?_ ?_ | (refine Need.mk ?_; first | with_reducible rfl | (show @Eq TC _ _; rfl) | omega | (simp only [adN_zero]; omega)) | exact OutS.whole rfl rfl | (refine OpK.call c2 rfl rfl rfl rfl hE ?_ rfl rfl ?_; focus ((repeat' (first | exact PsA.lit _ | exact PsA.ref rfl rfl | constructor)); all_goals (fail "ps"))) | refine ListO.go gOk hE ?_)
          all_goals first | rfl | exact Need.mk rfl | (exfalso; omega) | trace_state
        · rw [decide_eq_false hin]
          rw [okS_yes ⟨hv, hin⟩] at hq'
          repeat' (first | exact trivial | refine BS.d (fun h => ?_) (fun h => ?_) | refine BS.e (fun h => ?_) (fun h => ?_) | refine BS.ne (fun h => ?_) (fun h => ?_) | refine BS.n ?_ | refine BS.s (fun h => ?_) (fun h => ?_) | refine And.intro ?_ ?_ | (refine Need.mk ?_; first | with_reducible rfl | (show @Eq TC _ _; rfl) | omega | (simp only [adN_zero]; omega)) | exact OutS.whole rfl rfl | (refine OpK.call c2 rfl rfl rfl rfl hE ?_ rfl rfl ?_; focus ((repeat' (first | exact PsA.lit _ | exact PsA.ref rfl rfl | constructor)); all_goals (fail "ps"))) | refine ListO.go gOk hE ?_)
          all_goals (try simp only [adN_zero] at *)
          all_goals first | (exfalso; omega) | (refine Need.mk ?_; omega) | skip
          refine OpK.stA gOk (by rfl) (by rfl) (by rfl) (by rfl) (by rfl) (by rfl) (by rfl) (by omega) (by exact hbl'.symm) ?_
          rw [show 0 + ((xss.getD i []).getD k 0).toNat * 1 = ((xss.getD i []).getD k 0).toNat by omega]
          repeat' (first | exact trivial | refine BS.d (fun h => ?_) (fun h => ?_) | refine BS.e (fun h => ?_) (fun h => ?_) | refine BS.ne (fun h => ?_) (fun h => ?_) | refine BS.n ?_ | refine BS.s (fun h => ?_) (fun h => ?_) | refine And.intro ?_ ?_ | (refine Need.mk ?_; first | with_reducible rfl | (show @Eq TC _ _; rfl) | omega | (simp only [adN_zero]; omega)) | exact OutS.whole rfl rfl | refine ListO.go gOk hE ?_)
          all_goals (try simp only [adN_zero] at *)
          all_goals first
            | (refine Need.mk ?_; omega)
            | exact ⟨(k + 1, s' ++ [((xss.getD i []).getD k 0)], bs'.set ((xss.getD i []).getD k 0).toNat true), (by refine leT.of ?_ ?_ rfl <;> repeat' (first | exact trivial | refine And.intro rfl ?_ | refine And.intro (by first | rfl | (simp; done) | (simp <;> rfl)) ?_)), ⟨hk2, by simp [hbl'], seen_step hbl' hv hbs', hq'⟩, by dsimp only; omega⟩
      · rw [decide_eq_false hv] at c2
        rw [okS_no (fun h => hv h.1)] at hq'
        rw [hq']
        repeat' (first | exact trivial | refine BS.d (fun h => ?_) (fun h => ?_) | refine BS.e (fun h => ?_) (fun h => ?_) | refine BS.ne (fun h => ?_) (fun h => ?_) | refine BS.n ?_ | refine BS.s (fun h => ?_) (fun h => ?_) | refine And.intro ?_ ?_ | (refine Need.mk ?_; first | with_reducible rfl | (show @Eq TC _ _; rfl) | omega | (simp only [adN_zero]; omega)) | exact OutS.whole rfl rfl | (refine OpK.call c2 rfl rfl rfl rfl hE ?_ rfl rfl ?_; focus ((repeat' (first | exact PsA.lit _ | exact PsA.ref rfl rfl | constructor)); all_goals (fail "ps"))) | refine ListO.go gOk hE ?_)
        all_goals (try simp only [adN_zero] at *)
        all_goals first | (exfalso; omega) | (refine Need.mk ?_; omega) | skip
    · rw [List.drop_eq_nil_of_le (by omega), List.nil_append, hR] at hq'
      repeat' (first | exact trivial | refine BS.d (fun h => ?_) (fun h => ?_) | refine BS.e (fun h => ?_) (fun h => ?_) | refine BS.ne (fun h => ?_) (fun h => ?_) | refine BS.n ?_ | refine BS.s (fun h => ?_) (fun h => ?_) | refine And.intro ?_ ?_ | (refine Need.mk ?_; first | with_reducible rfl | (show @Eq TC _ _; rfl) | omega | (simp only [adN_zero]; omega)) | exact OutS.whole rfl rfl | (refine OpK.call cC rfl rfl rfl rfl hE ?_ rfl rfl ?_; focus ((repeat' (first | exact PsA.lit _ | exact PsA.ref rfl rfl | constructor)); all_goals (fail "ps"))) | refine ListO.go gOk hE ?_)
      all_goals (try simp only [adN_zero] at *)
      all_goals first
        | (exfalso; omega)
        | (refine Need.mk ?_; omega)
        | exact ⟨(i + 1, s', bs'), (by refine leT.of ?_ ?_ rfl <;> repeat' (first | exact trivial | refine And.intro rfl ?_ | refine And.intro (by first | rfl | (simp; done) | (simp <;> rfl)) ?_)), ⟨hi2, hbl', hbs', hq'⟩, by dsimp only; omega⟩
  · rw [List.drop_eq_nil_of_le (by have := hX.len; omega)] at hq
    repeat' (first | exact trivial | refine BS.d (fun h => ?_) (fun h => ?_) | refine BS.e (fun h => ?_) (fun h => ?_) | refine BS.ne (fun h => ?_) (fun h => ?_) | refine BS.n ?_ | refine BS.s (fun h => ?_) (fun h => ?_) | refine And.intro ?_ ?_ | (refine Need.mk ?_; first | with_reducible rfl | (show @Eq TC _ _; rfl) | omega | (simp only [adN_zero]; omega)) | exact OutS.whole rfl rfl | (refine OpK.call cC rfl rfl rfl rfl hE ?_ rfl rfl ?_; focus ((repeat' (first | exact PsA.lit _ | exact PsA.ref rfl rfl | constructor)); all_goals (fail "ps"))) | refine ListO.go gOk hE ?_)
    all_goals first | exact Need.mk hq.symm | exact Need.mk hq | (exfalso; omega) | trace_state
end Go.Proofs.YtfdbjiaghbeedaaGreatDoor
end

section
namespace Go.Proofs.YtfdbjiaghbeedaaGreatDoor
open Go Go.Tr
set_option maxRecDepth 100000
set_option maxHeartbeats 4000000
set_option linter.unusedVariables false
set_option linter.unusedSimpArgs false
/-- The cells that are frozen. -/
def hcZ (w : World) (z : Nat → Nat → Prop) : Hc := fun g j v => w.cell? ⟨g, j, none⟩ = some v ∧ scal v = true ∧ z g j
theorem ints_told {w : World} {z f : Nat → Nat → Prop} {xs : List Int} {u : Value} (h : CRel w z ((tI xs).er .fro) f u) : ∃ A c, u = .slice A xs.length c ∧ RowTold (hcZ w z) A xs.length c 1 Int encI 0 xs := by
  obtain ⟨A, c, h1, h2, h3, h4, h5⟩ := h
  refine ⟨A, c, h1, rfl, h2, h3, h4, fun hp => ?_⟩
  obtain ⟨g, o, e1, e2⟩ := h5 hp
  refine ⟨g, o, e1, fun i r hi hr => ?_⟩
  obtain ⟨x, k1, k2, k3⟩ := e2 i r hi hr
  obtain ⟨rfl, k4⟩ := k3
  exact ⟨_, rfl, k1, k4, k2⟩
theorem lists_told {w : World} {z f : Nat → Nat → Prop} {e : Nat} {xs : List (List Int)} {u : Value} (h : CRel w z ((tSL e xs).er .fro) f u) : ∃ A c, ∃ hs : List Hdr, u = .slice A xs.length c ∧ RowTold (hcZ w z) A xs.length c 1 Hdr encH dH hs ∧ Hs (hcZ w z) hs xs := by
  obtain ⟨A, c, h1, h2, h3, h4, h5⟩ := h
  by_cases h0 : xs.length = 0
  · refine ⟨A, c, [], h1, ⟨by rw [h0]; rfl, h2, h3, h4, fun hp => by omega⟩, by rw [h0]; rfl, fun i hi => absurd hi (Nat.not_lt_zero _)⟩
  · obtain ⟨g, o, e1, e2⟩ := h5 (show 0 < xs.length by omega)
    have key : ∀ i : _root_.Fin xs.length, ∃ x : Hdr, w.cell? ⟨g, o + (i.1 * 1 + 0), none⟩ = some (.slice x.1 x.2.1 x.2.2) ∧ z g (o + (i.1 * 1 + 0)) ∧ RowTold (hcZ w z) x.1 x.2.1 x.2.2 1 Int encI 0 (xs.getD i.1 []) := by
      intro i
      obtain ⟨x, k1, k2, k3⟩ := e2 i.1 0 i.2 (by decide)
      obtain ⟨A', c', m1, m2⟩ := ints_told (xs := xs.getD i.1 []) k3
      subst m1
      exact ⟨(A', (xs.getD i.1 []).length, c'), k1, k2, m2⟩
    obtain ⟨F, hF⟩ : ∃ F : _root_.Fin xs.length → Hdr, ∀ i, w.cell? ⟨g, o + (i.1 * 1 + 0), none⟩ = some (.slice (F i).1 (F i).2.1 (F i).2.2) ∧ z g (o + (i.1 * 1 + 0)) ∧ RowTold (hcZ w z) (F i).1 (F i).2.1 (F i).2.2 1 Int encI 0 (xs.getD i.1 []) := ⟨fun i => (key i).choose, fun i => (key i).choose_spec⟩
    have hg : ∀ i (hi : i < xs.length), (List.ofFn F).getD i dH = F ⟨i, hi⟩ := fun i hi => by simp [List.getD, hi]
    refine ⟨A, c, List.ofFn F, h1, ⟨by simp, h2, h3, h4, fun hp => ⟨g, o, e1, fun i r hi hr => ?_⟩⟩, by simp, fun i hi => ?_⟩
    · have hr0 : r = 0 := by omega
      subst hr0
      rw [hg i hi]
      obtain ⟨k1, k2, _⟩ := hF ⟨i, hi⟩
      exact ⟨_, rfl, k1, rfl, k2⟩
    · have hi' : i < xs.length := by simpa using hi
      rw [hg i hi']
      exact (hF ⟨i, hi'⟩).2.2
/-- A contract over two lists of lists out of one over told headers. -/
theorem of_told {f : FuncId} {rest : List TAg} {outs : List TAr} {e e' : Nat} {g o : List (List Int)} (hfn : CallF Tryz.prog f) (h : ∀ (hc : Hc) (gs os : List Hdr) (A1 A2 : Option Addr) (n1 n2 c1 c2 : Nat), RowTold hc A1 n1 c1 1 Hdr encH dH gs → RowTold hc A2 n2 c2 1 Hdr encH dH os → Hs hc gs g → Hs hc os o →
    RunH Tryz.prog hc f (.agg [.c (.lit (.slice A1 n1 c1)), .c (.lit (.slice A2 n2 c2))] :: rest) [] outs []) : RunT Tryz.prog f (.agg [.c (tSL e g), .c (tSL e' o)] :: rest) [] outs [] := by
  refine ⟨hfn, fun w q A cargs hent => ?_⟩
  obtain ⟨u, hu, us, rfl, hsz, hus⟩ := hent.args 0 _ rfl
  obtain ⟨y1, hy1, k1⟩ := hus 0 _ rfl
  obtain ⟨y2, hy2, k2⟩ := hus 1 _ rfl
  have k1 : CRel w (fun b j => q b j = some .fro) ((tSL e g).er .fro) (fun b j' => q b j' = some (.arg 0 0)) y1 := k1
  have k2 : CRel w (fun b j => q b j = some .fro) ((tSL e' o).er .fro) (fun b j' => q b j' = some (.arg 0 1)) y2 := k2
  obtain ⟨A1, c1, gs, rfl, t1, s1⟩ := lists_told (xs := g) k1
  obtain ⟨A2, c2, os, rfl, t2, s2⟩ := lists_told (xs := o) k2
  refine (h _ gs os A1 A2 _ _ c1 c2 t1 t2 s1 s2).run w q A cargs ⟨hent.size, fun i x hi => ?_, fun ρ x hx => by simp at hx, hent.lt⟩ (fun g j v hv => hv)
  cases i with
  | zero =>
    injection hi with hi; subst hi
    refine ⟨_, hu, us, rfl, hsz, fun j c hj => ?_⟩
    match j, hj with
    | 0, hj => injection hj with hj; subst hj; exact ⟨_, hy1, rfl, rfl⟩
    | 1, hj => injection hj with hj; subst hj; exact ⟨_, hy2, rfl, rfl⟩
  | succ i => exact hent.args (i + 1) x hi
theorem Hs.append {hc : Hc} {gs os : List Hdr} {g o : List (List Int)} (h1 : Hs hc gs g) (h2 : Hs hc os o) : Hs hc (gs ++ os) (g ++ o) := by
  refine ⟨by simp [h1.len, h2.len], fun i hi => ?_⟩
  by_cases hl : i < gs.length
  · have e1 : (gs ++ os).getD i dH = gs.getD i dH := by simp [List.getD, List.getElem?_append_left hl]
    have e2 : (g ++ o).getD i [] = g.getD i [] := by simp [List.getD, List.getElem?_append_left (show i < g.length by rw [← h1.len]; exact hl)]
    rw [e1, e2]; exact h1.at_ i hl
  · have e1 : (gs ++ os).getD i dH = os.getD (i - gs.length) dH := by simp [List.getD, List.getElem?_append_right (Nat.le_of_not_lt hl)]
    have e2 : (g ++ o).getD i [] = o.getD (i - gs.length) [] := by rw [h1.len]; simp [List.getD, List.getElem?_append_right (show g.length ≤ i by rw [← h1.len]; omega)]
    rw [e1, e2]; exact h2.at_ _ (by simp at hi; omega)
theorem eachSlot_run (e e' : Nat) (g o : List (List Int)) (hgo : g.length + o.length ≤ 1048576) (hx : ∀ i, ((g ++ o).getD i []).length ≤ 1048576) : RunT Tryz.prog 185 [.agg [.c (tSL e g), .c (tSL e' o)]] [] [ob (okS [] (g ++ o).flatten)] [] := by
  refine of_told ⟨_, Tryz.func185, rfl, rfl⟩ (fun hc gs os A1 A2 n1 n2 c1 c2 t1 t2 s1 s2 => ?_)
  exact eachSlot_told gs os (g ++ o) A1 A2 n1 n2 c1 c2 t1 t2 (by rw [s1.len, s2.len]; exact hgo) (s1.append s2) hx
end Go.Proofs.YtfdbjiaghbeedaaGreatDoor
end

section
namespace Go.Proofs.YtfdbjiaghbeedaaGreatDoor
open Go Go.Tr
set_option maxRecDepth 100000
set_option maxHeartbeats 4000000
set_option linter.unusedVariables false
set_option linter.unusedSimpArgs false
/-- The first of n places, from place i on, that has the property. -/
def firstP (p : Nat → Bool) : Nat → Nat → Option Nat
  | _, 0 => none
  | i, m + 1 => if p i then some i else firstP p (i + 1) m
theorem firstP_yes {p : Nat → Bool} {i m : Nat} (hm : 0 < m) (h : p i = true) : firstP p i m = some i := by
  cases m with
  | zero => omega
  | succ m => unfold firstP; rw [if_pos h]
theorem firstP_no {p : Nat → Bool} {i m : Nat} (hm : 0 < m) (h : p i = false) : firstP p i m = firstP p (i + 1) (m - 1) := by
  cases m with
  | zero => omega
  | succ m => rw [firstP, if_neg (by simp [h])]; rfl
def plR : Option Nat → Int
  | some j => (j : Int)
  | none => -1
theorem firstP_lt {p : Nat → Bool} : ∀ {m i j : Nat}, firstP p i m = some j → i ≤ j ∧ j < i + m ∧ p j = true
  | 0, i, j, h => by cases h
  | m + 1, i, j, h => by
    unfold firstP at h
    split at h
    · injection h with h; subst h; exact ⟨Nat.le_refl _, by omega, by assumption⟩
    · have := firstP_lt h; exact ⟨by omega, by omega, this.2.2⟩
theorem firstP_none {p : Nat → Bool} : ∀ {m i : Nat}, firstP p i m = none → ∀ j, i ≤ j → j < i + m → p j = false
  | 0, i, h, j, h1, h2 => by omega
  | m + 1, i, h, j, h1, h2 => by
    unfold firstP at h
    split at h
    · cases h
    · rename_i hp
      by_cases e : j = i
      · subst e; simpa using hp
      · exact firstP_none h j (by omega) (by omega)
theorem l8HasT_run (xs : List Int) (x : Int) (hn : xs.length ≤ 4000000) : RunT Tryz.prog 60 [.one (.c (tI xs)), ti x] [] [ob (decide (x ∈ xs))] [] := by
  refine RunT.of_vc gOk Tryz.func60 rfl rfl (Nat.le_of_ble_eq_true rfl) (by repeat' (first | exact trivial | exact ⟨_, rfl, Nat.le_refl _⟩ | exact Nat.le_of_ble_eq_true rfl | refine And.intro ?_ ?_)) (Nat.le_of_ble_eq_true rfl) rfl (fun F hE => ?_)
  repeat' (first | exact trivial | refine BS.d (fun h => ?_) (fun h => ?_) | refine BS.e (fun h => ?_) (fun h => ?_) | refine BS.ne (fun h => ?_) (fun h => ?_) | refine BS.n ?_ | refine BS.s (fun h => ?_) (fun h => ?_) | refine And.intro ?_ ?_ | (refine Need.mk ?_; first | with_reducible rfl | (show @Eq TC _ _; rfl) | omega | (simp only [adN_zero]; omega)) | exact OutS.whole rfl rfl | refine ListO.go gOk hE ?_)
  refine CodeK.loop gOk hE (fun i : Nat => ⟨[(0, vr 1000000 xs.length), (1, vi x), (5, vi i)], [(1000000, rI .fro false xs)]⟩) (fun i => i ≤ xs.length ∧ ∀ j, j < i → xs.getD j 0 ≠ x) (fun i => xs.length - i) 0 (by refine leT.of ?_ ?_ rfl <;> repeat' (first | exact trivial | refine And.intro rfl ?_ | refine And.intro (by simp) ?_)) ⟨Nat.zero_le _, fun j hj => absurd hj (Nat.not_lt_zero _)⟩ ?_
  rintro i ⟨hi, hq⟩
  by_cases hp : xs.getD i 0 = x
  all_goals (repeat' (first | exact trivial | refine BS.d (fun h => ?_) (fun h => ?_) | refine BS.e (fun h => ?_) (fun h => ?_) | refine BS.ne (fun h => ?_) (fun h => ?_) | refine BS.n ?_ | refine BS.s (fun h => ?_) (fun h => ?_) | refine And.intro ?_ ?_ | (refine Need.mk ?_; first | with_reducible rfl | (show @Eq TC _ _; rfl) | omega | (simp only [adN_zero]; omega)) | exact OutS.whole rfl rfl | refine ListO.go gOk hE ?_))
  all_goals (try simp only [adN_zero] at *)
  all_goals first
    | (exfalso; first | omega | (simp_all; done))
    | (refine Need.mk ?_; symm; apply decide_eq_true; rw [← hp, List.getD_eq_getElem?_getD, List.getElem?_eq_getElem (by omega)]; exact List.getElem_mem _)
    | (refine Need.mk ?_; symm; apply decide_eq_false; intro hm; obtain ⟨j, hj, hj2⟩ := List.getElem_of_mem hm; exact hq j (by omega) (by rw [List.getD_eq_getElem?_getD, List.getElem?_eq_getElem hj]; exact hj2))
    | (refine ⟨i + 1, (by refine leT.of ?_ ?_ rfl <;> repeat' (first | exact trivial | refine And.intro rfl ?_ | refine And.intro (by simp) ?_)), ⟨by omega, fun j hj => (Nat.lt_or_ge j i).elim (hq j) (fun h9 => (show j = i by omega) ▸ hp)⟩, by first | omega | (dsimp only; omega)⟩)
theorem intFlat : ∀ (x : Int) (r : Nat), r < 1 → ∃ v, encI x r = .lit v ∧ encI x r = .lit v := fun x r _ => ⟨_, rfl, rfl⟩
theorem take_flat {xs : List (List Int)} {i : Nat} (h : i < xs.length) : (xs.take (i + 1)).flatten = (xs.take i).flatten ++ xs.getD i [] := by
  rw [List.take_succ_eq_append_getElem h, List.flatten_append]
  congr 1
  simp [List.getD, h]
theorem take_le (xs : List (List Int)) (i : Nat) : (xs.take i).flatten.length ≤ xs.flatten.length := by
  conv => rhs; rw [← List.take_append_drop i xs]
  rw [List.flatten_append, List.length_append]; omega
theorem l8All_run (e e' : Nat) (g o : List (List Int)) (hg : g.length ≤ 1048576) (ho : o.length ≤ 1048576) (hf : g.flatten.length + o.flatten.length ≤ 1048576) : RunT Tryz.prog 175 [.agg [.c (tSL e g), .c (tSL e' o)]] [] [.one (tI (g ++ o).flatten)] [] := by
  rw [List.flatten_append]
  refine RunT.of_vc gOk Tryz.func175 rfl rfl (Nat.le_of_ble_eq_true rfl) (by repeat' (first | exact trivial | exact ⟨_, rfl, Nat.le_refl _⟩ | exact Nat.le_of_ble_eq_true rfl | refine And.intro ?_ ?_)) (Nat.le_of_ble_eq_true rfl) rfl (fun F hE => ?_)
  repeat' (first | exact trivial | refine BS.d (fun h => ?_) (fun h => ?_) | refine BS.e (fun h => ?_) (fun h => ?_) | refine BS.ne (fun h => ?_) (fun h => ?_) | refine BS.n ?_ | refine BS.s (fun h => ?_) (fun h => ?_) | refine And.intro ?_ ?_ | (refine Need.mk ?_; first | with_reducible rfl | (show @Eq TC _ _; rfl) | omega | (simp only [adN_zero]; omega)) | exact OutS.whole rfl rfl | refine ListO.go gOk hE ?_)
  refine CodeK.loop gOk hE (fun i : Nat => ⟨[(1, .ptr 1 0 0), (3, vr 6 (g.take i).flatten.length), (4, vi i)], [(6, rI .own true (g.take i).flatten), (1, .box 36 [.ref 1000000 0 g.length, .ref 1000001 0 o.length]), (1000000, rSL .fro false e g), (1000001, rSL .fro false e' o)]⟩) (fun i => i ≤ g.length) (fun i => g.length - i) 0 (by refine leT.of ?_ ?_ rfl <;> repeat' (first | exact trivial | refine And.intro rfl ?_ | refine And.intro (by first | rfl | (simp; done) | (simp <;> rfl)) ?_)) (Nat.zero_le _) ?_
  rintro i hi
  have hl := take_le g i
  have hl2 := take_le g (i + 1)
  by_cases hi2 : i < g.length
  · have ht := take_flat hi2
    rw [ht, List.length_append] at hl2
    repeat' (first | exact trivial | refine BS.d (fun h => ?_) (fun h => ?_) | refine BS.e (fun h => ?_) (fun h => ?_) | refine BS.ne (fun h => ?_) (fun h => ?_) | refine BS.n ?_ | refine BS.s (fun h => ?_) (fun h => ?_) | refine And.intro ?_ ?_ | (refine Need.mk ?_; first | with_reducible rfl | (show @Eq TC _ _; rfl) | omega | (simp only [adN_zero]; omega)) | exact OutS.whole rfl rfl | refine ListO.go gOk hE ?_)
    all_goals (try simp only [adN_zero] at *)
    all_goals first | (exfalso; omega) | (refine Need.mk ?_; omega) | skip
    refine OpK.apps gOk (by rfl) (by rfl) (by rfl) (by rfl) (by rfl) (by rfl) (by rfl) (by rfl) (by rfl) (by rfl) (by first | rfl | simp) (by exact intFlat) (by rfl) (by refine ⟨?_, ?_⟩ <;> (try unfold maxLen) <;> (try simp only [adN_zero]) <;> omega) ?_
    repeat' (first | exact trivial | refine BS.d (fun h => ?_) (fun h => ?_) | refine BS.e (fun h => ?_) (fun h => ?_) | refine BS.ne (fun h => ?_) (fun h => ?_) | refine BS.n ?_ | refine BS.s (fun h => ?_) (fun h => ?_) | refine And.intro ?_ ?_ | (refine Need.mk ?_; first | with_reducible rfl | (show @Eq TC _ _; rfl) | omega | (simp only [adN_zero]; omega)) | exact OutS.whole rfl rfl | refine ListO.go gOk hE ?_)
    all_goals (try simp only [adN_zero] at *)
    all_goals (refine ⟨i + 1, (by refine leT.of ?_ ?_ rfl <;> repeat' (first | exact trivial | refine And.intro rfl ?_ | refine And.intro (by rw [ht]; first | rfl | (simp; done) | (simp <;> rfl)) ?_)), ?_⟩; (refine And.intro ?_ ?_) <;> (first | omega | (dsimp only; omega) | trivial))
  · rw [show (g.take i) = g from List.take_of_length_le (by omega)]
    repeat' (first | exact trivial | refine BS.d (fun h => ?_) (fun h => ?_) | refine BS.e (fun h => ?_) (fun h => ?_) | refine BS.ne (fun h => ?_) (fun h => ?_) | refine BS.n ?_ | refine BS.s (fun h => ?_) (fun h => ?_) | refine And.intro ?_ ?_ | (refine Need.mk ?_; first | with_reducible rfl | (show @Eq TC _ _; rfl) | omega | (simp only [adN_zero]; omega)) | exact OutS.whole rfl rfl | refine ListO.go gOk hE ?_)
    all_goals (try simp only [adN_zero] at *)
    all_goals first | (exfalso; omega) | skip
    refine CodeK.loop gOk hE (fun i : Nat => ⟨[(1, .ptr 1 0 0), (3, vr 6 (g.flatten ++ (o.take i).flatten).length), (5, vi i)], [(6, rI .own true (g.flatten ++ (o.take i).flatten)), (1, .box 36 [.ref 1000000 0 g.length, .ref 1000001 0 o.length]), (1000000, rSL .fro false e g), (1000001, rSL .fro false e' o)]⟩) (fun i => i ≤ o.length) (fun i => o.length - i) 0 (by refine leT.of ?_ ?_ rfl <;> repeat' (first | exact trivial | refine And.intro rfl ?_ | refine And.intro (by first | rfl | (simp; done) | (simp <;> rfl)) ?_)) (Nat.zero_le _) ?_
    rintro k hk
    have kl := take_le o k
    have kl2 := take_le o (k + 1)
    by_cases hk2 : k < o.length
    · have ht := take_flat hk2
      rw [ht, List.length_append] at kl2
      have kq : (g.flatten ++ (o.take k).flatten).length = g.flatten.length + (o.take k).flatten.length := List.length_append
      repeat' (first | exact trivial | refine BS.d (fun h => ?_) (fun h => ?_) | refine BS.e (fun h => ?_) (fun h => ?_) | refine BS.ne (fun h => ?_) (fun h => ?_) | refine BS.n ?_ | refine BS.s (fun h => ?_) (fun h => ?_) | refine And.intro ?_ ?_ | (refine Need.mk ?_; first | with_reducible rfl | (show @Eq TC _ _; rfl) | omega | (simp only [adN_zero]; omega)) | exact OutS.whole rfl rfl | refine ListO.go gOk hE ?_)
      all_goals (try simp only [adN_zero] at *)
      all_goals first | (exfalso; omega) | (refine Need.mk ?_; omega) | skip
      refine OpK.apps gOk (by rfl) (by rfl) (by rfl) (by rfl) (by rfl) (by rfl) (by rfl) (by rfl) (by rfl) (by rfl) (by first | rfl | simp) (by exact intFlat) (by rfl) (by refine ⟨?_, ?_⟩ <;> (try unfold maxLen) <;> (try simp only [adN_zero]) <;> omega) ?_
      repeat' (first | exact trivial | refine BS.d (fun h => ?_) (fun h => ?_) | refine BS.e (fun h => ?_) (fun h => ?_) | refine BS.ne (fun h => ?_) (fun h => ?_) | refine BS.n ?_ | refine BS.s (fun h => ?_) (fun h => ?_) | refine And.intro ?_ ?_ | (refine Need.mk ?_; first | with_reducible rfl | (show @Eq TC _ _; rfl) | omega | (simp only [adN_zero]; omega)) | exact OutS.whole rfl rfl | refine ListO.go gOk hE ?_)
      all_goals (try simp only [adN_zero] at *)
      all_goals (refine ⟨k + 1, (by refine leT.of ?_ ?_ rfl <;> repeat' (first | exact trivial | refine And.intro rfl ?_ | refine And.intro (by rw [ht, ← List.append_assoc]; first | rfl | (simp; done) | (simp <;> rfl)) ?_)), ?_⟩; (refine And.intro ?_ ?_) <;> (first | omega | (dsimp only; omega) | trivial))
    · repeat' (first | exact trivial | refine BS.d (fun h => ?_) (fun h => ?_) | refine BS.e (fun h => ?_) (fun h => ?_) | refine BS.ne (fun h => ?_) (fun h => ?_) | refine BS.n ?_ | refine BS.s (fun h => ?_) (fun h => ?_) | refine And.intro ?_ ?_ | (refine Need.mk ?_; first | with_reducible rfl | (show @Eq TC _ _; rfl) | omega | (simp only [adN_zero]; omega)) | exact OutS.whole rfl rfl | refine ListO.go gOk hE ?_)
      all_goals first | (exfalso; omega) | exact OutS.whole rfl (by rw [List.take_of_length_le (by omega)]; rfl)
end Go.Proofs.YtfdbjiaghbeedaaGreatDoor
end

section
namespace Go.Proofs.YtfdbjiaghbeedaaGreatDoor
open Go Go.Tr
set_option maxRecDepth 100000
set_option maxHeartbeats 4000000
set_option linter.unusedVariables false
set_option linter.unusedSimpArgs false
theorem szSL_eq : ∀ (l : List (List Int)) (m : Int), 0 ≤ m → 0 ≤ szSL l m → szSL l m = m - l.flatten.length
  | [], m, h, _ => by simp [szSL]
  | x :: l, m, h, h2 => by
    obtain ⟨k1, k2, k3⟩ := szI_le x m h
    unfold szSL at h2 ⊢
    split at h2
    · omega
    · rename_i hn
      rw [if_neg hn, szSL_eq l _ (by omega) h2, List.flatten_cons, List.length_append]
      have : szI x m = m - x.length := by unfold szI at hn ⊢; split at hn <;> first | omega | (rw [if_neg (by assumption)])
      omega
theorem flat_mem {l : List (List Int)} {x : List Int} (h : x ∈ l) : x.length ≤ l.flatten.length := by
  induction l with
  | nil => cases h
  | cons y l ih =>
    rw [List.flatten_cons, List.length_append]
    rcases List.mem_cons.1 h with rfl | h
    · omega
    · have := ih h; omega
theorem szL_ok {g o : List (List Int)} {m : Int} (hm0 : 0 ≤ m) (hm1 : m ≤ 1048576) (h : ¬ (if szSLs g m < 0 then (-1 : Int) else szSLs o (szSLs g m)) < 0) : g.length + o.length + g.flatten.length + o.flatten.length ≤ 1048576 ∧ (∀ i, (g.getD i []).length ≤ 1048576) ∧ (∀ i, (o.getD i []).length ≤ 1048576) ∧ ∀ i, ((g ++ o).getD i []).length ≤ 1048576 := by
  have h1 : ¬ szSLs g m < 0 := by intro hh; rw [if_pos hh] at h; omega
  rw [if_neg h1] at h
  unfold szSLs at h1
  split at h1
  · omega
  have e1 := szSL_eq g (m - g.length) (by omega) (by omega)
  have e0 : szSLs g m = m - g.length - g.flatten.length := by unfold szSLs; rw [if_neg (by assumption), e1]
  rw [e0] at h
  unfold szSLs at h
  split at h
  · omega
  have e2 := szSL_eq o _ (by omega) (by omega : 0 ≤ szSL o (m - g.length - g.flatten.length - o.length))
  have hb : g.length + o.length + g.flatten.length + o.flatten.length ≤ 1048576 := by omega
  refine ⟨hb, getD_le fun x hx => by have := flat_mem hx; omega, getD_le fun x hx => by have := flat_mem hx; omega, getD_le fun x hx => ?_⟩
  rcases List.mem_append.1 hx with hx | hx <;> (have := flat_mem hx; omega)
end Go.Proofs.YtfdbjiaghbeedaaGreatDoor
end

section
namespace Go.Proofs.YtfdbjiaghbeedaaGreatDoor
open Go Go.Tr
set_option maxRecDepth 100000
set_option maxHeartbeats 4000000
set_option linter.unusedVariables false
set_option linter.unusedSimpArgs false
def ownFew (o : List (List Int)) : Bool := decide (∀ j, j < o.length → (o.getD j []).length ≤ 2)
def lsOk (g o : List (List Int)) : Bool := if g.length = 3 ∧ o.length = 9 ∧ ownFew o = true then okS [] (g ++ o).flatten else false
theorem few_no {o : List (List Int)} {i : Nat} (hi : i < o.length) (h : ¬ (o.getD i []).length ≤ 2) : ownFew o = false := decide_eq_false (fun hh => h (hh i hi))
theorem few_yes {o : List (List Int)} (h : ∀ j, j < o.length → (o.getD j []).length ≤ 2) : ownFew o = true := decide_eq_true h
theorem l1In_run (x a b : Int) : RunT Tryz.prog 73 [ti x, ti a, ti b] [] [ob (decide (a ≤ x ∧ x ≤ b))] [] := by
  refine RunT.of_vc gOk Tryz.func73 rfl rfl (Nat.le_of_ble_eq_true rfl) (by repeat' (first | exact trivial | exact ⟨_, rfl, Nat.le_refl _⟩ | exact Nat.le_of_ble_eq_true rfl | refine And.intro ?_ ?_)) (Nat.le_of_ble_eq_true rfl) rfl (fun F hE => ?_)
  repeat' (first | exact trivial | refine BS.d (fun h => ?_) (fun h => ?_) | refine BS.e (fun h => ?_) (fun h => ?_) | refine BS.ne (fun h => ?_) (fun h => ?_) | refine BS.n ?_ | refine BS.s (fun h => ?_) (fun h => ?_) | refine And.intro ?_ ?_ | (refine Need.mk ?_; first | with_reducible rfl | (show @Eq TC _ _; rfl) | omega | (simp only [adN_zero]; omega)) | exact OutS.whole rfl rfl | refine ListO.go gOk hE ?_)
  all_goals (refine Need.mk ?_; simp [*])
theorem ListsOkI_run (e e' : Nat) (g o : List (List Int)) (hgo : g.length + o.length ≤ 1048576) (hx : ∀ i, ((g ++ o).getD i []).length ≤ 1048576) : RunT Tryz.prog 114 [.agg [.c (tSL e g), .c (tSL e' o)]] [] [ob (lsOk g o)] [] := by
  have c1 := eachSlot_run e e' g o hgo hx
  by_cases hl : g.length = 3 ∧ o.length = 9
  · have hq : lsOk g o = if ownFew o = true then okS [] (g ++ o).flatten else false := by
      unfold lsOk
      by_cases h : ownFew o = true
      · rw [if_pos ⟨hl.1, hl.2, h⟩, if_pos h]
      · rw [if_neg (fun hh => h hh.2.2), if_neg h]
    rw [hq]
    generalize okS [] (g ++ o).flatten = ok at *
    obtain ⟨h1, h2⟩ := hl
    refine RunT.of_vc gOk Tryz.func114 rfl rfl (Nat.le_of_ble_eq_true rfl) (by repeat' (first | exact trivial | exact ⟨_, rfl, Nat.le_refl _⟩ | exact Nat.le_of_ble_eq_true rfl | refine And.intro ?_ ?_)) (Nat.le_of_ble_eq_true rfl) rfl (fun F hE => ?_)
    repeat' (first | exact trivial | refine BS.d (fun h => ?_) (fun h => ?_) | refine BS.e (fun h => ?_) (fun h => ?_) | refine BS.ne (fun h => ?_) (fun h => ?_) | refine BS.n ?_ | refine BS.s (fun h => ?_) (fun h => ?_) | refine And.intro ?_ ?_ | (refine Need.mk ?_; first | with_reducible rfl | (show @Eq TC _ _; rfl) | omega | (simp only [adN_zero]; omega)) | exact OutS.whole rfl rfl | refine ListO.go gOk hE ?_)
    all_goals (try simp only [adN_zero] at *)
    all_goals first | (exfalso; omega) | skip
    refine CodeK.loop gOk hE (fun i : Nat => ⟨[(1, .ptr 1 0 0), (16, vr 1000001 o.length), (17, vi o.length), (18, vi i)], [(1, .box 36 [.ref 1000000 0 g.length, .ref 1000001 0 o.length]), (1000000, rSL .fro false e g), (1000001, rSL .fro false e' o)]⟩) (fun i => i ≤ o.length ∧ ∀ j, j < i → (o.getD j []).length ≤ 2) (fun i => o.length - i) 0 (by refine leT.of ?_ ?_ rfl <;> repeat' (first | exact trivial | refine And.intro rfl ?_ | refine And.intro (by first | rfl | (simp; done) | (simp <;> rfl)) ?_)) ⟨Nat.zero_le _, fun j hj => absurd hj (Nat.not_lt_zero _)⟩ ?_
    rintro i ⟨hi, hs⟩
    by_cases hi2 : i < o.length
    · repeat' (first | exact trivial | refine BS.d (fun h => ?_) (fun h => ?_) | refine BS.e (fun h => ?_) (fun h => ?_) | refine BS.ne (fun h => ?_) (fun h => ?_) | refine BS.n ?_ | refine BS.s (fun h => ?_) (fun h => ?_) | refine And.intro ?_ ?_ | (refine Need.mk ?_; first | with_reducible rfl | (show @Eq TC _ _; rfl) | omega | (simp only [adN_zero]; omega)) | exact OutS.whole rfl rfl | refine ListO.go gOk hE ?_)
      all_goals (try simp only [adN_zero] at *)
      all_goals first
        | (exfalso; omega)
        | (refine Need.mk ?_; omega)
        | (refine Need.mk ?_; rw [if_neg (by rw [few_no hi2 (by omega)]; simp)])
        | (refine ⟨i + 1, (by refine leT.of ?_ ?_ rfl <;> repeat' (first | exact trivial | refine And.intro rfl ?_ | refine And.intro (by simp) ?_)), ⟨by omega, fun j hj => (Nat.lt_or_ge j i).elim (hs j) (fun h9 => (show j = i by omega) ▸ (by omega))⟩, by first | omega | (dsimp only; omega)⟩)
    · rw [if_pos (few_yes fun j hj => hs j (by omega))]
      repeat' (first | exact trivial | refine BS.d (fun h => ?_) (fun h => ?_) | refine BS.e (fun h => ?_) (fun h => ?_) | refine BS.ne (fun h => ?_) (fun h => ?_) | refine BS.n ?_ | refine BS.s (fun h => ?_) (fun h => ?_) | refine And.intro ?_ ?_ | (refine Need.mk ?_; first | with_reducible rfl | (show @Eq TC _ _; rfl) | omega | (simp only [adN_zero]; omega)) | exact OutS.whole rfl rfl | (refine OpK.call c1 rfl rfl rfl rfl hE ?_ rfl rfl ?_; focus ((repeat' (first | exact PsA.lit _ | exact PsA.ref rfl rfl | constructor)); all_goals (fail "ps"))) | refine ListO.go gOk hE ?_)
      all_goals (try simp only [adN_zero] at *)
      all_goals first | (exfalso; omega) | trace_state
  · have hq : lsOk g o = false := by unfold lsOk; rw [if_neg (fun h => hl ⟨h.1, h.2.1⟩)]
    rw [hq]
    refine RunT.of_vc gOk Tryz.func114 rfl rfl (Nat.le_of_ble_eq_true rfl) (by repeat' (first | exact trivial | exact ⟨_, rfl, Nat.le_refl _⟩ | exact Nat.le_of_ble_eq_true rfl | refine And.intro ?_ ?_)) (Nat.le_of_ble_eq_true rfl) rfl (fun F hE => ?_)
    repeat' (first | exact trivial | refine BS.d (fun h => ?_) (fun h => ?_) | refine BS.e (fun h => ?_) (fun h => ?_) | refine BS.ne (fun h => ?_) (fun h => ?_) | refine BS.n ?_ | refine BS.s (fun h => ?_) (fun h => ?_) | refine And.intro ?_ ?_ | (refine Need.mk ?_; first | with_reducible rfl | (show @Eq TC _ _; rfl) | omega | (simp only [adN_zero]; omega)) | exact OutS.whole rfl rfl | refine ListO.go gOk hE ?_)
    all_goals (try simp only [adN_zero] at *)
    all_goals first | (exfalso; omega) | trace_state
theorem ListsOkS_run (e e' : Nat) (g o : List (List Int)) (hg : g.length ≤ 1048576) (ho : o.length ≤ 1048576) (hf : g.flatten.length + o.flatten.length ≤ 1048576) : RunT Tryz.prog 106 [.agg [.c (tSL e g), .c (tSL e' o)]] [] [ob (lsOk g o)] [] := by
  have c1 := l8All_run e e' g o hg ho hf
  have hfl : (g ++ o).flatten.length ≤ 1048576 := by rw [List.flatten_append, List.length_append]; omega
  by_cases hl : g.length = 3 ∧ o.length = 9
  · have hq : lsOk g o = if ownFew o = true then okS [] (g ++ o).flatten else false := by
      unfold lsOk
      by_cases h : ownFew o = true
      · rw [if_pos ⟨hl.1, hl.2, h⟩, if_pos h]
      · rw [if_neg (fun hh => h hh.2.2), if_neg h]
    rw [hq]
    generalize (g ++ o).flatten = R at *
    obtain ⟨h1, h2⟩ := hl
    refine RunT.of_vc gOk Tryz.func106 rfl rfl (Nat.le_of_ble_eq_true rfl) (by repeat' (first | exact trivial | exact ⟨_, rfl, Nat.le_refl _⟩ | exact Nat.le_of_ble_eq_true rfl | refine And.intro ?_ ?_)) (Nat.le_of_ble_eq_true rfl) rfl (fun F hE => ?_)
    repeat' (first | exact trivial | refine BS.d (fun h => ?_) (fun h => ?_) | refine BS.e (fun h => ?_) (fun h => ?_) | refine BS.ne (fun h => ?_) (fun h => ?_) | refine BS.n ?_ | refine BS.s (fun h => ?_) (fun h => ?_) | refine And.intro ?_ ?_ | (refine Need.mk ?_; first | with_reducible rfl | (show @Eq TC _ _; rfl) | omega | (simp only [adN_zero]; omega)) | exact OutS.whole rfl rfl | refine ListO.go gOk hE ?_)
    all_goals (try simp only [adN_zero] at *)
    all_goals first | (exfalso; omega) | skip
    refine CodeK.loop gOk hE (fun i : Nat => ⟨[(1, .ptr 1 0 0), (3, vi i)], [(1, .box 36 [.ref 1000000 0 g.length, .ref 1000001 0 o.length]), (1000000, rSL .fro false e g), (1000001, rSL .fro false e' o)]⟩) (fun i => i ≤ o.length ∧ ∀ j, j < i → (o.getD j []).length ≤ 2) (fun i => o.length - i) 0 (by refine leT.of ?_ ?_ rfl <;> repeat' (first | exact trivial | refine And.intro rfl ?_ | refine And.intro (by first | rfl | (simp; done) | (simp <;> rfl)) ?_)) ⟨Nat.zero_le _, fun j hj => absurd hj (Nat.not_lt_zero _)⟩ ?_
    rintro i ⟨hi, hs⟩
    by_cases hi2 : i < o.length
    · repeat' (first | exact trivial | refine BS.d (fun h => ?_) (fun h => ?_) | refine BS.e (fun h => ?_) (fun h => ?_) | refine BS.ne (fun h => ?_) (fun h => ?_) | refine BS.n ?_ | refine BS.s (fun h => ?_) (fun h => ?_) | refine And.intro ?_ ?_ | (refine Need.mk ?_; first | with_reducible rfl | (show @Eq TC _ _; rfl) | omega | (simp only [adN_zero]; omega)) | exact OutS.whole rfl rfl | refine ListO.go gOk hE ?_)
      all_goals (try simp only [adN_zero] at *)
      all_goals first
        | (exfalso; omega)
        | (refine Need.mk ?_; omega)
        | (refine Need.mk ?_; rw [if_neg (by rw [few_no hi2 (by omega)]; simp)])
        | (refine ⟨i + 1, (by refine leT.of ?_ ?_ rfl <;> repeat' (first | exact trivial | refine And.intro rfl ?_ | refine And.intro (by simp) ?_)), ⟨by omega, fun j hj => (Nat.lt_or_ge j i).elim (hs j) (fun h9 => (show j = i by omega) ▸ (by omega))⟩, by first | omega | (dsimp only; omega)⟩)
    · rw [if_pos (few_yes fun j hj => hs j (by omega))]
      repeat' (first | exact trivial | refine BS.d (fun h => ?_) (fun h => ?_) | refine BS.e (fun h => ?_) (fun h => ?_) | refine BS.ne (fun h => ?_) (fun h => ?_) | refine BS.n ?_ | refine BS.s (fun h => ?_) (fun h => ?_) | refine And.intro ?_ ?_ | (refine Need.mk ?_; first | with_reducible rfl | (show @Eq TC _ _; rfl) | omega | (simp only [adN_zero]; omega)) | exact OutS.whole rfl rfl | (refine OpK.call c1 rfl rfl rfl rfl hE ?_ rfl rfl ?_; focus ((repeat' (first | exact PsA.lit _ | exact PsA.ref rfl rfl | constructor)); all_goals (fail "ps"))) | refine ListO.go gOk hE ?_)
      all_goals (try simp only [adN_zero] at *)
      all_goals first | (exfalso; omega) | skip
      refine CodeK.loop gOk hE (fun i : Nat => ⟨[(4, vr 2004096 R.length), (5, vi i)], [(2004096, rI .own true R)]⟩) (fun i => i ≤ R.length ∧ okS [] R = okS (R.take i) (R.drop i)) (fun i => R.length - i) 0 (by refine leT.of ?_ ?_ rfl <;> repeat' (first | exact trivial | refine And.intro rfl ?_ | refine And.intro (by first | rfl | (simp; done) | (simp <;> rfl)) ?_)) ⟨Nat.zero_le _, rfl⟩ ?_
      rintro k ⟨hk, hq⟩
      by_cases hk2 : k < R.length
      · rw [drop_cons 0 hk2] at hq
        have c2 := l1In_run (R.getD k 0) 0 23
        have c3 := l8HasT_run (R.take k) (R.getD k 0) (by rw [List.length_take]; omega)
        have ht : R.take (k + 1) = R.take k ++ [R.getD k 0] := by rw [List.take_succ_eq_append_getElem hk2]; simp [List.getD, hk2]
        by_cases hv : (0 ≤ R.getD k 0 ∧ R.getD k 0 < 24) ∧ R.getD k 0 ∉ R.take k
        · rw [decide_eq_true (show 0 ≤ R.getD k 0 ∧ R.getD k 0 ≤ 23 by omega)] at c2
          rw [decide_eq_false hv.2] at c3
          rw [okS_yes hv, ← ht] at hq
          repeat' (first | exact trivial | refine BS.d (fun h => ?_) (fun h => ?_) | refine BS.e (fun h => ?_) (fun h => ?_) | refine BS.ne (fun h => ?_) (fun h => ?_) | refine BS.n ?_ | refine BS.s (fun h => ?_) (fun h => ?_) | refine And.intro ?_ ?_ | (refine Need.mk ?_; first | with_reducible rfl | (show @Eq TC _ _; rfl) | omega | (simp only [adN_zero]; omega)) | exact OutS.whole rfl rfl | (refine CodeK.draw gOk hE rfl (fun _ _ h => h) (.take 0 (.take 1 (.take 2 (.alt 3 (.alt 4 (.take 5 (.take 6 (.take 7 (.take 8 (.take 9 (.take 10 (.take 11 (.take 12 (.alt 13 (.alt 14 (.take 15 .done) .stop) .stop))))))))) .stop) .stop)))) ?_ ?_; focus (decide +kernel)) | (refine OpK.call c2 rfl rfl rfl rfl hE ?_ rfl rfl ?_; focus ((repeat' (first | exact PsA.lit _ | exact PsA.ref rfl rfl | constructor)); all_goals (fail "ps"))) | (refine OpK.call c3 rfl rfl rfl rfl hE (.cons (.one (.seg rfl (by omega) (by simp))) (.cons (.one (.lit _)) .nil)) rfl rfl ?_) | refine ListO.go gOk hE ?_)
          all_goals (try simp only [adN_zero] at *)
          all_goals first
            | (exfalso; omega)
            | (refine Need.mk ?_; omega)
            | (refine ⟨k + 1, (by refine leT.of ?_ ?_ rfl <;> repeat' (first | exact trivial | refine And.intro rfl ?_ | refine And.intro (by simp) ?_)), ⟨by omega, hq⟩, by first | omega | (dsimp only; omega)⟩)
        · rw [okS_no hv] at hq
          rw [hq]
          by_cases hv1 : 0 ≤ R.getD k 0 ∧ R.getD k 0 ≤ 23
          · rw [decide_eq_true hv1] at c2
            rw [decide_eq_true (show R.getD k 0 ∈ R.take k from Classical.byContradiction fun hh => hv ⟨by omega, hh⟩)] at c3
            repeat' (first | exact trivial | refine BS.d (fun h => ?_) (fun h => ?_) | refine BS.e (fun h => ?_) (fun h => ?_) | refine BS.ne (fun h => ?_) (fun h => ?_) | refine BS.n ?_ | refine BS.s (fun h => ?_) (fun h => ?_) | refine And.intro ?_ ?_ | (refine Need.mk ?_; first | with_reducible rfl | (show @Eq TC _ _; rfl) | omega | (simp only [adN_zero]; omega)) | exact OutS.whole rfl rfl | (refine CodeK.draw gOk hE rfl (fun _ _ h => h) (.take 0 (.take 1 (.take 2 (.alt 3 (.alt 4 (.take 5 (.take 6 (.take 7 (.take 8 (.take 9 (.take 10 (.take 11 (.take 12 (.alt 13 (.alt 14 (.take 15 .done) .stop) .stop))))))))) .stop) .stop)))) ?_ ?_; focus (decide +kernel)) | (refine OpK.call c2 rfl rfl rfl rfl hE ?_ rfl rfl ?_; focus ((repeat' (first | exact PsA.lit _ | exact PsA.ref rfl rfl | constructor)); all_goals (fail "ps"))) | (refine OpK.call c3 rfl rfl rfl rfl hE (.cons (.one (.seg rfl (by omega) (by simp))) (.cons (.one (.lit _)) .nil)) rfl rfl ?_) | refine ListO.go gOk hE ?_)
            all_goals (try simp only [adN_zero] at *)
            all_goals first
              | (exfalso; omega)
              | (refine Need.mk ?_; omega)
              | trace_state
          · rw [decide_eq_false hv1] at c2
            repeat' (first | exact trivial | refine BS.d (fun h => ?_) (fun h => ?_) | refine BS.e (fun h => ?_) (fun h => ?_) | refine BS.ne (fun h => ?_) (fun h => ?_) | refine BS.n ?_ | refine BS.s (fun h => ?_) (fun h => ?_) | refine And.intro ?_ ?_ | (refine Need.mk ?_; first | with_reducible rfl | (show @Eq TC _ _; rfl) | omega | (simp only [adN_zero]; omega)) | exact OutS.whole rfl rfl | (refine CodeK.draw gOk hE rfl (fun _ _ h => h) (.take 0 (.take 1 (.take 2 (.alt 3 (.alt 4 (.take 5 (.take 6 (.take 7 (.take 8 (.take 9 (.take 10 (.take 11 (.take 12 (.alt 13 (.alt 14 (.take 15 .done) .stop) .stop))))))))) .stop) .stop)))) ?_ ?_; focus (decide +kernel)) | (refine OpK.call c2 rfl rfl rfl rfl hE ?_ rfl rfl ?_; focus ((repeat' (first | exact PsA.lit _ | exact PsA.ref rfl rfl | constructor)); all_goals (fail "ps"))) | refine ListO.go gOk hE ?_)
            all_goals (try simp only [adN_zero] at *)
            all_goals first
              | (exfalso; omega)
              | (refine Need.mk ?_; omega)
              | trace_state
      · rw [List.drop_eq_nil_of_le (by omega)] at hq
        repeat' (first | exact trivial | refine BS.d (fun h => ?_) (fun h => ?_) | refine BS.e (fun h => ?_) (fun h => ?_) | refine BS.ne (fun h => ?_) (fun h => ?_) | refine BS.n ?_ | refine BS.s (fun h => ?_) (fun h => ?_) | refine And.intro ?_ ?_ | (refine Need.mk ?_; first | with_reducible rfl | (show @Eq TC _ _; rfl) | omega | (simp only [adN_zero]; omega)) | exact OutS.whole rfl rfl | refine ListO.go gOk hE ?_)
        all_goals first | exact Need.mk hq.symm | (exfalso; omega) | trace_state
  · have hq : lsOk g o = false := by unfold lsOk; rw [if_neg (fun h => hl ⟨h.1, h.2.1⟩)]
    rw [hq]
    refine RunT.of_vc gOk Tryz.func106 rfl rfl (Nat.le_of_ble_eq_true rfl) (by repeat' (first | exact trivial | exact ⟨_, rfl, Nat.le_refl _⟩ | exact Nat.le_of_ble_eq_true rfl | refine And.intro ?_ ?_)) (Nat.le_of_ble_eq_true rfl) rfl (fun F hE => ?_)
    repeat' (first | exact trivial | refine BS.d (fun h => ?_) (fun h => ?_) | refine BS.e (fun h => ?_) (fun h => ?_) | refine BS.ne (fun h => ?_) (fun h => ?_) | refine BS.n ?_ | refine BS.s (fun h => ?_) (fun h => ?_) | refine And.intro ?_ ?_ | (refine Need.mk ?_; first | with_reducible rfl | (show @Eq TC _ _; rfl) | omega | (simp only [adN_zero]; omega)) | exact OutS.whole rfl rfl | refine ListO.go gOk hE ?_)
    all_goals (try simp only [adN_zero] at *)
    all_goals first | (exfalso; omega) | trace_state
end Go.Proofs.YtfdbjiaghbeedaaGreatDoor
end

section
/- A memory: its lists fit its heap. -/
namespace Go.Proofs.YtfdbjiaghbeedaaGreatDoor
open Go Go.Tr
set_option maxRecDepth 100000
set_option maxHeartbeats 4000000
set_option linter.unusedVariables false
set_option linter.unusedSimpArgs false
/-- A slot of the list is of the class and may be granted again. -/
def ftP (b c xs : List Int) (k : Int) (j : Nat) : Prop := clIn c (xs.getD j 0) = k ∧ gnIn b c (xs.getD j 0) ≤ 6
def ltP (b c xs : List Int) (k : Int) : Prop := ∀ j, j < xs.length → ftP b c xs k j
abbrev bHk (κ : Nat) (b c : List Int) : TRoot := .box 33 [.ref 1000000 0 b.length, .ref 1000001 0 c.length]
theorem l9Listed_run (b c xs : List Int) (k : Int) (hk : k ≠ -1) (hsh : shP b c) (hn : xs.length ≤ 1048576) : RunT Tryz.prog 107 [aH2 b c, .one (.c (tI xs)), ti k] [] [ob (dcB (ltP b c xs k))] [] := by
  have hc := hsh.2.1
  refine RunT.of_vc gOk Tryz.func107 rfl rfl (Nat.le_of_ble_eq_true rfl) (by repeat' (first | exact trivial | exact ⟨_, rfl, Nat.le_refl _⟩ | exact Nat.le_of_ble_eq_true rfl | refine And.intro ?_ ?_)) (Nat.le_of_ble_eq_true rfl) rfl (fun F hE => ?_)
  repeat' (first | exact trivial | refine BS.d (fun h => ?_) (fun h => ?_) | refine BS.e (fun h => ?_) (fun h => ?_) | refine BS.ne (fun h => ?_) (fun h => ?_) | refine BS.n ?_ | refine BS.s (fun h => ?_) (fun h => ?_) | refine And.intro ?_ ?_ | (refine Need.mk ?_; first | with_reducible rfl | (show @Eq TC _ _; rfl) | omega | (simp only [adN_zero]; omega)) | exact OutS.whole rfl rfl | refine ListO.go gOk hE ?_)
  refine CodeK.loop gOk hE (fun i : Nat => ⟨[(1, vr 1000002 xs.length), (2, vi k), (3, .ptr 3 0 0), (7, vi i)], [(3, bH b c), (1000000, rI .fro false b), (1000001, rI .fro false c), (1000002, rI .fro false xs)]⟩) (fun i => i ≤ xs.length ∧ ∀ j, j < i → ftP b c xs k j) (fun i => xs.length - i) 0 (by refine leT.of ?_ ?_ rfl <;> repeat' (first | exact trivial | refine And.intro rfl ?_ | refine And.intro (by simp) ?_)) ⟨Nat.zero_le _, fun j hj => absurd hj (Nat.not_lt_zero _)⟩ ?_
  rintro i ⟨hi, hq⟩
  by_cases hi2 : i < xs.length
  · have c1 := l7Class_run b c (xs.getD i 0) hc
    by_cases h1 : clIn c (xs.getD i 0) = k
    · have c2 := l7Gen_run b c (xs.getD i 0) hsh (by rw [h1]; exact hk)
      rw [h1] at c1
      by_cases h2 : gnIn b c (xs.getD i 0) ≤ 6
      · repeat' (first | exact trivial | refine BS.d (fun h => ?_) (fun h => ?_) | refine BS.e (fun h => ?_) (fun h => ?_) | refine BS.ne (fun h => ?_) (fun h => ?_) | refine BS.n ?_ | refine BS.s (fun h => ?_) (fun h => ?_) | refine And.intro ?_ ?_ | (refine Need.mk ?_; first | with_reducible rfl | (show @Eq TC _ _; rfl) | omega | (simp only [adN_zero]; omega)) | exact OutS.whole rfl rfl | (refine CodeK.draw gOk hE rfl (fun _ _ h => h) (.take 1 (.take 2 (.take 3 (.take 6 (.alt 0 (.alt 4 (.alt 5 (.take 7 (.take 8 (.take 10 (.take 11 (.take 12 (.alt 9 (.alt 13 (.alt 14 (.take 15 (.take 16 .done)) .stop) .stop) (.alt 13 (.alt 9 (.alt 14 (.take 15 (.take 16 .done)) .stop) .stop) .stop))))))) .stop) .stop) (.alt 4 (.alt 0 (.alt 5 (.take 7 (.take 8 (.take 10 (.take 11 (.take 12 (.alt 9 (.alt 13 (.alt 14 (.take 15 (.take 16 .done)) .stop) .stop) (.alt 13 (.alt 9 (.alt 14 (.take 15 (.take 16 .done)) .stop) .stop) .stop))))))) .stop) .stop) .stop)))))) ?_ ?_; focus (decide +kernel)) | (refine OpK.call c1 rfl rfl rfl rfl hE ?_ rfl rfl ?_; focus ((repeat' (first | exact PsA.lit _ | exact PsA.ref rfl rfl | constructor)); all_goals (fail "ps"))) | (refine OpK.call c2 rfl rfl rfl rfl hE ?_ rfl rfl ?_; focus ((repeat' (first | exact PsA.lit _ | exact PsA.ref rfl rfl | constructor)); all_goals (fail "ps"))) | refine ListO.go gOk hE ?_)
        all_goals (try simp only [adN_zero] at *)
        all_goals first
          | (exfalso; omega)
          | (refine Need.mk ?_; omega)
          | (refine ⟨i + 1, (by refine leT.of ?_ ?_ rfl <;> repeat' (first | exact trivial | refine And.intro rfl ?_ | refine And.intro (by simp) ?_)), ⟨by omega, fun j hj => (Nat.lt_or_ge j i).elim (hq j) (fun h9 => (show j = i by omega) ▸ ⟨h1, h2⟩)⟩, by first | omega | (dsimp only; omega)⟩)
          | trace_state
      · repeat' (first | exact trivial | refine BS.d (fun h => ?_) (fun h => ?_) | refine BS.e (fun h => ?_) (fun h => ?_) | refine BS.ne (fun h => ?_) (fun h => ?_) | refine BS.n ?_ | refine BS.s (fun h => ?_) (fun h => ?_) | refine And.intro ?_ ?_ | (refine Need.mk ?_; first | with_reducible rfl | (show @Eq TC _ _; rfl) | omega | (simp only [adN_zero]; omega)) | exact OutS.whole rfl rfl | (refine CodeK.draw gOk hE rfl (fun _ _ h => h) (.take 1 (.take 2 (.take 3 (.take 6 (.alt 0 (.alt 4 (.alt 5 (.take 7 (.take 8 (.take 10 (.take 11 (.take 12 (.alt 9 (.alt 13 (.alt 14 (.take 15 (.take 16 .done)) .stop) .stop) (.alt 13 (.alt 9 (.alt 14 (.take 15 (.take 16 .done)) .stop) .stop) .stop))))))) .stop) .stop) (.alt 4 (.alt 0 (.alt 5 (.take 7 (.take 8 (.take 10 (.take 11 (.take 12 (.alt 9 (.alt 13 (.alt 14 (.take 15 (.take 16 .done)) .stop) .stop) (.alt 13 (.alt 9 (.alt 14 (.take 15 (.take 16 .done)) .stop) .stop) .stop))))))) .stop) .stop) .stop)))))) ?_ ?_; focus (decide +kernel)) | (refine OpK.call c1 rfl rfl rfl rfl hE ?_ rfl rfl ?_; focus ((repeat' (first | exact PsA.lit _ | exact PsA.ref rfl rfl | constructor)); all_goals (fail "ps"))) | (refine OpK.call c2 rfl rfl rfl rfl hE ?_ rfl rfl ?_; focus ((repeat' (first | exact PsA.lit _ | exact PsA.ref rfl rfl | constructor)); all_goals (fail "ps"))) | refine ListO.go gOk hE ?_)
        all_goals (try simp only [adN_zero] at *)
        all_goals first
          | (exfalso; omega)
          | (refine Need.mk ?_; omega)
          | (refine Need.mk ?_; symm; apply dcB_false; intro hh; exact h2 (hh i hi2).2)
          | trace_state
    · repeat' (first | exact trivial | refine BS.d (fun h => ?_) (fun h => ?_) | refine BS.e (fun h => ?_) (fun h => ?_) | refine BS.ne (fun h => ?_) (fun h => ?_) | refine BS.n ?_ | refine BS.s (fun h => ?_) (fun h => ?_) | refine And.intro ?_ ?_ | (refine Need.mk ?_; first | with_reducible rfl | (show @Eq TC _ _; rfl) | omega | (simp only [adN_zero]; omega)) | exact OutS.whole rfl rfl | (refine CodeK.draw gOk hE rfl (fun _ _ h => h) (.take 1 (.take 2 (.take 3 (.take 6 (.alt 0 (.alt 4 (.alt 5 (.take 7 (.take 8 (.take 10 (.take 11 (.take 12 (.alt 9 (.alt 13 (.alt 14 (.take 15 (.take 16 .done)) .stop) .stop) (.alt 13 (.alt 9 (.alt 14 (.take 15 (.take 16 .done)) .stop) .stop) .stop))))))) .stop) .stop) (.alt 4 (.alt 0 (.alt 5 (.take 7 (.take 8 (.take 10 (.take 11 (.take 12 (.alt 9 (.alt 13 (.alt 14 (.take 15 (.take 16 .done)) .stop) .stop) (.alt 13 (.alt 9 (.alt 14 (.take 15 (.take 16 .done)) .stop) .stop) .stop))))))) .stop) .stop) .stop)))))) ?_ ?_; focus (decide +kernel)) | (refine OpK.call c1 rfl rfl rfl rfl hE ?_ rfl rfl ?_; focus ((repeat' (first | exact PsA.lit _ | exact PsA.ref rfl rfl | constructor)); all_goals (fail "ps"))) | refine ListO.go gOk hE ?_)
      all_goals (try simp only [adN_zero] at *)
      all_goals first
        | (exfalso; omega)
        | (refine Need.mk ?_; omega)
        | (refine Need.mk ?_; symm; apply dcB_false; intro hh; exact h1 (hh i hi2).1)
        | trace_state
  · repeat' (first | exact trivial | refine BS.d (fun h => ?_) (fun h => ?_) | refine BS.e (fun h => ?_) (fun h => ?_) | refine BS.ne (fun h => ?_) (fun h => ?_) | refine BS.n ?_ | refine BS.s (fun h => ?_) (fun h => ?_) | refine And.intro ?_ ?_ | (refine Need.mk ?_; first | with_reducible rfl | (show @Eq TC _ _; rfl) | omega | (simp only [adN_zero]; omega)) | exact OutS.whole rfl rfl | refine ListO.go gOk hE ?_)
    all_goals first
      | (exfalso; omega)
      | (refine Need.mk ?_; symm; apply dcB_true; exact fun j hj => hq j (by omega))
      | trace_state
theorem listFits_run (b c xs : List Int) (k : Int) (hk : k ≠ -1) (hsh : shP b c) (hn : xs.length ≤ 1048576) : RunH Tryz.prog hT 115 [aH2 b c, .agg [.c (tI xs)], ti k] [] [ob (dcB (ltP b c xs k))] [] := by
  have hc := hsh.2.1
  refine RunH.of_vc gOk Tryz.func115 rfl rfl (Nat.le_of_ble_eq_true rfl) (by repeat' (first | exact trivial | exact ⟨_, rfl, Nat.le_refl _⟩ | exact Nat.le_of_ble_eq_true rfl | refine And.intro ?_ ?_)) (Nat.le_of_ble_eq_true rfl) rfl (fun F hE hA => ?_)
  repeat' (first | exact trivial | refine BS.d (fun h => ?_) (fun h => ?_) | refine BS.e (fun h => ?_) (fun h => ?_) | refine BS.ne (fun h => ?_) (fun h => ?_) | refine BS.n ?_ | refine BS.s (fun h => ?_) (fun h => ?_) | refine And.intro ?_ ?_ | (refine Need.mk ?_; first | with_reducible rfl | (show @Eq TC _ _; rfl) | omega | (simp only [adN_zero]; omega)) | exact OutS.whole rfl rfl | refine ListO.go gOk hE ?_)
  refine CodeK.loop gOk hE (fun i : Nat => ⟨[(2, vi k), (3, .ptr 3 0 0), (10, vr 1000002 xs.length), (11, vi xs.length), (12, vi i)], [(3, bH b c), (1000000, rI .fro false b), (1000001, rI .fro false c), (1000002, rI .fro false xs)]⟩) (fun i => i ≤ xs.length ∧ ∀ j, j < i → ftP b c xs k j) (fun i => xs.length - i) 0 (by refine leT.of ?_ ?_ rfl <;> repeat' (first | exact trivial | refine And.intro rfl ?_ | refine And.intro (by simp) ?_)) ⟨Nat.zero_le _, fun j hj => absurd hj (Nat.not_lt_zero _)⟩ ?_
  rintro i ⟨hi, hq⟩
  by_cases hi2 : i < xs.length
  · have c1 := classIn_run b c (xs.getD i 0) hc
    have c2 := genIn_run b c (xs.getD i 0) hsh
    by_cases h1 : clIn c (xs.getD i 0) = k
    · rw [h1] at c1
      by_cases h2 : gnIn b c (xs.getD i 0) ≤ 6
      · repeat' (first | exact trivial | refine BS.d (fun h => ?_) (fun h => ?_) | refine BS.e (fun h => ?_) (fun h => ?_) | refine BS.ne (fun h => ?_) (fun h => ?_) | refine BS.n ?_ | refine BS.s (fun h => ?_) (fun h => ?_) | refine And.intro ?_ ?_ | (refine Need.mk ?_; first | with_reducible rfl | (show @Eq TC _ _; rfl) | omega | (simp only [adN_zero]; omega)) | exact OutS.whole rfl rfl | (refine OpK.callH c1 hA rfl rfl rfl rfl hE ?_ rfl rfl ?_; focus ((repeat' (first | exact PsA.lit _ | exact PsA.ref rfl rfl | constructor)); all_goals (fail "ps"))) | (refine OpK.callH c2 hA rfl rfl rfl rfl hE ?_ rfl rfl ?_; focus ((repeat' (first | exact PsA.lit _ | exact PsA.ref rfl rfl | constructor)); all_goals (fail "ps"))) | refine ListO.go gOk hE ?_)
        all_goals (try simp only [adN_zero] at *)
        all_goals first
          | (exfalso; omega)
          | (refine Need.mk ?_; omega)
          | (refine ⟨i + 1, (by refine leT.of ?_ ?_ rfl <;> repeat' (first | exact trivial | refine And.intro rfl ?_ | refine And.intro (by simp) ?_)), ⟨by omega, fun j hj => (Nat.lt_or_ge j i).elim (hq j) (fun h9 => (show j = i by omega) ▸ ⟨h1, h2⟩)⟩, by first | omega | (dsimp only; omega)⟩)
          | trace_state
      · repeat' (first | exact trivial | refine BS.d (fun h => ?_) (fun h => ?_) | refine BS.e (fun h => ?_) (fun h => ?_) | refine BS.ne (fun h => ?_) (fun h => ?_) | refine BS.n ?_ | refine BS.s (fun h => ?_) (fun h => ?_) | refine And.intro ?_ ?_ | (refine Need.mk ?_; first | with_reducible rfl | (show @Eq TC _ _; rfl) | omega | (simp only [adN_zero]; omega)) | exact OutS.whole rfl rfl | (refine OpK.callH c1 hA rfl rfl rfl rfl hE ?_ rfl rfl ?_; focus ((repeat' (first | exact PsA.lit _ | exact PsA.ref rfl rfl | constructor)); all_goals (fail "ps"))) | (refine OpK.callH c2 hA rfl rfl rfl rfl hE ?_ rfl rfl ?_; focus ((repeat' (first | exact PsA.lit _ | exact PsA.ref rfl rfl | constructor)); all_goals (fail "ps"))) | refine ListO.go gOk hE ?_)
        all_goals (try simp only [adN_zero] at *)
        all_goals first
          | (exfalso; omega)
          | (refine Need.mk ?_; omega)
          | (refine Need.mk ?_; symm; apply dcB_false; intro hh; exact h2 (hh i hi2).2)
          | trace_state
    · repeat' (first | exact trivial | refine BS.d (fun h => ?_) (fun h => ?_) | refine BS.e (fun h => ?_) (fun h => ?_) | refine BS.ne (fun h => ?_) (fun h => ?_) | refine BS.n ?_ | refine BS.s (fun h => ?_) (fun h => ?_) | refine And.intro ?_ ?_ | (refine Need.mk ?_; first | with_reducible rfl | (show @Eq TC _ _; rfl) | omega | (simp only [adN_zero]; omega)) | exact OutS.whole rfl rfl | (refine OpK.callH c1 hA rfl rfl rfl rfl hE ?_ rfl rfl ?_; focus ((repeat' (first | exact PsA.lit _ | exact PsA.ref rfl rfl | constructor)); all_goals (fail "ps"))) | refine ListO.go gOk hE ?_)
      all_goals (try simp only [adN_zero] at *)
      all_goals first
        | (exfalso; omega)
        | (refine Need.mk ?_; omega)
        | (refine Need.mk ?_; symm; apply dcB_false; intro hh; exact h1 (hh i hi2).1)
        | trace_state
  · repeat' (first | exact trivial | refine BS.d (fun h => ?_) (fun h => ?_) | refine BS.e (fun h => ?_) (fun h => ?_) | refine BS.ne (fun h => ?_) (fun h => ?_) | refine BS.n ?_ | refine BS.s (fun h => ?_) (fun h => ?_) | refine And.intro ?_ ?_ | (refine Need.mk ?_; first | with_reducible rfl | (show @Eq TC _ _; rfl) | omega | (simp only [adN_zero]; omega)) | exact OutS.whole rfl rfl | refine ListO.go gOk hE ?_)
    all_goals first
      | (exfalso; omega)
      | (refine Need.mk ?_; symm; apply dcB_true; exact fun j hj => hq j (by omega))
      | trace_state
end Go.Proofs.YtfdbjiaghbeedaaGreatDoor
end

section
/- The index of a list of one's own. -/
namespace Go.Proofs.YtfdbjiaghbeedaaGreatDoor
open Go Go.Tr
set_option maxRecDepth 100000
set_option maxHeartbeats 4000000
set_option linter.unusedVariables false
set_option linter.unusedSimpArgs false
theorem lsOk_len {g o : List (List Int)} (h : lsOk g o = true) : g.length = 3 ∧ o.length = 9 := by
  unfold lsOk at h
  split at h
  · rename_i hh; exact ⟨hh.1, hh.2.1⟩
  · cases h
theorem OwnAtH_run (w c : Int) : RunT Tryz.prog 108 [ti w, ti c] [] [oi (if (0 ≤ w ∧ w ≤ 2) ∧ 0 ≤ c ∧ c ≤ 2 then w * 3 + c else -1)] [] := by
  have c1 := l1In_run w 0 2
  have c2 := l1In_run c 0 2
  refine RunT.of_vc gOk Tryz.func108 rfl rfl (Nat.le_of_ble_eq_true rfl) (by repeat' (first | exact trivial | exact ⟨_, rfl, Nat.le_refl _⟩ | exact Nat.le_of_ble_eq_true rfl | refine And.intro ?_ ?_)) (Nat.le_of_ble_eq_true rfl) rfl (fun F hE => ?_)
  repeat' (first | exact trivial | refine BS.d (fun h => ?_) (fun h => ?_) | refine BS.e (fun h => ?_) (fun h => ?_) | refine BS.ne (fun h => ?_) (fun h => ?_) | refine BS.n ?_ | refine BS.s (fun h => ?_) (fun h => ?_) | refine And.intro ?_ ?_ | (refine Need.mk ?_; first | with_reducible rfl | (show @Eq TC _ _; rfl) | omega | (simp only [adN_zero]; omega)) | exact OutS.whole rfl rfl | (refine OpK.call c1 rfl rfl rfl rfl hE ?_ rfl rfl ?_; focus ((repeat' (first | exact PsA.lit _ | exact PsA.ref rfl rfl | constructor)); all_goals (fail "ps"))) | (refine OpK.call c2 rfl rfl rfl rfl hE ?_ rfl rfl ?_; focus ((repeat' (first | exact PsA.lit _ | exact PsA.ref rfl rfl | constructor)); all_goals (fail "ps"))) | refine ListO.go gOk hE ?_)
  all_goals first | (exfalso; omega) | (refine Need.mk ?_; first | (rw [if_pos (by omega)]; done) | (rw [if_neg (by omega)]; done)) | trace_state
end Go.Proofs.YtfdbjiaghbeedaaGreatDoor
end

section
namespace Go.Proofs.YtfdbjiaghbeedaaGreatDoor
open Go Go.Tr
set_option maxRecDepth 100000
set_option maxHeartbeats 4000000
set_option linter.unusedVariables false
set_option linter.unusedSimpArgs false
def mmP (b c : List Int) (g o : List (List Int)) : Prop := hpP b c ∧ lsOk g o = true ∧ (∀ j : Nat, j < 3 → ltP b c (g.getD j []) j) ∧ ∀ w j : Nat, w < 3 → j < 3 → ltP b c (o.getD (w * 3 + j) []) j
abbrev bM (b c : List Int) (g o : List (List Int)) : TRoot := .box 38 [.ref 1000000 0 b.length, .ref 1000001 0 c.length, .ref 1000002 0 g.length, .ref 1000003 0 o.length]
theorem MemOkS_run (e : Nat) (b c : List Int) (g o : List (List Int)) (hm : MmOk 1048576 b c g o) (hgo : g.length + o.length ≤ 1048576) (hf : g.flatten.length + o.flatten.length ≤ 1048576) (cL : RunT Tryz.prog 106 [.agg [.c (tSL e g), .c (tSL e o)]] [] [ob (lsOk g o)] []) : RunT Tryz.prog 46 [aMm e b c g o] [] [ob (dcB (mmP b c g o))] [] := by
  have c1 := HeapOkS_run b c hm.hb hm.hc
  by_cases h1 : hpP b c
  · rw [dcB_true h1] at c1
    cases h2 : lsOk g o with
    | false =>
      rw [h2] at cL
      rw [dcB_false (fun hh => by rw [hh.2.1] at h2; cases h2)]
      refine RunT.of_vc gOk Tryz.func46 rfl rfl (Nat.le_of_ble_eq_true rfl) (by repeat' (first | exact trivial | exact ⟨_, rfl, Nat.le_refl _⟩ | exact Nat.le_of_ble_eq_true rfl | refine And.intro ?_ ?_)) (Nat.le_of_ble_eq_true rfl) rfl (fun F hE => ?_)
      repeat' (first | exact trivial | refine BS.d (fun h => ?_) (fun h => ?_) | refine BS.e (fun h => ?_) (fun h => ?_) | refine BS.ne (fun h => ?_) (fun h => ?_) | refine BS.n ?_ | refine BS.s (fun h => ?_) (fun h => ?_) | refine And.intro ?_ ?_ | (refine Need.mk ?_; first | with_reducible rfl | (show @Eq TC _ _; rfl) | omega | (simp only [adN_zero]; omega)) | exact OutS.whole rfl rfl | (refine OpK.call c1 rfl rfl rfl rfl hE ?_ rfl rfl ?_; focus ((repeat' (first | exact PsA.lit _ | exact PsA.ref rfl rfl | constructor)); all_goals (fail "ps"))) | (refine OpK.call cL rfl rfl rfl rfl hE ?_ rfl rfl ?_; focus ((repeat' (first | exact PsA.lit _ | exact PsA.ref rfl rfl | constructor)); all_goals (fail "ps"))) | refine ListO.go gOk hE ?_)
    | true =>
      rw [h2] at cL
      obtain ⟨hg3, ho9⟩ := lsOk_len h2
      refine RunT.of_vc gOk Tryz.func46 rfl rfl (Nat.le_of_ble_eq_true rfl) (by repeat' (first | exact trivial | exact ⟨_, rfl, Nat.le_refl _⟩ | exact Nat.le_of_ble_eq_true rfl | refine And.intro ?_ ?_)) (Nat.le_of_ble_eq_true rfl) rfl (fun F hE => ?_)
      repeat' (first | exact trivial | refine BS.d (fun h => ?_) (fun h => ?_) | refine BS.e (fun h => ?_) (fun h => ?_) | refine BS.ne (fun h => ?_) (fun h => ?_) | refine BS.n ?_ | refine BS.s (fun h => ?_) (fun h => ?_) | refine And.intro ?_ ?_ | (refine Need.mk ?_; first | with_reducible rfl | (show @Eq TC _ _; rfl) | omega | (simp only [adN_zero]; omega)) | exact OutS.whole rfl rfl | (refine OpK.call c1 rfl rfl rfl rfl hE ?_ rfl rfl ?_; focus ((repeat' (first | exact PsA.lit _ | exact PsA.ref rfl rfl | constructor)); all_goals (fail "ps"))) | (refine OpK.call cL rfl rfl rfl rfl hE ?_ rfl rfl ?_; focus ((repeat' (first | exact PsA.lit _ | exact PsA.ref rfl rfl | constructor)); all_goals (fail "ps"))) | refine ListO.go gOk hE ?_)
      refine CodeK.loop gOk hE (fun i : Nat => ⟨[(1, .ptr 1 0 0), (3, vi i)], [(1, bM b c g o), (1000000, rI .fro false b), (1000001, rI .fro false c), (1000002, rSL .fro false e g), (1000003, rSL .fro false e o)]⟩) (fun i => i ≤ 3 ∧ ∀ j : Nat, j < i → ltP b c (g.getD j []) j ∧ ∀ w : Nat, w < 3 → ltP b c (o.getD (w * 3 + j) []) j) (fun i => 3 - i) 0 (by refine leT.of ?_ ?_ rfl <;> repeat' (first | exact trivial | refine And.intro rfl ?_ | refine And.intro (by simp) ?_)) ⟨Nat.zero_le _, fun j hj => absurd hj (Nat.not_lt_zero _)⟩ ?_
      rintro i ⟨hi, hq⟩
      by_cases hi2 : i < 3
      · have c2 := l9Listed_run b c (g.getD i []) i (by omega) h1.1 (hm.hg' i)
        by_cases hp : ltP b c (g.getD i []) i
        · rw [dcB_true hp] at c2
          repeat' (first | exact trivial | refine BS.d (fun h => ?_) (fun h => ?_) | refine BS.e (fun h => ?_) (fun h => ?_) | refine BS.ne (fun h => ?_) (fun h => ?_) | refine BS.n ?_ | refine BS.s (fun h => ?_) (fun h => ?_) | refine And.intro ?_ ?_ | (refine Need.mk ?_; first | with_reducible rfl | (show @Eq TC _ _; rfl) | omega | (simp only [adN_zero]; omega)) | exact OutS.whole rfl rfl | (refine CodeK.draw gOk hE rfl (fun _ _ h => h) (.take 0 (.take 2 (.take 3 (.take 5 (.take 9 (.alt 1 (.alt 4 (.take 6 (.take 7 (.alt 8 (.alt 10 (.take 11 .done) .stop) .stop))) .stop) (.alt 4 (.take 6 (.take 7 (.alt 1 (.alt 8 (.alt 10 (.take 11 .done) .stop) .stop) (.alt 8 (.alt 1 (.alt 10 (.take 11 .done) .stop) .stop) .stop)))) .stop))))))) ?_ ?_; focus (decide +kernel)) | (refine OpK.call c2 rfl rfl rfl rfl hE ?_ rfl rfl ?_; focus ((repeat' (first | exact PsA.lit _ | exact PsA.ref rfl rfl | constructor)); all_goals (fail "ps"))) | refine ListO.go gOk hE ?_)
          all_goals (try simp only [adN_zero] at *)
          all_goals first | (exfalso; omega) | (refine Need.mk ?_; omega) | skip
          all_goals (
            refine CodeK.loop gOk hE (fun w : Nat => ⟨[(1, .ptr 1 0 0), (3, vi i), (4, vi w)], [(1, bM b c g o), (1000000, rI .fro false b), (1000001, rI .fro false c), (1000002, rSL .fro false e g), (1000003, rSL .fro false e o)]⟩) (fun w => w ≤ 3 ∧ ∀ v : Nat, v < w → ltP b c (o.getD (v * 3 + i) []) i) (fun w => 3 - w) 0 (by refine leT.of ?_ ?_ rfl <;> repeat' (first | exact trivial | refine And.intro rfl ?_ | refine And.intro (by simp) ?_)) ⟨Nat.zero_le _, fun j hj => absurd hj (Nat.not_lt_zero _)⟩ ?_
            rintro w ⟨hw, hr⟩
            by_cases hw2 : w < 3
            · have c3 := OwnAtH_run w i
              rw [if_pos (by omega)] at c3
              have c4 := l9Listed_run b c (o.getD (w * 3 + i) []) i (by omega) h1.1 (hm.ho' (w * 3 + i))
              have ha : adN 0 ((w : Int) * 3 + (i : Int)) = w * 3 + i := by rw [adN_eq]; omega
              by_cases hp2 : ltP b c (o.getD (w * 3 + i) []) i
              · rw [dcB_true hp2] at c4
                repeat' (first | exact trivial | refine BS.d (fun h => ?_) (fun h => ?_) | refine BS.e (fun h => ?_) (fun h => ?_) | refine BS.ne (fun h => ?_) (fun h => ?_) | refine BS.n ?_ | refine BS.s (fun h => ?_) (fun h => ?_) | refine And.intro ?_ ?_ | (refine Need.mk ?_; first | with_reducible rfl | (show @Eq TC _ _; rfl) | omega | (simp only [adN_zero]; omega)) | exact OutS.whole rfl rfl | (refine CodeK.draw gOk hE rfl (fun _ _ h => h) (.take 0 (.take 2 (.take 3 (.take 5 (.take 6 (.take 11 (.alt 1 (.alt 4 (.alt 7 (.take 8 (.take 9 (.alt 10 (.alt 12 (.take 13 .done) .stop) .stop))) .stop) (.alt 7 (.alt 4 (.take 8 (.take 9 (.alt 10 (.alt 12 (.take 13 .done) .stop) .stop))) .stop) .stop)) (.alt 4 (.alt 1 (.alt 7 (.take 8 (.take 9 (.alt 10 (.alt 12 (.take 13 .done) .stop) .stop))) .stop) (.alt 7 (.take 8 (.take 9 (.alt 1 (.alt 10 (.alt 12 (.take 13 .done) .stop) .stop) (.alt 10 (.alt 1 (.alt 12 (.take 13 .done) .stop) .stop) .stop)))) .stop)) (.alt 7 (.alt 1 (.alt 4 (.take 8 (.take 9 (.alt 10 (.alt 12 (.take 13 .done) .stop) .stop))) .stop) (.alt 4 (.take 8 (.take 9 (.alt 1 (.alt 10 (.alt 12 (.take 13 .done) .stop) .stop) (.alt 10 (.alt 1 (.alt 12 (.take 13 .done) .stop) .stop) .stop)))) .stop)) .stop))))))))) ?_ ?_; focus (decide +kernel)) | (refine OpK.call c3 rfl rfl rfl rfl hE ?_ rfl rfl ?_; focus ((repeat' (first | exact PsA.lit _ | exact PsA.ref rfl rfl | constructor)); all_goals (fail "ps"))) | (refine OpK.call c4 rfl rfl rfl rfl hE ?_ rfl rfl ?_; focus ((repeat' (first | exact PsA.lit _ | exact PsA.ref rfl rfl | constructor)); all_goals (fail "ps"))) | refine ListO.go gOk hE ?_)
                all_goals (try simp only [adN_zero, ha] at *)
                all_goals first
                  | (exfalso; omega)
                  | (refine Need.mk ?_; omega)
                  | (refine ⟨w + 1, (by refine leT.of ?_ ?_ rfl <;> repeat' (first | exact trivial | refine And.intro rfl ?_ | refine And.intro (by simp) ?_)), ⟨by omega, fun j hj => (Nat.lt_or_ge j w).elim (hr j) (fun h9 => (show j = w by omega) ▸ hp2)⟩, by first | omega | (dsimp only; omega)⟩)
                  | trace_state
              · rw [dcB_false hp2] at c4
                repeat' (first | exact trivial | refine BS.d (fun h => ?_) (fun h => ?_) | refine BS.e (fun h => ?_) (fun h => ?_) | refine BS.ne (fun h => ?_) (fun h => ?_) | refine BS.n ?_ | refine BS.s (fun h => ?_) (fun h => ?_) | refine And.intro ?_ ?_ | (refine Need.mk ?_; first | with_reducible rfl | (show @Eq TC _ _; rfl) | omega | (simp only [adN_zero]; omega)) | exact OutS.whole rfl rfl | (refine CodeK.draw gOk hE rfl (fun _ _ h => h) (.take 0 (.take 2 (.take 3 (.take 5 (.take 6 (.take 11 (.alt 1 (.alt 4 (.alt 7 (.take 8 (.take 9 (.alt 10 (.alt 12 (.take 13 .done) .stop) .stop))) .stop) (.alt 7 (.alt 4 (.take 8 (.take 9 (.alt 10 (.alt 12 (.take 13 .done) .stop) .stop))) .stop) .stop)) (.alt 4 (.alt 1 (.alt 7 (.take 8 (.take 9 (.alt 10 (.alt 12 (.take 13 .done) .stop) .stop))) .stop) (.alt 7 (.take 8 (.take 9 (.alt 1 (.alt 10 (.alt 12 (.take 13 .done) .stop) .stop) (.alt 10 (.alt 1 (.alt 12 (.take 13 .done) .stop) .stop) .stop)))) .stop)) (.alt 7 (.alt 1 (.alt 4 (.take 8 (.take 9 (.alt 10 (.alt 12 (.take 13 .done) .stop) .stop))) .stop) (.alt 4 (.take 8 (.take 9 (.alt 1 (.alt 10 (.alt 12 (.take 13 .done) .stop) .stop) (.alt 10 (.alt 1 (.alt 12 (.take 13 .done) .stop) .stop) .stop)))) .stop)) .stop))))))))) ?_ ?_; focus (decide +kernel)) | (refine OpK.call c3 rfl rfl rfl rfl hE ?_ rfl rfl ?_; focus ((repeat' (first | exact PsA.lit _ | exact PsA.ref rfl rfl | constructor)); all_goals (fail "ps"))) | (refine OpK.call c4 rfl rfl rfl rfl hE ?_ rfl rfl ?_; focus ((repeat' (first | exact PsA.lit _ | exact PsA.ref rfl rfl | constructor)); all_goals (fail "ps"))) | refine ListO.go gOk hE ?_)
                all_goals (try simp only [adN_zero, ha] at *)
                all_goals first
                  | (exfalso; omega)
                  | (refine Need.mk ?_; omega)
                  | (refine Need.mk ?_; symm; apply dcB_false; intro hh; exact hp2 (hh.2.2.2 w i hw2 hi2))
                  | trace_state
            · repeat' (first | exact trivial | refine BS.d (fun h => ?_) (fun h => ?_) | refine BS.e (fun h => ?_) (fun h => ?_) | refine BS.ne (fun h => ?_) (fun h => ?_) | refine BS.n ?_ | refine BS.s (fun h => ?_) (fun h => ?_) | refine And.intro ?_ ?_ | (refine Need.mk ?_; first | with_reducible rfl | (show @Eq TC _ _; rfl) | omega | (simp only [adN_zero]; omega)) | exact OutS.whole rfl rfl | refine ListO.go gOk hE ?_)
              all_goals first
                | (exfalso; omega)
                | (refine Need.mk ?_; omega)
                | (refine ⟨i + 1, (by refine leT.of ?_ ?_ rfl <;> repeat' (first | exact trivial | refine And.intro rfl ?_ | refine And.intro (by simp) ?_)), ⟨by omega, fun j hj => (Nat.lt_or_ge j i).elim (hq j) (fun h9 => (show j = i by omega) ▸ ⟨hp, fun w' hw' => hr w' (by omega)⟩)⟩, by first | omega | (dsimp only; omega)⟩)
                | trace_state)
        · rw [dcB_false hp] at c2
          repeat' (first | exact trivial | refine BS.d (fun h => ?_) (fun h => ?_) | refine BS.e (fun h => ?_) (fun h => ?_) | refine BS.ne (fun h => ?_) (fun h => ?_) | refine BS.n ?_ | refine BS.s (fun h => ?_) (fun h => ?_) | refine And.intro ?_ ?_ | (refine Need.mk ?_; first | with_reducible rfl | (show @Eq TC _ _; rfl) | omega | (simp only [adN_zero]; omega)) | exact OutS.whole rfl rfl | (refine CodeK.draw gOk hE rfl (fun _ _ h => h) (.take 0 (.take 2 (.take 3 (.take 5 (.take 9 (.alt 1 (.alt 4 (.take 6 (.take 7 (.alt 8 (.alt 10 (.take 11 .done) .stop) .stop))) .stop) (.alt 4 (.take 6 (.take 7 (.alt 1 (.alt 8 (.alt 10 (.take 11 .done) .stop) .stop) (.alt 8 (.alt 1 (.alt 10 (.take 11 .done) .stop) .stop) .stop)))) .stop))))))) ?_ ?_; focus (decide +kernel)) | (refine OpK.call c2 rfl rfl rfl rfl hE ?_ rfl rfl ?_; focus ((repeat' (first | exact PsA.lit _ | exact PsA.ref rfl rfl | constructor)); all_goals (fail "ps"))) | refine ListO.go gOk hE ?_)
          all_goals (try simp only [adN_zero] at *)
          all_goals first
            | (exfalso; omega)
            | (refine Need.mk ?_; omega)
            | (refine Need.mk ?_; symm; apply dcB_false; intro hh; exact hp (hh.2.2.1 i hi2))
            | trace_state
      · repeat' (first | exact trivial | refine BS.d (fun h => ?_) (fun h => ?_) | refine BS.e (fun h => ?_) (fun h => ?_) | refine BS.ne (fun h => ?_) (fun h => ?_) | refine BS.n ?_ | refine BS.s (fun h => ?_) (fun h => ?_) | refine And.intro ?_ ?_ | (refine Need.mk ?_; first | with_reducible rfl | (show @Eq TC _ _; rfl) | omega | (simp only [adN_zero]; omega)) | exact OutS.whole rfl rfl | refine ListO.go gOk hE ?_)
        all_goals first
          | (exfalso; omega)
          | (refine Need.mk ?_; symm; apply dcB_true; exact ⟨h1, h2, fun j hj => (hq j (by omega)).1, fun w j hw hj => (hq j (by omega)).2 w hw⟩)
          | trace_state
  · rw [dcB_false h1] at c1
    rw [dcB_false (fun hh => h1 hh.1)]
    refine RunT.of_vc gOk Tryz.func46 rfl rfl (Nat.le_of_ble_eq_true rfl) (by repeat' (first | exact trivial | exact ⟨_, rfl, Nat.le_refl _⟩ | exact Nat.le_of_ble_eq_true rfl | refine And.intro ?_ ?_)) (Nat.le_of_ble_eq_true rfl) rfl (fun F hE => ?_)
    repeat' (first | exact trivial | refine BS.d (fun h => ?_) (fun h => ?_) | refine BS.e (fun h => ?_) (fun h => ?_) | refine BS.ne (fun h => ?_) (fun h => ?_) | refine BS.n ?_ | refine BS.s (fun h => ?_) (fun h => ?_) | refine And.intro ?_ ?_ | (refine Need.mk ?_; first | with_reducible rfl | (show @Eq TC _ _; rfl) | omega | (simp only [adN_zero]; omega)) | exact OutS.whole rfl rfl | (refine OpK.call c1 rfl rfl rfl rfl hE ?_ rfl rfl ?_; focus ((repeat' (first | exact PsA.lit _ | exact PsA.ref rfl rfl | constructor)); all_goals (fail "ps"))) | refine ListO.go gOk hE ?_)
end Go.Proofs.YtfdbjiaghbeedaaGreatDoor
end

section
namespace Go.Proofs.YtfdbjiaghbeedaaGreatDoor
open Go Go.Tr
set_option maxRecDepth 100000
set_option maxHeartbeats 4000000
set_option linter.unusedVariables false
set_option linter.unusedSimpArgs false
theorem MemOkI_run (e : Nat) (b c : List Int) (g o : List (List Int)) (hm : MmOk 1048576 b c g o) (hgo : g.length + o.length ≤ 1048576) (cL : RunT Tryz.prog 114 [.agg [.c (tSL e g), .c (tSL e o)]] [] [ob (lsOk g o)] []) : RunH Tryz.prog hT 50 [aMm e b c g o] [] [ob (dcB (mmP b c g o))] [] := by
  have c1 := HeapOkI_run b c hm.hb hm.hc
  by_cases h1 : hpP b c
  · rw [dcB_true h1] at c1
    cases h2 : lsOk g o with
    | false =>
      rw [h2] at cL
      rw [dcB_false (fun hh => by rw [hh.2.1] at h2; cases h2)]
      refine RunH.of_vc gOk Tryz.func50 rfl rfl (Nat.le_of_ble_eq_true rfl) (by repeat' (first | exact trivial | exact ⟨_, rfl, Nat.le_refl _⟩ | exact Nat.le_of_ble_eq_true rfl | refine And.intro ?_ ?_)) (Nat.le_of_ble_eq_true rfl) rfl (fun F hE hA => ?_)
      repeat' (first | exact trivial | refine BS.d (fun h => ?_) (fun h => ?_) | refine BS.e (fun h => ?_) (fun h => ?_) | refine BS.ne (fun h => ?_) (fun h => ?_) | refine BS.n ?_ | refine BS.s (fun h => ?_) (fun h => ?_) | refine And.intro ?_ ?_ | (refine Need.mk ?_; first | with_reducible rfl | (show @Eq TC _ _; rfl) | omega | (simp only [adN_zero]; omega)) | exact OutS.whole rfl rfl | (refine OpK.callH c1 hA rfl rfl rfl rfl hE ?_ rfl rfl ?_; focus ((repeat' (first | exact PsA.lit _ | exact PsA.ref rfl rfl | constructor)); all_goals (fail "ps"))) | (refine OpK.call cL rfl rfl rfl rfl hE ?_ rfl rfl ?_; focus ((repeat' (first | exact PsA.lit _ | exact PsA.ref rfl rfl | constructor)); all_goals (fail "ps"))) | refine ListO.go gOk hE ?_)
    | true =>
      rw [h2] at cL
      obtain ⟨hg3, ho9⟩ := lsOk_len h2
      refine RunH.of_vc gOk Tryz.func50 rfl rfl (Nat.le_of_ble_eq_true rfl) (by repeat' (first | exact trivial | exact ⟨_, rfl, Nat.le_refl _⟩ | exact Nat.le_of_ble_eq_true rfl | refine And.intro ?_ ?_)) (Nat.le_of_ble_eq_true rfl) rfl (fun F hE hA => ?_)
      repeat' (first | exact trivial | refine BS.d (fun h => ?_) (fun h => ?_) | refine BS.e (fun h => ?_) (fun h => ?_) | refine BS.ne (fun h => ?_) (fun h => ?_) | refine BS.n ?_ | refine BS.s (fun h => ?_) (fun h => ?_) | refine And.intro ?_ ?_ | (refine Need.mk ?_; first | with_reducible rfl | (show @Eq TC _ _; rfl) | omega | (simp only [adN_zero]; omega)) | exact OutS.whole rfl rfl | (refine OpK.callH c1 hA rfl rfl rfl rfl hE ?_ rfl rfl ?_; focus ((repeat' (first | exact PsA.lit _ | exact PsA.ref rfl rfl | constructor)); all_goals (fail "ps"))) | (refine OpK.call cL rfl rfl rfl rfl hE ?_ rfl rfl ?_; focus ((repeat' (first | exact PsA.lit _ | exact PsA.ref rfl rfl | constructor)); all_goals (fail "ps"))) | refine ListO.go gOk hE ?_)
      refine CodeK.loop gOk hE (fun i : Nat => ⟨[(1, .ptr 1 0 0), (19, vr 1000002 g.length), (20, vi g.length), (21, vi i)], [(1, bM b c g o), (1000000, rI .fro false b), (1000001, rI .fro false c), (1000002, rSL .fro false e g), (1000003, rSL .fro false e o)]⟩) (fun i => i ≤ 3 ∧ ∀ j : Nat, j < i → ltP b c (g.getD j []) j) (fun i => 3 - i) 0 (by refine leT.of ?_ ?_ rfl <;> repeat' (first | exact trivial | refine And.intro rfl ?_ | refine And.intro (by simp) ?_)) ⟨Nat.zero_le _, fun j hj => absurd hj (Nat.not_lt_zero _)⟩ ?_
      rintro i ⟨hi, hq⟩
      by_cases hi2 : i < 3
      · have c2 := listFits_run b c (g.getD i []) i (by omega) h1.1 (hm.hg' i)
        by_cases hp : ltP b c (g.getD i []) i
        · rw [dcB_true hp] at c2
          repeat' (first | exact trivial | refine BS.d (fun h => ?_) (fun h => ?_) | refine BS.e (fun h => ?_) (fun h => ?_) | refine BS.ne (fun h => ?_) (fun h => ?_) | refine BS.n ?_ | refine BS.s (fun h => ?_) (fun h => ?_) | refine And.intro ?_ ?_ | (refine Need.mk ?_; first | with_reducible rfl | (show @Eq TC _ _; rfl) | omega | (simp only [adN_zero]; omega)) | exact OutS.whole rfl rfl | (refine OpK.callH c2 hA rfl rfl rfl rfl hE ?_ rfl rfl ?_; focus ((repeat' (first | exact PsA.lit _ | exact PsA.ref rfl rfl | constructor)); all_goals (fail "ps"))) | refine ListO.go gOk hE ?_)
          all_goals (try simp only [adN_zero] at *)
          all_goals first
            | (exfalso; omega)
            | (refine Need.mk ?_; omega)
            | (refine ⟨i + 1, (by refine leT.of ?_ ?_ rfl <;> repeat' (first | exact trivial | refine And.intro rfl ?_ | refine And.intro (by simp) ?_)), ⟨by omega, fun j hj => (Nat.lt_or_ge j i).elim (hq j) (fun h9 => (show j = i by omega) ▸ hp)⟩, by first | omega | (dsimp only; omega)⟩)
            | trace_state
        · rw [dcB_false hp] at c2
          repeat' (first | exact trivial | refine BS.d (fun h => ?_) (fun h => ?_) | refine BS.e (fun h => ?_) (fun h => ?_) | refine BS.ne (fun h => ?_) (fun h => ?_) | refine BS.n ?_ | refine BS.s (fun h => ?_) (fun h => ?_) | refine And.intro ?_ ?_ | (refine Need.mk ?_; first | with_reducible rfl | (show @Eq TC _ _; rfl) | omega | (simp only [adN_zero]; omega)) | exact OutS.whole rfl rfl | (refine OpK.callH c2 hA rfl rfl rfl rfl hE ?_ rfl rfl ?_; focus ((repeat' (first | exact PsA.lit _ | exact PsA.ref rfl rfl | constructor)); all_goals (fail "ps"))) | refine ListO.go gOk hE ?_)
          all_goals (try simp only [adN_zero] at *)
          all_goals first
            | (exfalso; omega)
            | (refine Need.mk ?_; omega)
            | (refine Need.mk ?_; symm; apply dcB_false; intro hh; exact hp (hh.2.2.1 i hi2))
            | trace_state
      · repeat' (first | exact trivial | refine BS.d (fun h => ?_) (fun h => ?_) | refine BS.e (fun h => ?_) (fun h => ?_) | refine BS.ne (fun h => ?_) (fun h => ?_) | refine BS.n ?_ | refine BS.s (fun h => ?_) (fun h => ?_) | refine And.intro ?_ ?_ | (refine Need.mk ?_; first | with_reducible rfl | (show @Eq TC _ _; rfl) | omega | (simp only [adN_zero]; omega)) | exact OutS.whole rfl rfl | refine ListO.go gOk hE ?_)
        all_goals first | (exfalso; omega) | (refine Need.mk ?_; omega) | skip
        refine CodeK.loop gOk hE (fun i : Nat => ⟨[(1, .ptr 1 0 0), (35, vr 1000003 o.length), (36, vi o.length), (37, vi i)], [(1, bM b c g o), (1000000, rI .fro false b), (1000001, rI .fro false c), (1000002, rSL .fro false e g), (1000003, rSL .fro false e o)]⟩) (fun i => i ≤ 9 ∧ ∀ j : Nat, j < i → ltP b c (o.getD j []) ((j % 3 : Nat) : Int)) (fun i => 9 - i) 0 (by refine leT.of ?_ ?_ rfl <;> repeat' (first | exact trivial | refine And.intro rfl ?_ | refine And.intro (by simp) ?_)) ⟨Nat.zero_le _, fun j hj => absurd hj (Nat.not_lt_zero _)⟩ ?_
        rintro k ⟨hk, hr⟩
        by_cases hk2 : k < 9
        · have c2 := listFits_run b c (o.getD k []) ((k : Int).tmod 3) (by rw [Int.tmod_eq_emod_of_nonneg (by omega)]; omega) h1.1 (hm.ho' k)
          have hmod : (k : Int).tmod 3 = ((k % 3 : Nat) : Int) := by rw [Int.tmod_eq_emod_of_nonneg (by omega)]; omega
          by_cases hp : ltP b c (o.getD k []) ((k % 3 : Nat) : Int)
          · rw [hmod, dcB_true hp, ← hmod] at c2
            repeat' (first | exact trivial | refine BS.d (fun h => ?_) (fun h => ?_) | refine BS.e (fun h => ?_) (fun h => ?_) | refine BS.ne (fun h => ?_) (fun h => ?_) | refine BS.n ?_ | refine BS.s (fun h => ?_) (fun h => ?_) | refine And.intro ?_ ?_ | (refine Need.mk ?_; first | with_reducible rfl | (show @Eq TC _ _; rfl) | omega | (simp only [adN_zero]; omega)) | exact OutS.whole rfl rfl | (refine OpK.callH c2 hA rfl rfl rfl rfl hE ?_ rfl rfl ?_; focus ((repeat' (first | exact PsA.lit _ | exact PsA.ref rfl rfl | constructor)); all_goals (fail "ps"))) | refine ListO.go gOk hE ?_)
            all_goals (try simp only [adN_zero] at *)
            all_goals first
              | (exfalso; omega)
              | (refine Need.mk ?_; omega)
              | (refine ⟨k + 1, (by refine leT.of ?_ ?_ rfl <;> repeat' (first | exact trivial | refine And.intro rfl ?_ | refine And.intro (by simp) ?_)), ⟨by omega, fun j hj => (Nat.lt_or_ge j k).elim (hr j) (fun h9 => (show j = k by omega) ▸ hp)⟩, by first | omega | (dsimp only; omega)⟩)
              | trace_state
          · rw [hmod, dcB_false hp, ← hmod] at c2
            repeat' (first | exact trivial | refine BS.d (fun h => ?_) (fun h => ?_) | refine BS.e (fun h => ?_) (fun h => ?_) | refine BS.ne (fun h => ?_) (fun h => ?_) | refine BS.n ?_ | refine BS.s (fun h => ?_) (fun h => ?_) | refine And.intro ?_ ?_ | (refine Need.mk ?_; first | with_reducible rfl | (show @Eq TC _ _; rfl) | omega | (simp only [adN_zero]; omega)) | exact OutS.whole rfl rfl | (refine OpK.callH c2 hA rfl rfl rfl rfl hE ?_ rfl rfl ?_; focus ((repeat' (first | exact PsA.lit _ | exact PsA.ref rfl rfl | constructor)); all_goals (fail "ps"))) | refine ListO.go gOk hE ?_)
            all_goals (try simp only [adN_zero] at *)
            all_goals first
              | (exfalso; omega)
              | (refine Need.mk ?_; omega)
              | (refine Need.mk ?_; symm; apply dcB_false; intro hh; refine hp ?_; have h8 := hh.2.2.2 (k / 3) (k % 3) (by omega) (by omega); rw [show k / 3 * 3 + k % 3 = k by omega] at h8; exact h8)
              | trace_state
        · repeat' (first | exact trivial | refine BS.d (fun h => ?_) (fun h => ?_) | refine BS.e (fun h => ?_) (fun h => ?_) | refine BS.ne (fun h => ?_) (fun h => ?_) | refine BS.n ?_ | refine BS.s (fun h => ?_) (fun h => ?_) | refine And.intro ?_ ?_ | (refine Need.mk ?_; first | with_reducible rfl | (show @Eq TC _ _; rfl) | omega | (simp only [adN_zero]; omega)) | exact OutS.whole rfl rfl | refine ListO.go gOk hE ?_)
          all_goals first
            | (exfalso; omega)
            | (refine Need.mk ?_; symm; apply dcB_true; exact ⟨h1, h2, fun j hj => hq j (by omega), fun w j hw hj => by have h8 := hr (w * 3 + j) (by omega); rw [show (w * 3 + j) % 3 = j by omega] at h8; exact h8⟩)
            | trace_state
  · rw [dcB_false h1] at c1
    rw [dcB_false (fun hh => h1 hh.1)]
    refine RunH.of_vc gOk Tryz.func50 rfl rfl (Nat.le_of_ble_eq_true rfl) (by repeat' (first | exact trivial | exact ⟨_, rfl, Nat.le_refl _⟩ | exact Nat.le_of_ble_eq_true rfl | refine And.intro ?_ ?_)) (Nat.le_of_ble_eq_true rfl) rfl (fun F hE hA => ?_)
    repeat' (first | exact trivial | refine BS.d (fun h => ?_) (fun h => ?_) | refine BS.e (fun h => ?_) (fun h => ?_) | refine BS.ne (fun h => ?_) (fun h => ?_) | refine BS.n ?_ | refine BS.s (fun h => ?_) (fun h => ?_) | refine And.intro ?_ ?_ | (refine Need.mk ?_; first | with_reducible rfl | (show @Eq TC _ _; rfl) | omega | (simp only [adN_zero]; omega)) | exact OutS.whole rfl rfl | (refine OpK.callH c1 hA rfl rfl rfl rfl hE ?_ rfl rfl ?_; focus ((repeat' (first | exact PsA.lit _ | exact PsA.ref rfl rfl | constructor)); all_goals (fail "ps"))) | refine ListO.go gOk hE ?_)
end Go.Proofs.YtfdbjiaghbeedaaGreatDoor
end

section
/- What the listed table of slot sizes gives a walk. -/
namespace Go.Proofs.YtfdbjiaghbeedaaGreatDoor
open Go Go.RowKit

theorem sizes_datum : (Rows.laid_loop_example_g01538_impl_slotSizes : DataW Unit) = Lib.tabData .i64 [8, 16, 40] := by kernel_rfl

/-- The table of slot sizes lies in its block. -/
def Tab (w : World) : Prop := ∃ t fr, w.heap[0]? = some (.cells #[.int .i64 8, .int .i64 16, .int .i64 40] t fr)

theorem tab_of_var {W : World} (h : W.var? Tryz.prog "loop.example/g01538/impl.slotSizes" = some #[.int .i64 8, .int .i64 16, .int .i64 40]) : Tab W := by
  unfold World.var? at h
  rw [show Tryz.prog.globalNamed "loop.example/g01538/impl.slotSizes" = some 0 by kernel_rfl] at h
  simp only [Option.bind_some] at h
  split at h
  · rename_i cs t fr hh
    injection h with h
    subst h
    exact ⟨t, fr, hh⟩
  · cases h

theorem tab_of_laid {W : World} {rest : List (String × DataW Unit)}
    (h : laidMet Tryz.prog (("loop.example/g01538/impl.slotSizes", Rows.laid_loop_example_g01538_impl_slotSizes) :: rest) W) : Tab W := by
  obtain ⟨ps, ⟨g0, t0, cs0, f0, p0, q0, hg0, ht0, hv0, hd0, _, _⟩, _⟩ := h
  obtain rfl := Option.some.inj ((show Tryz.prog.globalNamed "loop.example/g01538/impl.slotSizes" = some 0 by kernel_rfl).symm.trans hg0)
  obtain rfl := Option.some.inj ((show (Tryz.prog.globals[0]?).map (·.type) = some 151 by kernel_rfl).symm.trans ht0)
  rw [sizes_datum] at hd0
  refine tab_of_var ?_
  have e := Lib.cells_of_tab Tryz.underlying151 Tryz.underlying3 (by kernel_rfl) (by kernel_rfl) hd0
  rw [hv0, show cs0 = #[.int .i64 8, .int .i64 16, .int .i64 40] from Array.toList_inj.1 e]

theorem Tab.lt {w : World} (h : Tab w) : 0 < w.heap.size := by
  obtain ⟨t, fr, h⟩ := h
  exact (Array.getElem?_eq_some_iff.1 h).1
theorem Tab.below {w w' : World} (h : Tab w) (hb : Below w.heap.size w w') : Tab w' := by
  have hl := h.lt
  obtain ⟨t, fr, h⟩ := h
  exact ⟨t, fr, by rw [hb.block _ hl]; exact h⟩
theorem Tab.belowB {B : Nat} {w w' : World} (h : Tab w) (hB : 0 < B) (hb : Below B w w') : Tab w' := by
  obtain ⟨t, fr, h⟩ := h
  exact ⟨t, fr, by rw [hb.block _ hB]; exact h⟩
theorem Tab.c0 {w : World} (h : Tab w) : w.cell? ⟨0, 0, none⟩ = some (.int .i64 8) := by
  obtain ⟨t, fr, h⟩ := h
  rw [cell_of_row w _ 0 _ t fr h]; rfl
theorem Tab.c1 {w : World} (h : Tab w) : w.cell? ⟨0, 1, none⟩ = some (.int .i64 16) := by
  obtain ⟨t, fr, h⟩ := h
  rw [cell_of_row w _ 1 _ t fr h]; rfl
theorem Tab.c2 {w : World} (h : Tab w) : w.cell? ⟨0, 2, none⟩ = some (.int .i64 40) := by
  obtain ⟨t, fr, h⟩ := h
  rw [cell_of_row w _ 2 _ t fr h]; rfl
end Go.Proofs.YtfdbjiaghbeedaaGreatDoor
end

section
/- A law's frame where a table is told. -/
namespace Go.Tr
open Go Go.RowKit
theorem RunP.args {P : Program} {hc : Hc} {f : FuncId} {args args' : List Ag} {ext : List Xr} {Post : List Ar → List Xr → Prop} (hs : AgsSim args args') (h : RunP P hc f args' ext Post) : RunP P hc f args ext Post := by
  intro w q A cargs he ha
  obtain ⟨f1, f2⟩ := hs.get
  refine h w q A cargs ⟨by rw [he.size, f1], fun i y hi => ?_, he.ext, he.lt⟩ ha
  obtain ⟨x, g1, g2⟩ := f2 i y hi
  obtain ⟨u, k1, k2⟩ := he.args i x g1
  exact ⟨u, k1, g2.rel k2⟩
section
variable {P : Program} {W : World}
theorem RunP.law {hc : Hc} {f : FuncId} {args : List Ag} {cargs : Array Value} (hrun : RunP P hc f args [] fun outs ext => outs = [.one (.lit (.bool true))] ∧ ext = []) (hc' : ∀ g j v, hc g j v → W.cell? ⟨g, j, none⟩ = some v ∧ scal v = true) (hsz : cargs.size = args.length)
    (hargs : ∀ (i : Nat) (x : Ag), args[i]? = some x → ∃ u, cargs[i]? = some u ∧ AgRel W (qAll W) (fun _ => ⟨none, 0⟩) i x u) :
    Calls P f cargs W fun e w' => e = .returned (.bool true) ∧ Below W.heap.size W w' := by
  refine (hrun W (qAll W) (fun _ => ⟨none, 0⟩) cargs ⟨hsz, hargs, fun ρ x h => by simp at h, fun b j x hx => ?_⟩ (fun g j v hm => ?_)).mono fun e w' h => ?_
  · unfold qAll at hx
    split at hx
    · rename_i hh; obtain ⟨v, hv⟩ := hh; exact World.block_lt_of_cell? W ⟨b, j, none⟩ hv
    · cases hx
  · obtain ⟨h1, h2⟩ := hc' g j v hm
    exact ⟨h1, h2, qAll_fro ⟨v, h1⟩⟩
  · obtain ⟨us, outs, ext, q', rfl, ⟨rfl, rfl⟩, hx⟩ := h
    match us, hx.size with
    | [u], _ =>
      obtain ⟨u', hu, hr⟩ := hx.outs 0 _ rfl
      injection hu with hu; subst hu
      obtain ⟨hr, _⟩ := hr
      refine ⟨by rw [hr]; rfl, hx.fr.os, hx.fr.tape, hx.fr.output, hx.fr.mt.size, fun k hk => ?_⟩
      have hkk : W.heap[k]? = some W.heap[k] := Array.getElem?_eq_getElem hk
      cases ho : W.heap[k] with
      | cells cur e fz =>
        rw [ho] at hkk
        obtain ⟨cur', h1, h2⟩ := hx.fr.mt.blk k cur e fz hkk
        rw [hkk, h1]
        have : cur' = cur := by
          apply Array.ext_getElem?
          intro j
          have := hx.fr.cell k j hk (qAll_wof k j)
          simpa [World.cell?, hkk, h1] using this
        rw [this]
      | _ => exact hx.fr.other k hk (fun cur e fz hh => by rw [hkk, ho] at hh; cases hh)
end
end Go.Tr
namespace Go.Proofs.YtfdbjiaghbeedaaGreatDoor
open Go Go.Tr Go.RowKit
theorem hT_of {W : World} (ht : Tab W) : ∀ g j v, hT g j v → W.cell? ⟨g, j, none⟩ = some v ∧ scal v = true := by
  intro g j v h
  simp only [hT, hcL, List.mem_cons, List.not_mem_nil, or_false, Prod.mk.injEq] at h
  rcases h with ⟨rfl, rfl, rfl⟩ | ⟨rfl, rfl, rfl⟩ | ⟨rfl, rfl, rfl⟩
  · exact ⟨ht.c0, rfl⟩
  · exact ⟨ht.c1, rfl⟩
  · exact ⟨ht.c2, rfl⟩
end Go.Proofs.YtfdbjiaghbeedaaGreatDoor
end

section
namespace Go.Proofs.YtfdbjiaghbeedaaGreatDoor
open Go Go.Tr
set_option maxRecDepth 100000
set_option maxHeartbeats 4000000
set_option linter.unusedVariables false
set_option linter.unusedSimpArgs false
/-- A memory of bounded size. -/
structure MmT (b c : List Int) (g o : List (List Int)) : Prop where
  ok : MmOk 1048576 b c g o
  n : g.length + o.length ≤ 1048576
  f : g.flatten.length + o.flatten.length ≤ 1048576
  x : ∀ i, ((g ++ o).getD i []).length ≤ 1048576
theorem MmT.of_sz {b c : List Int} {g o : List (List Int)} {m : Int} (h0 : 0 ≤ m) (h1 : m ≤ 1048576) (h : ¬ szM b c g o m < 0) : MmT b c g o := by
  have k := MmOk.of_sz h0 h1 h
  have q := szH_le b c m h0
  unfold szM at h
  split at h
  · omega
  · obtain ⟨h2, h3, h4, h5⟩ := szL_ok (g := g) (o := o) (m := szH b c m) (by omega) (by omega) h
    exact ⟨k, by omega, by omega, h5⟩
theorem MmT.S {b c : List Int} {g o : List (List Int)} (h : MmT b c g o) (e : Nat) : RunT Tryz.prog 46 [aMm e b c g o] [] [ob (dcB (mmP b c g o))] [] :=
  MemOkS_run e b c g o h.ok h.n h.f (ListsOkS_run e e g o h.ok.hg h.ok.ho h.f)
theorem MmT.I {b c : List Int} {g o : List (List Int)} (h : MmT b c g o) (e : Nat) : RunH Tryz.prog hT 50 [aMm e b c g o] [] [ob (dcB (mmP b c g o))] [] :=
  MemOkI_run e b c g o h.ok h.n (ListsOkI_run e e g o h.n h.x)
theorem mem_of {e0x e0y e0z e0u n0x n0y n0z n0u : Nat} {row0x row0y row0z row0u : Nat → Nat → C} (hn0x : n0x ≤ 9223372036854775807) (h0x : ∀ i r d, i < n0x → ([.i] : List Dt)[r]? = some d → DtOk d (row0x i r)) (hn0y : n0y ≤ 9223372036854775807) (h0y : ∀ i r d, i < n0y → ([.i] : List Dt)[r]? = some d → DtOk d (row0y i r)) (hn0z : n0z ≤ 9223372036854775807) (h0z : ∀ i r d, i < n0z → ([.sl [.i]] : List Dt)[r]? = some d → DtOk d (row0z i r)) (hn0u : n0u ≤ 9223372036854775807) (h0u : ∀ i r d, i < n0u → ([.sl [.i]] : List Dt)[r]? = some d → DtOk d (row0u i r)) :
    ∃ b c g o, MmOk 9223372036854775807 b c g o ∧ CSame (.sl .fro e0x 1 n0x row0x) ((tI b).er .fro) ∧ CSame (.sl .fro e0y 1 n0y row0y) ((tI c).er .fro) ∧ CSame (.sl .fro e0z 1 n0z row0z) ((tSL 0 g).er .fro) ∧ CSame (.sl .fro e0u 1 n0u row0u) ((tSL 0 o).er .fro) := by
  obtain ⟨b, lb, pb, sb⟩ := ints_of (e := e0x) hn0x h0x
  obtain ⟨c, lc, pc, sc⟩ := ints_of (e := e0y) hn0y h0y
  obtain ⟨g, lg, pg, sg⟩ := lists_of (e := e0z) (e' := 0) hn0z h0z
  obtain ⟨o, lo, po, so⟩ := lists_of (e := e0u) (e' := 0) hn0u h0u
  exact ⟨b, c, g, o, ⟨by omega, by omega, by omega, by omega, getD_le fun x hx => (pg x hx).1, getD_le fun x hx => (po x hx).1⟩, sb, sc, sg, so⟩
end Go.Proofs.YtfdbjiaghbeedaaGreatDoor
end

section
namespace Go.Proofs.YtfdbjiaghbeedaaGreatDoor
open Go Go.Tr
set_option maxRecDepth 100000
set_option maxHeartbeats 4000000
set_option linter.unusedVariables false
set_option linter.unusedSimpArgs false
theorem IndexI_run (xs : List Int) (x : Int) (hn : xs.length ≤ 4000000) : ∃ r : Int, (0 ≤ r ↔ x ∈ xs) ∧ RunT Tryz.prog 71 [.one (.c (tI xs)), ti x] [] [oi r] [] := by
  refine ⟨plR (firstP (fun j => decide (xs.getD j 0 = x)) 0 xs.length), ?_, ?_⟩
  · cases h : firstP (fun j => decide (xs.getD j 0 = x)) 0 xs.length with
    | none =>
      refine ⟨fun h => absurd h (by show ¬ (0 : Int) ≤ -1; omega), fun hm => ?_⟩
      obtain ⟨j, hj, hj2⟩ := List.getElem_of_mem hm
      exact absurd (firstP_none h j (Nat.zero_le _) (by omega)) (by simp [List.getD_eq_getElem?_getD, List.getElem?_eq_getElem hj, hj2])
    | some j =>
      obtain ⟨_, h2, h3⟩ := firstP_lt h
      refine ⟨fun _ => ?_, fun _ => (by show (0 : Int) ≤ (j : Int); omega)⟩
      have h4 : xs.getD j 0 = x := of_decide_eq_true h3
      rw [← h4, List.getD_eq_getElem?_getD, List.getElem?_eq_getElem (by omega)]; exact List.getElem_mem _
  · refine RunT.of_vc gOk Tryz.func71 rfl rfl (Nat.le_of_ble_eq_true rfl) (by repeat' (first | exact trivial | exact ⟨_, rfl, Nat.le_refl _⟩ | exact Nat.le_of_ble_eq_true rfl | refine And.intro ?_ ?_)) (Nat.le_of_ble_eq_true rfl) rfl (fun F hE => ?_)
    repeat' (first | exact trivial | refine BS.d (fun h => ?_) (fun h => ?_) | refine BS.e (fun h => ?_) (fun h => ?_) | refine BS.ne (fun h => ?_) (fun h => ?_) | refine BS.n ?_ | refine BS.s (fun h => ?_) (fun h => ?_) | refine And.intro ?_ ?_ | (refine Need.mk ?_; first | with_reducible rfl | (show @Eq TC _ _; rfl) | omega | (simp only [adN_zero]; omega)) | exact OutS.whole rfl rfl | refine ListO.go gOk hE ?_)
    refine CodeK.loop gOk hE (fun i : Nat => ⟨[(0, vr 1000000 xs.length), (1, vi x), (7, vi xs.length), (8, vi i)], [(1000000, rI .fro false xs)]⟩) (fun i => i ≤ xs.length ∧ firstP (fun j => decide (xs.getD j 0 = x)) 0 xs.length = firstP (fun j => decide (xs.getD j 0 = x)) i (xs.length - i)) (fun i => xs.length - i) 0 (by refine leT.of ?_ ?_ rfl <;> repeat' (first | exact trivial | refine And.intro rfl ?_ | refine And.intro (by simp) ?_)) ⟨Nat.zero_le _, rfl⟩ ?_
    rintro i ⟨hi, hs⟩
    by_cases hp : xs.getD i 0 = x
    all_goals (repeat' (first | exact trivial | refine BS.d (fun h => ?_) (fun h => ?_) | refine BS.e (fun h => ?_) (fun h => ?_) | refine BS.ne (fun h => ?_) (fun h => ?_) | refine BS.n ?_ | refine BS.s (fun h => ?_) (fun h => ?_) | refine And.intro ?_ ?_ | (refine Need.mk ?_; first | with_reducible rfl | (show @Eq TC _ _; rfl) | omega | (simp only [adN_zero]; omega)) | exact OutS.whole rfl rfl | refine ListO.go gOk hE ?_))
    all_goals (try simp only [adN_zero] at *)
    all_goals first
      | (exfalso; first | omega | (simp_all; done))
      | (refine Need.mk ?_; rw [hs, firstP_yes (by omega) (decide_eq_true hp)]; rfl)
      | (refine Need.mk ?_; rw [hs, show xs.length - i = 0 by omega]; rfl)
      | (refine ⟨i + 1, (by refine leT.of ?_ ?_ rfl <;> repeat' (first | exact trivial | refine And.intro rfl ?_ | refine And.intro (by simp) ?_)), ⟨by omega, by rw [hs, firstP_no (by omega) (decide_eq_false hp), show xs.length - i - 1 = xs.length - (i + 1) by omega]⟩, by first | omega | (dsimp only; omega)⟩)
theorem ContainsI_run (xs : List Int) (x : Int) (hn : xs.length ≤ 4000000) : RunT Tryz.prog 65 [.one (.c (tI xs)), ti x] [] [ob (decide (x ∈ xs))] [] := by
  obtain ⟨r, h1, c1⟩ := IndexI_run xs x hn
  refine RunT.of_vc gOk Tryz.func65 rfl rfl (Nat.le_of_ble_eq_true rfl) (by repeat' (first | exact trivial | exact ⟨_, rfl, Nat.le_refl _⟩ | exact Nat.le_of_ble_eq_true rfl | refine And.intro ?_ ?_)) (Nat.le_of_ble_eq_true rfl) rfl (fun F hE => ?_)
  repeat' (first | exact trivial | refine BS.d (fun h => ?_) (fun h => ?_) | refine BS.e (fun h => ?_) (fun h => ?_) | refine BS.ne (fun h => ?_) (fun h => ?_) | refine BS.n ?_ | refine BS.s (fun h => ?_) (fun h => ?_) | refine And.intro ?_ ?_ | (refine Need.mk ?_; first | with_reducible rfl | (show @Eq TC _ _; rfl) | omega | (simp only [adN_zero]; omega)) | exact OutS.whole rfl rfl | (refine OpK.call c1 rfl rfl rfl rfl hE ?_ rfl rfl ?_; focus ((repeat' (first | exact PsA.lit _ | exact PsA.ref rfl rfl | constructor)); all_goals (fail "ps"))) | refine ListO.go gOk hE ?_)
  all_goals (refine Need.mk ?_; exact decide_eq_decide.2 h1)
theorem ContainsI_told {hc : Hc} (xs : List Int) (x : Int) (hn : xs.length ≤ 4000000) : RunH Tryz.prog hc 65 [.one (.c (tI xs)), ti x] [] [ob (decide (x ∈ xs))] [] := (ContainsI_run xs x hn).toH hc
theorem OnList_told {hc : Hc} (gs os : List Hdr) (xss : List (List Int)) (x : Int) (A1 A2 : Option Addr) (n1 n2 c1 c2 : Nat) (h1 : RowTold hc A1 n1 c1 1 Hdr encH dH gs) (h2 : RowTold hc A2 n2 c2 1 Hdr encH dH os) (hn : gs.length + os.length ≤ 1048576) (hX : Hs hc (gs ++ os) xss) (hx : ∀ i, (xss.getD i []).length ≤ 1048576) :
    RunH Tryz.prog hc 210 [.agg [.c (.lit (.slice A1 n1 c1)), .c (.lit (.slice A2 n2 c2))], ti x] [] [ob (decide (x ∈ xss.flatten))] [] := by
  have cC := Concat_run gs os A1 A2 n1 n2 c1 c2 h1 h2 hn
  have hlen : (gs ++ os).length ≤ 1048576 := by simp; omega
  have hxl := hX.len
  refine RunH.of_vc gOk Tryz.func210 rfl rfl (Nat.le_of_ble_eq_true rfl) (by repeat' (first | exact trivial | exact ⟨_, rfl, Nat.le_refl _⟩ | exact Nat.le_of_ble_eq_true rfl | refine And.intro ?_ ?_)) (Nat.le_of_ble_eq_true rfl) rfl (fun F hE hA => ?_)
  repeat' (first | exact trivial | refine BS.d (fun h => ?_) (fun h => ?_) | refine BS.e (fun h => ?_) (fun h => ?_) | refine BS.ne (fun h => ?_) (fun h => ?_) | refine BS.n ?_ | refine BS.s (fun h => ?_) (fun h => ?_) | refine And.intro ?_ ?_ | (refine Need.mk ?_; first | with_reducible rfl | (show @Eq TC _ _; rfl) | omega | (simp only [adN_zero]; omega)) | exact OutS.whole rfl rfl | (refine OpK.bs2 gOk rfl rfl rfl rfl rfl rfl rfl rfl rfl rfl (by decide) ?_) | (refine OpK.callH cC hA rfl rfl rfl rfl hE ?_ rfl rfl ?_; focus ((repeat' (first | exact PsA.lit _ | exact PsA.ref rfl rfl | constructor)); all_goals (fail "ps"))) | refine ListO.go gOk hE ?_)
  generalize gs ++ os = hs at *
  refine CodeK.loop gOk hE (fun i : Nat => ⟨[(1, vi x), (12, vr 2001536 hs.length), (13, vi hs.length), (14, vi i)], [(2001536, rH .own true 135 hs)]⟩) (fun i => i ≤ hs.length ∧ ∀ j, j < i → x ∉ xss.getD j []) (fun i => hs.length - i) 0 (by refine leT.of ?_ ?_ rfl <;> repeat' (first | exact trivial | refine And.intro rfl ?_ | refine And.intro (by simp) ?_)) ⟨Nat.zero_le _, fun j hj => absurd hj (Nat.not_lt_zero _)⟩ ?_
  rintro i ⟨hi, hq⟩
  by_cases hi2 : i < hs.length
  · have hT := hX.at_ i hi2
    have hTl := hT.len
    have c1 := ContainsI_run (xss.getD i []) x (by have := hx i; omega)
    by_cases hin : x ∈ xss.getD i []
    · rw [decide_eq_true hin] at c1
      repeat' (first | exact trivial | refine BS.d (fun h => ?_) (fun h => ?_) | refine BS.e (fun h => ?_) (fun h => ?_) | refine BS.ne (fun h => ?_) (fun h => ?_) | refine BS.n ?_ | refine BS.s (fun h => ?_) (fun h => ?_) | refine And.intro ?_ ?_ | (refine Need.mk ?_; first | with_reducible rfl | (show @Eq TC _ _; rfl) | omega | (simp only [adN_zero]; omega)) | exact OutS.whole rfl rfl | (refine OpK.tell gOk hA hE 19 5000 3 decI hT rfl rfl rfl rfl rfl ?_) | (refine OpK.call c1 rfl rfl rfl rfl hE (.cons (.one (.ref rfl hTl)) (.cons (.one (.lit _)) .nil)) rfl rfl ?_) | refine ListO.go gOk hE ?_)
      all_goals (try simp only [adN_zero] at *)
      all_goals first
        | (exfalso; omega)
        | (refine Need.mk ?_; omega)
        | (refine Need.mk ?_; symm; apply decide_eq_true; rw [List.mem_flatten]; refine ⟨_, ?_, hin⟩; rw [List.getD_eq_getElem?_getD, List.getElem?_eq_getElem (by omega)]; exact List.getElem_mem _)
    · rw [decide_eq_false hin] at c1
      repeat' (first | exact trivial | refine BS.d (fun h => ?_) (fun h => ?_) | refine BS.e (fun h => ?_) (fun h => ?_) | refine BS.ne (fun h => ?_) (fun h => ?_) | refine BS.n ?_ | refine BS.s (fun h => ?_) (fun h => ?_) | refine And.intro ?_ ?_ | (refine Need.mk ?_; first | with_reducible rfl | (show @Eq TC _ _; rfl) | omega | (simp only [adN_zero]; omega)) | exact OutS.whole rfl rfl | (refine OpK.tell gOk hA hE 19 5000 3 decI hT rfl rfl rfl rfl rfl ?_) | (refine OpK.call c1 rfl rfl rfl rfl hE (.cons (.one (.ref rfl hTl)) (.cons (.one (.lit _)) .nil)) rfl rfl ?_) | refine ListO.go gOk hE ?_)
      all_goals (try simp only [adN_zero] at *)
      all_goals first
        | (exfalso; omega)
        | (refine Need.mk ?_; omega)
        | (refine ⟨i + 1, (by refine leT.of ?_ ?_ rfl <;> repeat' (first | exact trivial | refine And.intro rfl ?_ | refine And.intro (by simp) ?_)), ⟨by omega, fun j hj => (Nat.lt_or_ge j i).elim (hq j) (fun h9 => (show j = i by omega) ▸ hin)⟩, by first | omega | (dsimp only; omega)⟩)
  · repeat' (first | exact trivial | refine BS.d (fun h => ?_) (fun h => ?_) | refine BS.e (fun h => ?_) (fun h => ?_) | refine BS.ne (fun h => ?_) (fun h => ?_) | refine BS.n ?_ | refine BS.s (fun h => ?_) (fun h => ?_) | refine And.intro ?_ ?_ | (refine Need.mk ?_; first | with_reducible rfl | (show @Eq TC _ _; rfl) | omega | (simp only [adN_zero]; omega)) | exact OutS.whole rfl rfl | (refine OpK.call cC rfl rfl rfl rfl hE ?_ rfl rfl ?_; focus ((repeat' (first | exact PsA.lit _ | exact PsA.ref rfl rfl | constructor)); all_goals (fail "ps"))) | refine ListO.go gOk hE ?_)
    all_goals (try simp only [adN_zero] at *)
    all_goals first
      | (exfalso; omega)
      | (refine Need.mk ?_; symm; apply decide_eq_false; intro hm; obtain ⟨l, hl, hl2⟩ := List.mem_flatten.1 hm; obtain ⟨j, hj, rfl⟩ := List.getElem_of_mem hl; exact hq j (by omega) (by rw [List.getD_eq_getElem?_getD, List.getElem?_eq_getElem hj]; exact hl2))
theorem OnListI_run (e e' : Nat) (g o : List (List Int)) (x : Int) (hgo : g.length + o.length ≤ 1048576) (hx : ∀ i, ((g ++ o).getD i []).length ≤ 1048576) : RunT Tryz.prog 210 [.agg [.c (tSL e g), .c (tSL e' o)], ti x] [] [ob (decide (x ∈ (g ++ o).flatten))] [] := by
  refine of_told ⟨_, Tryz.func210, rfl, rfl⟩ (fun hc gs os A1 A2 n1 n2 c1 c2 t1 t2 s1 s2 => ?_)
  exact OnList_told gs os (g ++ o) x A1 A2 n1 n2 c1 c2 t1 t2 (by rw [s1.len, s2.len]; exact hgo) (s1.append s2) hx
theorem OnListS_run (e e' : Nat) (g o : List (List Int)) (x : Int) (hg : g.length ≤ 1048576) (ho : o.length ≤ 1048576) (hf : g.flatten.length + o.flatten.length ≤ 1048576) : RunT Tryz.prog 202 [.agg [.c (tSL e g), .c (tSL e' o)], ti x] [] [ob (decide (x ∈ (g ++ o).flatten))] [] := by
  have c1 := l8All_run e e' g o hg ho hf
  have c2 := l8HasT_run (g ++ o).flatten x (by rw [List.flatten_append, List.length_append]; omega)
  refine RunT.of_vc gOk Tryz.func202 rfl rfl (Nat.le_of_ble_eq_true rfl) (by repeat' (first | exact trivial | exact ⟨_, rfl, Nat.le_refl _⟩ | exact Nat.le_of_ble_eq_true rfl | refine And.intro ?_ ?_)) (Nat.le_of_ble_eq_true rfl) rfl (fun F hE => ?_)
  repeat' (first | exact trivial | refine BS.d (fun h => ?_) (fun h => ?_) | refine BS.e (fun h => ?_) (fun h => ?_) | refine BS.ne (fun h => ?_) (fun h => ?_) | refine BS.n ?_ | refine BS.s (fun h => ?_) (fun h => ?_) | refine And.intro ?_ ?_ | (refine Need.mk ?_; first | with_reducible rfl | (show @Eq TC _ _; rfl) | omega | (simp only [adN_zero]; omega)) | exact OutS.whole rfl rfl | (refine OpK.call c1 rfl rfl rfl rfl hE ?_ rfl rfl ?_; focus ((repeat' (first | exact PsA.lit _ | exact PsA.ref rfl rfl | constructor)); all_goals (fail "ps"))) | (refine OpK.call c2 rfl rfl rfl rfl hE ?_ rfl rfl ?_; focus ((repeat' (first | exact PsA.lit _ | exact PsA.ref rfl rfl | constructor)); all_goals (fail "ps"))) | refine ListO.go gOk hE ?_)
end Go.Proofs.YtfdbjiaghbeedaaGreatDoor
end
