/- Calls where something is given away, or handed in to be written. -/
import Derived.Test.YtjlphbhmjicdhaaVM
set_option linter.unusedVariables false
set_option linter.unusedSimpArgs false
universe u
namespace Go.Tr
open Go Go.RowKit

def TS.dropL : TS → List Nat → TS
  | σ, [] => σ
  | σ, κ :: l => (σ.drop κ).dropL l
/-- The looks into some roots. -/
def viewsOf (κs : List Nat) : List (Nat × TRoot) → List Nat
  | [] => []
  | (n, .ty (.vw a _ _) _ _ _ _ _ _ _ _) :: l => bif κs.contains a then n :: viewsOf κs l else viewsOf κs l
  | _ :: l => viewsOf κs l
def posOf : List (Nat × Nat × Nat) → Nat → Option (Nat × Nat)
  | [], _ => none
  | p :: l, κ => bif Nat.beq p.1 κ then some p.2 else posOf l κ
/-- Something that is handed in to be written: the root, from which element on, whether it is the whole; what it holds before and after; the root after. -/
structure Bt : Type 1 where
  κ : Nat
  i0 : Nat
  wh : Bool
  x : TX
  x' : TX
  R' : TRoot
def Bt.b (b : Bt) : Bw := ⟨b.κ, b.i0, b.wh, b.x.er⟩
structure BtOk (τ : TS) (b : Bt) : Prop where
  ok : ∃ R, lkR τ.r b.κ = some R ∧ R.er.o = .own ∧ R.er.k = b.x.er.k ∧ b.i0 + b.x.er.n ≤ R.er.n ∧ (bif b.wh then b.i0 = 0 ∧ b.x.er.n = R.er.n else R.er.op = []) ∧ (∀ i r, i < b.x.er.n → r < b.x.er.k → R.er.get (b.i0 + i) r = .cl (b.x.er.row i r)) ∧
    RSim (mixR b.b R.er b.x'.er) b.R'.er
  k : b.x'.er.k = b.x.er.k
  n : b.x'.er.n = b.x.er.n

theorem TX.mine (x : TX) : x.er.mine := by
  cases x with
  | st cs =>
    intro i r _ hr
    show C.mine (((cs[r]?).map (TC.er .own)).getD .any)
    cases cs[r]? with
    | none => trivial
    | some t => exact t.mine
  | sl e k X enc dec d xs => intro i r _ _; exact (enc (xs.getD i d) r).mine

/-- A variable behind a pointer. -/
theorem BtOk.box {τ : TS} {κ e : Nat} {cs cs' : List TC} (h : lkR τ.r κ = some (.box e (cs.map .cl))) (hl : cs'.length = cs.length) : BtOk τ ⟨κ, 0, true, .st cs, .st cs', .box e (cs'.map .cl)⟩ := by
  have hg : ∀ (cs : List TC) (i r : Nat), i < 1 → r < cs.length → (TRoot.box e (cs.map TCl.cl)).er.get (0 + i) r = .cl (((cs[r]?).map (TC.er .own)).getD .any) := by
    intro cs i r hi hr
    obtain rfl : i = 0 := by omega
    rw [box_get, List.getElem?_map, List.getElem?_eq_getElem hr]; rfl
  refine ⟨⟨_, h, rfl, by simp [TRoot.er, TX.er], Nat.le_refl 1, ⟨rfl, rfl⟩, fun i r hi hr => hg cs i r hi hr, ?_⟩, hl, rfl⟩
  refine ⟨rfl, (fun h => (Bool.false_ne_true h).elim), by simp [TRoot.er, mixR, hl], rfl, fun i r hi hr => ?_⟩
  have hr' : r < cs.length := by simpa [TRoot.er, mixR] using hr
  rw [mix_get]
  have := hg cs' i r hi (by omega)
  rw [Nat.zero_add] at this
  show ClSim _ ((TRoot.box e (cs'.map TCl.cl)).er.get i r)
  rw [this]
  exact CSame.rfl _
/-- A slice. -/
theorem BtOk.sl {τ : TS} {κ e k : Nat} {f : Bool} {X : Type} {enc : X → Nat → TC} {dec : List Value → Option X} {d : X} {xs xs' : List X} (h : lkR τ.r κ = some (.ty .own f e k X enc dec d xs)) (hl : xs'.length = xs.length) :
    BtOk τ ⟨κ, 0, true, .sl e k X enc dec d xs, .sl e k X enc dec d xs', .ty .own f e k X enc dec d xs'⟩ := by
  refine ⟨⟨_, h, rfl, rfl, by simp [TX.er, TRoot.er], ⟨rfl, rfl⟩, fun i r hi hr => by rw [Nat.zero_add]; rfl, ?_⟩, rfl, hl⟩
  exact ⟨rfl, fun hf => ⟨hf, rfl⟩, rfl, hl, fun i r hi hr => CSame.rfl _⟩
/-- An element of a slice, behind a pointer. -/
theorem BtOk.el {τ : TS} {κ e k i0 : Nat} {f : Bool} {X : Type} {enc : X → Nat → TC} {dec : List Value → Option X} {d x' : X} {xs : List X} {cs cs' : List TC} (h : lkR τ.r κ = some (.ty .own f e k X enc dec d xs)) (hi : i0 < xs.length) (hk : cs.length = k) (hk' : cs'.length = k)
    (hc : ∀ r, r < k → some (enc (xs.getD i0 d) r) = cs[r]?) (hc' : ∀ r, r < k → some (enc x' r) = cs'[r]?) : BtOk τ ⟨κ, i0, false, .st cs, .st cs', .ty .own f e k X enc dec d (xs.set i0 x')⟩ := by
  refine ⟨⟨_, h, rfl, hk.symm, by show i0 + 1 ≤ xs.length; omega, rfl, fun i r hi' hr => ?_, ?_⟩, by show cs'.length = cs.length; omega, rfl⟩
  · have hi0 : i = 0 := by
      have : i < 1 := hi'
      omega
    subst hi0
    have hr' : r < k := by rw [← hk]; exact hr
    show Cl.cl ((enc (xs.getD (i0 + 0) d) r).er .own) = .cl (((cs[r]?).map (TC.er .own)).getD .any)
    rw [Nat.add_zero, ← hc r hr']; rfl
  · refine ⟨rfl, fun hf => ⟨hf, rfl⟩, rfl, by show (xs.set i0 x').length = xs.length; simp, fun i r hi' hr => ?_⟩
    rw [mix_get]
    show CSame (if i0 ≤ i ∧ i < i0 + 1 then ((cs'[r]?).map (TC.er .own)).getD .any else (enc (xs.getD i d) r).er .own) ((enc ((xs.set i0 x').getD i d) r).er .own)
    rw [ty_set_get enc d x' xs i0 i r hi]
    have hr' : r < k := hr
    by_cases e1 : i = i0
    · rw [if_pos (by omega), if_pos e1, ← hc' r hr']; exact CSame.rfl _
    · rw [if_neg (by omega), if_neg e1]; exact CSame.rfl _

inductive QsA (τ τ1 : TS) (bs : List Bt) (ms : List (Nat × Nat × Nat)) (i j : Nat) : At → TA → Prop where
  | c {x : At} {t : TC} (h : PsA τ1 x t) (hb : (match x with | .ref κ _ _ => (bwFind (bs.map Bt.b) 0 κ).isNone | _ => true) = true) : QsA τ τ1 bs ms i j x (.c t)
  | m {κ n e k : Nat} {X : Type} {enc : X → Nat → TC} {dec : List Value → Option X} {d : X} {xs : List X} {t : TC} (h : lkR τ.r κ = some (.ty .own true e k X enc dec d xs)) (hm : posOf ms κ = some (i, j)) (hn : OutS n e k X enc dec d xs t) : QsA τ τ1 bs ms i j (.ref κ 0 n) (.m t)
  | mnil {e k : Nat} {X : Type} {enc : X → Nat → TC} {dec : List Value → Option X} {d : X} : QsA τ τ1 bs ms i j (.nil e k) (.m (.sl e k X enc dec d []))
  | h {κ ρ n : Nat} {b : Bt} (hf : bwFind (bs.map Bt.b) 0 κ = some (ρ, b.b)) (hi : b.i0 = 0) (hr : hasT τ1.r κ = true) : QsA τ τ1 bs ms i j (.ref κ 0 n) (.h ρ n)
inductive QsL (τ τ1 : TS) (bs : List Bt) (ms : List (Nat × Nat × Nat)) (i : Nat) : Nat → List At → List TA → Prop where
  | nil {j : Nat} : QsL τ τ1 bs ms i j [] []
  | cons {j : Nat} {x : At} {l : List At} {t : TA} {ts : List TA} (h : QsA τ τ1 bs ms i j x t) (hr : QsL τ τ1 bs ms i (j + 1) l ts) : QsL τ τ1 bs ms i j (x :: l) (t :: ts)
inductive QsV (τ τ1 : TS) (bs : List Bt) (ms : List (Nat × Nat × Nat)) (i : Nat) : V → TAg → Prop where
  | one {x : At} {t : TA} (h : QsA τ τ1 bs ms i 0 x t) : QsV τ τ1 bs ms i (.a x) (.one t)
  | agg {l : List At} {ts : List TA} (h : QsL τ τ1 bs ms i 0 l ts) : QsV τ τ1 bs ms i (.agg l) (.agg ts)
  | ptr {κ i0 ρ : Nat} {b : Bt} (hf : bwFind (bs.map Bt.b) 0 κ = some (ρ, b.b)) (hi : b.i0 = i0) : QsV τ τ1 bs ms i (.ptr κ i0 0) (.ptr ρ)
inductive QsVs (τ τ1 : TS) (bs : List Bt) (ms : List (Nat × Nat × Nat)) : Nat → List V → List TAg → Prop where
  | nil {i : Nat} : QsVs τ τ1 bs ms i [] []
  | cons {i : Nat} {v : V} {l : List V} {t : TAg} {ts : List TAg} (h : QsV τ τ1 bs ms i v t) (hr : QsVs τ τ1 bs ms (i + 1) l ts) : QsVs τ τ1 bs ms i (v :: l) (t :: ts)

def rmM (ω : Om) (ms : List (Nat × Nat × Nat)) : Om := fun b j => match ω b j with
  | some (.row κ) => if (posOf ms κ).isSome then none else some (.row κ)
  | some (.sub κ i r) => if (posOf ms κ).isSome then none else some (.sub κ i r)
  | x => x
noncomputable def qM (ω : Om) (ms : List (Nat × Nat × Nat)) (q0 : Qm) : Qm := fun b j => match ω b j with
  | some (.row κ) => (match posOf ms κ with | some p => some (.arg p.1 p.2) | none => q0 b j)
  | some (.sub κ _ _) => (match posOf ms κ with | some p => some (.arg p.1 p.2) | none => q0 b j)
  | _ => q0 b j

section
variable {P : Program} {F : Fm} {N : Nat} {G : Gt} {o : Oper} {τ τ1 : TS} {k : TS → Prop} {a : Act} {w : World} {ω : Om} {β : Nat → Bs} {ms : List (Nat × Nat × Nat)} {bs : List Bt}

theorem dropL_rel : ∀ {l : List Nat} {τ : TS}, Rel1 F N τ.er a w ω β → Rel1 F N (τ.dropL l).er a w ω β
  | [], τ, h => h
  | κ :: l, τ, h => dropL_rel (l := l) ((h.drop κ).ext (fun t => drop_tv τ κ t) (fun n => drop_rt τ κ n))
theorem rmM_some {b j : Nat} {x : Wh} (h : rmM ω ms b j = some x) : ω b j = some x := by
  unfold rmM at h
  split at h
  · rename_i κ he
    split at h
    · cases h
    · rw [he]; exact h
  · rename_i κ i r he
    split at h
    · cases h
    · rw [he]; exact h
  · exact h
theorem rmM_keep {b j : Nat} {x : Wh} (h : ω b j = some x) (hn : ∀ κ, (x = .row κ ∨ ∃ i r, x = .sub κ i r) → posOf ms κ = none) : rmM ω ms b j = some x := by
  unfold rmM
  rw [h]
  cases x with
  | row κ => dsimp only; rw [hn κ (.inl rfl)]; rfl
  | sub κ i r => dsimp only; rw [hn κ (.inr ⟨i, r, rfl⟩)]; rfl
  | fro => rfl
theorem unown (h : Rel1 F N τ1.er a w ω β) (hr : ∀ κ, (posOf ms κ).isSome = true → lkR τ1.r κ = none) (hv : ∀ κ R κ' i r, lkR τ1.r κ = some R → R.er.o = .vw κ' i r → posOf ms κ' = none) : Rel1 F N τ1.er a w (rmM ω ms) β := by
  refine ⟨h.tsz, h.dfr, h.tmps, fun κ R hR => ?_, fun b j x hx => h.wr b j x (rmM_some hx), h.fr, fun b j hx => h.fz b j (rmM_some hx), h.ex⟩
  refine (h.roots κ R hR).upd (fun _ _ _ _ _ _ u hu => hu) rfl (Meta.refl w) (fun b j x hx hm => ⟨rmM_keep hx (fun κ' hk => ?_), rfl⟩)
  have hlk : ∃ T, lkR τ1.r κ = some T ∧ T.er = R := by
    rw [TS.rt_er] at hR
    cases hq : lkR τ1.r κ with
    | none => rw [hq] at hR; cases hR
    | some T => rw [hq] at hR; injection hR with hR; exact ⟨T, rfl, hR⟩
  obtain ⟨T, hT, hTR⟩ := hlk
  have hself : posOf ms κ = none := by
    cases hp : posOf ms κ with
    | none => rfl
    | some p => have := hr κ (by rw [hp]; rfl); rw [hT] at this; cases this
  rcases hk with rfl | ⟨i, r, rfl⟩
  · obtain ⟨rfl, _⟩ := hm; exact hself
  · rcases hm with rfl | ho
    · exact hself
    · exact hv κ T κ' i r hT (by rw [hTR]; exact ho)

theorem bw_er {κ ρ : Nat} {b : Bw} (h : bwFind (bs.map Bt.b) 0 κ = some (ρ, b)) : ∃ t, bs[ρ]? = some t ∧ t.b = b ∧ t.κ = κ := by
  obtain ⟨h1, j, h2, h3⟩ := bwFind_at h
  rw [Nat.zero_add] at h2; subst h2
  rw [List.getElem?_map] at h3
  cases hq : bs[ρ]? with
  | none => rw [hq] at h3; cases h3
  | some t => rw [hq] at h3; injection h3 with h3; exact ⟨t, rfl, h3, by rw [← h1, ← h3]; rfl⟩
theorem q0_mono {q0 : Qm} (hq : ∀ b j, q0 b j = some .fro → ∃ x, rmM ω ms b j = some x) {b j : Nat} (h : q0 b j = some .fro) : qM ω ms q0 b j = some .fro := by
  obtain ⟨x, hx⟩ := hq b j h
  have ho := rmM_some hx
  unfold qM
  rw [ho]
  cases x with
  | fro => exact h
  | row κ =>
    unfold rmM at hx
    rw [ho] at hx
    dsimp only at hx
    split at hx
    · cases hx
    · rename_i hn
      cases hp : posOf ms κ with
      | none => dsimp only; rw [hp]; exact h
      | some p => rw [hp] at hn; exact absurd rfl hn
  | sub κ i r =>
    unfold rmM at hx
    rw [ho] at hx
    dsimp only at hx
    split at hx
    · cases hx
    · rename_i hn
      cases hp : posOf ms κ with
      | none => dsimp only; rw [hp]; exact h
      | some p => rw [hp] at hn; exact absurd rfl hn

theorem qM_eq {q0 : Qm} {b j : Nat} {x : Wh} (hx : rmM ω ms b j = some x) : qM ω ms q0 b j = q0 b j := by
  have ho := rmM_some hx
  unfold qM
  rw [ho]
  unfold rmM at hx
  rw [ho] at hx
  cases x with
  | fro => rfl
  | row κ =>
    dsimp only at hx ⊢
    split at hx
    · cases hx
    · rename_i hn
      cases hp : posOf ms κ with
      | none => rfl
      | some p => rw [hp] at hn; exact absurd rfl hn
  | sub κ i r =>
    dsimp only at hx ⊢
    split at hx
    · cases hx
    · rename_i hn
      cases hp : posOf ms κ with
      | none => rfl
      | some p => rw [hp] at hn; exact absurd rfl hn
theorem QsA.ok {i j : Nat} {x : At} {t : TA} (h : QsA τ τ1 bs ms i j x t) {u : Value} (hr : Rel1 F N τ.er a w ω β) (hr1 : Rel1 F N τ1.er a w (rmM ω ms) β) (hbw : BwOk τ1.er (bs.map Bt.b)) (hx : ARel τ.er β w (stA x) u) (hx1 : ∀ κ lo n, x = .ref κ lo n → hasT τ1.r κ = true → ARel τ1.er β w x u) :
    AaRel w (qM ω ms (qOf (rmM ω ms) β (bs.map Bt.b))) (aOf β (bs.map Bt.b)) i j t.er u := by
  have hq : ∀ b j, qOf (rmM ω ms) β (bs.map Bt.b) b j = some .fro → ∃ x, rmM ω ms b j = some x := fun b j hq => q_some hq
  have mono : ∀ {c : C}, AaRel w (qOf (rmM ω ms) β (bs.map Bt.b)) (aOf β (bs.map Bt.b)) i j (.c c) u → (∀ b' j', qOf (rmM ω ms) β (bs.map Bt.b) b' j' ≠ some (.arg i j)) → AaRel w (qM ω ms (qOf (rmM ω ms) β (bs.map Bt.b))) (aOf β (bs.map Bt.b)) i j (.c c) u := by
    intro c hc hna
    exact CRel.mono (fun b j hz => q0_mono hq hz) _ _ _ _ hc (fun b j hz => absurd hz (hna b j))
  have hna : ∀ b' j', qOf (rmM ω ms) β (bs.map Bt.b) b' j' ≠ some (.arg i j) := by
    intro b' j' hh
    unfold qOf at hh
    split at hh
    · cases hh
    · cases hh
    · split at hh
      · split at hh <;> cases hh
      · cases hh
    · split at hh
      · split at hh <;> cases hh
      · cases hh
  cases h with
  | c h hb =>
    refine mono ?_ hna
    -- lent
    rename_i tc
    have key : ∀ {κ lo n e k : Nat} {o : RO} {f : Bool} {X : Type} {enc : X → Nat → TC} {dec : List Value → Option X} {d : X} {xs ys : List X}, x = .ref κ lo n → lkR τ1.r κ = some (.ty o f e k X enc dec d xs) → ys.length = n → (∀ i, i < n → ys.getD i d = xs.getD (lo + i) d) →
        AaRel w (qOf (rmM ω ms) β (bs.map Bt.b)) (aOf β (bs.map Bt.b)) i j (.c ((TC.sl e k X enc dec d ys).er .fro)) u := by
      intro κ lo n e k o f X enc dec d xs ys hxx hR hl hg
      subst hxx
      have hRe := TS.rt_some hR
      have hnb : bwFind (bs.map Bt.b) 0 κ = none := by
        have : (bwFind (bs.map Bt.b) 0 κ).isNone = true := hb
        cases hq : bwFind (bs.map Bt.b) 0 κ with
        | none => rfl
        | some p => rw [hq] at this; cases this
      have h1 := passA_ok (bs := bs.map Bt.b) hr1 (hx1 κ lo n rfl (by unfold hasT; rw [hR]; rfl)) (by simp only [passA, hnb, hRe]; exact hbw.vw κ _ hRe) i j
      simp only [passA, hnb, hRe] at h1
      refine CSame.rel _ _ _ _ ?_ h1
      refine ⟨rfl, (fun h => by cases h), rfl, hl, fun i r hi hr => ?_⟩
      show CSame (Tr.lend ((enc (xs.getD (lo + i) d) r).er (owOf o))) ((enc (ys.getD i d) r).er .fro)
      rw [hg i hi, TC.lend]; exact CSame.rfl _
    cases h with
    | lit v => exact hx
    | any => exact hx
    | nilL => exact ⟨hx, rfl⟩
    | nil =>
      have hx : u = .slice none 0 0 := hx
      subst hx
      exact ⟨none, 0, rfl, Nat.le_refl _, Nat.zero_le _, fun _ => rfl, fun h => absurd h (Nat.not_lt_zero _)⟩
    | ref h hn => exact key rfl h hn.symm (fun i _ => by rw [Nat.zero_add])
    | seg h hn hy =>
      subst hy
      refine key rfl h ?_ (fun i hi => ?_)
      · simp; omega
      · simp [List.getD, List.getElem?_take, hi, List.getElem?_drop]
  | m h hm hn =>
    rename_i κ n e k X enc dec d xs t
    have hout : outA τ (.ref κ 0 n) t True := by
      show (match lkR τ.r κ, 0 with | some (.ty .own true e n' X enc dec d xs), 0 => OutS n e n' X enc dec d xs t ∧ True | _, _ => False)
      rw [h]; exact ⟨hn, trivial⟩
    obtain ⟨_, h1, h2⟩ := outA_ok hout
    have h3 := shutA_ok (z := fun b j => qM ω ms (qOf (rmM ω ms) β (bs.map Bt.b)) b j = some .fro) hr (x := .ref κ 0 n) hx h1 (fun b j hf => by
      refine q0_mono hq (q_fro (rmM_keep hf (fun κ hk => by rcases hk with e | ⟨_, _, e⟩ <;> cases e))))
    refine CSame.rel _ _ _ _ h2 (CRel.mono (fun _ _ h => h) _ _ _ _ h3 (fun b j' hf => ?_))
    obtain ⟨tg, e1, e2⟩ := hf
    show qM ω ms _ b j' = some (.arg i j)
    unfold qM
    rw [e1]
    cases tg with
    | fro => simp [ownsA] at e2
    | row κ' =>
      have : κ' = κ := by simpa [ownsA] using e2
      subst this
      dsimp only; rw [hm]
    | sub κ' i' r' =>
      have : κ' = κ := by simpa [ownsA] using e2
      subst this
      dsimp only; rw [hm]
  | mnil =>
    have hx : u = .slice none 0 0 := hx
    subst hx
    exact ⟨none, 0, rfl, Nat.le_refl _, Nat.zero_le _, .inl ⟨rfl, rfl⟩⟩
  | h hf hi hrt =>
    rename_i κ ρ n b
    have h1 := passA_ok (bs := bs.map Bt.b) hr1 (hx1 κ 0 n rfl hrt) (by simp only [passA, hf]; exact ⟨trivial, hi⟩) i j
    simp only [passA, hf] at h1
    exact h1

theorem QsL.ok {i j0 : Nat} {l : List At} {ts : List TA} (h : QsL τ τ1 bs ms i j0 l ts) (hr : Rel1 F N τ.er a w ω β) (hr1 : Rel1 F N τ1.er a w (rmM ω ms) β) (hbw : BwOk τ1.er (bs.map Bt.b)) : ∀ (us : List Value), us.length = l.length → (∀ (j : Nat) (x : At) (u : Value), l[j]? = some x → us[j]? = some u → ARel τ.er β w (stA x) u ∧ ∀ κ lo n, x = .ref κ lo n → hasT τ1.r κ = true → ARel τ1.er β w x u) →
    l.length = ts.length ∧ ∀ (j : Nat) (t : TA), ts[j]? = some t → ∃ y, us[j]? = some y ∧ AaRel w (qM ω ms (qOf (rmM ω ms) β (bs.map Bt.b))) (aOf β (bs.map Bt.b)) i (j0 + j) t.er y := by
  induction h with
  | nil => intro us _ _; exact ⟨rfl, fun j t hj => by simp at hj⟩
  | cons h _ ih =>
    intro us hl hx
    cases us with
    | nil => simp at hl
    | cons u us =>
      obtain ⟨e1, e2⟩ := ih us (by simpa using hl) (fun j x u' hj hu => hx (j + 1) x u' hj hu)
      refine ⟨by simp [e1], fun j t hj => ?_⟩
      cases j with
      | zero => injection hj with hj; subst hj; have := hx 0 _ u rfl rfl; exact ⟨u, rfl, h.ok hr hr1 hbw this.1 this.2⟩
      | succ j =>
        obtain ⟨y, f1, f2⟩ := e2 j t hj
        rename_i j1 _ _ _ _ _
        exact ⟨y, f1, by rw [show j1 + (j + 1) = j1 + 1 + j by omega]; exact f2⟩

/-- A header that stands in both states. -/
theorem ref_both {κ lo n : Nat} {u : Value} (hkeep : ∀ κ R, lkR τ1.r κ = some R → ∃ R0, lkR τ.r κ = some R0 ∧ R.er.k = R0.er.k ∧ R0.er.n ≤ R.er.n) (hx : ARel τ.er β w (.ref κ lo n) u) (ht : hasT τ1.r κ = true) : ARel τ1.er β w (.ref κ lo n) u := by
  obtain ⟨R, hR, h1⟩ := hx
  unfold hasT at ht
  cases hq : lkR τ1.r κ with
  | none => rw [hq] at ht; cases ht
  | some R1 =>
    obtain ⟨R0, k1, k2, k3⟩ := hkeep κ R1 hq
    have := TS.rt_some k1
    rw [this] at hR; injection hR with hR; subst hR
    exact ⟨R1.er, TS.rt_some hq, h1.le k2 k3⟩

theorem kill_kn (κ : Nat) (R : TRoot) : (R.kill κ).er.k = R.er.k ∧ (R.kill κ).er.n = R.er.n := by
  rw [TRoot.kill_er]; exact ⟨rfl, rfl⟩
theorem dropL_keep : ∀ (l : List Nat) (τ : TS) (κ : Nat) (R : TRoot), lkR (τ.dropL l).r κ = some R → ∃ R0, lkR τ.r κ = some R0 ∧ R.er.k = R0.er.k ∧ R0.er.n ≤ R.er.n
  | [], τ, κ, R, h => ⟨R, h, rfl, Nat.le_refl _⟩
  | d :: l, τ, κ, R, h => by
    obtain ⟨R1, h1, h2, h3⟩ := dropL_keep l (τ.drop d) κ R h
    have h4 : lkR ((erl τ.r d).map fun p => (p.1, p.2.kill d)) κ = some R1 := h1
    rw [lkR_map, lkR_erl] at h4
    by_cases e : κ = d
    · rw [if_pos e] at h4; cases h4
    · rw [if_neg e] at h4
      cases hq : lkR τ.r κ with
      | none => rw [hq] at h4; cases h4
      | some R0 =>
        rw [hq] at h4; injection h4 with h4; subst h4
        obtain ⟨k1, k2⟩ := kill_kn d R0
        exact ⟨R0, rfl, by rw [h2, k1], by omega⟩

theorem QsV.ok {i : Nat} {v : V} {t : TAg} (h : QsV τ τ1 bs ms i v t) {u : Value} (hr : Rel1 F N τ.er a w ω β) (hr1 : Rel1 F N τ1.er a w (rmM ω ms) β) (hbw : BwOk τ1.er (bs.map Bt.b)) (hkeep : ∀ κ R, lkR τ1.r κ = some R → ∃ R0, lkR τ.r κ = some R0 ∧ R.er.k = R0.er.k ∧ R0.er.n ≤ R.er.n) (hx : VRel τ.er β w (stV v) u) :
    AgRel w (qM ω ms (qOf (rmM ω ms) β (bs.map Bt.b))) (aOf β (bs.map Bt.b)) i t.er u := by
  cases h with
  | one h => exact h.ok hr hr1 hbw hx (fun κ lo n e ht => by subst e; exact ref_both hkeep hx ht)
  | agg h =>
    rename_i l ts
    obtain ⟨us, e1, e2, e3⟩ := hx
    rw [List.length_map] at e2
    obtain ⟨f1, f2⟩ := h.ok hr hr1 hbw us.toList (by simpa using e2) (fun j x u hj hu => by
      obtain ⟨y, g1, g2⟩ := e3 j (stA x) (by rw [List.getElem?_map, hj]; rfl)
      rw [Array.getElem?_toList, g1] at hu
      injection hu with hu; subst hu
      exact ⟨g2, fun κ lo n e ht => by subst e; exact ref_both hkeep g2 ht⟩)
    refine ⟨us, e1, by simp [e2, f1], fun j c hj => ?_⟩
    rw [List.getElem?_map] at hj
    cases hq : ts[j]? with
    | none => rw [hq] at hj; cases hj
    | some t =>
      rw [hq] at hj; injection hj with hj; subst hj
      obtain ⟨y, g1, g2⟩ := f2 j t hq
      rw [Nat.zero_add] at g2
      exact ⟨y, by rw [← Array.getElem?_toList]; exact g1, g2⟩
  | ptr hf hi =>
    rename_i κ i0 ρ b
    obtain ⟨R, g, j, hR, hat, e⟩ := (show ∃ R g j, τ.er.rt κ = some R ∧ AtA R (β κ) i0 0 g j ∧ u = .pointer (some ⟨g, j, none⟩) from hx)
    obtain ⟨_, j', h2, h3⟩ := bwFind_at hf
    rw [Nat.zero_add] at h2; subst h2
    obtain ⟨_, R1, hR1, _, hk1, _⟩ := hbw.at_ _ _ h3
    have hbk : b.b.κ = κ := (bwFind_at hf).1
    rw [hbk] at hR1
    have hlk : ∃ T, lkR τ1.r κ = some T ∧ T.er = R1 := by
      rw [TS.rt_er] at hR1
      cases hq : lkR τ1.r κ with
      | none => rw [hq] at hR1; cases hR1
      | some T => rw [hq] at hR1; injection hR1 with hR1; exact ⟨T, rfl, hR1⟩
    obtain ⟨T, hT, hTR⟩ := hlk
    obtain ⟨R0, k1, k2, k3⟩ := hkeep κ T hT
    have := TS.rt_some k1
    rw [this] at hR; injection hR with hR; subst hR
    have hv : VRel τ1.er β w (.ptr κ i0 0) u := ⟨R1, g, j, hR1, by obtain ⟨o, a1, a2⟩ := hat; exact ⟨o, a1, by rw [← hTR, k2]; exact a2⟩, e⟩
    have h4 := passV_ok (bs := bs.map Bt.b) hr1 hbw hv (by simp only [passV, hf]; exact ⟨hi, trivial⟩) i
    simp only [passV, hf] at h4
    exact h4
theorem QsVs.ok {args : List Operand} {ts : List TAg} (h : QsVs τ τ1 bs ms 0 (args.map (evS τ)) ts) (hr : Rel1 F N τ.er a w ω β) (hr1 : Rel1 F N τ1.er a w (rmM ω ms) β) (hbw : BwOk τ1.er (bs.map Bt.b)) (hkeep : ∀ κ R, lkR τ1.r κ = some R → ∃ R0, lkR τ.r κ = some R0 ∧ R.er.k = R0.er.k ∧ R0.er.n ≤ R.er.n) :
    Ent w (qM ω ms (qOf (rmM ω ms) β (bs.map Bt.b))) (aOf β (bs.map Bt.b)) (args.map a.eval).toArray (ts.map TAg.er) (bs.map fun b => b.x.er) := by
  have key : ∀ (args : List Operand) (ts : List TAg) (i0 : Nat), QsVs τ τ1 bs ms i0 (args.map (evS τ)) ts → args.length = ts.length ∧ ∀ (i : Nat) (t : TAg), ts[i]? = some t → ∃ u, (args.map a.eval)[i]? = some u ∧ AgRel w (qM ω ms (qOf (rmM ω ms) β (bs.map Bt.b))) (aOf β (bs.map Bt.b)) (i0 + i) t.er u := by
    intro args
    induction args with
    | nil => intro ts i0 h; cases h; exact ⟨rfl, fun i t hi => by simp at hi⟩
    | cons x args ih =>
      intro ts i0 h
      cases h with
      | cons h hr' =>
        obtain ⟨e1, e2⟩ := ih _ (i0 + 1) hr'
        refine ⟨by simp [e1], fun i t hi => ?_⟩
        cases i with
        | zero =>
          injection hi with hi; subst hi
          exact ⟨a.eval x, rfl, h.ok hr hr1 hbw hkeep (by have := hr.ev x; rw [evS_eq] at this; exact this)⟩
        | succ i =>
          obtain ⟨u, f1, f2⟩ := e2 i t hi
          exact ⟨u, f1, by rw [show i0 + (i + 1) = i0 + 1 + i by omega]; exact f2⟩
  obtain ⟨e1, e2⟩ := key args ts 0 h
  have hmono : ∀ {c : C} {u : Value} {f f' : Nat → Nat → Prop}, CRel w (fun b j => qOf (rmM ω ms) β (bs.map Bt.b) b j = some .fro) c f u → (∀ b j, f b j → f' b j) → CRel w (fun b j => qM ω ms (qOf (rmM ω ms) β (bs.map Bt.b)) b j = some .fro) c f' u :=
    fun h hf => CRel.mono (fun b j hz => q0_mono (fun b j hq => q_some hq) hz) _ _ _ _ h hf
  have hq : ∀ b j x, rmM ω ms b j = some x → qM ω ms (qOf (rmM ω ms) β (bs.map Bt.b)) b j = qOf (rmM ω ms) β (bs.map Bt.b) b j := fun b j x hx => qM_eq hx
  refine ⟨by simp [e1], fun i x hx => ?_, fun ρ x hx => ?_, fun b j x hx => ?_⟩
  · rw [List.getElem?_map] at hx
    cases hq : ts[i]? with
    | none => rw [hq] at hx; cases hx
    | some t =>
      rw [hq] at hx; injection hx with hx; subst hx
      obtain ⟨u, f1, f2⟩ := e2 i t hq
      rw [Nat.zero_add] at f2
      exact ⟨u, by simpa using f1, f2⟩
  · have h1 := ext_ok hr1 hbw (ρ := ρ) (x := x) (by rw [List.map_map]; exact hx)
    intro i r hi hr'
    obtain ⟨g, o, u, f1, f2, f3, f4, f5⟩ := h1 i r hi hr'
    have hsome := q_some f3
    obtain ⟨y, hy⟩ := hsome
    refine ⟨g, o, u, f1, f2, by rw [hq _ _ _ hy]; exact f3, f4, hmono f5 (fun b j hf => ?_)⟩
    obtain ⟨y', hy'⟩ := q_some hf
    rw [hq _ _ _ hy']; exact hf
  · -- every cell is there
    cases ho : ω b j with
    | some y => exact (hr.wr b j y ho).1
    | none =>
      unfold qM at hx
      rw [ho] at hx
      have : rmM ω ms b j = none := by unfold rmM; rw [ho]
      rw [q_none this] at hx; cases hx
end
end Go.Tr
