/- What is left to show is enough: operations. -/
import Derived.Test.YtjlphbhmjicdhaaVE
set_option linter.unusedVariables false
set_option linter.unusedSimpArgs false
universe u
namespace Go.Tr
open Go Go.RowKit

section
variable {P : Program} {F : Fm} {N : Nat} {G : Gt} {o : Oper} {σ : TS} {k : TS → Prop} {ops : Array Oper} {Q : Exit → St → Prop} {rest : List Oper}

theorem rt_mk (t : List (Nat × V)) (rs : List (Nat × TRoot)) (κ : Nat) : (TS.mk t rs).er.rt κ = (lkR rs κ).map TRoot.er := TS.rt_er _ κ
theorem okK_big (hE : F.nE ≤ 1000000) {key : Nat} (h : 2000000 ≤ key) : okK F key := fun ρ hρ e => by omega

theorem pk1_ok (hE : F.nE ≤ 1000000) {key κ i r : Nat} (hk : 2000000 ≤ key) {t : List (Nat × V)} {rs rs' : List (Nat × TRoot)} {y : At} (hp : pk1 G key rs κ i r = some (rs', y)) {a : Act} {w : World} {ω : Om} {β : Nat → Bs} {u : Value}
    (h : Rel1 F N (TS.mk t rs).er a w ω β) (hx : ARel (TS.mk t rs).er β w (.spot κ i r) u) : ∃ ω' β', Rel1 F N (TS.mk t rs').er a w ω' β' ∧ Keep (TS.mk t rs).er (TS.mk t rs').er β β' ∧ ARel (TS.mk t rs').er β' w y u := by
  have hspot := hx
  obtain ⟨R0, g0, j0, hR0, hi0, hr0, hl0, ha0, hc0⟩ := hx
  have hrt := rt_mk t rs κ
  unfold pk1 at hp
  split at hp
  · -- a variable
    rename_i e cs hR
    have hRr : (TS.mk t rs).er.rt κ = some (TRoot.box e cs).er := by rw [hrt, hR]; rfl
    have opn : ∀ (tc : TC) (e' k' n : Nat) (row : Nat → Nat → C) (T : TRoot), i = 0 → cs[r]? = some (.cl tc) → tc.er .own = .sl .own e' k' n row → RSim ⟨.own, true, e', k', n, row, []⟩ T.er → lkR rs key = none → noVw κ rs = true → (κ, TRoot.box e (cs.set r (.ref key 0 n))) :: (key, T) :: erl rs κ = rs' →
        ∃ ω' β', Rel1 F N (TS.mk t rs').er a w ω' β' ∧ Keep (TS.mk t rs).er (TS.mk t rs').er β β' ∧ ARel (TS.mk t rs').er β' w (.ref key 0 n) u := by
      intro tc e' k' n row T hi hcs htc hT hkey hvw hrs'
      subst hi hrs'
      have hne : κ ≠ key := by rintro rfl; rw [hR] at hkey; cases hkey
      have hrlt : r < cs.length := (List.getElem?_eq_some_iff.1 hcs).1
      have hg : (TRoot.box e cs).er.get 0 r = .cl (.sl .own e' k' n row) := by rw [box_get, hcs]; show Cl.cl (tc.er .own) = _; rw [htc]
      obtain ⟨ω', β', h1, h2⟩ := h.open_ hRr rfl (Nat.zero_lt_one) hrlt hg (okK_big hE hk) (by rw [rt_mk, hkey]; rfl) (fun κ' R' hR' => noVw_ok hvw κ' R' 0 r (by rw [← rt_mk t rs]; exact hR'))
      have hget : ∀ i' r', i' < 1 → r' < cs.length → ClSim (({ (TRoot.box e cs).er with op := ((0, r), Cl.ref key 0 n) :: (TRoot.box e cs).er.op } : Root).get i' r') ((TRoot.box e (cs.set r (.ref key 0 n))).er.get i' r') := by
        intro i' r' hi' hr'
        obtain rfl : i' = 0 := by omega
        rw [Root.get_wr, box_get, box_get]
        by_cases er : r' = r
        · subst er; rw [if_pos rfl, if_pos rfl]; simp [hr']; exact ClSim.rfl _
        · rw [if_neg er, List.getElem?_set_ne (by omega)]; exact ClSim.rfl _
      have hle : ∀ κ', OSim (((TS.mk t rs).er.opn κ (TRoot.box e cs).er 0 r key e' k' n row).rt κ') ((lkR ((κ, TRoot.box e (cs.set r (.ref key 0 n))) :: (key, T) :: erl rs κ) κ').map TRoot.er) := by
        intro κ'
        rw [lkR_cons, lkR_cons, lkR_erl]
        show OSim (if κ' = κ then some _ else if κ' = key then some _ else (TS.mk t rs).er.rt κ') _
        by_cases e1 : κ' = κ
        · rw [if_pos e1, if_pos e1]
          exact ⟨rfl, (fun hf => by cases hf), by show (cs.set r _).length = cs.length; simp, rfl, hget⟩
        · rw [if_neg e1, if_neg e1]
          by_cases e2 : κ' = key
          · rw [if_pos e2, if_pos e2]; exact hT
          · rw [if_neg e2, if_neg e2, if_neg e1, rt_mk]; exact OSim.rfl _
      have h3 := (le_lk (s := (TS.mk t rs).er.opn κ (TRoot.box e cs).er 0 r key e' k' n row) (τ := ⟨t, (κ, TRoot.box e (cs.set r (.ref key 0 n))) :: (key, T) :: erl rs κ⟩) (fun t' => .inr (TS.tv_er _ _).symm) hle)
      have h4 : Rel1 F N (TS.mk t ((κ, TRoot.box e (cs.set r (.ref key 0 n))) :: (key, T) :: erl rs κ)).er a w ω' β' := by
        refine h1.sim (fun t' => .inr rfl) (fun κ' R' hR' => ?_) (fun κ' R' hR' => ?_)
        · have := hle κ'; rw [hR'] at this
          rw [rt_mk]
          cases hq : (lkR ((κ, TRoot.box e (cs.set r (.ref key 0 n))) :: (key, T) :: erl rs κ) κ').map TRoot.er with
          | none => rw [hq] at this; exact this.elim
          | some R2 => rw [hq] at this; exact ⟨R2, by first | exact hq | rfl, this⟩
        · have := hle κ'; rw [← rt_mk t, hR'] at this
          cases hq : ((TS.mk t rs).er.opn κ (TRoot.box e cs).er 0 r key e' k' n row).rt κ' with
          | none => rw [hq] at this; exact this.elim
          | some R2 => exact ⟨R2, by first | exact hq | rfl⟩
      have hkp : Keep (TS.mk t rs).er (TS.mk t ((κ, TRoot.box e (cs.set r (.ref key 0 n))) :: (key, T) :: erl rs κ)).er β β' := by
        intro κ' R' hR'
        have hk' : κ' ≠ key := by rintro rfl; rw [rt_mk, hkey] at hR'; cases hR'
        refine ⟨h2 κ' hk', ?_⟩
        rw [rt_mk, lkR_cons, lkR_cons, lkR_erl]
        by_cases e1 : κ' = κ
        · subst e1
          rw [hRr] at hR'; injection hR' with hR'; subst hR'
          rw [if_pos rfl]
          exact ⟨_, rfl, by show (cs.set r _).length = cs.length; simp, rfl⟩
        · rw [if_neg e1, if_neg hk', if_neg e1]
          rw [rt_mk] at hR'
          exact ⟨R', hR', rfl, rfl⟩
      refine ⟨ω', β', h4, hkp, ?_⟩
      refine spot_val h4 (hkp.arel hspot) (R := (TRoot.box e (cs.set r (.ref key 0 n))).er) (by rw [rt_mk, lkR_cons, if_pos rfl]; rfl) ?_
      rw [box_get]; simp [hrlt, TCl.er]
    split at hp
    · rename_i _ e' k' hcs
      split at hp
      · rename_i E hed hkey hvw
        injection hp with hp; injection hp with hp1 hp2
        subst hp2
        exact opn (.nil e' k') e' k' 0 (fun _ _ => .any) (.ty .own true e' k' E.X E.enc E.dec E.d []) rfl hcs rfl ⟨rfl, fun _ => ⟨rfl, rfl⟩, rfl, rfl, fun i r hi => absurd hi (Nat.not_lt_zero _)⟩ hkey hvw hp1
      · cases hp
    · rename_i _ e' k' X enc dec d xs hcs
      split at hp
      · rename_i hkey hvw
        injection hp with hp; injection hp with hp1 hp2
        subst hp2
        exact opn (.sl e' k' X enc dec d xs) e' k' xs.length _ (.ty .own true e' k' X enc dec d xs) rfl hcs rfl (RSim.rfl _) hkey hvw hp1
      · cases hp
    · cases hp
  · -- an element of a slice
    rename_i o f0 e0 k X enc dec0 d xs hR
    have hRr : (TS.mk t rs).er.rt κ = some (TRoot.ty o f0 e0 k X enc dec0 d xs).er := by rw [hrt, hR]; rfl
    rw [hRr] at hR0; injection hR0 with hR0; subst hR0
    split at hp
    · rename_i e' k' Y enc' dec' d' ys henc hkey hlt
      injection hp with hp; injection hp with hp1 hp2
      subst hp1 hp2
      have hg : (TRoot.ty o f0 e0 k X enc dec0 d xs).er.get i r = .cl (.sl (owOf o) e' k' ys.length (fun i r => (enc' (ys.getD i d') r).er (owOf o))) := by
        rw [ty_get, henc]; rfl
      obtain ⟨b, g, j, u', h1, ha, hc, hv⟩ := h.peek hRr hi0 hr0 hg (fun hh => by cases o <;> first | rfl | cases hh) (okK_big hE hk) (by rw [rt_mk, hkey]; rfl)
      have hroot : lookR (TRoot.ty o f0 e0 k X enc dec0 d xs).er κ i r (owOf o) e' k' ys.length (fun i r => (enc' (ys.getD i d') r).er (owOf o)) = (TRoot.ty (vwOf o κ i r) false e' k' Y enc' dec' d' ys).er := by
        cases o with
        | own =>
          show (⟨.vw κ i r, false, e', k', ys.length, fun i r => lend ((enc' (ys.getD i d') r).er .own), []⟩ : Root) = ⟨.vw κ i r, false, e', k', ys.length, fun i r => (enc' (ys.getD i d') r).er .fro, []⟩
          congr 1
          funext i r
          exact TC.lend _ _
        | fro => rfl
        | vw a b c => rfl
      rw [hroot] at h1 hv
      have hu : u' = u := by
        obtain ⟨o1, a1, a2⟩ := ha
        obtain ⟨o2, b1, b2⟩ := ha0
        rw [a1] at b1; injection b1 with b1; injection b1 with b3 b4 _
        subst b3 b4
        rw [a2, ← b2, hc0] at hc
        injection hc with hc; exact hc.symm
      subst hu
      have hS : (TS.mk t ((key, .ty (vwOf o κ i r) false e' k' Y enc' dec' d' ys) :: rs)).er = (TS.mk t rs).er.setR key (TRoot.ty (vwOf o κ i r) false e' k' Y enc' dec' d' ys).er := rfl
      refine ⟨ω, _, by rw [hS]; exact h1, fun κ' R' hR' => ?_, by rw [hS]; exact hv⟩
      have hk' : κ' ≠ key := by rintro rfl; rw [rt_mk, hkey] at hR'; cases hR'
      refine ⟨if_neg hk', R', ?_, rfl, rfl⟩
      rw [rt_mk, lkR_cons, if_neg hk', ← rt_mk t]; exact hR'
    · cases hp
  · cases hp

theorem pkF_ok (hE : F.nE ≤ 1000000) {t : List (Nat × V)} {a : Act} {w : World} : ∀ (l l' : List At) (us : List Value) (key : Nat) (rs rs' : List (Nat × TRoot)) (ω : Om) (β : Nat → Bs), 2000000 ≤ key → pkF G key rs l = some (rs', l') → us.length = l.length →
    Rel1 F N (TS.mk t rs).er a w ω β → (∀ (j : Nat) (x : At) (u : Value), l[j]? = some x → us[j]? = some u → ARel (TS.mk t rs).er β w x u) →
    ∃ ω' β', Rel1 F N (TS.mk t rs').er a w ω' β' ∧ Keep (TS.mk t rs).er (TS.mk t rs').er β β' ∧ l'.length = l.length ∧ ∀ (j : Nat) (x : At) (u : Value), l'[j]? = some x → us[j]? = some u → ARel (TS.mk t rs').er β' w x u
  | [], l', us, key, rs, rs', ω, β, hk, hp, hl, h, hx => by
    injection hp with hp; injection hp with h1 h2; subst h1 h2
    exact ⟨ω, β, h, Keep.rfl _ _, rfl, fun j x u hj => by simp at hj⟩
  | x :: l, l', [], key, rs, rs', ω, β, hk, hp, hl, h, hx => by simp at hl
  | x :: l, l', u :: us, key, rs, rs', ω, β, hk, hp, hl, h, hx => by
    have hx0 := hx 0 x u rfl rfl
    have step : ∀ (rs1 : List (Nat × TRoot)) (y : At) (ω1 : Om) (β1 : Nat → Bs) (l2 : List At), Rel1 F N (TS.mk t rs1).er a w ω1 β1 → Keep (TS.mk t rs).er (TS.mk t rs1).er β β1 → ARel (TS.mk t rs1).er β1 w y u → pkF G (key + 1) rs1 l = some (rs', l2) → l' = y :: l2 →
        ∃ ω' β', Rel1 F N (TS.mk t rs').er a w ω' β' ∧ Keep (TS.mk t rs).er (TS.mk t rs').er β β' ∧ l'.length = (x :: l).length ∧ ∀ (j : Nat) (x : At) (u' : Value), l'[j]? = some x → (u :: us)[j]? = some u' → ARel (TS.mk t rs').er β' w x u' := by
      intro rs1 y ω1 β1 l2 h1 hk1 hy hp2 hl'
      obtain ⟨ω', β', k1, k2, k3, k4⟩ := pkF_ok hE l l2 us (key + 1) rs1 rs' ω1 β1 (by omega) hp2 (by simpa using hl) h1 (fun j x u' hj hu => hk1.arel (hx (j + 1) x u' hj hu))
      subst hl'
      refine ⟨ω', β', k1, hk1.trans k2, by simp [k3], fun j x u' hj hu => ?_⟩
      cases j with
      | zero => injection hj with hj; injection hu with hu; subst hj hu; exact k2.arel hy
      | succ j => exact k4 j x u' hj hu
    unfold pkF at hp
    split at hp
    · rename_i κ i r
      split at hp
      · rename_i rs1 y hpk
        obtain ⟨ω1, β1, h1, hk1, hy⟩ := pk1_ok hE hk hpk h hx0
        split at hp
        · rename_i rs2 l2 hp2
          injection hp with hp; injection hp with e1 e2; subst e1
          exact step rs1 y ω1 β1 l2 h1 hk1 hy hp2 e2.symm
        · cases hp
      · cases hp
    · split at hp
      · rename_i rs2 l2 hp2
        injection hp with hp; injection hp with e1 e2; subst e1
        exact step rs x ω β l2 h (Keep.rfl _ _) hx0 hp2 e2.symm
      · cases hp

theorem hasSpot_ok : ∀ {l : List At}, hasSpot l = false → l.map stA = l
  | [], _ => rfl
  | x :: l, h => by
    cases x <;> simp only [hasSpot] at h <;> first | cases h | (simp only [List.map_cons, stA]; rw [hasSpot_ok h])
theorem ARel.st {s : St} {β : Nat → Bs} {w : World} {x : At} {u : Value} (h : ARel s β w x u) (hone : u.oneCell' = true) : ARel s β w (stA x) u := by
  cases x <;> first | exact h | exact hone

theorem ld_ok (hG : GOk P G) (hE : F.nE ≤ 1000000) (hg : o.guard = none) (hd : okD N o.dst = true) {t : Nat} {x : Operand} (hop : o.op = .load t x) (kk : ∀ τ, k τ → AL P F N ops Q rest τ.er) (h : ldK P F N G o σ t x k) : AL P F N ops Q (o :: rest) σ.er := by
  unfold ldK at h
  split at h
  · rename_i κ i r m kd z d hx ht hdst
    split at h
    · rename_i R hR
      split at h
      · rename_i l hl
        cases hm : (Nat.blt 0 m && (scK kd || agK kd)) with
        | false => rw [hm] at h; exact h.h _ _ _ kk
        | true =>
          rw [hm] at h
          simp only [cond_true] at h
          simp only [Bool.and_eq_true, Bool.or_eq_true, blt_dec, decide_eq_true_eq] at hm
          obtain ⟨hm0, hkd⟩ := hm
          obtain ⟨e1, e2⟩ := atomsT_ok hl
          obtain ⟨hrk, hbx, c0, hc0⟩ := e2 hm0
          obtain ⟨hin, h⟩ := inK_ok h hbx ⟨r, c0, hc0⟩
          have hxe : σ.er.ev x = .ptr κ i r := by rw [evS_eq, hx]; rfl
          have hRe := TS.rt_some hR
          -- the base's load
          have base : (AL P F N ops Q rest (σ.er.put d (if scK kd then .a (l.headD .any) else .agg l))) → AL P F N ops Q (o :: rest) σ.er := by
            intro hk
            cases hs : scK kd with
            | true =>
              rw [hs] at hk
              refine AL.load1 hG.T hop hg hd hxe ht hs hRe hin (by omega) rfl ?_
              rw [hdst]
              have : l.headD .any = R.er.atom κ i r := by
                rw [e1]; cases m with
                | zero => omega
                | succ m => rfl
              rw [← this]; exact hk
            | false =>
              rw [hs] at hk hkd
              have hag : agK kd = true := by simpa using hkd
              refine AL.loadAgg hG.T hop hg hd hxe ht hag hRe hin (by omega) (liveL_true _ _ _ _) ?_
              rw [hdst, ← e1]; exact hk
          cases hsp : hasSpot l with
          | false =>
            rw [hsp] at h
            simp only [cond_false] at h
            refine base ?_
            have := put_ok (σ := σ) kk h
            have hst := hasSpot_ok hsp
            have e3 : stV (bif scK kd then V.a (l.headD .any) else .agg l) = if scK kd then .a (l.headD .any) else .agg l := by
              cases scK kd with
              | true =>
                show V.a (stA (l.headD .any)) = .a (l.headD .any)
                cases l with
                | nil => rfl
                | cons y l => simp only [List.map_cons, List.cons.injEq] at hst; simp [hst.1]
              | false => show V.agg (l.map stA) = .agg l; rw [hst]
            rw [e3] at this; exact this
          | true =>
            rw [hsp] at h
            simp only [cond_true] at h
            split at h
            · rename_i rs l' hpk
              rw [fRs_eq, putK_eq] at h
              refine base (AL.pre (σ' := (TS.mk ((d, bif scK kd then .a (l'.headD .any) else .agg l') :: σ.t) rs).er) (fun a w ω β hr => ?_) (kk _ h))
              -- forget the slot, keep its value
              have hval := hr.tmps d
              rw [St.tv_put, if_pos rfl] at hval
              have h1 : Rel1 F N (TS.mk ((d, .any) :: σ.t) σ.r).er a w ω β := by
                refine hr.sim (fun t' => ?_) (fun κ' R' hR' => ⟨R', hR', RSim.rfl _⟩) (fun κ' R' hR' => ⟨R', hR'⟩)
                rw [TS.tv_er, lkT_cons, St.tv_put]
                by_cases e : t' = d
                · simp [e, stV]
                · simp only [e, if_neg, not_false_eq_true, if_false]; exact .inr (TS.tv_er _ _).symm
              have hsame : ∀ {x : At} {u : Value}, ARel (σ.er.put d (if scK kd then .a (l.headD .any) else .agg l)) β w x u → ARel (TS.mk ((d, .any) :: σ.t) σ.r).er β w x u := fun hx => Keep.arel (fun κ' R' hR' => ⟨rfl, R', hR', rfl, rfl⟩) hx
              have fin : ∀ (us : List Value), us.length = l.length → (∀ (j : Nat) (x : At) (u : Value), l[j]? = some x → us[j]? = some u → ARel (TS.mk ((d, .any) :: σ.t) σ.r).er β w x u) → (∀ s β', l'.length = l.length → (∀ (j : Nat) (x : At) (u : Value), l'[j]? = some x → us[j]? = some u → ARel s β' w x u) → VRel s β' w (stV (bif scK kd then .a (l'.headD .any) else .agg l')) (a.tmps.getD d undef)) →
                  ∃ ω' β', Rel1 F N (TS.mk ((d, bif scK kd then .a (l'.headD .any) else .agg l') :: σ.t) rs).er a w ω' β' := by
                intro us hus hrel hv
                obtain ⟨ω', β', k1, k2, k3, k4⟩ := pkF_ok hE l l' us _ σ.r rs ω β (by omega) hpk hus h1 hrel
                refine ⟨ω', β', ?_⟩
                have h5 := Rel1.retell k1 (t := d) (hv _ _ k3 k4)
                refine h5.sim (fun t' => ?_) (fun κ' R' hR' => ⟨R', hR', RSim.rfl _⟩) (fun κ' R' hR' => ⟨R', hR'⟩)
                rw [TS.tv_er, lkT_cons, St.tv_put, TS.tv_er, lkT_cons]
                by_cases e : t' = d
                · simp [e]
                · simp [e]
              cases hs : scK kd with
              | true =>
                rw [hs] at hval
                have hval : ARel _ β w (l.headD .any) (a.tmps.getD d undef) := hval
                have hl1 : ∃ y ys, l = y :: ys := by
                  rw [e1]; cases m with
                  | zero => omega
                  | succ m => exact ⟨_, _, rfl⟩
                obtain ⟨y, ys, hly⟩ := hl1
                rw [hly] at hval
                have hone := ARel.one hr hval
                -- the other cells' values: whatever they are
                have hall : ∃ us : List Value, us.length = l.length ∧ us[0]? = some (a.tmps.getD d undef) ∧ ∀ (j : Nat) (x : At) (u : Value), l[j]? = some x → us[j]? = some u → ARel (TS.mk ((d, .any) :: σ.t) σ.r).er β w x u := by
                  have hget : ∀ q, q < m → ∃ u, ARel (TS.mk ((d, .any) :: σ.t) σ.r).er β w (R.er.atom κ i (r + q)) u := by
                    intro q hq
                    obtain ⟨_, _, u, _, _, hu⟩ := h1.load (κ := κ) (R := R.er) (by rw [rt_mk, hR]; rfl) hin (show r + q < R.er.k by omega) rfl
                    exact ⟨u, hu⟩
                  have hmk : ∀ (n r0 : Nat), (∀ q, q < n → ∃ u, ARel (TS.mk ((d, .any) :: σ.t) σ.r).er β w (R.er.atom κ i (r0 + q)) u) → ∃ us : List Value, us.length = n ∧ ∀ (j : Nat) (x : At) (u : Value), (atomsL R.er κ i r0 n)[j]? = some x → us[j]? = some u → ARel (TS.mk ((d, .any) :: σ.t) σ.r).er β w x u := by
                    intro n
                    induction n with
                    | zero => intro r0 _; exact ⟨[], rfl, fun j x u hj => by simp [atomsL] at hj⟩
                    | succ n ih =>
                      intro r0 hq
                      obtain ⟨u0, hu0⟩ := hq 0 (by omega)
                      obtain ⟨us, e4, e5⟩ := ih (r0 + 1) (fun q hq' => by have := hq (q + 1) (by omega); rwa [show r0 + (q + 1) = r0 + 1 + q by omega] at this)
                      refine ⟨u0 :: us, by simp [e4], fun j x u hj hu => ?_⟩
                      cases j with
                      | zero => injection hj with hj; injection hu with hu; subst hj hu; exact hu0
                      | succ j => exact e5 j x u hj hu
                  cases m with
                  | zero => omega
                  | succ m =>
                    obtain ⟨us, e4, e5⟩ := hmk m (r + 1) (fun q hq => by have := hget (q + 1) (by omega); rwa [show r + (q + 1) = r + 1 + q by omega] at this)
                    refine ⟨a.tmps.getD d undef :: us, by rw [e1, atomsL_len]; simp [e4], rfl, fun j x u hj hu => ?_⟩
                    cases j with
                    | zero =>
                      rw [hly] at hj
                      injection hj with hj; injection hu with hu; subst hj hu; exact hsame hval
                    | succ j => rw [e1] at hj; exact e5 j x u hj hu
                obtain ⟨us, f1, f2, f3⟩ := hall
                rw [hs] at fin
                refine fin us f1 f3 (fun s β' hlen hv => ?_)
                rw [hly] at hlen
                cases l' with
                | nil => simp at hlen
                | cons y' ys' =>
                  show ARel s β' w (stA y') _
                  exact (hv 0 y' _ rfl f2).st hone
              | false =>
                rw [hs] at hval
                obtain ⟨us, g1, g2, g3⟩ := (show VRel0 _ β w (.agg l) _ from hval)
                rw [hs] at fin
                refine fin us.toList (by simpa using g2) (fun j x u hj hu => ?_) (fun s β' hlen hv => ?_)
                · obtain ⟨v, m1, m2⟩ := g3 j x hj
                  rw [Array.getElem?_toList, m1] at hu
                  injection hu with hu; subst hu
                  exact hsame m2
                · refine ⟨us, g1, by simp [g2, hlen], fun j x hj => ?_⟩
                  rw [List.getElem?_map] at hj
                  cases hq : l'[j]? with
                  | none => rw [hq] at hj; cases hj
                  | some x' =>
                    rw [hq] at hj; injection hj with hj; subst hj
                    have hjl : j < us.size := by rw [g2, ← hlen]; exact (List.getElem?_eq_some_iff.1 hq).1
                    obtain ⟨y0, hy0⟩ : ∃ y0, l[j]? = some y0 := ⟨l[j]'(by omega), List.getElem?_eq_getElem (by omega)⟩
                    obtain ⟨v, m1, m2⟩ := g3 j y0 hy0
                    exact ⟨v, m1, (hv j x' v hq (by rw [Array.getElem?_toList]; exact m1)).st (ARel.one hr m2)⟩
            · exact h.h _ _ _ kk
      · exact h.h _ _ _ kk
    · exact h.h _ _ _ kk
  · exact h.h _ _ _ kk
end
end Go.Tr
