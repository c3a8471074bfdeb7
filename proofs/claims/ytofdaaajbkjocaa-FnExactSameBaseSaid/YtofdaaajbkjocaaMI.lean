import Derived.Test.YtofdaaajbkjocaaMH
namespace Go.Proofs.Ytofdaaajbkjocaa
open Go Go.Tr
set_option maxRecDepth 100000
set_option maxHeartbeats 4000000
set_option linter.unusedVariables false
set_option linter.unusedSimpArgs false
abbrev aBs (e eP eR eL : Nat) (b c : List Int) (g o : List (List Int)) (E : Int) (ps : List PinT) (l : List (List Row)) (z : List Int) : TAg := .agg [.c (tI b), .c (tI c), .c (tSL e g), .c (tSL e o), .c (.lit (.int .i64 E)), .c (tPin eP ps), .c (tLL eR eL l), .c (tI z)]
def ch (a : Int) (f : Int → Int) : Int := if a < 0 then -1 else f a
def szB (b c : List Int) (g o : List (List Int)) (ps : List PinT) (l : List (List Row)) (z : List Int) (m : Int) : Int := ch (szM b c g o m) fun x => ch (szJ ps x) fun y => ch (szJLs l y) fun u => szI z u
structure BsOk (m : Nat) (b c : List Int) (g o : List (List Int)) (ps : List PinT) (l : List (List Row)) (z : List Int) : Prop where
  mm : MmOk m b c g o
  hps : ps.length ≤ m
  hl : l.length ≤ m
  hl' : ∀ i, (l.getD i []).length ≤ m
  hz : z.length ≤ m
theorem BsOk.le {m m' : Nat} {b c : List Int} {g o : List (List Int)} {ps : List PinT} {l : List (List Row)} {z : List Int} (h : BsOk m b c g o ps l z) (hm : m ≤ m') : BsOk m' b c g o ps l z :=
  ⟨h.mm.le hm, Nat.le_trans h.hps hm, Nat.le_trans h.hl hm, fun i => Nat.le_trans (h.hl' i) hm, Nat.le_trans h.hz hm⟩
theorem szJ_bd {α : Type} (xs : List α) (m : Int) (h : 0 ≤ m) : szJ xs m ≤ m ∧ -1 ≤ szJ xs m ∧ (0 ≤ szJ xs m → (xs.length : Int) ≤ m) := by unfold szJ; split <;> omega
theorem szB_ok {m : Int} {b c : List Int} {g o : List (List Int)} {ps : List PinT} {l : List (List Row)} {z : List Int} (h0 : 0 ≤ m) (h1 : m ≤ 1048576) : szB b c g o ps l z m ≤ m ∧ -1 ≤ szB b c g o ps l z m ∧ (0 ≤ szB b c g o ps l z m → BsOk 1048576 b c g o ps l z) := by
  unfold szB ch
  dsimp only
  have a := szM_le b c g o m h0
  split
  · exact ⟨by omega, by omega, fun h => by omega⟩
  have k1 := MmOk.of_sz h0 h1 (by assumption)
  have a2 := szJ_bd ps (szM b c g o m) (by omega)
  split
  · exact ⟨by omega, by omega, fun h => by omega⟩
  obtain ⟨b1, b2, b3⟩ := szJLs_le l (szJ ps (szM b c g o m)) (by omega)
  split
  · exact ⟨by omega, by omega, fun h => by omega⟩
  obtain ⟨b4, b5, b6⟩ := b3 (by omega)
  have a4 := szI_le z (szJLs l (szJ ps (szM b c g o m))) (by omega)
  refine ⟨by omega, by omega, fun h => ⟨k1, by omega, by omega, getD_leR fun x hx => (by have := b6 x hx; omega), by omega⟩⟩
theorem szBase_run (b c : List Int) (g o : List (List Int)) (E : Int) (ps : List PinT) (l : List (List Row)) (z : List Int) (m : Int) (h0 : 0 ≤ m) (h1 : m ≤ 1048576) (hb : BsOk 9223372036854775807 b c g o ps l z) : RunT Try.prog 16 [aBs 0 0 0 0 b c g o E ps l z, ti m] [] [oi (szB b c g o ps l z m)] [] := by
  have q1 := szM_le b c g o m h0
  have c1 := szMem_run 0 0 b c g o m h0 h1 hb.mm.hb hb.mm.hc hb.mm.hg hb.mm.hg' hb.mm.ho hb.mm.ho'
  unfold szB ch
  dsimp only
  refine RunT.of_vc gOk Try.func16 rfl rfl (Nat.le_of_ble_eq_true rfl) (by repeat' (first | exact trivial | exact ⟨_, rfl, Nat.le_refl _⟩ | exact Nat.le_of_ble_eq_true rfl | refine And.intro ?_ ?_)) (Nat.le_of_ble_eq_true rfl) rfl (fun F hE => ?_)
  repeat' (first | exact trivial | refine BS.d (fun h => ?_) (fun h => ?_) | refine BS.e (fun h => ?_) (fun h => ?_) | refine BS.ne (fun h => ?_) (fun h => ?_) | refine BS.n ?_ | refine BS.s (fun h => ?_) (fun h => ?_) | refine And.intro ?_ ?_ | (refine Need.mk ?_; first | with_reducible rfl | (show @Eq TC _ _; rfl) | omega | (simp only [adN_zero]; omega)) | exact OutS.whole rfl rfl | (refine OpK.call c1 rfl rfl rfl rfl hE ?_ rfl rfl ?_; focus ((repeat' (first | exact PsA.lit _ | exact PsA.ref rfl rfl | constructor)); all_goals (fail "ps"))))
  all_goals first | (refine Need.mk ?_; rw [if_pos (by assumption)]; done) | skip
  all_goals have q2 := szJ_bd ps (szM b c g o m) (by omega)
  all_goals have c2 := szClock_run E 0 ps (szM b c g o m) (by omega) (by omega) hb.hps
  all_goals (repeat' (first | exact trivial | refine BS.d (fun h => ?_) (fun h => ?_) | refine BS.e (fun h => ?_) (fun h => ?_) | refine BS.ne (fun h => ?_) (fun h => ?_) | refine BS.n ?_ | refine BS.s (fun h => ?_) (fun h => ?_) | refine And.intro ?_ ?_ | (refine Need.mk ?_; first | with_reducible rfl | (show @Eq TC _ _; rfl) | omega | (simp only [adN_zero]; omega)) | exact OutS.whole rfl rfl | (refine OpK.call c2 rfl rfl rfl rfl hE ?_ rfl rfl ?_; focus ((repeat' (first | exact PsA.lit _ | exact PsA.ref rfl rfl | constructor)); all_goals (fail "ps")))))
  all_goals first | (refine Need.mk ?_; rw [if_neg (by assumption), if_pos (by assumption)]; done) | skip
  all_goals have q3 := szJLs_le l (szJ ps (szM b c g o m)) (by omega)
  all_goals have c3 := szLListS_run 0 0 l (szJ ps (szM b c g o m)) (by omega) (by omega) hb.hl hb.hl'
  all_goals (repeat' (first | exact trivial | refine BS.d (fun h => ?_) (fun h => ?_) | refine BS.e (fun h => ?_) (fun h => ?_) | refine BS.ne (fun h => ?_) (fun h => ?_) | refine BS.n ?_ | refine BS.s (fun h => ?_) (fun h => ?_) | refine And.intro ?_ ?_ | (refine Need.mk ?_; first | with_reducible rfl | (show @Eq TC _ _; rfl) | omega | (simp only [adN_zero]; omega)) | exact OutS.whole rfl rfl | (refine OpK.call c3 rfl rfl rfl rfl hE ?_ rfl rfl ?_; focus ((repeat' (first | exact PsA.lit _ | exact PsA.ref rfl rfl | constructor)); all_goals (fail "ps")))))
  all_goals first | (refine Need.mk ?_; rw [if_neg (by assumption), if_neg (by assumption), if_pos (by assumption)]; done) | skip
  all_goals have c4 := szIntS_run z (szJLs l (szJ ps (szM b c g o m))) (by omega) (by omega) hb.hz
  all_goals (repeat' (first | exact trivial | refine BS.d (fun h => ?_) (fun h => ?_) | refine BS.e (fun h => ?_) (fun h => ?_) | refine BS.ne (fun h => ?_) (fun h => ?_) | refine BS.n ?_ | refine BS.s (fun h => ?_) (fun h => ?_) | refine And.intro ?_ ?_ | (refine Need.mk ?_; first | with_reducible rfl | (show @Eq TC _ _; rfl) | omega | (simp only [adN_zero]; omega)) | exact OutS.whole rfl rfl | (refine OpK.call c4 rfl rfl rfl rfl hE ?_ rfl rfl ?_; focus ((repeat' (first | exact PsA.lit _ | exact PsA.ref rfl rfl | constructor)); all_goals (fail "ps")))))
  all_goals (refine Need.mk ?_; rw [if_neg (by assumption), if_neg (by assumption), if_neg (by assumption)])
  all_goals (have q4 := szI_le z (szJLs l (szJ ps (szM b c g o m))) (by omega); omega)
theorem toBase_run (b c : List Int) (g o : List (List Int)) (E : Int) (ps : List PinT) (l : List (List Row)) (z : List Int) (hb : BsOk 1048576 b c g o ps l z) : RunT Try.prog 18 [aBs 0 0 0 0 b c g o E ps l z] [] [.agg [tI b, tI c, tSL 84 g, tSL 84 o, .lit (.int .i64 E), tPin 95 ps, tLL 88 69 l, tI z]] [] := by
  have c1 := toMem_run 0 b c g o hb.mm.hb hb.mm.hc hb.mm.hg hb.mm.hg' hb.mm.ho hb.mm.ho'
  have c2 := toClock_run E 0 ps hb.hps
  have c3 := toLListS_run 0 0 l hb.hl hb.hl'
  have c4 := toIntS_run z hb.hz
  refine RunT.of_vc gOk Try.func18 rfl rfl (Nat.le_of_ble_eq_true rfl) (by repeat' (first | exact trivial | exact ⟨_, rfl, Nat.le_refl _⟩ | exact Nat.le_of_ble_eq_true rfl | refine And.intro ?_ ?_)) (Nat.le_of_ble_eq_true rfl) rfl (fun F hE => ?_)
  repeat' (first | exact trivial | refine BS.d (fun h => ?_) (fun h => ?_) | refine BS.e (fun h => ?_) (fun h => ?_) | refine BS.ne (fun h => ?_) (fun h => ?_) | refine BS.n ?_ | refine BS.s (fun h => ?_) (fun h => ?_) | refine And.intro ?_ ?_ | (refine Need.mk ?_; first | with_reducible rfl | (show @Eq TC _ _; rfl) | omega | (simp only [adN_zero]; omega)) | exact OutS.whole rfl rfl | (refine OpK.call c1 rfl rfl rfl rfl hE ?_ rfl rfl ?_; focus ((repeat' (first | exact PsA.lit _ | exact PsA.ref rfl rfl | constructor)); all_goals (fail "ps"))) | (refine OpK.call c2 rfl rfl rfl rfl hE ?_ rfl rfl ?_; focus ((repeat' (first | exact PsA.lit _ | exact PsA.ref rfl rfl | constructor)); all_goals (fail "ps"))) | (refine OpK.call c3 rfl rfl rfl rfl hE ?_ rfl rfl ?_; focus ((repeat' (first | exact PsA.lit _ | exact PsA.ref rfl rfl | constructor)); all_goals (fail "ps"))) | (refine OpK.call c4 rfl rfl rfl rfl hE ?_ rfl rfl ?_; focus ((repeat' (first | exact PsA.lit _ | exact PsA.ref rfl rfl | constructor)); all_goals (fail "ps"))))
theorem eqBase_run (b c : List Int) (g o : List (List Int)) (E : Int) (ps : List PinT) (l : List (List Row)) (z : List Int) (hb : BsOk 4000000 b c g o ps l z) : RunT Try.prog 20 [aBs 84 95 88 69 b c g o E ps l z, aBs 84 95 88 69 b c g o E ps l z] [] [ob true] [] := by
  have c1 := eqMem_run 84 b c g o hb.mm.hb hb.mm.hc hb.mm.hg hb.mm.hg' hb.mm.ho hb.mm.ho'
  have c2 := eqClock_run E 95 ps hb.hps
  have c3 := eqLListS_run 88 69 l hb.hl hb.hl'
  have c4 := eqIntS_run z hb.hz
  refine RunT.of_vc gOk Try.func20 rfl rfl (Nat.le_of_ble_eq_true rfl) (by repeat' (first | exact trivial | exact ⟨_, rfl, Nat.le_refl _⟩ | exact Nat.le_of_ble_eq_true rfl | refine And.intro ?_ ?_)) (Nat.le_of_ble_eq_true rfl) rfl (fun F hE => ?_)
  repeat' (first | exact trivial | refine BS.d (fun h => ?_) (fun h => ?_) | refine BS.e (fun h => ?_) (fun h => ?_) | refine BS.ne (fun h => ?_) (fun h => ?_) | refine BS.n ?_ | refine BS.s (fun h => ?_) (fun h => ?_) | refine And.intro ?_ ?_ | (refine Need.mk ?_; first | with_reducible rfl | (show @Eq TC _ _; rfl) | omega | (simp only [adN_zero]; omega)) | exact OutS.whole rfl rfl | (refine OpK.call c1 rfl rfl rfl rfl hE ?_ rfl rfl ?_; focus ((repeat' (first | exact PsA.lit _ | exact PsA.ref rfl rfl | constructor)); all_goals (fail "ps"))) | (refine OpK.call c2 rfl rfl rfl rfl hE ?_ rfl rfl ?_; focus ((repeat' (first | exact PsA.lit _ | exact PsA.ref rfl rfl | constructor)); all_goals (fail "ps"))) | (refine OpK.call c3 rfl rfl rfl rfl hE ?_ rfl rfl ?_; focus ((repeat' (first | exact PsA.lit _ | exact PsA.ref rfl rfl | constructor)); all_goals (fail "ps"))) | (refine OpK.call c4 rfl rfl rfl rfl hE ?_ rfl rfl ?_; focus ((repeat' (first | exact PsA.lit _ | exact PsA.ref rfl rfl | constructor)); all_goals (fail "ps"))))
abbrev sbV (b c : List Int) (g o : List (List Int)) (E : Int) (ps : List PinT) (l : List (List Row)) (z : List Int) (b' c' : List Int) (g' o' : List (List Int)) (E' : Int) (ps' : List PinT) (l' : List (List Row)) (z' : List Int) : Bool :=
  ((((decide (b = b') && decide (c = c')) && (decide (g = g') && decide (o = o'))) && (decide (E = E') && decide (ps = ps'))) && decide (l = l')) && decide (z = z')
theorem SameBaseS_run (b c : List Int) (g o : List (List Int)) (E : Int) (ps : List PinT) (l : List (List Row)) (z : List Int) (b' c' : List Int) (g' o' : List (List Int)) (E' : Int) (ps' : List PinT) (l' : List (List Row)) (z' : List Int) (h1 : BsOk 1048576 b c g o ps l z) (h2 : BsOk 1048576 b' c' g' o' ps' l' z') : RunT Try.prog 17 [aBs 84 95 88 69 b c g o E ps l z, aBs 84 95 88 69 b' c' g' o' E' ps' l' z'] [] [ob (sbV b c g o E ps l z b' c' g' o' E' ps' l' z')] [] := by
  have c1 := SameMemS_run 84 84 b c g o b' c' g' o' h1.mm h2.mm
  have c2 := SameClockS_run E E' 95 95 ps ps' h1.hps h2.hps
  have c3 := SameLimboS_run 88 69 88 69 l l' h1.hl h2.hl h1.hl' h2.hl'
  have c4 := SameBytes_run z z' (h1.le (m' := 4000000) (by decide)).hz (h2.le (m' := 4000000) (by decide)).hz
  unfold sbV
  generalize ((decide (b = b') && decide (c = c')) && (decide (g = g') && decide (o = o'))) = v1 at c1 ⊢
  generalize (decide (E = E') && decide (ps = ps')) = v2 at c2 ⊢
  generalize decide (l = l') = v3 at c3 ⊢
  generalize decide (z = z') = v4 at c4 ⊢
  refine RunT.of_vc gOk Try.func17 rfl rfl (Nat.le_of_ble_eq_true rfl) (by repeat' (first | exact trivial | exact ⟨_, rfl, Nat.le_refl _⟩ | exact Nat.le_of_ble_eq_true rfl | refine And.intro ?_ ?_)) (Nat.le_of_ble_eq_true rfl) rfl (fun F hE => ?_)
  repeat' (first | exact trivial | refine BS.d (fun h => ?_) (fun h => ?_) | refine BS.e (fun h => ?_) (fun h => ?_) | refine BS.ne (fun h => ?_) (fun h => ?_) | refine BS.n ?_ | refine BS.s (fun h => ?_) (fun h => ?_) | refine And.intro ?_ ?_ | (refine Need.mk ?_; first | with_reducible rfl | (show @Eq TC _ _; rfl) | omega | (simp only [adN_zero]; omega)) | exact OutS.whole rfl rfl | (refine OpK.call c1 rfl rfl rfl rfl hE ?_ rfl rfl ?_; focus ((repeat' (first | exact PsA.lit _ | exact PsA.ref rfl rfl | constructor)); all_goals (fail "ps"))) | (refine OpK.call c2 rfl rfl rfl rfl hE ?_ rfl rfl ?_; focus ((repeat' (first | exact PsA.lit _ | exact PsA.ref rfl rfl | constructor)); all_goals (fail "ps"))) | (refine OpK.call c3 rfl rfl rfl rfl hE ?_ rfl rfl ?_; focus ((repeat' (first | exact PsA.lit _ | exact PsA.ref rfl rfl | constructor)); all_goals (fail "ps"))) | (refine OpK.call c4 rfl rfl rfl rfl hE ?_ rfl rfl ?_; focus ((repeat' (first | exact PsA.lit _ | exact PsA.ref rfl rfl | constructor)); all_goals (fail "ps"))))
  all_goals (refine Need.mk ?_; simp_all)
theorem SameBaseI_run (b c : List Int) (g o : List (List Int)) (E : Int) (ps : List PinT) (l : List (List Row)) (z : List Int) (b' c' : List Int) (g' o' : List (List Int)) (E' : Int) (ps' : List PinT) (l' : List (List Row)) (z' : List Int) (h1 : BsOk 1048576 b c g o ps l z) (h2 : BsOk 1048576 b' c' g' o' ps' l' z') : RunT Try.prog 19 [aBs 84 95 88 69 b c g o E ps l z, aBs 84 95 88 69 b' c' g' o' E' ps' l' z'] [] [ob (sbV b c g o E ps l z b' c' g' o' E' ps' l' z')] [] := by
  have c1 := SameMemI_run 84 84 b c g o b' c' g' o' h1.mm h2.mm
  have c2 := SameClockI_run E E' 95 95 ps ps' h1.hps h2.hps
  have c3 := SameLimboI2_run 88 69 88 69 l l' h1.hl h2.hl h1.hl' h2.hl'
  have c4 := Equal_run z z' (h1.le (m' := 4000000) (by decide)).hz (h2.le (m' := 4000000) (by decide)).hz
  unfold sbV
  generalize ((decide (b = b') && decide (c = c')) && (decide (g = g') && decide (o = o'))) = v1 at c1 ⊢
  generalize (decide (E = E') && decide (ps = ps')) = v2 at c2 ⊢
  generalize decide (l = l') = v3 at c3 ⊢
  generalize decide (z = z') = v4 at c4 ⊢
  refine RunT.of_vc gOk Try.func19 rfl rfl (Nat.le_of_ble_eq_true rfl) (by repeat' (first | exact trivial | exact ⟨_, rfl, Nat.le_refl _⟩ | exact Nat.le_of_ble_eq_true rfl | refine And.intro ?_ ?_)) (Nat.le_of_ble_eq_true rfl) rfl (fun F hE => ?_)
  repeat' (first | exact trivial | refine BS.d (fun h => ?_) (fun h => ?_) | refine BS.e (fun h => ?_) (fun h => ?_) | refine BS.ne (fun h => ?_) (fun h => ?_) | refine BS.n ?_ | refine BS.s (fun h => ?_) (fun h => ?_) | refine And.intro ?_ ?_ | (refine Need.mk ?_; first | with_reducible rfl | (show @Eq TC _ _; rfl) | omega | (simp only [adN_zero]; omega)) | exact OutS.whole rfl rfl | (refine OpK.call c1 rfl rfl rfl rfl hE ?_ rfl rfl ?_; focus ((repeat' (first | exact PsA.lit _ | exact PsA.ref rfl rfl | constructor)); all_goals (fail "ps"))) | (refine OpK.call c2 rfl rfl rfl rfl hE ?_ rfl rfl ?_; focus ((repeat' (first | exact PsA.lit _ | exact PsA.ref rfl rfl | constructor)); all_goals (fail "ps"))) | (refine OpK.call c3 rfl rfl rfl rfl hE ?_ rfl rfl ?_; focus ((repeat' (first | exact PsA.lit _ | exact PsA.ref rfl rfl | constructor)); all_goals (fail "ps"))) | (refine OpK.call c4 rfl rfl rfl rfl hE ?_ rfl rfl ?_; focus ((repeat' (first | exact PsA.lit _ | exact PsA.ref rfl rfl | constructor)); all_goals (fail "ps"))))
  all_goals (refine Need.mk ?_; simp_all)
end Go.Proofs.Ytofdaaajbkjocaa
