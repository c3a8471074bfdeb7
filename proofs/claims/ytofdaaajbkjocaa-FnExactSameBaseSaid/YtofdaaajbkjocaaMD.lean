import Derived.Test.YtofdaaajbkjocaaMC
namespace Go.Proofs.Ytofdaaajbkjocaa
open Go Go.Tr
set_option maxRecDepth 100000
set_option maxHeartbeats 4000000
set_option linter.unusedVariables false
set_option linter.unusedSimpArgs false
abbrev aHp (b c : List Int) : TAg := .agg [.c (tI b), .c (tI c)]
def szH (b c : List Int) (m : Int) : Int := if szI b m < 0 then -1 else szI c (szI b m)
def szG (g o : List (List Int)) (m : Int) : Int := if szSLs g m < 0 then -1 else szSLs o (szSLs g m)
def szM (b c : List Int) (g o : List (List Int)) (m : Int) : Int := if szH b c m < 0 then -1 else szG g o (szH b c m)
theorem szH_le (b c : List Int) (m : Int) (h : 0 ≤ m) : szH b c m ≤ m ∧ -1 ≤ szH b c m ∧ (0 ≤ szH b c m → b.length ≤ m ∧ c.length ≤ m) := by
  unfold szH
  have h1 := szI_le b m h
  split
  · omega
  · have h2 := szI_le c (szI b m) (by omega)
    omega
theorem szG_le (g o : List (List Int)) (m : Int) (h : 0 ≤ m) : szG g o m ≤ m ∧ -1 ≤ szG g o m ∧ (0 ≤ szG g o m → (g.length ≤ m ∧ ∀ x ∈ g, x.length ≤ m) ∧ (o.length ≤ m ∧ ∀ x ∈ o, x.length ≤ m)) := by
  unfold szG
  obtain ⟨a1, a2, a3⟩ := szSLs_le g m h
  split
  · exact ⟨by omega, by omega, fun h => by omega⟩
  · obtain ⟨b1, b2, b3⟩ := szSLs_le o (szSLs g m) (by omega)
    refine ⟨by omega, b2, fun h9 => ⟨a3 (by omega), ?_⟩⟩
    obtain ⟨c1, c2⟩ := b3 h9
    exact ⟨by omega, fun x hx => by have := c2 x hx; omega⟩
theorem szM_le (b c : List Int) (g o : List (List Int)) (m : Int) (h : 0 ≤ m) : szM b c g o m ≤ m ∧ -1 ≤ szM b c g o m ∧ (0 ≤ szM b c g o m → (b.length ≤ m ∧ c.length ≤ m) ∧ (g.length ≤ m ∧ ∀ x ∈ g, x.length ≤ m) ∧ (o.length ≤ m ∧ ∀ x ∈ o, x.length ≤ m)) := by
  unfold szM
  obtain ⟨a1, a2, a3⟩ := szH_le b c m h
  split
  · exact ⟨by omega, by omega, fun h => by omega⟩
  · obtain ⟨b1, b2, b3⟩ := szG_le g o (szH b c m) (by omega)
    refine ⟨by omega, b2, fun h9 => ⟨a3 (by omega), ?_⟩⟩
    obtain ⟨⟨c1, c2⟩, c3, c4⟩ := b3 h9
    exact ⟨⟨by omega, fun x hx => by have := c2 x hx; omega⟩, by omega, fun x hx => by have := c4 x hx; omega⟩
theorem szHeap_run (b c : List Int) (m : Int) (h0 : 0 ≤ m) (h1 : m ≤ 1048576) (hb : b.length ≤ 9223372036854775807) (hc : c.length ≤ 9223372036854775807) : RunT Try.prog 21 [aHp b c, ti m] [] [oi (szH b c m)] [] := by
  have q1 := szI_le b m h0
  have c1 := szIntS_run b m h0 h1 hb
  refine RunT.of_vc gOk Try.func21 rfl rfl (Nat.le_of_ble_eq_true rfl) (by repeat' (first | exact trivial | exact ⟨_, rfl, Nat.le_refl _⟩ | exact Nat.le_of_ble_eq_true rfl | refine And.intro ?_ ?_)) (Nat.le_of_ble_eq_true rfl) rfl (fun F hE => ?_)
  repeat' (first | exact trivial | refine BS.d (fun h => ?_) (fun h => ?_) | refine BS.e (fun h => ?_) (fun h => ?_) | refine BS.ne (fun h => ?_) (fun h => ?_) | refine BS.n ?_ | refine BS.s (fun h => ?_) (fun h => ?_) | refine And.intro ?_ ?_ | (refine Need.mk ?_; first | with_reducible rfl | (show @Eq TC _ _; rfl) | omega | (simp only [adN_zero]; omega)) | exact OutS.whole rfl rfl | (refine OpK.call c1 rfl rfl rfl rfl hE ?_ rfl rfl ?_; focus ((repeat' (first | exact PsA.lit _ | exact PsA.ref rfl rfl | constructor)); all_goals (fail "ps"))))
  all_goals first | (refine Need.mk ?_; unfold szH; rw [if_pos (by assumption)]) | skip
  all_goals have c2 := szIntS_run c (szI b m) (by omega) (by omega) hc
  all_goals (repeat' (first | exact trivial | refine BS.d (fun h => ?_) (fun h => ?_) | refine BS.e (fun h => ?_) (fun h => ?_) | refine BS.ne (fun h => ?_) (fun h => ?_) | refine BS.n ?_ | refine BS.s (fun h => ?_) (fun h => ?_) | refine And.intro ?_ ?_ | (refine Need.mk ?_; first | with_reducible rfl | (show @Eq TC _ _; rfl) | omega | (simp only [adN_zero]; omega)) | exact OutS.whole rfl rfl | (refine OpK.call c2 rfl rfl rfl rfl hE ?_ rfl rfl ?_; focus ((repeat' (first | exact PsA.lit _ | exact PsA.ref rfl rfl | constructor)); all_goals (fail "ps")))))
  all_goals (refine Need.mk ?_; unfold szH; rw [if_neg (by assumption)])
  all_goals (have q2 := szI_le c (szI b m) (by omega); omega)
theorem szMem_run (e e' : Nat) (b c : List Int) (g o : List (List Int)) (m : Int) (h0 : 0 ≤ m) (h1 : m ≤ 1048576) (hb : b.length ≤ 9223372036854775807) (hc : c.length ≤ 9223372036854775807) (hg : g.length ≤ 9223372036854775807) (hg' : ∀ i, (g.getD i []).length ≤ 9223372036854775807) (ho : o.length ≤ 9223372036854775807) (ho' : ∀ i, (o.getD i []).length ≤ 9223372036854775807) :
    RunT Try.prog 6 [.agg [.c (tI b), .c (tI c), .c (tSL e g), .c (tSL e o)], ti m] [] [oi (szM b c g o m)] [] := by
  have q1 := szH_le b c m h0
  have c1 := szHeap_run b c m h0 h1 hb hc
  refine RunT.of_vc gOk Try.func6 rfl rfl (Nat.le_of_ble_eq_true rfl) (by repeat' (first | exact trivial | exact ⟨_, rfl, Nat.le_refl _⟩ | exact Nat.le_of_ble_eq_true rfl | refine And.intro ?_ ?_)) (Nat.le_of_ble_eq_true rfl) rfl (fun F hE => ?_)
  repeat' (first | exact trivial | refine BS.d (fun h => ?_) (fun h => ?_) | refine BS.e (fun h => ?_) (fun h => ?_) | refine BS.ne (fun h => ?_) (fun h => ?_) | refine BS.n ?_ | refine BS.s (fun h => ?_) (fun h => ?_) | refine And.intro ?_ ?_ | (refine Need.mk ?_; first | with_reducible rfl | (show @Eq TC _ _; rfl) | omega | (simp only [adN_zero]; omega)) | exact OutS.whole rfl rfl | (refine OpK.call c1 rfl rfl rfl rfl hE ?_ rfl rfl ?_; focus ((repeat' (first | exact PsA.lit _ | exact PsA.ref rfl rfl | constructor)); all_goals (fail "ps"))))
  all_goals first | (refine Need.mk ?_; unfold szM; rw [if_pos (by assumption)]) | skip
  all_goals have c2 : RunT Try.prog 22 [.agg [.c (tSL e g), .c (tSL e o)], ti (szH b c m)] [] [oi (szG g o (szH b c m))] [] := szLists_run e g o (szH b c m) (by omega) (by omega) hg hg' ho ho'
  all_goals (repeat' (first | exact trivial | refine BS.d (fun h => ?_) (fun h => ?_) | refine BS.e (fun h => ?_) (fun h => ?_) | refine BS.ne (fun h => ?_) (fun h => ?_) | refine BS.n ?_ | refine BS.s (fun h => ?_) (fun h => ?_) | refine And.intro ?_ ?_ | (refine Need.mk ?_; first | with_reducible rfl | (show @Eq TC _ _; rfl) | omega | (simp only [adN_zero]; omega)) | exact OutS.whole rfl rfl | (refine OpK.call c2 rfl rfl rfl rfl hE ?_ rfl rfl ?_; focus ((repeat' (first | exact PsA.lit _ | exact PsA.ref rfl rfl | constructor)); all_goals (fail "ps")))))
  all_goals have q2 := szG_le g o (szH b c m) (by omega)
  all_goals have q3 : szM b c g o m = szG g o (szH b c m) := (if_neg (by assumption))
  all_goals (refine Need.mk ?_; rw [q3]; try omega)
theorem toHeap_run (b c : List Int) (hb : b.length ≤ 1048576) (hc : c.length ≤ 1048576) : RunT Try.prog 25 [aHp b c] [] [.agg [tI b, tI c]] [] := by
  have c1 := toIntS_run b hb
  have c2 := toIntS_run c hc
  refine RunT.of_vc gOk Try.func25 rfl rfl (Nat.le_of_ble_eq_true rfl) (by repeat' (first | exact trivial | exact ⟨_, rfl, Nat.le_refl _⟩ | exact Nat.le_of_ble_eq_true rfl | refine And.intro ?_ ?_)) (Nat.le_of_ble_eq_true rfl) rfl (fun F hE => ?_)
  repeat' (first | exact trivial | refine BS.d (fun h => ?_) (fun h => ?_) | refine BS.e (fun h => ?_) (fun h => ?_) | refine BS.ne (fun h => ?_) (fun h => ?_) | refine BS.n ?_ | refine BS.s (fun h => ?_) (fun h => ?_) | refine And.intro ?_ ?_ | (refine Need.mk ?_; first | with_reducible rfl | (show @Eq TC _ _; rfl) | omega | (simp only [adN_zero]; omega)) | exact OutS.whole rfl rfl | (refine OpK.call c1 rfl rfl rfl rfl hE ?_ rfl rfl ?_; focus ((repeat' (first | exact PsA.lit _ | exact PsA.ref rfl rfl | constructor)); all_goals (fail "ps"))) | (refine OpK.call c2 rfl rfl rfl rfl hE ?_ rfl rfl ?_; focus ((repeat' (first | exact PsA.lit _ | exact PsA.ref rfl rfl | constructor)); all_goals (fail "ps"))))
theorem toMem_run (e : Nat) (b c : List Int) (g o : List (List Int)) (hb : b.length ≤ 1048576) (hc : c.length ≤ 1048576) (hg : g.length ≤ 1048576) (hg' : ∀ i, (g.getD i []).length ≤ 1048576) (ho : o.length ≤ 1048576) (ho' : ∀ i, (o.getD i []).length ≤ 1048576) :
    RunT Try.prog 8 [.agg [.c (tI b), .c (tI c), .c (tSL e g), .c (tSL e o)]] [] [.agg [tI b, tI c, tSL 84 g, tSL 84 o]] [] := by
  have c1 := toHeap_run b c hb hc
  have c2 := toLists_run e g o hg hg' ho ho'
  refine RunT.of_vc gOk Try.func8 rfl rfl (Nat.le_of_ble_eq_true rfl) (by repeat' (first | exact trivial | exact ⟨_, rfl, Nat.le_refl _⟩ | exact Nat.le_of_ble_eq_true rfl | refine And.intro ?_ ?_)) (Nat.le_of_ble_eq_true rfl) rfl (fun F hE => ?_)
  repeat' (first | exact trivial | refine BS.d (fun h => ?_) (fun h => ?_) | refine BS.e (fun h => ?_) (fun h => ?_) | refine BS.ne (fun h => ?_) (fun h => ?_) | refine BS.n ?_ | refine BS.s (fun h => ?_) (fun h => ?_) | refine And.intro ?_ ?_ | (refine Need.mk ?_; first | with_reducible rfl | (show @Eq TC _ _; rfl) | omega | (simp only [adN_zero]; omega)) | exact OutS.whole rfl rfl | (refine OpK.call c1 rfl rfl rfl rfl hE ?_ rfl rfl ?_; focus ((repeat' (first | exact PsA.lit _ | exact PsA.ref rfl rfl | constructor)); all_goals (fail "ps"))) | (refine OpK.call c2 rfl rfl rfl rfl hE ?_ rfl rfl ?_; focus ((repeat' (first | exact PsA.lit _ | exact PsA.ref rfl rfl | constructor)); all_goals (fail "ps"))))
theorem eqHeap_run (b c : List Int) (hb : b.length ≤ 4000000) (hc : c.length ≤ 4000000) : RunT Try.prog 29 [aHp b c, aHp b c] [] [ob true] [] := by
  have c1 := eqIntS_run b hb
  have c2 := eqIntS_run c hc
  refine RunT.of_vc gOk Try.func29 rfl rfl (Nat.le_of_ble_eq_true rfl) (by repeat' (first | exact trivial | exact ⟨_, rfl, Nat.le_refl _⟩ | exact Nat.le_of_ble_eq_true rfl | refine And.intro ?_ ?_)) (Nat.le_of_ble_eq_true rfl) rfl (fun F hE => ?_)
  repeat' (first | exact trivial | refine BS.d (fun h => ?_) (fun h => ?_) | refine BS.e (fun h => ?_) (fun h => ?_) | refine BS.ne (fun h => ?_) (fun h => ?_) | refine BS.n ?_ | refine BS.s (fun h => ?_) (fun h => ?_) | refine And.intro ?_ ?_ | (refine Need.mk ?_; first | with_reducible rfl | (show @Eq TC _ _; rfl) | omega | (simp only [adN_zero]; omega)) | exact OutS.whole rfl rfl | (refine OpK.call c1 rfl rfl rfl rfl hE ?_ rfl rfl ?_; focus ((repeat' (first | exact PsA.lit _ | exact PsA.ref rfl rfl | constructor)); all_goals (fail "ps"))) | (refine OpK.call c2 rfl rfl rfl rfl hE ?_ rfl rfl ?_; focus ((repeat' (first | exact PsA.lit _ | exact PsA.ref rfl rfl | constructor)); all_goals (fail "ps"))))
theorem eqMem_run (e : Nat) (b c : List Int) (g o : List (List Int)) (hb : b.length ≤ 4000000) (hc : c.length ≤ 4000000) (hg : g.length ≤ 4000000) (hg' : ∀ i, (g.getD i []).length ≤ 4000000) (ho : o.length ≤ 4000000) (ho' : ∀ i, (o.getD i []).length ≤ 4000000) :
    RunT Try.prog 10 [.agg [.c (tI b), .c (tI c), .c (tSL e g), .c (tSL e o)], .agg [.c (tI b), .c (tI c), .c (tSL e g), .c (tSL e o)]] [] [ob true] [] := by
  have c1 := eqHeap_run b c hb hc
  have c2 := eqLists_run e g o hg hg' ho ho'
  refine RunT.of_vc gOk Try.func10 rfl rfl (Nat.le_of_ble_eq_true rfl) (by repeat' (first | exact trivial | exact ⟨_, rfl, Nat.le_refl _⟩ | exact Nat.le_of_ble_eq_true rfl | refine And.intro ?_ ?_)) (Nat.le_of_ble_eq_true rfl) rfl (fun F hE => ?_)
  repeat' (first | exact trivial | refine BS.d (fun h => ?_) (fun h => ?_) | refine BS.e (fun h => ?_) (fun h => ?_) | refine BS.ne (fun h => ?_) (fun h => ?_) | refine BS.n ?_ | refine BS.s (fun h => ?_) (fun h => ?_) | refine And.intro ?_ ?_ | (refine Need.mk ?_; first | with_reducible rfl | (show @Eq TC _ _; rfl) | omega | (simp only [adN_zero]; omega)) | exact OutS.whole rfl rfl | (refine OpK.call c1 rfl rfl rfl rfl hE ?_ rfl rfl ?_; focus ((repeat' (first | exact PsA.lit _ | exact PsA.ref rfl rfl | constructor)); all_goals (fail "ps"))) | (refine OpK.call c2 rfl rfl rfl rfl hE ?_ rfl rfl ?_; focus ((repeat' (first | exact PsA.lit _ | exact PsA.ref rfl rfl | constructor)); all_goals (fail "ps"))))
theorem SameHeapS_run (b c b' c' : List Int) (hb : b.length ≤ 4000000) (hc : c.length ≤ 4000000) (hb' : b'.length ≤ 4000000) (hc' : c'.length ≤ 4000000) : RunT Try.prog 23 [aHp b c, aHp b' c'] [] [ob (decide (b = b') && decide (c = c'))] [] := by
  have c1 := SameBytes_run b b' hb hb'
  have c2 := SameBytes_run c c' hc hc'
  refine RunT.of_vc gOk Try.func23 rfl rfl (Nat.le_of_ble_eq_true rfl) (by repeat' (first | exact trivial | exact ⟨_, rfl, Nat.le_refl _⟩ | exact Nat.le_of_ble_eq_true rfl | refine And.intro ?_ ?_)) (Nat.le_of_ble_eq_true rfl) rfl (fun F hE => ?_)
  repeat' (first | exact trivial | refine BS.d (fun h => ?_) (fun h => ?_) | refine BS.e (fun h => ?_) (fun h => ?_) | refine BS.ne (fun h => ?_) (fun h => ?_) | refine BS.n ?_ | refine BS.s (fun h => ?_) (fun h => ?_) | refine And.intro ?_ ?_ | (refine Need.mk ?_; first | with_reducible rfl | (show @Eq TC _ _; rfl) | omega | (simp only [adN_zero]; omega)) | exact OutS.whole rfl rfl | (refine OpK.call c1 rfl rfl rfl rfl hE ?_ rfl rfl ?_; focus ((repeat' (first | exact PsA.lit _ | exact PsA.ref rfl rfl | constructor)); all_goals (fail "ps"))) | (refine OpK.call c2 rfl rfl rfl rfl hE ?_ rfl rfl ?_; focus ((repeat' (first | exact PsA.lit _ | exact PsA.ref rfl rfl | constructor)); all_goals (fail "ps"))))
  all_goals (refine Need.mk ?_; simp [*])
theorem SameHeapI_run (b c b' c' : List Int) (hb : b.length ≤ 4000000) (hc : c.length ≤ 4000000) (hb' : b'.length ≤ 4000000) (hc' : c'.length ≤ 4000000) : RunT Try.prog 27 [aHp b c, aHp b' c'] [] [ob (decide (b = b') && decide (c = c'))] [] := by
  have c1 := Equal_run b b' hb hb'
  have c2 := Equal_run c c' hc hc'
  refine RunT.of_vc gOk Try.func27 rfl rfl (Nat.le_of_ble_eq_true rfl) (by repeat' (first | exact trivial | exact ⟨_, rfl, Nat.le_refl _⟩ | exact Nat.le_of_ble_eq_true rfl | refine And.intro ?_ ?_)) (Nat.le_of_ble_eq_true rfl) rfl (fun F hE => ?_)
  repeat' (first | exact trivial | refine BS.d (fun h => ?_) (fun h => ?_) | refine BS.e (fun h => ?_) (fun h => ?_) | refine BS.ne (fun h => ?_) (fun h => ?_) | refine BS.n ?_ | refine BS.s (fun h => ?_) (fun h => ?_) | refine And.intro ?_ ?_ | (refine Need.mk ?_; first | with_reducible rfl | (show @Eq TC _ _; rfl) | omega | (simp only [adN_zero]; omega)) | exact OutS.whole rfl rfl | (refine OpK.call c1 rfl rfl rfl rfl hE ?_ rfl rfl ?_; focus ((repeat' (first | exact PsA.lit _ | exact PsA.ref rfl rfl | constructor)); all_goals (fail "ps"))) | (refine OpK.call c2 rfl rfl rfl rfl hE ?_ rfl rfl ?_; focus ((repeat' (first | exact PsA.lit _ | exact PsA.ref rfl rfl | constructor)); all_goals (fail "ps"))))
  all_goals (refine Need.mk ?_; simp [*])
abbrev aMm (e : Nat) (b c : List Int) (g o : List (List Int)) : TAg := .agg [.c (tI b), .c (tI c), .c (tSL e g), .c (tSL e o)]
/-- Lists and their elements are no longer than m. -/
structure MmOk (m : Nat) (b c : List Int) (g o : List (List Int)) : Prop where
  hb : b.length ≤ m
  hc : c.length ≤ m
  hg : g.length ≤ m
  ho : o.length ≤ m
  hg' : ∀ i, (g.getD i []).length ≤ m
  ho' : ∀ i, (o.getD i []).length ≤ m
theorem MmOk.le {m m' : Nat} {b c : List Int} {g o : List (List Int)} (h : MmOk m b c g o) (hm : m ≤ m') : MmOk m' b c g o :=
  ⟨Nat.le_trans h.hb hm, Nat.le_trans h.hc hm, Nat.le_trans h.hg hm, Nat.le_trans h.ho hm, fun i => Nat.le_trans (h.hg' i) hm, fun i => Nat.le_trans (h.ho' i) hm⟩
theorem MmOk.of_sz {m : Int} {b c : List Int} {g o : List (List Int)} (h0 : 0 ≤ m) (h1 : m ≤ 1048576) (h : ¬ szM b c g o m < 0) : MmOk 1048576 b c g o := by
  obtain ⟨k1, k2, k3⟩ := szM_le b c g o m h0
  obtain ⟨⟨a1, a2⟩, ⟨a3, a4⟩, a5, a6⟩ := k3 (by omega)
  exact ⟨by omega, by omega, by omega, by omega, getD_le fun x hx => (by have := a4 x hx; omega), getD_le fun x hx => (by have := a6 x hx; omega)⟩
theorem SameMemS_run (e e' : Nat) (b c : List Int) (g o : List (List Int)) (b' c' : List Int) (g' o' : List (List Int)) (h : MmOk 1048576 b c g o) (h' : MmOk 1048576 b' c' g' o') : RunT Try.prog 7 [aMm e b c g o, aMm e' b' c' g' o'] [] [ob ((decide (b = b') && decide (c = c')) && (decide (g = g') && decide (o = o')))] [] := by
  have k := h.le (m' := 4000000) (by decide)
  have k' := h'.le (m' := 4000000) (by decide)
  have c1 := SameHeapS_run b c b' c' k.hb k.hc k'.hb k'.hc
  have c2 := SameListsS_run e e' g o g' o' k.hg k'.hg k.ho k'.ho k.hg' k'.hg' k.ho' k'.ho'
  refine RunT.of_vc gOk Try.func7 rfl rfl (Nat.le_of_ble_eq_true rfl) (by repeat' (first | exact trivial | exact ⟨_, rfl, Nat.le_refl _⟩ | exact Nat.le_of_ble_eq_true rfl | refine And.intro ?_ ?_)) (Nat.le_of_ble_eq_true rfl) rfl (fun F hE => ?_)
  repeat' (first | exact trivial | refine BS.d (fun h => ?_) (fun h => ?_) | refine BS.e (fun h => ?_) (fun h => ?_) | refine BS.ne (fun h => ?_) (fun h => ?_) | refine BS.n ?_ | refine BS.s (fun h => ?_) (fun h => ?_) | refine And.intro ?_ ?_ | (refine Need.mk ?_; first | with_reducible rfl | (show @Eq TC _ _; rfl) | omega | (simp only [adN_zero]; omega)) | exact OutS.whole rfl rfl | (refine OpK.call c1 rfl rfl rfl rfl hE ?_ rfl rfl ?_; focus ((repeat' (first | exact PsA.lit _ | exact PsA.ref rfl rfl | constructor)); all_goals (fail "ps"))) | (refine OpK.call c2 rfl rfl rfl rfl hE ?_ rfl rfl ?_; focus ((repeat' (first | exact PsA.lit _ | exact PsA.ref rfl rfl | constructor)); all_goals (fail "ps"))))
  all_goals (refine Need.mk ?_; simp_all)
theorem SameMemI_run (e e' : Nat) (b c : List Int) (g o : List (List Int)) (b' c' : List Int) (g' o' : List (List Int)) (h : MmOk 1048576 b c g o) (h' : MmOk 1048576 b' c' g' o') : RunT Try.prog 9 [aMm e b c g o, aMm e' b' c' g' o'] [] [ob ((decide (b = b') && decide (c = c')) && (decide (g = g') && decide (o = o')))] [] := by
  have k := h.le (m' := 4000000) (by decide)
  have k' := h'.le (m' := 4000000) (by decide)
  have c1 := SameHeapI_run b c b' c' k.hb k.hc k'.hb k'.hc
  have c2 := SameListsI_run e e' g o g' o' k.hg k'.hg k.ho k'.ho k.hg' k'.hg' k.ho' k'.ho'
  refine RunT.of_vc gOk Try.func9 rfl rfl (Nat.le_of_ble_eq_true rfl) (by repeat' (first | exact trivial | exact ⟨_, rfl, Nat.le_refl _⟩ | exact Nat.le_of_ble_eq_true rfl | refine And.intro ?_ ?_)) (Nat.le_of_ble_eq_true rfl) rfl (fun F hE => ?_)
  repeat' (first | exact trivial | refine BS.d (fun h => ?_) (fun h => ?_) | refine BS.e (fun h => ?_) (fun h => ?_) | refine BS.ne (fun h => ?_) (fun h => ?_) | refine BS.n ?_ | refine BS.s (fun h => ?_) (fun h => ?_) | refine And.intro ?_ ?_ | (refine Need.mk ?_; first | with_reducible rfl | (show @Eq TC _ _; rfl) | omega | (simp only [adN_zero]; omega)) | exact OutS.whole rfl rfl | (refine OpK.call c1 rfl rfl rfl rfl hE ?_ rfl rfl ?_; focus ((repeat' (first | exact PsA.lit _ | exact PsA.ref rfl rfl | constructor)); all_goals (fail "ps"))) | (refine OpK.call c2 rfl rfl rfl rfl hE ?_ rfl rfl ?_; focus ((repeat' (first | exact PsA.lit _ | exact PsA.ref rfl rfl | constructor)); all_goals (fail "ps"))))
  all_goals (refine Need.mk ?_; simp_all)
end Go.Proofs.Ytofdaaajbkjocaa
