import Derived.Test.YteekpkklehihmaaL8E
namespace Go.Proofs.Yteekpkklehihmaa
open Go Go.Tr
set_option maxRecDepth 100000
set_option linter.unusedVariables false
set_option linter.unusedSimpArgs false
set_option maxHeartbeats 4000000 in
theorem SameLists_law (g o g' o' : List (List Int)) (hg : g.length ≤ 9223372036854775807) (hg' : g'.length ≤ 9223372036854775807) (ho : o.length ≤ 9223372036854775807) (ho' : o'.length ≤ 9223372036854775807) (ig : ∀ i, (g.getD i []).length ≤ 9223372036854775807) (ig' : ∀ i, (g'.getD i []).length ≤ 9223372036854775807) (io : ∀ i, (o.getD i []).length ≤ 9223372036854775807) (io' : ∀ i, (o'.getD i []).length ≤ 9223372036854775807) :
    RunT Try.prog 11 [.agg [.c (tSL 0 g), .c (tSL 0 o)], .agg [.c (tSL 0 g'), .c (tSL 0 o')]] [] [ob true] [] := by
  refine RunT.of_vc gOk Try.func11 rfl rfl (Nat.le_of_ble_eq_true rfl) (by repeat' (first | exact trivial | exact ⟨_, rfl, Nat.le_refl _⟩ | exact Nat.le_of_ble_eq_true rfl | refine And.intro ?_ ?_)) (Nat.le_of_ble_eq_true rfl) rfl (fun F hE => ?_)
  repeat' (first | exact trivial | refine BS.d (fun h => ?_) (fun h => ?_) | refine BS.e (fun h => ?_) (fun h => ?_) | refine BS.ne (fun h => ?_) (fun h => ?_) | refine BS.n ?_ | refine And.intro ?_ ?_ | (refine Need.mk ?_; first | with_reducible rfl | (show @Eq TC _ _; rfl) | omega | (simp only [adN_zero]; omega)) | exact OutS.whole rfl rfl)
  refine OpK.call (szLists_run 0 g o 1048576 (by decide) (by decide) hg ig ho io) rfl rfl rfl rfl hE (by repeat' (first | exact PsA.lit _ | exact PsA.ref rfl rfl | constructor)) rfl rfl ?_
  repeat' (first | exact trivial | refine BS.d (fun h => ?_) (fun h => ?_) | refine BS.e (fun h => ?_) (fun h => ?_) | refine BS.ne (fun h => ?_) (fun h => ?_) | refine BS.n ?_ | refine And.intro ?_ ?_ | (refine Need.mk ?_; first | with_reducible rfl | (show @Eq TC _ _; rfl) | omega | (simp only [adN_zero]; omega)) | exact OutS.whole rfl rfl)
  have b1 := szSLs_le g 1048576 (by decide)
  have b2 := szSLs_le o (szSLs g 1048576)
  obtain ⟨b, hb⟩ : ∃ b, (if szSLs g 1048576 < 0 then -1 else szSLs o (szSLs g 1048576)) = b := ⟨_, rfl⟩
  rw [hb] at h ⊢
  split at hb
  · omega
  have b2 := b2 (by omega)
  refine OpK.call (szLists_run 0 g' o' b (by omega) (by omega) hg' ig' ho' io') rfl rfl rfl rfl hE (by repeat' (first | exact PsA.lit _ | exact PsA.ref rfl rfl | constructor)) rfl rfl ?_
  repeat' (first | exact trivial | refine BS.d (fun h => ?_) (fun h => ?_) | refine BS.e (fun h => ?_) (fun h => ?_) | refine BS.ne (fun h => ?_) (fun h => ?_) | refine BS.n ?_ | refine And.intro ?_ ?_ | (refine Need.mk ?_; first | with_reducible rfl | (show @Eq TC _ _; rfl) | omega | (simp only [adN_zero]; omega)) | exact OutS.whole rfl rfl)
  have b3 := szSLs_le g' b (by omega)
  have b4 := szSLs_le o' (szSLs g' b)
  obtain ⟨b', hb'⟩ : ∃ b', (if szSLs g' b < 0 then -1 else szSLs o' (szSLs g' b)) = b' := ⟨_, rfl⟩
  rw [hb'] at h ⊢
  split at hb'
  · omega
  have b4 := b4 (by omega)
  have hg := (b1.2.2 (by omega)).1
  have ig := getD_le fun x hx => (by have := (b1.2.2 (by omega)).2 x hx; omega : x.length ≤ 1048576)
  have ho := (b2.2.2 (by omega)).1
  have io := getD_le fun x hx => (by have := (b2.2.2 (by omega)).2 x hx; omega : x.length ≤ 1048576)
  have hg' := (b3.2.2 (by omega)).1
  have ig' := getD_le fun x hx => (by have := (b3.2.2 (by omega)).2 x hx; omega : x.length ≤ 1048576)
  have ho' := (b4.2.2 (by omega)).1
  have io' := getD_le fun x hx => (by have := (b4.2.2 (by omega)).2 x hx; omega : x.length ≤ 1048576)
  have hgn : g.length ≤ 1048576 := by omega
  have hon : o.length ≤ 1048576 := by omega
  have hgn' : g'.length ≤ 1048576 := by omega
  have hon' : o'.length ≤ 1048576 := by omega
  clear b1 b2 b3 b4 hb hb'
  have m4 : ∀ {x : List (List Int)} {i : Nat}, (x.getD i []).length ≤ 1048576 → (x.getD i []).length ≤ 4000000 := fun h => by omega
  have c1 := toLists_run 0 g o hgn ig hon io
  have c2 := toLists_run 0 g' o' hgn' ig' hon' io'
  have c3 := SameListsS_run 64 64 g o g' o' (by omega) (by omega) (by omega) (by omega) (fun i => m4 (ig i)) (fun i => m4 (ig' i)) (fun i => m4 (io i)) (fun i => m4 (io' i))
  have c4 := SameListsI_run 64 64 g o g' o' (by omega) (by omega) (by omega) (by omega) (fun i => m4 (ig i)) (fun i => m4 (ig' i)) (fun i => m4 (io i)) (fun i => m4 (io' i))
  have c5 := eqLists_run 64 g o (by omega) (fun i => m4 (ig i)) (by omega) (fun i => m4 (io i))
  have c6 := eqLists_run 64 g' o' (by omega) (fun i => m4 (ig' i)) (by omega) (fun i => m4 (io' i))
  refine CodeK.draw gOk hE rfl (fun _ _ h => h) (.alt 0 (.alt 1 (.alt 2 (.alt 3 (.alt 4 (.take 5 .done) .stop) .stop) .stop) (.alt 2 (.alt 1 (.alt 3 (.alt 4 (.take 5 .done) .stop) .stop) .stop) .stop)) (.alt 2 (.alt 0 (.alt 1 (.alt 3 (.alt 4 (.take 5 .done) .stop) .stop) .stop) .stop) .stop)) (by decide +kernel) ?_
  repeat' (first | exact trivial | refine BS.d (fun h => ?_) (fun h => ?_) | refine BS.e (fun h => ?_) (fun h => ?_) | refine BS.ne (fun h => ?_) (fun h => ?_) | refine BS.n ?_ | refine And.intro ?_ ?_ | (refine Need.mk ?_; first | with_reducible rfl | (show @Eq TC _ _; rfl) | omega | (simp only [adN_zero]; omega)) | exact OutS.whole rfl rfl | (refine OpK.call c1 rfl rfl rfl rfl hE ?_ rfl rfl ?_; focus ((repeat' (first | exact PsA.lit _ | exact PsA.ref rfl rfl | constructor)); all_goals (fail "ps"))) | (refine OpK.call c2 rfl rfl rfl rfl hE ?_ rfl rfl ?_; focus ((repeat' (first | exact PsA.lit _ | exact PsA.ref rfl rfl | constructor)); all_goals (fail "ps"))) | (refine OpK.call c3 rfl rfl rfl rfl hE ?_ rfl rfl ?_; focus ((repeat' (first | exact PsA.lit _ | exact PsA.ref rfl rfl | constructor)); all_goals (fail "ps"))) | (refine OpK.call c4 rfl rfl rfl rfl hE ?_ rfl rfl ?_; focus ((repeat' (first | exact PsA.lit _ | exact PsA.ref rfl rfl | constructor)); all_goals (fail "ps"))) | (refine OpK.call c5 rfl rfl rfl rfl hE ?_ rfl rfl ?_; focus ((repeat' (first | exact PsA.lit _ | exact PsA.ref rfl rfl | constructor)); all_goals (fail "ps"))) | (refine OpK.call c6 rfl rfl rfl rfl hE ?_ rfl rfl ?_; focus ((repeat' (first | exact PsA.lit _ | exact PsA.ref rfl rfl | constructor)); all_goals (fail "ps"))) | (refine CodeK.draw gOk hE rfl (fun _ _ h => h) (.alt 0 (.alt 1 (.alt 2 (.alt 3 (.take 4 .done) .stop) .stop) .stop) (.alt 1 (.alt 0 (.alt 2 (.alt 3 (.take 4 .done) .stop) .stop) (.alt 2 (.alt 0 (.alt 3 (.take 4 .done) .stop) .stop) .stop)) .stop)) ?_ ?_; focus (decide +kernel)) | (refine CodeK.draw gOk hE rfl (fun _ _ h => h) (.alt 0 (.alt 1 (.alt 2 (.alt 3 (.take 4 .done) .stop) .stop) .stop) (.alt 1 (.alt 0 (.alt 2 (.alt 3 (.take 4 .done) .stop) .stop) (.alt 2 (.alt 0 (.alt 3 (.take 4 .done) .stop) .stop) .stop)) .stop)) ?_ ?_; focus (decide +kernel)))
  all_goals exact absurd rfl h
end Go.Proofs.Yteekpkklehihmaa
