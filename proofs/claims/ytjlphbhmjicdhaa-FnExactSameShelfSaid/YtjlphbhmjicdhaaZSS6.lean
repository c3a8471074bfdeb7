import Derived.Test.YtjlphbhmjicdhaaZSS5
/- The law SameShelf. -/
namespace Go.Proofs.Ytjlphbhmjicdhaa
open Go Go.Tr
set_option maxRecDepth 100000
set_option maxHeartbeats 40000000
set_option linter.unusedVariables false
set_option linter.unusedSimpArgs false
theorem SameShelf_law (b c : List Int) (g o : List (List Int)) (E : Int) (ps : List PinT) (l : List (List Row)) (z : List Int) (cs : List Int) (js : List JobT) (ts : List (List OpT)) (ev : List EvT) (sn : Int) (b' c' : List Int) (g' o' : List (List Int)) (E' : Int) (ps' : List PinT) (l' : List (List Row)) (z' : List Int) (cs' : List Int) (js' : List JobT) (ts' : List (List OpT)) (ev' : List EvT) (sn' : Int) (h1 : SfOk 9223372036854775807 b c g o ps l z cs js ts ev) (h2 : SfOk 9223372036854775807 b' c' g' o' ps' l' z' cs' js' ts' ev') : RunT Try.prog 4 [aSf 0 0 0 0 0 0 0 0 b c g o E ps l z cs js ts ev sn, aSf 0 0 0 0 0 0 0 0 b' c' g' o' E' ps' l' z' cs' js' ts' ev' sn'] [] [ob true] [] := by
  have c0 := szShelf_run b c g o E ps l z cs js ts ev sn 1048576 (by decide) (by decide) h1
  obtain ⟨q1, q2, q3⟩ := szSf_ok (m := 1048576) (b := b) (c := c) (g := g) (o := o) (ps := ps) (l := l) (z := z) (cs := cs) (js := js) (ts := ts) (ev := ev) (by decide) (by decide)
  generalize szSf b c g o ps l z cs js ts ev 1048576 = zz at *
  by_cases hz : zz < 0
  · refine RunT.of_vc gOk Try.func4 rfl rfl (Nat.le_of_ble_eq_true rfl) (by repeat' (first | exact trivial | exact ⟨_, rfl, Nat.le_refl _⟩ | exact Nat.le_of_ble_eq_true rfl | refine And.intro ?_ ?_)) (Nat.le_of_ble_eq_true rfl) rfl (fun F hE => ?_)
    repeat' (first | exact trivial | refine BS.a (fun h => ?_) (fun h => ?_) | refine BS.n ?_ | refine BS.s (fun h => ?_) (fun h => ?_) | refine And.intro ?_ ?_ | exact Need.au | exact OutS.whole rfl rfl | refine OpK.ca c0 hE ?_ | refine ListO.go gOk hE ?_)
    all_goals first | exact Need.mk rfl | (exfalso; omega) | trace_state
  have k1 := q3 (by omega)
  have d0 := szShelf_run b' c' g' o' E' ps' l' z' cs' js' ts' ev' sn' zz (by omega) (by omega) h2
  obtain ⟨p1, p2, p3⟩ := szSf_ok (m := zz) (b := b') (c := c') (g := g') (o := o') (ps := ps') (l := l') (z := z') (cs := cs') (js := js') (ts := ts') (ev := ev') (by omega) (by omega)
  generalize szSf b' c' g' o' ps' l' z' cs' js' ts' ev' zz = yy at *
  by_cases hy : yy < 0
  · refine RunT.of_vc gOk Try.func4 rfl rfl (Nat.le_of_ble_eq_true rfl) (by repeat' (first | exact trivial | exact ⟨_, rfl, Nat.le_refl _⟩ | exact Nat.le_of_ble_eq_true rfl | refine And.intro ?_ ?_)) (Nat.le_of_ble_eq_true rfl) rfl (fun F hE => ?_)
    repeat' (first | exact trivial | refine BS.a (fun h => ?_) (fun h => ?_) | refine BS.n ?_ | refine BS.s (fun h => ?_) (fun h => ?_) | refine And.intro ?_ ?_ | exact Need.au | exact OutS.whole rfl rfl | refine OpK.ca c0 hE ?_ | refine OpK.ca d0 hE ?_ | refine ListO.go gOk hE ?_)
    all_goals first | exact Need.mk rfl | (exfalso; omega) | trace_state
  have k2 := p3 (by omega)
  clear q1 q3 p1 p3
  have c1 := toShelf_run b c g o E ps l z cs js ts ev sn k1
  have c2 := toShelf_run b' c' g' o' E' ps' l' z' cs' js' ts' ev' sn' k2
  have c3 := SameShelfS_run b c g o E ps l z cs js ts ev sn b' c' g' o' E' ps' l' z' cs' js' ts' ev' sn' k1 k2
  have c4 := SameShelfI_run b c g o E ps l z cs js ts ev sn b' c' g' o' E' ps' l' z' cs' js' ts' ev' sn' k1 k2
  have c5 := eqShelf_run b c g o E ps l z cs js ts ev sn (k1.le (by decide))
  have c6 := eqShelf_run b' c' g' o' E' ps' l' z' cs' js' ts' ev' sn' (k2.le (by decide))
  generalize ssV b c g o E ps l z cs js ts ev sn b' c' g' o' E' ps' l' z' cs' js' ts' ev' sn' = v at c3 c4
  refine RunT.of_vc gOk Try.func4 rfl rfl (Nat.le_of_ble_eq_true rfl) (by repeat' (first | exact trivial | exact ⟨_, rfl, Nat.le_refl _⟩ | exact Nat.le_of_ble_eq_true rfl | refine And.intro ?_ ?_)) (Nat.le_of_ble_eq_true rfl) rfl (fun F hE => ?_)
  repeat' (first | exact trivial | refine BS.a (fun h => ?_) (fun h => ?_) | refine BS.n ?_ | refine BS.s (fun h => ?_) (fun h => ?_) | refine And.intro ?_ ?_ | exact Need.au | exact OutS.whole rfl rfl | refine OpK.ca c0 hE ?_ | refine OpK.ca d0 hE ?_ | refine OpK.ca c1 hE ?_ | refine OpK.ca c2 hE ?_ | refine OpK.ca c3 hE ?_ | refine OpK.ca c4 hE ?_ | refine OpK.ca c5 hE ?_ | refine OpK.ca c6 hE ?_ | (refine CodeK.draw gOk hE rfl (fun _ _ h => h) (.alt 0 (.alt 1 (.alt 2 (.alt 3 (.alt 4 (.take 5 .done) .stop) .stop) .stop) (.alt 2 (.alt 1 (.alt 3 (.alt 4 (.take 5 .done) .stop) .stop) .stop) .stop)) (.alt 2 (.alt 0 (.alt 1 (.alt 3 (.alt 4 (.take 5 .done) .stop) .stop) .stop) .stop) .stop)) ?_ ?_; focus (decide +kernel)) | (refine CodeK.draw gOk hE rfl (fun _ _ h => h) (.alt 0 (.alt 1 (.alt 2 (.alt 3 (.take 4 .done) .stop) .stop) .stop) (.alt 1 (.alt 0 (.alt 2 (.alt 3 (.take 4 .done) .stop) .stop) (.alt 2 (.alt 0 (.alt 3 (.take 4 .done) .stop) .stop) .stop)) .stop)) ?_ ?_; focus (decide +kernel)) | (refine CodeK.draw gOk hE rfl (fun _ _ h => h) (.alt 0 (.alt 1 (.alt 2 (.alt 3 (.take 4 .done) .stop) .stop) .stop) (.alt 1 (.alt 0 (.alt 2 (.alt 3 (.take 4 .done) .stop) .stop) (.alt 2 (.alt 0 (.alt 3 (.take 4 .done) .stop) .stop) .stop)) .stop)) ?_ ?_; focus (decide +kernel)) | refine ListO.go gOk hE ?_)
  all_goals first | exact absurd rfl h | exact Need.mk rfl | (exfalso; omega) | (simp_all; done) | trace_state
end Go.Proofs.Ytjlphbhmjicdhaa
