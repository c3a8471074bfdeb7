import Derived.Test.YtfdbjiaghbeedaaGreatDoorZKDD
import Derived.Test.YtfdbjiaghbeedaaGreatDoorZKDC
section
/- Seek. -/
namespace Go.Proofs.YtfdbjiaghbeedaaGreatDoor
open Go Go.Tr
set_option maxRecDepth 100000
set_option maxHeartbeats 4000000
set_option linter.unusedVariables false
set_option linter.unusedSimpArgs false
/-- The first of the handles with a key, and the one ahead of it. -/
def skL (b c : List Int) (key : Int) : Int → List Int → Int × Int
  | _, [] => (0, 0)
  | p, h :: l => if (rwN b c h).1 = key then (h, p) else skL b c key h l
theorem SeekS_run (e : Nat) (b c : List Int) (g o : List (List Int)) (h0 key : Int) (ht : MmT b c g o) (h0m : h0 ≤ 9223372036854775807) : RunT Tryz.prog 19 [aMm e b c g o, ti h0, ti key] [] [oi (skL b c key 0 ((chO b c g o h0).getD [])).1, oi (skL b c key 0 ((chO b c g o h0).getD [])).2] [] := by
  have c0 := ChainOfS_run e b c g o h0 ht h0m
  have hl := chO_len (b := b) (c := c) (g := g) (o := o) h0m
  have hmm : (chO b c g o h0).getD [] ≠ [] → mmP b c g o := chO_mm
  have hmx : ∀ x ∈ (chO b c g o h0).getD [], x ≤ 9223372036854775807 := fun x hx => chO_bd h0m hx
  unfold oCo at c0
  generalize (chO b c g o h0).getD [] = l at *
  generalize (chO b c g o h0).isSome = bb at *
  refine RunT.of_vc gOk Tryz.func19 rfl rfl (Nat.le_of_ble_eq_true rfl) (by repeat' (first | exact trivial | exact ⟨_, rfl, Nat.le_refl _⟩ | exact Nat.le_of_ble_eq_true rfl | refine And.intro ?_ ?_)) (Nat.le_of_ble_eq_true rfl) rfl (fun F hE => ?_)
  repeat' (first | exact trivial | refine BS.d (fun h => ?_) (fun h => ?_) | refine BS.e (fun h => ?_) (fun h => ?_) | refine BS.ne (fun h => ?_) (fun h => ?_) | refine BS.n ?_ | refine BS.s (fun h => ?_) (fun h => ?_) | refine And.intro ?_ ?_ | (refine Need.mk ?_; first | with_reducible rfl | (show @Eq TC _ _; rfl) | omega | (simp only [adN_zero]; omega)) | exact OutS.whole rfl rfl | (refine OpK.call c0 rfl rfl rfl rfl hE ?_ rfl rfl ?_; focus ((repeat' (first | exact PsA.lit _ | exact PsA.ref rfl rfl | constructor)); all_goals (fail "ps"))) | refine ListO.go gOk hE ?_)
  refine CodeK.loop gOk hE (fun x : Nat × Int => ⟨[(2, vi key), (3, .ptr 3 0 0), (8, vr 2001920 l.length), (10, vi x.2), (11, vi x.1)], [(2001920, rI .own true l), (3, .box 38 [.ref 1000000 0 b.length, .ref 1000001 0 c.length, .ref 1000002 0 g.length, .ref 1000003 0 o.length]), (1000000, rI .fro false b), (1000001, rI .fro false c), (1000002, rSL .fro false e g), (1000003, rSL .fro false e o)]⟩) (fun x => x.1 ≤ l.length ∧ skL b c key 0 l = skL b c key x.2 (l.drop x.1)) (fun x => l.length - x.1) (0, 0) (by refine leT.of ?_ ?_ rfl <;> repeat' (first | exact trivial | refine And.intro rfl ?_ | refine And.intro (by first | rfl | (simp; done)) ?_)) ⟨Nat.zero_le _, rfl⟩ ?_
  rintro ⟨i, p⟩ ⟨hi, hs⟩
  dsimp only at *
  by_cases hi2 : i < l.length
  · have hd := drop_cons (0 : Int) hi2
    rw [hd] at hs
    have hne : l ≠ [] := fun e => by rw [e] at hi2; simp at hi2
    have hm := hmm hne
    have hx := hmx (l.getD i 0) (by simp [List.getD, hi2])
    have c1 := l19Raw_run e b c g o (l.getD i 0) hm.1.1
    have hsk : skL b c key p (l.getD i 0 :: l.drop (i + 1)) = if (rwN b c (l.getD i 0)).1 = key then (l.getD i 0, p) else skL b c key (l.getD i 0) (l.drop (i + 1)) := rfl
    rw [hsk] at hs
    generalize rwN b c (l.getD i 0) = nv at *
    obtain ⟨n1, n2, n3⟩ := nv
    dsimp only at *
    by_cases hk : n1 = key
    · rw [if_pos hk] at hs
      rw [hs]
      repeat' (first | exact trivial | refine BS.d (fun h => ?_) (fun h => ?_) | refine BS.e (fun h => ?_) (fun h => ?_) | refine BS.ne (fun h => ?_) (fun h => ?_) | refine BS.n ?_ | refine BS.s (fun h => ?_) (fun h => ?_) | refine And.intro ?_ ?_ | (refine Need.mk ?_; first | with_reducible rfl | (show @Eq TC _ _; rfl) | omega | (simp only [adN_zero]; omega)) | exact OutS.whole rfl rfl | (refine OpK.call c1 rfl rfl rfl rfl hE ?_ rfl rfl ?_; focus ((repeat' (first | exact PsA.lit _ | exact PsA.ref rfl rfl | constructor)); all_goals (fail "ps"))) | (refine CodeK.draw gOk hE rfl (fun _ _ h => h) (.take 1 (.take 2 (.take 3 (.take 7 (.alt 0 (.alt 4 (.alt 5 (.alt 6 (.take 8 .done) .stop) .stop) .stop) (.alt 4 (.alt 0 (.alt 5 (.alt 6 (.take 8 .done) .stop) .stop) .stop) .stop)))))) ?_ ?_; focus (decide +kernel)) | (refine OpK.fldL rfl rfl rfl rfl Tryz.underlying93 rfl Tryz.underlying3 rfl rfl ?_) | refine ListO.go gOk hE ?_)
      all_goals (try simp only [adN_zero] at *)
      all_goals first | exact Need.mk rfl | (exfalso; omega) | (refine Need.mk ?_; first | rfl | omega) | trace_state
    · rw [if_neg hk] at hs
      repeat' (first | exact trivial | refine BS.d (fun h => ?_) (fun h => ?_) | refine BS.e (fun h => ?_) (fun h => ?_) | refine BS.ne (fun h => ?_) (fun h => ?_) | refine BS.n ?_ | refine BS.s (fun h => ?_) (fun h => ?_) | refine And.intro ?_ ?_ | (refine Need.mk ?_; first | with_reducible rfl | (show @Eq TC _ _; rfl) | omega | (simp only [adN_zero]; omega)) | exact OutS.whole rfl rfl | (refine OpK.call c1 rfl rfl rfl rfl hE ?_ rfl rfl ?_; focus ((repeat' (first | exact PsA.lit _ | exact PsA.ref rfl rfl | constructor)); all_goals (fail "ps"))) | (refine CodeK.draw gOk hE rfl (fun _ _ h => h) (.take 1 (.take 2 (.take 3 (.take 7 (.alt 0 (.alt 4 (.alt 5 (.alt 6 (.take 8 .done) .stop) .stop) .stop) (.alt 4 (.alt 0 (.alt 5 (.alt 6 (.take 8 .done) .stop) .stop) .stop) .stop)))))) ?_ ?_; focus (decide +kernel)) | (refine OpK.fldL rfl rfl rfl rfl Tryz.underlying93 rfl Tryz.underlying3 rfl rfl ?_) | refine ListO.go gOk hE ?_)
      all_goals (try simp only [adN_zero] at *)
      all_goals first
        | (exfalso; omega)
        | (refine Need.mk ?_; first | rfl | omega)
        | (refine ⟨(i + 1, l.getD i 0), (by refine leT.of ?_ ?_ rfl <;> repeat' (first | exact trivial | refine And.intro rfl ?_ | refine And.intro (by first | rfl | (simp; done)) ?_)), ⟨by dsimp only; omega, hs⟩, ?_⟩; show l.length - (i + 1) < l.length - i; omega)
        | trace_state
  · rw [List.drop_eq_nil_of_le (by omega)] at hs
    rw [hs]
    repeat' (first | exact trivial | refine BS.d (fun h => ?_) (fun h => ?_) | refine BS.e (fun h => ?_) (fun h => ?_) | refine BS.ne (fun h => ?_) (fun h => ?_) | refine BS.n ?_ | refine BS.s (fun h => ?_) (fun h => ?_) | refine And.intro ?_ ?_ | (refine Need.mk ?_; first | with_reducible rfl | (show @Eq TC _ _; rfl) | omega | (simp only [adN_zero]; omega)) | exact OutS.whole rfl rfl | refine ListO.go gOk hE ?_)
    all_goals (try simp only [adN_zero] at *)
    all_goals first | exact Need.mk rfl | (exfalso; omega) | trace_state
theorem SeekI_run (e : Nat) (b c : List Int) (g o : List (List Int)) (h0 key : Int) (ht : MmT b c g o) (h0m : h0 ≤ 9223372036854775807) : RunH Tryz.prog hT 20 [aMm e b c g o, ti h0, ti key] [] [oi (skL b c key 0 ((chO b c g o h0).getD [])).1, oi (skL b c key 0 ((chO b c g o h0).getD [])).2] [] := by
  have c0 := ChainOfI_run e b c g o h0 ht h0m
  have hl := chO_len (b := b) (c := c) (g := g) (o := o) h0m
  have hmm : (chO b c g o h0).getD [] ≠ [] → mmP b c g o := chO_mm
  have hmx : ∀ x ∈ (chO b c g o h0).getD [], x ≤ 9223372036854775807 := fun x hx => chO_bd h0m hx
  unfold oCo at c0
  generalize (chO b c g o h0).getD [] = l at *
  generalize (chO b c g o h0).isSome = bb at *
  refine RunH.of_vc gOk Tryz.func20 rfl rfl (Nat.le_of_ble_eq_true rfl) (by repeat' (first | exact trivial | exact ⟨_, rfl, Nat.le_refl _⟩ | exact Nat.le_of_ble_eq_true rfl | refine And.intro ?_ ?_)) (Nat.le_of_ble_eq_true rfl) rfl (fun F hE hA => ?_)
  repeat' (first | exact trivial | refine BS.d (fun h => ?_) (fun h => ?_) | refine BS.e (fun h => ?_) (fun h => ?_) | refine BS.ne (fun h => ?_) (fun h => ?_) | refine BS.n ?_ | refine BS.s (fun h => ?_) (fun h => ?_) | refine And.intro ?_ ?_ | (refine Need.mk ?_; first | with_reducible rfl | (show @Eq TC _ _; rfl) | omega | (simp only [adN_zero]; omega)) | exact OutS.whole rfl rfl | (refine OpK.callH c0 hA rfl rfl rfl rfl hE ?_ rfl rfl ?_; focus ((repeat' (first | exact PsA.lit _ | exact PsA.ref rfl rfl | constructor)); all_goals (fail "ps"))) | refine ListO.go gOk hE ?_)
  refine CodeK.loop gOk hE (fun x : Nat × Int => ⟨[(2, vi key), (3, .ptr 3 0 0), (10, vi x.2), (21, vr 2002304 l.length), (22, vi l.length), (23, vi x.1)], [(2002304, rI .own true l), (3, .box 38 [.ref 1000000 0 b.length, .ref 1000001 0 c.length, .ref 1000002 0 g.length, .ref 1000003 0 o.length]), (1000000, rI .fro false b), (1000001, rI .fro false c), (1000002, rSL .fro false e g), (1000003, rSL .fro false e o)]⟩) (fun x => x.1 ≤ l.length ∧ skL b c key 0 l = skL b c key x.2 (l.drop x.1)) (fun x => l.length - x.1) (0, 0) (by refine leT.of ?_ ?_ rfl <;> repeat' (first | exact trivial | refine And.intro rfl ?_ | refine And.intro (by first | rfl | (simp; done)) ?_)) ⟨Nat.zero_le _, rfl⟩ ?_
  rintro ⟨i, p⟩ ⟨hi, hs⟩
  dsimp only at *
  by_cases hi2 : i < l.length
  · have hd := drop_cons (0 : Int) hi2
    rw [hd] at hs
    have hne : l ≠ [] := fun e => by rw [e] at hi2; simp at hi2
    have hm := hmm hne
    have hx := hmx (l.getD i 0) (by simp [List.getD, hi2])
    have c1 := nodeIn_run e b c g o (l.getD i 0) hm.1.1 hx
    have hrw : (ndR b c (l.getD i 0)).1 = rwN b c (l.getD i 0) := rfl
    rw [hrw] at c1
    generalize (ndR b c (l.getD i 0)).2 = cd at *
    have hsk : skL b c key p (l.getD i 0 :: l.drop (i + 1)) = if (rwN b c (l.getD i 0)).1 = key then (l.getD i 0, p) else skL b c key (l.getD i 0) (l.drop (i + 1)) := rfl
    rw [hsk] at hs
    generalize rwN b c (l.getD i 0) = nv at *
    obtain ⟨n1, n2, n3⟩ := nv
    dsimp only at *
    by_cases hk : n1 = key
    · rw [if_pos hk] at hs
      rw [hs]
      repeat' (first | exact trivial | refine BS.d (fun h => ?_) (fun h => ?_) | refine BS.e (fun h => ?_) (fun h => ?_) | refine BS.ne (fun h => ?_) (fun h => ?_) | refine BS.n ?_ | refine BS.s (fun h => ?_) (fun h => ?_) | refine And.intro ?_ ?_ | (refine Need.mk ?_; first | with_reducible rfl | (show @Eq TC _ _; rfl) | omega | (simp only [adN_zero]; omega)) | exact OutS.whole rfl rfl | (refine OpK.callH c1 hA rfl rfl rfl rfl hE ?_ rfl rfl ?_; focus ((repeat' (first | exact PsA.lit _ | exact PsA.ref rfl rfl | constructor)); all_goals (fail "ps"))) | refine ListO.go gOk hE ?_)
      all_goals (try simp only [adN_zero] at *)
      all_goals first | exact Need.mk rfl | (exfalso; omega) | (refine Need.mk ?_; first | rfl | omega) | trace_state
    · rw [if_neg hk] at hs
      repeat' (first | exact trivial | refine BS.d (fun h => ?_) (fun h => ?_) | refine BS.e (fun h => ?_) (fun h => ?_) | refine BS.ne (fun h => ?_) (fun h => ?_) | refine BS.n ?_ | refine BS.s (fun h => ?_) (fun h => ?_) | refine And.intro ?_ ?_ | (refine Need.mk ?_; first | with_reducible rfl | (show @Eq TC _ _; rfl) | omega | (simp only [adN_zero]; omega)) | exact OutS.whole rfl rfl | (refine OpK.callH c1 hA rfl rfl rfl rfl hE ?_ rfl rfl ?_; focus ((repeat' (first | exact PsA.lit _ | exact PsA.ref rfl rfl | constructor)); all_goals (fail "ps"))) | refine ListO.go gOk hE ?_)
      all_goals (try simp only [adN_zero] at *)
      all_goals first
        | (exfalso; omega)
        | (refine Need.mk ?_; first | rfl | omega)
        | (refine ⟨(i + 1, l.getD i 0), (by refine leT.of ?_ ?_ rfl <;> repeat' (first | exact trivial | refine And.intro rfl ?_ | refine And.intro (by first | rfl | (simp; done)) ?_)), ⟨by dsimp only; omega, hs⟩, ?_⟩; show l.length - (i + 1) < l.length - i; omega)
        | trace_state
  · rw [List.drop_eq_nil_of_le (by omega)] at hs
    rw [hs]
    repeat' (first | exact trivial | refine BS.d (fun h => ?_) (fun h => ?_) | refine BS.e (fun h => ?_) (fun h => ?_) | refine BS.ne (fun h => ?_) (fun h => ?_) | refine BS.n ?_ | refine BS.s (fun h => ?_) (fun h => ?_) | refine And.intro ?_ ?_ | (refine Need.mk ?_; first | with_reducible rfl | (show @Eq TC _ _; rfl) | omega | (simp only [adN_zero]; omega)) | exact OutS.whole rfl rfl | refine ListO.go gOk hE ?_)
    all_goals (try simp only [adN_zero] at *)
    all_goals first | exact Need.mk rfl | (exfalso; omega) | trace_state
end Go.Proofs.YtfdbjiaghbeedaaGreatDoor
end

section
/- The law Seek. -/
namespace Go.Proofs.YtfdbjiaghbeedaaGreatDoor
open Go Go.Tr
set_option maxRecDepth 100000
set_option maxHeartbeats 40000000
set_option linter.unusedVariables false
set_option linter.unusedSimpArgs false
theorem Seek_law (b c : List Int) (g o : List (List Int)) (x y : Int) (h1 : MmOk 9223372036854775807 b c g o) (hx : x ≤ 9223372036854775807) : RunH Tryz.prog hT 4 [aMm 0 b c g o, ti x, ti y] [] [ob true] [] := by
  have c0 := szMem_run 0 0 b c g o 1048576 (by decide) (by decide) h1.hb h1.hc h1.hg h1.hg' h1.ho h1.ho'
  by_cases hz : szM b c g o 1048576 < 0
  · generalize szM b c g o 1048576 = z at *
    refine RunH.of_vc gOk Tryz.func4 rfl rfl (Nat.le_of_ble_eq_true rfl) (by repeat' (first | exact trivial | exact ⟨_, rfl, Nat.le_refl _⟩ | exact Nat.le_of_ble_eq_true rfl | refine And.intro ?_ ?_)) (Nat.le_of_ble_eq_true rfl) rfl (fun F hE hA => ?_)
    repeat' (first | exact trivial | refine BS.d (fun h => ?_) (fun h => ?_) | refine BS.e (fun h => ?_) (fun h => ?_) | refine BS.ne (fun h => ?_) (fun h => ?_) | refine BS.n ?_ | refine BS.s (fun h => ?_) (fun h => ?_) | refine And.intro ?_ ?_ | (refine Need.mk ?_; first | with_reducible rfl | (show @Eq TC _ _; rfl) | omega | (simp only [adN_zero]; omega)) | exact OutS.whole rfl rfl | (refine OpK.call c0 rfl rfl rfl rfl hE ?_ rfl rfl ?_; focus ((repeat' (first | exact PsA.lit _ | exact PsA.ref rfl rfl | constructor)); all_goals (fail "ps"))) | refine ListO.go gOk hE ?_)
    all_goals first | exact Need.mk rfl | (exfalso; omega) | trace_state
  · have ht := MmT.of_sz (m := 1048576) (by decide) (by decide) hz
    have hbc := szM_bcC (m := 1048576) (by decide) hz
    generalize szM b c g o 1048576 = z at *
    have k := ht.ok
    have k3 := k.le (m' := 4000000) (by decide)
    have c1 := toMem_run 0 b c g o k.hb k.hc k.hg k.hg' k.ho k.ho'
    have c5 := eqMem_run 135 b c g o k3.hb k3.hc k3.hg k3.hg' k3.ho k3.ho'
    have c3 := SeekS_run 135 b c g o x y ht hx
    have c4 := SeekI_run 135 b c g o x y ht hx
    generalize skL b c y 0 ((chO b c g o x).getD []) = r at *
    obtain ⟨r1, r2⟩ := r
    dsimp only at *
    refine RunH.of_vc gOk Tryz.func4 rfl rfl (Nat.le_of_ble_eq_true rfl) (by repeat' (first | exact trivial | exact ⟨_, rfl, Nat.le_refl _⟩ | exact Nat.le_of_ble_eq_true rfl | refine And.intro ?_ ?_)) (Nat.le_of_ble_eq_true rfl) rfl (fun F hE hA => ?_)
    repeat' (first | exact trivial | refine BS.d (fun h => ?_) (fun h => ?_) | refine BS.e (fun h => ?_) (fun h => ?_) | refine BS.ne (fun h => ?_) (fun h => ?_) | refine BS.n ?_ | refine BS.s (fun h => ?_) (fun h => ?_) | refine And.intro ?_ ?_ | (refine Need.mk ?_; first | with_reducible rfl | (show @Eq TC _ _; rfl) | omega | (simp only [adN_zero]; omega)) | exact OutS.whole rfl rfl | (refine OpK.call c0 rfl rfl rfl rfl hE ?_ rfl rfl ?_; focus ((repeat' (first | exact PsA.lit _ | exact PsA.ref rfl rfl | constructor)); all_goals (fail "ps"))) | (refine OpK.call c1 rfl rfl rfl rfl hE ?_ rfl rfl ?_; focus ((repeat' (first | exact PsA.lit _ | exact PsA.ref rfl rfl | constructor)); all_goals (fail "ps"))) | (refine OpK.call c5 rfl rfl rfl rfl hE ?_ rfl rfl ?_; focus ((repeat' (first | exact PsA.lit _ | exact PsA.ref rfl rfl | constructor)); all_goals (fail "ps"))) | (refine OpK.call c3 rfl rfl rfl rfl hE ?_ rfl rfl ?_; focus ((repeat' (first | exact PsA.lit _ | exact PsA.ref rfl rfl | constructor)); all_goals (fail "ps"))) | (refine OpK.callH c4 hA rfl rfl rfl rfl hE ?_ rfl rfl ?_; focus ((repeat' (first | exact PsA.lit _ | exact PsA.ref rfl rfl | constructor)); all_goals (fail "ps"))) | (refine CodeK.draw gOk hE rfl (fun _ _ h => h) (.alt 0 (.alt 1 (.alt 2 (.alt 3 (.take 4 .done) .stop) .stop) .stop) (.alt 1 (.alt 0 (.alt 2 (.alt 3 (.take 4 .done) .stop) .stop) (.alt 2 (.alt 0 (.alt 3 (.take 4 .done) .stop) .stop) .stop)) .stop)) ?_ ?_; focus (decide +kernel)) | refine ListO.go gOk hE ?_)
    all_goals first | exact Need.mk rfl | (exfalso; omega) | exact absurd rfl h | (simp_all; done) | trace_state
end Go.Proofs.YtfdbjiaghbeedaaGreatDoor
end
