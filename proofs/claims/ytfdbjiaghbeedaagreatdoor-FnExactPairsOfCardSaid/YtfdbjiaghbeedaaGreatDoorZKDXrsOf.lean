import Derived.Test.YtfdbjiaghbeedaaGreatDoorZKDD
import Derived.Test.YtfdbjiaghbeedaaGreatDoorMkL
import Derived.Test.YtfdbjiaghbeedaaGreatDoorZKDC
section
/- An empty list of elements of a type that the table does not know is built. -/
set_option linter.unusedVariables false
set_option linter.unusedSimpArgs false
universe u
namespace Go.Tr
open Go Go.RowKit
section
variable {P : Program} {F : Fm} {N : Nat} {G : Gt} {o : Oper} {σ : TS} {k : TS → Prop}
theorem OpK.bs0 (hG : GOk P G) {t d' e ke bs kt : Nat} {zt : List ZC} {X : Type} (enc : X → Nat → TC) (dec : List Value → Option X) (D : X) (hop : o.op = .buildSlice t 0 #[]) (hg : o.guard = none) (hd : okD N o.dst = true) (hdst : o.dst = some d')
    (ht : G.T t = some ⟨kt, .sl e ke bs, zt⟩) (hf : (lkR σ.r d').isNone = true) (hd' : d' < 1000000) (h : setK σ d' (.ty .own true e ke X enc dec D []) fun σ => putK σ d' (.a (.ref d' 0 0)) k) : OpK P F N o σ k :=
  ⟨fun ops Q rest kk => by
    refine AL.buildSl0D hG.T hop rfl hg hdst (by simpa [hdst, okD] using hd) ht hd' (none_of hf) ?_
    exact new_ok (R0 := ⟨.own, true, e, ke, 0, fun _ _ => .any, []⟩) ⟨rfl, fun hf => ⟨rfl, rfl⟩, rfl, rfl, fun i r hi => absurd hi (Nat.not_lt_zero _)⟩ kk h⟩
end
end Go.Tr
end

section
/- The pairs of a chain. -/
namespace Go.Proofs.YtfdbjiaghbeedaaGreatDoor
open Go Go.Tr
set_option maxRecDepth 100000
set_option maxHeartbeats 4000000
set_option linter.unusedVariables false
set_option linter.unusedSimpArgs false
/-- Key and value of each of the handles. -/
def pkL (b c : List Int) (l : List Int) : List Row := l.map fun x => ((rwN b c x).1, (rwN b c x).2.1)
theorem pkL_succ (b c : List Int) {l : List Int} {i : Nat} (h : i < l.length) : pkL b c (l.take (i + 1)) = pkL b c (l.take i) ++ [((rwN b c (l.getD i 0)).1, (rwN b c (l.getD i 0)).2.1)] := by
  unfold pkL
  rw [List.take_succ_eq_append_getElem h, List.map_append]
  simp [List.getD, h]
theorem pkL_len (b c : List Int) (l : List Int) : (pkL b c l).length = l.length := by simp [pkL]
theorem PairsOfS_run (e : Nat) (b c : List Int) (g o : List (List Int)) (h0 : Int) (ht : MmT b c g o) (h0m : h0 ≤ 9223372036854775807) : RunT Tryz.prog 21 [aMm e b c g o, ti h0] [] [.one (tR 98 (pkL b c ((chO b c g o h0).getD [])))] [] := by
  have c0 := ChainOfS_run e b c g o h0 ht h0m
  have hl := chO_len (b := b) (c := c) (g := g) (o := o) h0m
  have hmm : (chO b c g o h0).getD [] ≠ [] → mmP b c g o := chO_mm
  have hmx : ∀ x ∈ (chO b c g o h0).getD [], x ≤ 9223372036854775807 := fun x hx => chO_bd h0m hx
  unfold oCo at c0
  generalize (chO b c g o h0).getD [] = l at *
  generalize (chO b c g o h0).isSome = bb at *
  refine RunT.of_vc gOk Tryz.func21 rfl rfl (Nat.le_of_ble_eq_true rfl) (by repeat' (first | exact trivial | exact ⟨_, rfl, Nat.le_refl _⟩ | exact Nat.le_of_ble_eq_true rfl | refine And.intro ?_ ?_)) (Nat.le_of_ble_eq_true rfl) rfl (fun F hE => ?_)
  repeat' (first | exact trivial | refine BS.d (fun h => ?_) (fun h => ?_) | refine BS.e (fun h => ?_) (fun h => ?_) | refine BS.ne (fun h => ?_) (fun h => ?_) | refine BS.n ?_ | refine BS.s (fun h => ?_) (fun h => ?_) | refine And.intro ?_ ?_ | (refine Need.mk ?_; first | with_reducible rfl | (show @Eq TC _ _; rfl) | omega | (simp only [adN_zero]; omega)) | exact OutS.whole rfl rfl | (refine OpK.call c0 rfl rfl rfl rfl hE ?_ rfl rfl ?_; focus ((repeat' (first | exact PsA.lit _ | exact PsA.ref rfl rfl | constructor)); all_goals (fail "ps"))) | (refine OpK.bs0 gOk encR decR ((0, 0) : Row) rfl rfl rfl rfl rfl rfl (by decide) ?_) | refine ListO.go gOk hE ?_)
  refine CodeK.loop gOk hE (fun i : Nat => ⟨[(2, .ptr 2 0 0), (5, vr 10 (pkL b c (l.take i)).length), (6, vr 2001792 l.length), (8, vi i)], [(10, rR .own true 98 (pkL b c (l.take i))), (2001792, rI .own true l), (2, .box 38 [.ref 1000000 0 b.length, .ref 1000001 0 c.length, .ref 1000002 0 g.length, .ref 1000003 0 o.length]), (1000000, rI .fro false b), (1000001, rI .fro false c), (1000002, rSL .fro false e g), (1000003, rSL .fro false e o)]⟩) (fun i => i ≤ l.length) (fun i => l.length - i) 0 (by refine leT.of ?_ ?_ rfl <;> repeat' (first | exact trivial | refine And.intro rfl ?_ | refine And.intro (by first | rfl | (simp [pkL]; done) | (simp [pkL] <;> rfl)) ?_)) (Nat.zero_le _) ?_
  rintro i hi
  have hpl := pkL_len b c (l.take i)
  rw [List.length_take] at hpl
  by_cases hi2 : i < l.length
  · have hne : l ≠ [] := fun e => by rw [e] at hi2; simp at hi2
    have hm := hmm hne
    have hx := hmx (l.getD i 0) (by simp [List.getD, hi2])
    have hsu := pkL_succ b c hi2
    have c1 := l19Raw_run e b c g o (l.getD i 0) hm.1.1
    generalize rwN b c (l.getD i 0) = nv at *
    obtain ⟨n1, n2, n3⟩ := nv
    dsimp only at *
    generalize pkL b c (l.take i) = ps at *
    repeat' (first | exact trivial | refine BS.d (fun h => ?_) (fun h => ?_) | refine BS.e (fun h => ?_) (fun h => ?_) | refine BS.ne (fun h => ?_) (fun h => ?_) | refine BS.n ?_ | refine BS.s (fun h => ?_) (fun h => ?_) | refine And.intro ?_ ?_ | (refine Need.mk ?_; first | with_reducible rfl | (show @Eq TC _ _; rfl) | omega | (simp only [adN_zero]; omega)) | exact OutS.whole rfl rfl | (refine OpK.call c1 rfl rfl rfl rfl hE ?_ rfl rfl ?_; focus ((repeat' (first | exact PsA.lit _ | exact PsA.ref rfl rfl | constructor)); all_goals (fail "ps"))) | (refine CodeK.draw gOk hE rfl (fun _ _ h => h) (.take 1 (.take 2 (.take 3 (.alt 0 (.alt 4 (.alt 5 (.alt 6 (.alt 7 .done .stop) .stop) (.alt 6 (.alt 5 (.alt 7 .done .stop) .stop) .stop)) (.alt 6 (.alt 4 (.alt 5 (.alt 7 .done .stop) .stop) .stop) .stop)) (.alt 4 (.alt 0 (.alt 5 (.alt 6 (.alt 7 .done .stop) .stop) (.alt 6 (.alt 5 (.alt 7 .done .stop) .stop) .stop)) (.alt 6 (.alt 0 (.alt 5 (.alt 7 .done .stop) .stop) .stop) .stop)) (.alt 6 (.alt 0 (.alt 4 (.alt 5 (.alt 7 .done .stop) .stop) .stop) (.alt 4 (.alt 0 (.alt 5 (.alt 7 .done .stop) .stop) .stop) .stop)) .stop)))))) ?_ ?_; focus (decide +kernel)) | refine ListO.go gOk hE ?_)
    all_goals (try simp only [adN_zero] at *)
    all_goals first
      | (exfalso; omega)
      | (refine Need.mk ?_; first | rfl | omega | (refine ⟨?_, ?_⟩ <;> (try unfold maxLen) <;> omega))
      | (refine ⟨i + 1, (by refine leT.of ?_ ?_ rfl <;> repeat' (first | exact trivial | refine And.intro rfl ?_ | refine And.intro (by first | rfl | (rw [hsu]; rfl) | (simp [hsu] <;> rfl)) ?_)), by omega, by first | omega | (dsimp only; omega)⟩)
      | trace_state
  · repeat' (first | exact trivial | refine BS.d (fun h => ?_) (fun h => ?_) | refine BS.e (fun h => ?_) (fun h => ?_) | refine BS.ne (fun h => ?_) (fun h => ?_) | refine BS.n ?_ | refine BS.s (fun h => ?_) (fun h => ?_) | refine And.intro ?_ ?_ | (refine Need.mk ?_; first | with_reducible rfl | (show @Eq TC _ _; rfl) | omega | (simp only [adN_zero]; omega)) | exact OutS.whole rfl rfl | refine ListO.go gOk hE ?_)
    all_goals (try simp only [adN_zero] at *)
    all_goals first
      | (exfalso; omega)
      | exact OutS.whole rfl (by rw [List.take_of_length_le (by omega)]; rfl)
      | trace_state
theorem PairsOfI_run (e : Nat) (b c : List Int) (g o : List (List Int)) (h0 : Int) (ht : MmT b c g o) (h0m : h0 ≤ 9223372036854775807) : RunH Tryz.prog hT 22 [aMm e b c g o, ti h0] [] [.one (tR 98 (pkL b c ((chO b c g o h0).getD [])))] [] := by
  have c0 := ChainOfI_run e b c g o h0 ht h0m
  have hl := chO_len (b := b) (c := c) (g := g) (o := o) h0m
  have hmm : (chO b c g o h0).getD [] ≠ [] → mmP b c g o := chO_mm
  have hmx : ∀ x ∈ (chO b c g o h0).getD [], x ≤ 9223372036854775807 := fun x hx => chO_bd h0m hx
  unfold oCo at c0
  generalize (chO b c g o h0).getD [] = l at *
  generalize (chO b c g o h0).isSome = bb at *
  refine RunH.of_vc gOk Tryz.func22 rfl rfl (Nat.le_of_ble_eq_true rfl) (by repeat' (first | exact trivial | exact ⟨_, rfl, Nat.le_refl _⟩ | exact Nat.le_of_ble_eq_true rfl | refine And.intro ?_ ?_)) (Nat.le_of_ble_eq_true rfl) rfl (fun F hE hA => ?_)
  repeat' (first | exact trivial | refine BS.d (fun h => ?_) (fun h => ?_) | refine BS.e (fun h => ?_) (fun h => ?_) | refine BS.ne (fun h => ?_) (fun h => ?_) | refine BS.n ?_ | refine BS.s (fun h => ?_) (fun h => ?_) | refine And.intro ?_ ?_ | (refine Need.mk ?_; first | with_reducible rfl | (show @Eq TC _ _; rfl) | omega | (simp only [adN_zero]; omega)) | exact OutS.whole rfl rfl | (refine OpK.callH c0 hA rfl rfl rfl rfl hE ?_ rfl rfl ?_; focus ((repeat' (first | exact PsA.lit _ | exact PsA.ref rfl rfl | constructor)); all_goals (fail "ps"))) | refine ListO.go gOk hE ?_)
  refine CodeK.nilT gOk hE 7 900000 98 2 Row encR decR (0, 0) (by rfl) (by rfl) (by decide) ?_
  refine CodeK.loop gOk hE (fun i : Nat => ⟨[(2, .ptr 2 0 0), (7, vr 900000 (pkL b c (l.take i)).length), (18, vr 2001920 l.length), (19, vi l.length), (20, vi i)], [(900000, rR .own true 98 (pkL b c (l.take i))), (2001920, rI .own true l), (2, .box 38 [.ref 1000000 0 b.length, .ref 1000001 0 c.length, .ref 1000002 0 g.length, .ref 1000003 0 o.length]), (1000000, rI .fro false b), (1000001, rI .fro false c), (1000002, rSL .fro false e g), (1000003, rSL .fro false e o)]⟩) (fun i => i ≤ l.length) (fun i => l.length - i) 0 (by refine leT.of ?_ ?_ rfl <;> repeat' (first | exact trivial | refine And.intro rfl ?_ | refine And.intro (by first | rfl | (simp [pkL]; done) | (simp [pkL] <;> rfl)) ?_)) (Nat.zero_le _) ?_
  rintro i hi
  have hpl := pkL_len b c (l.take i)
  rw [List.length_take] at hpl
  by_cases hi2 : i < l.length
  · have hne : l ≠ [] := fun e => by rw [e] at hi2; simp at hi2
    have hm := hmm hne
    have hx := hmx (l.getD i 0) (by simp [List.getD, hi2])
    have hsu := pkL_succ b c hi2
    have c1 := nodeIn_run e b c g o (l.getD i 0) hm.1.1 hx
    have hrw : (ndR b c (l.getD i 0)).1 = rwN b c (l.getD i 0) := rfl
    rw [hrw] at c1
    generalize (ndR b c (l.getD i 0)).2 = cd at *
    generalize rwN b c (l.getD i 0) = nv at *
    obtain ⟨n1, n2, n3⟩ := nv
    dsimp only at *
    generalize pkL b c (l.take i) = ps at *
    repeat' (first | exact trivial | refine BS.d (fun h => ?_) (fun h => ?_) | refine BS.e (fun h => ?_) (fun h => ?_) | refine BS.ne (fun h => ?_) (fun h => ?_) | refine BS.n ?_ | refine BS.s (fun h => ?_) (fun h => ?_) | refine And.intro ?_ ?_ | (refine Need.mk ?_; first | with_reducible rfl | (show @Eq TC _ _; rfl) | omega | (simp only [adN_zero]; omega)) | exact OutS.whole rfl rfl | (refine OpK.callH c1 hA rfl rfl rfl rfl hE ?_ rfl rfl ?_; focus ((repeat' (first | exact PsA.lit _ | exact PsA.ref rfl rfl | constructor)); all_goals (fail "ps"))) | refine ListO.go gOk hE ?_)
    all_goals (try simp only [adN_zero] at *)
    all_goals first
      | (exfalso; omega)
      | (refine Need.mk ?_; first | rfl | omega | (refine ⟨?_, ?_⟩ <;> (try unfold maxLen) <;> omega))
      | (refine ⟨i + 1, (by refine leT.of ?_ ?_ rfl <;> repeat' (first | exact trivial | refine And.intro rfl ?_ | refine And.intro (by first | rfl | (rw [hsu]; rfl) | (simp [hsu] <;> rfl)) ?_)), by omega, by first | omega | (dsimp only; omega)⟩)
      | trace_state
  · repeat' (first | exact trivial | refine BS.d (fun h => ?_) (fun h => ?_) | refine BS.e (fun h => ?_) (fun h => ?_) | refine BS.ne (fun h => ?_) (fun h => ?_) | refine BS.n ?_ | refine BS.s (fun h => ?_) (fun h => ?_) | refine And.intro ?_ ?_ | (refine Need.mk ?_; first | with_reducible rfl | (show @Eq TC _ _; rfl) | omega | (simp only [adN_zero]; omega)) | exact OutS.whole rfl rfl | refine ListO.go gOk hE ?_)
    all_goals (try simp only [adN_zero] at *)
    all_goals first
      | (exfalso; omega)
      | exact OutS.whole rfl (by rw [List.take_of_length_le (by omega)]; rfl)
      | trace_state
end Go.Proofs.YtfdbjiaghbeedaaGreatDoor
end

section
/- Lists of pairs over the base of a memory. -/
namespace Go.Proofs.YtfdbjiaghbeedaaGreatDoor
open Go Go.Tr
set_option maxRecDepth 100000
set_option maxHeartbeats 4000000
set_option linter.unusedVariables false
set_option linter.unusedSimpArgs false
theorem eqKV_run (x : Row) : RunT Tryz.prog 58 [.agg [.c (.lit (.int .i64 x.1)), .c (.lit (.int .i64 x.2))], .agg [.c (.lit (.int .i64 x.1)), .c (.lit (.int .i64 x.2))]] [] [ob true] [] := by
  refine RunT.of_vc gOk Tryz.func58 rfl rfl (Nat.le_of_ble_eq_true rfl) (by repeat' (first | exact trivial | exact ⟨_, rfl, Nat.le_refl _⟩ | exact Nat.le_of_ble_eq_true rfl | refine And.intro ?_ ?_)) (Nat.le_of_ble_eq_true rfl) rfl (fun F hE => ?_)
  repeat' (first | exact trivial | refine BS.d (fun h => ?_) (fun h => ?_) | refine BS.e (fun h => ?_) (fun h => ?_) | refine BS.ne (fun h => ?_) (fun h => ?_) | refine BS.n ?_ | refine BS.s (fun h => ?_) (fun h => ?_) | refine And.intro ?_ ?_ | (refine Need.mk ?_; first | with_reducible rfl | (show @Eq TC _ _; rfl) | omega | (simp only [adN_zero]; omega)) | exact OutS.whole rfl rfl | refine ListO.go gOk hE ?_)
  all_goals exact absurd rfl h
theorem eqKVS_run (e : Nat) (xs : List Row) (hn : xs.length ≤ 4000000) : RunT Tryz.prog 23 [.one (.c (tR e xs)), .one (.c (tR e xs))] [] [ob true] [] := by
  refine RunT.of_vc gOk Tryz.func23 rfl rfl (Nat.le_of_ble_eq_true rfl) (by repeat' (first | exact trivial | exact ⟨_, rfl, Nat.le_refl _⟩ | exact Nat.le_of_ble_eq_true rfl | refine And.intro ?_ ?_)) (Nat.le_of_ble_eq_true rfl) rfl (fun F hE => ?_)
  repeat' (first | exact trivial | refine BS.d (fun h => ?_) (fun h => ?_) | refine BS.e (fun h => ?_) (fun h => ?_) | refine BS.ne (fun h => ?_) (fun h => ?_) | refine BS.n ?_ | refine BS.s (fun h => ?_) (fun h => ?_) | refine And.intro ?_ ?_ | (refine Need.mk ?_; first | with_reducible rfl | (show @Eq TC _ _; rfl) | omega | (simp only [adN_zero]; omega)) | exact OutS.whole rfl rfl | refine ListO.go gOk hE ?_)
  · refine CodeK.loop gOk hE (fun i : Nat => ⟨[(0, vr 1000000 xs.length), (1, vr 1000001 xs.length), (5, vi i)], [(1000000, rR .fro false e xs), (1000001, rR .fro false e xs)]⟩) (fun i => i ≤ xs.length) (fun i => xs.length - i) 0 (by refine leT.of ?_ ?_ rfl <;> repeat' (first | exact trivial | refine And.intro rfl ?_ | refine And.intro (by simp) ?_)) (Nat.zero_le _) ?_
    rintro i hi
    repeat' (first | exact trivial | refine BS.d (fun h => ?_) (fun h => ?_) | refine BS.e (fun h => ?_) (fun h => ?_) | refine BS.ne (fun h => ?_) (fun h => ?_) | refine BS.n ?_ | refine BS.s (fun h => ?_) (fun h => ?_) | refine And.intro ?_ ?_ | (refine Need.mk ?_; first | with_reducible rfl | (show @Eq TC _ _; rfl) | omega | (simp only [adN_zero]; omega)) | exact OutS.whole rfl rfl | refine ListO.go gOk hE ?_)
    · refine CodeK.draw gOk hE rfl (fun _ _ h => h) (.take 0 (.take 1 (.take 2 (.take 4 (.take 5 (.take 6 (.alt 3 (.alt 7 (.alt 8 (.take 9 .done) .stop) .stop) (.alt 7 (.alt 3 (.alt 8 (.take 9 .done) .stop) .stop) .stop)))))))) (by decide +kernel) ?_
      repeat' (first | exact trivial | refine BS.d (fun h => ?_) (fun h => ?_) | refine BS.e (fun h => ?_) (fun h => ?_) | refine BS.ne (fun h => ?_) (fun h => ?_) | refine BS.n ?_ | refine BS.s (fun h => ?_) (fun h => ?_) | refine And.intro ?_ ?_ | (refine Need.mk ?_; first | with_reducible rfl | (show @Eq TC _ _; rfl) | omega | (simp only [adN_zero]; omega)) | exact OutS.whole rfl rfl | refine ListO.go gOk hE ?_)
      all_goals (refine OpK.call (eqKV_run _) rfl rfl rfl rfl hE (by repeat' (first | exact PsA.lit _ | exact PsA.ref rfl rfl | constructor)) rfl rfl ?_)
      all_goals (repeat' (first | exact trivial | refine BS.d (fun h => ?_) (fun h => ?_) | refine BS.e (fun h => ?_) (fun h => ?_) | refine BS.ne (fun h => ?_) (fun h => ?_) | refine BS.n ?_ | refine BS.s (fun h => ?_) (fun h => ?_) | refine And.intro ?_ ?_ | (refine Need.mk ?_; first | with_reducible rfl | (show @Eq TC _ _; rfl) | omega | (simp only [adN_zero]; omega)) | exact OutS.whole rfl rfl | refine ListO.go gOk hE ?_))
      all_goals (refine ⟨i + 1, (by refine leT.of ?_ ?_ rfl <;> repeat' (first | exact trivial | refine And.intro rfl ?_ | refine And.intro (by simp) ?_)), ?_⟩; (refine And.intro ?_ ?_) <;> (first | omega | (dsimp only; omega) | trivial))
abbrev fP2 (m : Int) (j : Nat) : Row := (m + 2 * j, m + 2 * j + 1)
abbrev bP2 (e κ : Nat) (xs xs' : List Row) : Bt := ⟨κ, 0, true, .sl e 2 Row encR decR (0, 0) xs, .sl e 2 Row encR decR (0, 0) xs', .ty .own true e 2 Row encR decR (0, 0) xs'⟩
theorem markP2_run (e : Nat) (xs : List Row) (m : Int) (h0 : 0 ≤ m) (h1 : m ≤ 33554432) (hn : xs.length ≤ 4000000) : RunT Tryz.prog 24 [.one (.h 0 xs.length), ti m] [.sl e 2 Row encR decR (0, 0) xs] [oi (m + 2 * xs.length)] [.sl e 2 Row encR decR (0, 0) (mkL (0, 0) (fP2 m) xs xs.length)] := by
  refine RunT.of_vc gOk Tryz.func24 rfl rfl (Nat.le_of_ble_eq_true rfl) (by repeat' (first | exact trivial | exact ⟨_, rfl, Nat.le_refl _⟩ | exact Nat.le_of_ble_eq_true rfl | refine And.intro ?_ ?_)) (Nat.le_of_ble_eq_true rfl) rfl (fun F hE => ?_)
  repeat' (first | exact trivial | refine BS.d (fun h => ?_) (fun h => ?_) | refine BS.e (fun h => ?_) (fun h => ?_) | refine BS.ne (fun h => ?_) (fun h => ?_) | refine BS.n ?_ | refine BS.s (fun h => ?_) (fun h => ?_) | refine And.intro ?_ ?_ | (refine Need.mk ?_; first | with_reducible rfl | (show @Eq TC _ _; rfl) | omega | (simp only [adN_zero]; omega)) | exact OutS.whole rfl rfl | refine ListO.go gOk hE ?_)
  refine CodeK.loop gOk hE (fun i : Nat => ⟨[(0, vr 1000000 xs.length), (1, vi (m + 2 * i)), (5, vi i)], [(1000000, rR .own false 0 (mkL (0, 0) (fP2 m) xs i))]⟩) (fun i => i ≤ xs.length) (fun i => xs.length - i) 0 (by refine leT.of ?_ ?_ rfl <;> repeat' (first | exact trivial | refine And.intro rfl ?_ | refine And.intro (by simp [mkL_zero] <;> rfl) ?_)) (Nat.zero_le _) ?_
  rintro i hi
  have hl := mkL_len (0, 0) (fP2 m) xs i
  repeat' (first | exact trivial | refine BS.d (fun h => ?_) (fun h => ?_) | refine BS.e (fun h => ?_) (fun h => ?_) | refine BS.ne (fun h => ?_) (fun h => ?_) | refine BS.n ?_ | refine BS.s (fun h => ?_) (fun h => ?_) | refine And.intro ?_ ?_ | (refine Need.mk ?_; first | with_reducible rfl | (show @Eq TC _ _; rfl) | omega | (simp only [adN_zero]; omega)) | exact OutS.whole rfl rfl | refine ListO.go gOk hE ?_)
  all_goals (try simp only [adN_zero] at *)
  all_goals first
    | (refine Need.mk ?_; first | omega | (rw [List.length_set]; omega) | rw [show i = xs.length by omega])
    | (refine ⟨i + 1, (by refine leT.of ?_ ?_ rfl <;> repeat' (first | exact trivial | refine And.intro rfl ?_ | refine And.intro (by first | rfl | (refine litInt ?_; omega) | (refine congrArg (fun l => some (rR .own false 0 l)) ?_; rw [set_getD _ _ _ _ (by omega), List.set_set]; exact mkL_set _ _ _ _ (by omega))) ?_)), by omega, by first | omega | (dsimp only; omega)⟩)
/-- The number that a row of lists begins with. -/
theorem heldP2_run (e : Nat) (xs : List Row) (m : Int) (h0 : 0 ≤ m) (h1 : m ≤ 33554432) (hn : xs.length ≤ 4000000) : RunT Tryz.prog 25 [.one (.c (tR e (mkL (0, 0) (fP2 m) xs xs.length))), ti m] [] [oi (m + 2 * xs.length)] [] := by
  have hl := mkL_len (0, 0) (fP2 m) xs xs.length
  refine RunT.of_vc gOk Tryz.func25 rfl rfl (Nat.le_of_ble_eq_true rfl) (by repeat' (first | exact trivial | exact ⟨_, rfl, Nat.le_refl _⟩ | exact Nat.le_of_ble_eq_true rfl | refine And.intro ?_ ?_)) (Nat.le_of_ble_eq_true rfl) rfl (fun F hE => ?_)
  repeat' (first | exact trivial | refine BS.d (fun h => ?_) (fun h => ?_) | refine BS.e (fun h => ?_) (fun h => ?_) | refine BS.ne (fun h => ?_) (fun h => ?_) | refine BS.n ?_ | refine BS.s (fun h => ?_) (fun h => ?_) | refine And.intro ?_ ?_ | (refine Need.mk ?_; first | with_reducible rfl | (show @Eq TC _ _; rfl) | omega | (simp only [adN_zero]; omega)) | exact OutS.whole rfl rfl | refine ListO.go gOk hE ?_)
  refine CodeK.loop gOk hE (fun i : Nat => ⟨[(0, vr 1000000 (mkL (0, 0) (fP2 m) xs xs.length).length), (1, vi (m + 2 * i)), (5, vi i)], [(1000000, rR .fro false e (mkL (0, 0) (fP2 m) xs xs.length))]⟩) (fun i => i ≤ xs.length) (fun i => xs.length - i) 0 (by refine leT.of ?_ ?_ rfl <;> repeat' (first | exact trivial | refine And.intro rfl ?_ | refine And.intro (by simp <;> rfl) ?_)) (Nat.zero_le _) ?_
  rintro i hi
  have hg : i < xs.length → (mkL (0, 0) (fP2 m) xs xs.length).getD i (0, 0) = fP2 m i := fun h => mkL_get _ _ _ _ _ h h
  repeat' (first | exact trivial | refine BS.d (fun h => ?_) (fun h => ?_) | refine BS.e (fun h => ?_) (fun h => ?_) | refine BS.ne (fun h => ?_) (fun h => ?_) | refine BS.n ?_ | refine BS.s (fun h => ?_) (fun h => ?_) | refine And.intro ?_ ?_ | (refine Need.mk ?_; first | with_reducible rfl | (show @Eq TC _ _; rfl) | omega | (simp only [adN_zero]; omega)) | exact OutS.whole rfl rfl | refine ListO.go gOk hE ?_)
  all_goals (try simp only [adN_zero] at *)
  all_goals first
    | (exfalso; have h9 := hg (by omega); rw [h9] at *; first | omega | (simp_all; done))
    | (refine Need.mk ?_; first | omega | rw [show i = xs.length by omega])
    | (refine ⟨i + 1, (by refine leT.of ?_ ?_ rfl <;> repeat' (first | exact trivial | refine And.intro rfl ?_ | refine And.intro (by first | rfl | (refine litInt ?_; omega)) ?_)), by omega, by first | omega | (dsimp only; omega)⟩)
end Go.Proofs.YtfdbjiaghbeedaaGreatDoor
end

section
/- The law PairsOf. -/
namespace Go.Proofs.YtfdbjiaghbeedaaGreatDoor
open Go Go.Tr
set_option maxRecDepth 100000
set_option maxHeartbeats 40000000
set_option linter.unusedVariables false
set_option linter.unusedSimpArgs false
theorem PairsOf_law (b c : List Int) (g o : List (List Int)) (x : Int) (h1 : MmOk 9223372036854775807 b c g o) (hx : x ≤ 9223372036854775807) : RunH Tryz.prog hT 5 [aMm 0 b c g o, ti x] [] [ob true] [] := by
  have c0 := szMem_run 0 0 b c g o 1048576 (by decide) (by decide) h1.hb h1.hc h1.hg h1.hg' h1.ho h1.ho'
  by_cases hz : szM b c g o 1048576 < 0
  · generalize szM b c g o 1048576 = z at *
    refine RunH.of_vc gOk Tryz.func5 rfl rfl (Nat.le_of_ble_eq_true rfl) (by repeat' (first | exact trivial | exact ⟨_, rfl, Nat.le_refl _⟩ | exact Nat.le_of_ble_eq_true rfl | refine And.intro ?_ ?_)) (Nat.le_of_ble_eq_true rfl) rfl (fun F hE hA => ?_)
    repeat' (first | exact trivial | refine BS.d (fun h => ?_) (fun h => ?_) | refine BS.e (fun h => ?_) (fun h => ?_) | refine BS.ne (fun h => ?_) (fun h => ?_) | refine BS.n ?_ | refine BS.s (fun h => ?_) (fun h => ?_) | refine And.intro ?_ ?_ | (refine Need.mk ?_; first | with_reducible rfl | (show @Eq TC _ _; rfl) | omega | (simp only [adN_zero]; omega)) | exact OutS.whole rfl rfl | (refine OpK.call c0 rfl rfl rfl rfl hE ?_ rfl rfl ?_; focus ((repeat' (first | exact PsA.lit _ | exact PsA.ref rfl rfl | constructor)); all_goals (fail "ps"))) | refine ListO.go gOk hE ?_)
    all_goals first | exact Need.mk rfl | (exfalso; omega) | trace_state
  · have ht := MmT.of_sz (m := 1048576) (by decide) (by decide) hz
    have hbc := szM_bcC (m := 1048576) (by decide) hz
    generalize szM b c g o 1048576 = z at *
    have k := ht.ok
    have k3 := k.le (m' := 4000000) (by decide)
    have c1 := toMem_run 0 b c g o k.hb k.hc k.hg k.hg' k.ho k.ho'
    have c5 := eqMem_run 135 b c g o k3.hb k3.hc k3.hg k3.hg' k3.ho k3.ho'
    have c3 := PairsOfS_run 135 b c g o x ht hx
    have c4 := PairsOfI_run 135 b c g o x ht hx
    have hg := chO_len (b := b) (c := c) (g := g) (o := o) hx
    rw [← pkL_len b c] at hg
    generalize pkL b c ((chO b c g o x).getD []) = gg at *
    have hk : MkOk b c g o := ⟨k, by omega, ht.f⟩
    have m0 := markMemX_run 3 135 135 b c g o hk
    have z0 := mZ_bd (b := b) (c := c) (g := g) (o := o)
    generalize mZ b c g o = zz0 at *
    have d1 := eqKVS_run 98 gg (by omega)
    have m1 := markP2_run 98 gg 1 (by omega) (by omega) (by omega)
    have d2 := heldP2_run 98 gg 1 (by omega) (by omega) (by omega)
    refine RunH.of_vc gOk Tryz.func5 rfl rfl (Nat.le_of_ble_eq_true rfl) (by repeat' (first | exact trivial | exact ⟨_, rfl, Nat.le_refl _⟩ | exact Nat.le_of_ble_eq_true rfl | refine And.intro ?_ ?_)) (Nat.le_of_ble_eq_true rfl) rfl (fun F hE hA => ?_)
    repeat' (first | exact trivial | refine BS.d (fun h => ?_) (fun h => ?_) | refine BS.e (fun h => ?_) (fun h => ?_) | refine BS.ne (fun h => ?_) (fun h => ?_) | refine BS.n ?_ | refine BS.s (fun h => ?_) (fun h => ?_) | refine And.intro ?_ ?_ | (refine Need.mk ?_; first | with_reducible rfl | (show @Eq TC _ _; rfl) | omega | (simp only [adN_zero]; omega)) | exact OutS.whole rfl rfl | (refine OpK.call c0 rfl rfl rfl rfl hE ?_ rfl rfl ?_; focus ((repeat' (first | exact PsA.lit _ | exact PsA.ref rfl rfl | constructor)); all_goals (fail "ps"))) | (refine OpK.call c1 rfl rfl rfl rfl hE ?_ rfl rfl ?_; focus ((repeat' (first | exact PsA.lit _ | exact PsA.ref rfl rfl | constructor)); all_goals (fail "ps"))) | (refine OpK.call c5 rfl rfl rfl rfl hE ?_ rfl rfl ?_; focus ((repeat' (first | exact PsA.lit _ | exact PsA.ref rfl rfl | constructor)); all_goals (fail "ps"))) | (refine OpK.call c3 rfl rfl rfl rfl hE ?_ rfl rfl ?_; focus ((repeat' (first | exact PsA.lit _ | exact PsA.ref rfl rfl | constructor)); all_goals (fail "ps"))) | (refine OpK.callH c4 hA rfl rfl rfl rfl hE ?_ rfl rfl ?_; focus ((repeat' (first | exact PsA.lit _ | exact PsA.ref rfl rfl | constructor)); all_goals (fail "ps"))) | (refine OpK.call d1 rfl rfl rfl rfl hE ?_ rfl rfl ?_; focus ((repeat' (first | exact PsA.lit _ | exact PsA.ref rfl rfl | constructor)); all_goals (fail "ps"))) | (refine OpK.call d2 rfl rfl rfl rfl hE ?_ rfl rfl ?_; focus ((repeat' (first | exact PsA.lit _ | exact PsA.ref rfl rfl | exact PsA.ref rfl (mkL_len _ _ _ _).symm | constructor)); all_goals (fail "ps"))) | (refine CodeK.draw gOk hE rfl (fun _ _ h => h) (.alt 0 (.alt 1 (.alt 2 (.alt 3 (.take 4 .done) .stop) .stop) .stop) (.alt 1 (.alt 0 (.alt 2 (.alt 3 (.take 4 .done) .stop) .stop) (.alt 2 (.alt 0 (.alt 3 (.take 4 .done) .stop) .stop) .stop)) .stop)) ?_ ?_; focus (decide +kernel)) | (refine OpK.callBs [bInt 3 2002944 b (mB b), bInt 3 2002945 c (mC b c), bSL 135 2002946 g (mG b c g), bSL 135 2002947 o (mO b c g o)] m0 rfl rfl rfl rfl hE (List.forall_mem_cons.2 ⟨BtOk.sl rfl (mkL_len _ _ _ _), List.forall_mem_cons.2 ⟨BtOk.sl rfl (mkL_len _ _ _ _), List.forall_mem_cons.2 ⟨BtOk.sl rfl (mkL_len _ _ _ _), List.forall_mem_cons.2 ⟨BtOk.sl rfl (mkL_len _ _ _ _), fun _ h => nomatch h⟩⟩⟩⟩) (List.forall_mem_cons.2 ⟨rfl, List.forall_mem_cons.2 ⟨rfl, List.forall_mem_cons.2 ⟨rfl, List.forall_mem_cons.2 ⟨rfl, fun _ h => nomatch h⟩⟩⟩⟩) (show List.Nodup [2002944, 2002945, 2002946, 2002947] by decide) (QsVs.cons (.agg (.cons (.h rfl rfl rfl) (.cons (.h rfl rfl rfl) (.cons (.h rfl rfl rfl) (.cons (.h rfl rfl rfl) .nil))))) (.cons (.one (.c (.lit _) rfl)) .nil)) rfl rfl ?_) | (refine OpK.callB (bP2 _ 2003328 gg (mkL (0, 0) (fP2 1) gg gg.length)) m1 rfl rfl rfl rfl hE (BtOk.sl rfl (mkL_len _ _ _ _)) rfl (QsVs.cons (.one (.h rfl rfl rfl)) (.cons (.one (.c (.lit _) rfl)) .nil)) rfl rfl ?_) | refine ListO.go gOk hE ?_)
    all_goals first | exact Need.mk rfl | (exfalso; omega) | exact absurd rfl h | (simp_all; done) | trace_state
end Go.Proofs.YtfdbjiaghbeedaaGreatDoor
end
