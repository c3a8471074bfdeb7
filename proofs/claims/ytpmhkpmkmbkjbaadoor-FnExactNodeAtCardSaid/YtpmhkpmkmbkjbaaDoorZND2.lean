import Derived.Test.YtpmhkpmkmbkjbaaDoorZND1
import Derived.Test.YtpmhkpmkmbkjbaaDoorZE
/- A node that is read. -/
namespace Go.Proofs.YtpmhkpmkmbkjbaaDoor
open Go Go.Tr
set_option maxRecDepth 100000
set_option maxHeartbeats 4000000
set_option linter.unusedVariables false
set_option linter.unusedSimpArgs false
def ndV (b : List Int) (p : Int) : Int × Int × Int := (ldN b p.toNat 2, ldN b (p + 2).toNat 4, ldN b (p + 6).toNat 4)
/-- The node and the code. -/
def ndR (b c : List Int) (x : Int) : (Int × Int × Int) × Int := if (ndX c x).2 = 0 then (ndV b (ndX c x).1, 0) else ((0, 0, 0), (ndX c x).2)
abbrev oNd (n : Int × Int × Int) : TAr := .agg [.lit (.int .i64 n.1), .lit (.int .i64 n.2.1), .lit (.int .i64 n.2.2)]
abbrev aNd (n : Int × Int × Int) : TAg := .agg [.c (.lit (.int .i64 n.1)), .c (.lit (.int .i64 n.2.1)), .c (.lit (.int .i64 n.2.2))]
theorem nodeIn_run (e : Nat) (b c : List Int) (g o : List (List Int)) (x : Int) (h : shP b c) (hx : x ≤ 9223372036854775807) : RunH Tryd.prog hT 57 [aMm e b c g o, ti x] [] [oNd (ndR b c x).1, oi (ndR b c x).2] [] := by
  have c1 := nodeStart_run e b c g o x h.2.1 hx
  have hok := @ndX_ok c x
  unfold ndR
  generalize ndX c x = p at *
  obtain ⟨p, q⟩ := p
  dsimp only at *
  by_cases hq : q = 0
  · subst hq
    obtain ⟨_, _, _, h0, h1⟩ := hok rfl
    have hbl := h.1
    have c2 := numAt_run b p 2 (by omega) h.2.2.1.2 (by omega) (by omega) (by omega)
    have c3 := numAt_run b (p + 2) 4 (by omega) h.2.2.1.2 (by omega) (by omega) (by omega)
    have c4 := numAt_run b (p + 6) 4 (by omega) h.2.2.1.2 (by omega) (by omega) (by omega)
    rw [if_pos rfl]
    unfold ndV
    generalize ldN b p.toNat 2 = v1 at *
    generalize ldN b (p + 2).toNat 4 = v2 at *
    generalize ldN b (p + 6).toNat 4 = v3 at *
    refine RunH.of_vc gOk Tryd.func57 rfl rfl (Nat.le_of_ble_eq_true rfl) (by repeat' (first | exact trivial | exact ⟨_, rfl, Nat.le_refl _⟩ | exact Nat.le_of_ble_eq_true rfl | refine And.intro ?_ ?_)) (Nat.le_of_ble_eq_true rfl) rfl (fun F hE hA => ?_)
    repeat' (first | exact trivial | refine BS.d (fun h => ?_) (fun h => ?_) | refine BS.e (fun h => ?_) (fun h => ?_) | refine BS.ne (fun h => ?_) (fun h => ?_) | refine BS.n ?_ | refine BS.s (fun h => ?_) (fun h => ?_) | refine And.intro ?_ ?_ | (refine Need.mk ?_; first | with_reducible rfl | (show @Eq TC _ _; rfl) | omega | (simp only [adN_zero]; omega)) | exact OutS.whole rfl rfl | (refine OpK.callH c1 hA rfl rfl rfl rfl hE ?_ rfl rfl ?_; focus ((repeat' (first | exact PsA.lit _ | exact PsA.ref rfl rfl | constructor)); all_goals (fail "ps"))) | (refine OpK.call c2 rfl rfl rfl rfl hE ?_ rfl rfl ?_; focus ((repeat' (first | exact PsA.lit _ | exact PsA.ref rfl rfl | constructor)); all_goals (fail "ps"))) | (refine OpK.call c3 rfl rfl rfl rfl hE ?_ rfl rfl ?_; focus ((repeat' (first | exact PsA.lit _ | exact PsA.ref rfl rfl | constructor)); all_goals (fail "ps"))) | (refine OpK.call c4 rfl rfl rfl rfl hE ?_ rfl rfl ?_; focus ((repeat' (first | exact PsA.lit _ | exact PsA.ref rfl rfl | constructor)); all_goals (fail "ps"))) | (refine CodeK.draw gOk hE rfl (fun _ _ h => h) (.take 0 (.take 1 (.take 3 (.take 5 (.take 6 (.take 8 (.take 9 (.take 11 (.take 12 (.take 14 (.take 15 (.alt 2 (.alt 4 (.alt 7 (.alt 10 (.alt 13 (.alt 16 (.alt 17 (.alt 18 (.take 19 .done) .stop) .stop) .stop) .stop) (.alt 13 (.alt 10 (.alt 16 (.alt 17 (.alt 18 (.take 19 .done) .stop) .stop) .stop) .stop) .stop)) (.alt 13 (.alt 7 (.alt 10 (.alt 16 (.alt 17 (.alt 18 (.take 19 .done) .stop) .stop) .stop) .stop) .stop) .stop)) (.alt 7 (.alt 4 (.alt 10 (.alt 13 (.alt 16 (.alt 17 (.alt 18 (.take 19 .done) .stop) .stop) .stop) .stop) (.alt 13 (.alt 10 (.alt 16 (.alt 17 (.alt 18 (.take 19 .done) .stop) .stop) .stop) .stop) .stop)) (.alt 13 (.alt 4 (.alt 10 (.alt 16 (.alt 17 (.alt 18 (.take 19 .done) .stop) .stop) .stop) .stop) .stop) .stop)) (.alt 13 (.alt 4 (.alt 7 (.alt 10 (.alt 16 (.alt 17 (.alt 18 (.take 19 .done) .stop) .stop) .stop) .stop) .stop) (.alt 7 (.alt 4 (.alt 10 (.alt 16 (.alt 17 (.alt 18 (.take 19 .done) .stop) .stop) .stop) .stop) .stop) .stop)) .stop))) (.alt 7 (.alt 2 (.alt 4 (.alt 10 (.alt 13 (.alt 16 (.alt 17 (.alt 18 (.take 19 .done) .stop) .stop) .stop) .stop) (.alt 13 (.alt 10 (.alt 16 (.alt 17 (.alt 18 (.take 19 .done) .stop) .stop) .stop) .stop) .stop)) (.alt 13 (.alt 4 (.alt 10 (.alt 16 (.alt 17 (.alt 18 (.take 19 .done) .stop) .stop) .stop) .stop) .stop) .stop)) (.alt 13 (.alt 2 (.alt 4 (.alt 10 (.alt 16 (.alt 17 (.alt 18 (.take 19 .done) .stop) .stop) .stop) .stop) .stop) .stop) .stop)) (.alt 13 (.alt 2 (.alt 4 (.alt 7 (.alt 10 (.alt 16 (.alt 17 (.alt 18 (.take 19 .done) .stop) .stop) .stop) .stop) .stop) (.alt 7 (.alt 4 (.alt 10 (.alt 16 (.alt 17 (.alt 18 (.take 19 .done) .stop) .stop) .stop) .stop) .stop) .stop)) (.alt 7 (.alt 2 (.alt 4 (.alt 10 (.alt 16 (.alt 17 (.alt 18 (.take 19 .done) .stop) .stop) .stop) .stop) .stop) .stop) .stop)) .stop)))))))))))))) ?_ ?_; focus (decide +kernel)) | refine ListO.go gOk hE ?_)
    all_goals first | exact Need.mk rfl | (exfalso; omega) | (refine Need.mk ?_; omega) | trace_state
  · rw [if_neg hq]
    refine RunH.of_vc gOk Tryd.func57 rfl rfl (Nat.le_of_ble_eq_true rfl) (by repeat' (first | exact trivial | exact ⟨_, rfl, Nat.le_refl _⟩ | exact Nat.le_of_ble_eq_true rfl | refine And.intro ?_ ?_)) (Nat.le_of_ble_eq_true rfl) rfl (fun F hE hA => ?_)
    repeat' (first | exact trivial | refine BS.d (fun h => ?_) (fun h => ?_) | refine BS.e (fun h => ?_) (fun h => ?_) | refine BS.ne (fun h => ?_) (fun h => ?_) | refine BS.n ?_ | refine BS.s (fun h => ?_) (fun h => ?_) | refine And.intro ?_ ?_ | (refine Need.mk ?_; first | with_reducible rfl | (show @Eq TC _ _; rfl) | omega | (simp only [adN_zero]; omega)) | exact OutS.whole rfl rfl | (refine OpK.callH c1 hA rfl rfl rfl rfl hE ?_ rfl rfl ?_; focus ((repeat' (first | exact PsA.lit _ | exact PsA.ref rfl rfl | constructor)); all_goals (fail "ps"))) | refine ListO.go gOk hE ?_)
    all_goals first | exact Need.mk rfl | (exfalso; omega) | trace_state
theorem l19Load_run (e : Nat) (b c : List Int) (g o : List (List Int)) (p : Int) (h : shP b c) (h0 : 0 ≤ p) (h1 : p + 10 ≤ 384) : RunT Tryd.prog 54 [aMm e b c g o, ti p] [] [oNd (ndV b p)] [] := by
  have hbl := h.1
  have c2 := l3Load_run b p 2 (by omega) h.2.2.1.2 (by omega) (by omega) (by omega)
  have c3 := l3Load_run b (p + 2) 4 (by omega) h.2.2.1.2 (by omega) (by omega) (by omega)
  have c4 := l3Load_run b (p + 6) 4 (by omega) h.2.2.1.2 (by omega) (by omega) (by omega)
  unfold ndV
  generalize ldN b p.toNat 2 = v1 at *
  generalize ldN b (p + 2).toNat 4 = v2 at *
  generalize ldN b (p + 6).toNat 4 = v3 at *
  refine RunT.of_vc gOk Tryd.func54 rfl rfl (Nat.le_of_ble_eq_true rfl) (by repeat' (first | exact trivial | exact ⟨_, rfl, Nat.le_refl _⟩ | exact Nat.le_of_ble_eq_true rfl | refine And.intro ?_ ?_)) (Nat.le_of_ble_eq_true rfl) rfl (fun F hE => ?_)
  repeat' (first | exact trivial | refine BS.d (fun h => ?_) (fun h => ?_) | refine BS.e (fun h => ?_) (fun h => ?_) | refine BS.ne (fun h => ?_) (fun h => ?_) | refine BS.n ?_ | refine BS.s (fun h => ?_) (fun h => ?_) | refine And.intro ?_ ?_ | (refine Need.mk ?_; first | with_reducible rfl | (show @Eq TC _ _; rfl) | omega | (simp only [adN_zero]; omega)) | exact OutS.whole rfl rfl | (refine OpK.call c2 rfl rfl rfl rfl hE ?_ rfl rfl ?_; focus ((repeat' (first | exact PsA.lit _ | exact PsA.ref rfl rfl | constructor)); all_goals (fail "ps"))) | (refine OpK.call c3 rfl rfl rfl rfl hE ?_ rfl rfl ?_; focus ((repeat' (first | exact PsA.lit _ | exact PsA.ref rfl rfl | constructor)); all_goals (fail "ps"))) | (refine OpK.call c4 rfl rfl rfl rfl hE ?_ rfl rfl ?_; focus ((repeat' (first | exact PsA.lit _ | exact PsA.ref rfl rfl | constructor)); all_goals (fail "ps"))) | (refine CodeK.draw gOk hE rfl (fun _ _ h => h) (.take 0 (.take 1 (.take 3 (.take 5 (.take 6 (.take 8 (.take 9 (.take 11 (.take 12 (.take 14 (.take 15 (.alt 2 (.alt 4 (.alt 7 (.alt 10 (.alt 13 (.alt 16 (.alt 17 (.alt 18 .done .stop) .stop) .stop) .stop) (.alt 13 (.alt 10 (.alt 16 (.alt 17 (.alt 18 .done .stop) .stop) .stop) .stop) .stop)) (.alt 13 (.alt 7 (.alt 10 (.alt 16 (.alt 17 (.alt 18 .done .stop) .stop) .stop) .stop) .stop) .stop)) (.alt 7 (.alt 4 (.alt 10 (.alt 13 (.alt 16 (.alt 17 (.alt 18 .done .stop) .stop) .stop) .stop) (.alt 13 (.alt 10 (.alt 16 (.alt 17 (.alt 18 .done .stop) .stop) .stop) .stop) .stop)) (.alt 13 (.alt 4 (.alt 10 (.alt 16 (.alt 17 (.alt 18 .done .stop) .stop) .stop) .stop) .stop) .stop)) (.alt 13 (.alt 4 (.alt 7 (.alt 10 (.alt 16 (.alt 17 (.alt 18 .done .stop) .stop) .stop) .stop) .stop) (.alt 7 (.alt 4 (.alt 10 (.alt 16 (.alt 17 (.alt 18 .done .stop) .stop) .stop) .stop) .stop) .stop)) .stop))) (.alt 7 (.alt 2 (.alt 4 (.alt 10 (.alt 13 (.alt 16 (.alt 17 (.alt 18 .done .stop) .stop) .stop) .stop) (.alt 13 (.alt 10 (.alt 16 (.alt 17 (.alt 18 .done .stop) .stop) .stop) .stop) .stop)) (.alt 13 (.alt 4 (.alt 10 (.alt 16 (.alt 17 (.alt 18 .done .stop) .stop) .stop) .stop) .stop) .stop)) (.alt 13 (.alt 2 (.alt 4 (.alt 10 (.alt 16 (.alt 17 (.alt 18 .done .stop) .stop) .stop) .stop) .stop) .stop) .stop)) (.alt 13 (.alt 2 (.alt 4 (.alt 7 (.alt 10 (.alt 16 (.alt 17 (.alt 18 .done .stop) .stop) .stop) .stop) .stop) (.alt 7 (.alt 4 (.alt 10 (.alt 16 (.alt 17 (.alt 18 .done .stop) .stop) .stop) .stop) .stop) .stop)) (.alt 7 (.alt 2 (.alt 4 (.alt 10 (.alt 16 (.alt 17 (.alt 18 .done .stop) .stop) .stop) .stop) .stop) .stop) .stop)) .stop)))))))))))))) ?_ ?_; focus (decide +kernel)) | refine ListO.go gOk hE ?_)
  all_goals first | exact Need.mk rfl | (exfalso; omega) | (refine Need.mk ?_; omega) | trace_state
end Go.Proofs.YtpmhkpmkmbkjbaaDoor
