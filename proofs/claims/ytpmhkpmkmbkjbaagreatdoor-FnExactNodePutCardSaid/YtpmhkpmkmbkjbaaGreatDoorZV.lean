import Derived.Test.YtpmhkpmkmbkjbaaGreatDoorZT
import Derived.Test.YtpmhkpmkmbkjbaaGreatDoorZP
import Derived.Test.YtpmhkpmkmbkjbaaGreatDoorPD
section
/- NodePut, both packages. -/
namespace Go.Proofs.YtpmhkpmkmbkjbaaGreatDoor
open Go Go.Tr
set_option maxRecDepth 100000
set_option maxHeartbeats 4000000
set_option linter.unusedVariables false
set_option linter.unusedSimpArgs false
theorem keyOkN_run (x : Int) : RunT Tryz.prog 136 [ti x] [] [ob (decide (0 ≤ x ∧ x ≤ 99))] [] := by
  refine RunT.of_vc gOk Tryz.func136 rfl rfl (Nat.le_of_ble_eq_true rfl) (by repeat' (first | exact trivial | exact ⟨_, rfl, Nat.le_refl _⟩ | exact Nat.le_of_ble_eq_true rfl | refine And.intro ?_ ?_)) (Nat.le_of_ble_eq_true rfl) rfl (fun F hE => ?_)
  repeat' (first | exact trivial | refine BS.d (fun h => ?_) (fun h => ?_) | refine BS.e (fun h => ?_) (fun h => ?_) | refine BS.ne (fun h => ?_) (fun h => ?_) | refine BS.n ?_ | refine BS.s (fun h => ?_) (fun h => ?_) | refine And.intro ?_ ?_ | (refine Need.mk ?_; first | with_reducible rfl | (show @Eq TC _ _; rfl) | omega | (simp only [adN_zero]; omega)) | exact OutS.whole rfl rfl | refine ListO.go gOk hE ?_)
  all_goals (refine Need.mk ?_; first | rfl | (symm; apply decide_eq_true; omega) | (symm; apply decide_eq_false; omega) | (apply decide_eq_decide.2; omega) | (simp only [beq_iff_eq, Bool.beq_eq_decide_eq] at *; apply decide_eq_decide.2; omega) | (simp; omega))
theorem valOkN_run (x : Int) : RunT Tryz.prog 137 [ti x] [] [ob (decide (0 ≤ x ∧ x ≤ 65535))] [] := by
  refine RunT.of_vc gOk Tryz.func137 rfl rfl (Nat.le_of_ble_eq_true rfl) (by repeat' (first | exact trivial | exact ⟨_, rfl, Nat.le_refl _⟩ | exact Nat.le_of_ble_eq_true rfl | refine And.intro ?_ ?_)) (Nat.le_of_ble_eq_true rfl) rfl (fun F hE => ?_)
  repeat' (first | exact trivial | refine BS.d (fun h => ?_) (fun h => ?_) | refine BS.e (fun h => ?_) (fun h => ?_) | refine BS.ne (fun h => ?_) (fun h => ?_) | refine BS.n ?_ | refine BS.s (fun h => ?_) (fun h => ?_) | refine And.intro ?_ ?_ | (refine Need.mk ?_; first | with_reducible rfl | (show @Eq TC _ _; rfl) | omega | (simp only [adN_zero]; omega)) | exact OutS.whole rfl rfl | refine ListO.go gOk hE ?_)
  all_goals (refine Need.mk ?_; first | rfl | (symm; apply decide_eq_true; omega) | (symm; apply decide_eq_false; omega) | (apply decide_eq_decide.2; omega) | (simp only [beq_iff_eq, Bool.beq_eq_decide_eq] at *; apply decide_eq_decide.2; omega) | (simp; omega))
abbrev aN3 (k v x : Int) : TAg := .agg [.c (.lit (.int .i64 k)), .c (.lit (.int .i64 v)), .c (.lit (.int .i64 x))]
def ndK (k v x : Int) : Bool := (decide (0 ≤ k ∧ k ≤ 99) && decide (0 ≤ v ∧ v ≤ 65535)) && (decide (x = 0) || hOk x)
theorem ndK_bd {k v x : Int} (h : ndK k v x = true) : (0 ≤ k ∧ k ≤ 99) ∧ (0 ≤ v ∧ v ≤ 65535) ∧ 0 ≤ x ∧ x < 4294967296 := by
  unfold ndK at h
  rw [Bool.and_eq_true, Bool.and_eq_true] at h
  exact ⟨of_decide_eq_true h.1.1, of_decide_eq_true h.1.2, hs_bd h.2⟩
theorem NodeOkSN_run (k v x : Int) : RunT Tryz.prog 58 [aN3 k v x] [] [ob (ndK k v x)] [] := by
  have c1 := l1InB_run k 0 99
  have c2 := l1InB_run v 0 65535
  have c3 := l15SomeN_run x
  unfold ndK
  generalize (decide (x = 0) || hOk x) = q at *
  by_cases h1 : 0 ≤ k ∧ k ≤ 99
  all_goals by_cases h2 : 0 ≤ v ∧ v ≤ 65535
  all_goals (simp only [h1, h2, and_true, decide_true, decide_false, Bool.and_true, Bool.and_false, Bool.true_and, Bool.false_and] at *)
  all_goals (refine RunT.of_vc gOk Tryz.func58 rfl rfl (Nat.le_of_ble_eq_true rfl) (by repeat' (first | exact trivial | exact ⟨_, rfl, Nat.le_refl _⟩ | exact Nat.le_of_ble_eq_true rfl | refine And.intro ?_ ?_)) (Nat.le_of_ble_eq_true rfl) rfl (fun F hE => ?_))
  all_goals (repeat' (first | exact trivial | refine BS.d (fun h => ?_) (fun h => ?_) | refine BS.e (fun h => ?_) (fun h => ?_) | refine BS.ne (fun h => ?_) (fun h => ?_) | refine BS.n ?_ | refine BS.s (fun h => ?_) (fun h => ?_) | refine And.intro ?_ ?_ | (refine Need.mk ?_; first | with_reducible rfl | (show @Eq TC _ _; rfl) | omega | (simp only [adN_zero]; omega)) | exact OutS.whole rfl rfl | (refine OpK.call c1 rfl rfl rfl rfl hE ?_ rfl rfl ?_; focus ((repeat' (first | exact PsA.lit _ | exact PsA.ref rfl rfl | constructor)); all_goals (fail "ps"))) | (refine OpK.call c2 rfl rfl rfl rfl hE ?_ rfl rfl ?_; focus ((repeat' (first | exact PsA.lit _ | exact PsA.ref rfl rfl | constructor)); all_goals (fail "ps"))) | (refine OpK.call c3 rfl rfl rfl rfl hE ?_ rfl rfl ?_; focus ((repeat' (first | exact PsA.lit _ | exact PsA.ref rfl rfl | constructor)); all_goals (fail "ps"))) | refine ListO.go gOk hE ?_))
  all_goals first | exact Need.mk rfl | (exfalso; omega) | (exfalso; simp_all; done) | (refine Need.mk ?_; simp_all; done) | trace_state
theorem NodeOkIN_run (k v x : Int) (hx : x ≤ 9223372036854775807) : RunT Tryz.prog 63 [aN3 k v x] [] [ob (ndK k v x)] [] := by
  have c1 := keyOkN_run k
  have c2 := valOkN_run v
  have c3 := handleOrNone_run x hx
  unfold ndK
  generalize (decide (x = 0) || hOk x) = q at *
  by_cases h1 : 0 ≤ k ∧ k ≤ 99
  all_goals by_cases h2 : 0 ≤ v ∧ v ≤ 65535
  all_goals (simp only [h1, h2, and_true, decide_true, decide_false, Bool.and_true, Bool.and_false, Bool.true_and, Bool.false_and] at *)
  all_goals (refine RunT.of_vc gOk Tryz.func63 rfl rfl (Nat.le_of_ble_eq_true rfl) (by repeat' (first | exact trivial | exact ⟨_, rfl, Nat.le_refl _⟩ | exact Nat.le_of_ble_eq_true rfl | refine And.intro ?_ ?_)) (Nat.le_of_ble_eq_true rfl) rfl (fun F hE => ?_))
  all_goals (repeat' (first | exact trivial | refine BS.d (fun h => ?_) (fun h => ?_) | refine BS.e (fun h => ?_) (fun h => ?_) | refine BS.ne (fun h => ?_) (fun h => ?_) | refine BS.n ?_ | refine BS.s (fun h => ?_) (fun h => ?_) | refine And.intro ?_ ?_ | (refine Need.mk ?_; first | with_reducible rfl | (show @Eq TC _ _; rfl) | omega | (simp only [adN_zero]; omega)) | exact OutS.whole rfl rfl | (refine OpK.call c1 rfl rfl rfl rfl hE ?_ rfl rfl ?_; focus ((repeat' (first | exact PsA.lit _ | exact PsA.ref rfl rfl | constructor)); all_goals (fail "ps"))) | (refine OpK.call c2 rfl rfl rfl rfl hE ?_ rfl rfl ?_; focus ((repeat' (first | exact PsA.lit _ | exact PsA.ref rfl rfl | constructor)); all_goals (fail "ps"))) | (refine OpK.call c3 rfl rfl rfl rfl hE ?_ rfl rfl ?_; focus ((repeat' (first | exact PsA.lit _ | exact PsA.ref rfl rfl | constructor)); all_goals (fail "ps"))) | refine ListO.go gOk hE ?_))
  all_goals first | exact Need.mk rfl | (exfalso; omega) | (exfalso; simp_all; done) | (refine Need.mk ?_; simp_all; done) | trace_state
theorem fxOk_two {n : Int} (h : 0 ≤ n ∧ n < 65536) : fxOk n 2 = true := by
  unfold fxOk
  apply decide_eq_true
  refine ⟨by decide, by decide, h.1, ?_⟩
  show n < 256 ^ (2 : Int).toNat
  have : (256 : Int) ^ (2 : Int).toNat = 65536 := by decide
  omega
def pdL (b : List Int) (p : Nat) (k v x : Int) : List Int := putL (putL (putL b p (fxd 2 k) 2) (p + 2) (fxd 4 v) 4) (p + 6) (fxd 4 x) 4
theorem pdL_len (b : List Int) (p : Nat) (k v x : Int) : (pdL b p k v x).length = b.length := by unfold pdL; rw [putL_len, putL_len, putL_len]
theorem l19Put_run (e e' : Nat) (b c : List Int) (g o : List (List Int)) (p : Nat) (k v x : Int) (hb : b.length ≤ 4000000) (hp : p + 10 ≤ b.length) (hn : ndK k v x = true) :
    RunT Tryz.prog 61 [.agg [.m (tI b), .m (tI c), .m (tSL e g), .m (tSL e' o)], ti p, aN3 k v x] [] [.agg [tI (pdL b p k v x), tI c, tSL e g, tSL e' o]] [] := by
  obtain ⟨h1, h2, h3⟩ := ndK_bd hn
  have c1 := l3Store_run b p 2 k (by omega) (by omega) (by omega) (by omega) (by omega)
  have l1 := putL_len b p (fxd 2 k) 2
  have hpd : pdL b p k v x = putL (putL (putL b p (fxd 2 k) 2) (p + 2) (fxd 4 v) 4) (p + 6) (fxd 4 x) 4 := rfl
  rw [hpd]
  generalize putL b p (fxd 2 k) 2 = b1 at *
  have c2 := l3Store_run b1 (p + 2) 4 v (by omega) (by omega) (by omega) (by omega) (by omega)
  have l2 := putL_len b1 (p + 2) (fxd 4 v) 4
  generalize putL b1 (p + 2) (fxd 4 v) 4 = b2 at *
  have c3 := l3Store_run b2 (p + 6) 4 x (by omega) (by omega) (by omega) (by omega) (by omega)
  have l3 := putL_len b2 (p + 6) (fxd 4 x) 4
  generalize putL b2 (p + 6) (fxd 4 x) 4 = b3 at *
  rw [show (((p + 2 : Nat) : Int)) = (p : Int) + 2 by omega] at c2
  rw [show (((p + 6 : Nat) : Int)) = (p : Int) + 6 by omega] at c3
  refine RunT.of_vc gOk Tryz.func61 rfl rfl (Nat.le_of_ble_eq_true rfl) (by repeat' (first | exact trivial | exact ⟨_, rfl, Nat.le_refl _⟩ | exact Nat.le_of_ble_eq_true rfl | refine And.intro ?_ ?_)) (Nat.le_of_ble_eq_true rfl) rfl (fun F hE => ?_)
  repeat' (first | exact trivial | refine BS.d (fun h => ?_) (fun h => ?_) | refine BS.e (fun h => ?_) (fun h => ?_) | refine BS.ne (fun h => ?_) (fun h => ?_) | refine BS.n ?_ | refine BS.s (fun h => ?_) (fun h => ?_) | refine And.intro ?_ ?_ | (refine Need.mk ?_; first | with_reducible rfl | (show @Eq TC _ _; rfl) | omega | (simp only [adN_zero]; omega)) | exact OutS.whole rfl rfl | (refine OpK.callM 1000000 0 0 c1 rfl rfl rfl rfl hE rfl (QsVs.cons (.one (.m rfl rfl (.whole rfl rfl))) (.cons (.one (.c (.lit _) rfl)) (.cons (.one (.c (.lit _) rfl)) (.cons (.one (.c (.lit _) rfl)) .nil)))) rfl rfl ?_) | (refine OpK.callM 2001664 0 0 c2 rfl rfl rfl rfl hE rfl (QsVs.cons (.one (.m rfl rfl (.whole rfl rfl))) (.cons (.one (.c (.lit _) rfl)) (.cons (.one (.c (.lit _) rfl)) (.cons (.one (.c (.lit _) rfl)) .nil)))) rfl rfl ?_) | (refine OpK.callM 2002944 0 0 c3 rfl rfl rfl rfl hE rfl (QsVs.cons (.one (.m rfl rfl (.whole rfl rfl))) (.cons (.one (.c (.lit _) rfl)) (.cons (.one (.c (.lit _) rfl)) (.cons (.one (.c (.lit _) rfl)) .nil)))) rfl rfl ?_) | refine ListO.go gOk hE ?_)
  all_goals first | exact Need.mk rfl | exact OutS.whole rfl rfl | (exfalso; omega) | trace_state
end Go.Proofs.YtpmhkpmkmbkjbaaGreatDoor
end

section
/- NodePut, both packages. -/
namespace Go.Proofs.YtpmhkpmkmbkjbaaGreatDoor
open Go Go.Tr
set_option maxRecDepth 100000
set_option maxHeartbeats 4000000
set_option linter.unusedVariables false
set_option linter.unusedSimpArgs false
noncomputable def npC (b c : List Int) (g o : List (List Int)) (x k v n : Int) : Int := if dcB (mmP b c g o) = true ∧ ndK k v n = true then (nsX b c g o x).2 else 1
noncomputable def npL (b c : List Int) (g o : List (List Int)) (x k v n : Int) : List Int := if npC b c g o x k v n = 0 then pdL b (nsX b c g o x).1.toNat k v n else b
theorem npL_len (b c : List Int) (g o : List (List Int)) (x k v n : Int) : (npL b c g o x k v n).length = b.length := by
  unfold npL
  split
  · exact pdL_len _ _ _ _ _
  · rfl
theorem NodePutI_run (e : Nat) (b c : List Int) (g o : List (List Int)) (x k v n : Int) (h : MmT b c g o) (hx : x ≤ 9223372036854775807) (hn : n ≤ 9223372036854775807) : RunH Tryz.prog hT 20 [aMm e b c g o, ti x, aN3 k v n] [] [.agg [tI (npL b c g o x k v n), tI c, tSL 136 g, tSL 136 o], oi (npC b c g o x k v n)] [] := by
  have c1 := copyMem_run e b c g o h.ok
  have c2 := h.I e
  have c3 := NodeOkIN_run k v n hn
  have hbd := @ndK_bd k v n
  unfold npL npC
  generalize hs9 : ndK k v n = hs at *
  by_cases hm : mmP b c g o
  · rw [dcB_true hm] at c2 ⊢
    have c4 := nodeToSet_run e b c g o x h hm.1 hx
    have hok := @nsX_ok b c g o x
    cases hs with
    | true =>
      simp only [true_and, if_true]
      by_cases hq : (nsX b c g o x).2 = 0
      · obtain ⟨_, _, h0, h1⟩ := hok hq
        rw [if_pos hq]
        rw [hq] at c4 ⊢
        have hbl := hm.1.1.1
        obtain ⟨p, hp⟩ := Int.eq_ofNat_of_zero_le h0
        rw [hp] at c4 h1 ⊢
        obtain ⟨d1, d2, d3⟩ := hbd rfl
        rw [Int.toNat_natCast]
        have c5 := putNum_run 3 b p 2 k (by omega) (by omega) (by omega) (fxOk_two (by omega)) (by omega) (by omega)
        have l1 := putL_len b p (fxd 2 k) 2
        have hpd : pdL b p k v n = putL (putL (putL b p (fxd 2 k) 2) (p + 2) (fxd 4 v) 4) (p + 6) (fxd 4 n) 4 := rfl
        rw [hpd]
        generalize putL b p (fxd 2 k) 2 = b1 at *
        have c6 := putNum_run 3 b1 (p + 2) 4 v (by omega) (by omega) (by omega) (fxOk_four (by omega)) (by omega) (by omega)
        have l2 := putL_len b1 (p + 2) (fxd 4 v) 4
        generalize putL b1 (p + 2) (fxd 4 v) 4 = b2 at *
        have c7 := putNum_run 3 b2 (p + 6) 4 n (by omega) (by omega) (by omega) (fxOk_four d3) (by omega) (by omega)
        have l3 := putL_len b2 (p + 6) (fxd 4 n) 4
        generalize putL b2 (p + 6) (fxd 4 n) 4 = b3 at *
        rw [show (((p + 2 : Nat) : Int)) = (p : Int) + 2 by omega, l1] at c6
        rw [show (((p + 6 : Nat) : Int)) = (p : Int) + 6 by omega, l2, l1] at c7
        refine RunH.of_vc gOk Tryz.func20 rfl rfl (Nat.le_of_ble_eq_true rfl) (by repeat' (first | exact trivial | exact ⟨_, rfl, Nat.le_refl _⟩ | exact Nat.le_of_ble_eq_true rfl | refine And.intro ?_ ?_)) (Nat.le_of_ble_eq_true rfl) rfl (fun F hE hA => ?_)
        repeat' (first | exact trivial | refine BS.d (fun h => ?_) (fun h => ?_) | refine BS.e (fun h => ?_) (fun h => ?_) | refine BS.ne (fun h => ?_) (fun h => ?_) | refine BS.n ?_ | refine BS.s (fun h => ?_) (fun h => ?_) | refine And.intro ?_ ?_ | (refine Need.mk ?_; first | with_reducible rfl | (show @Eq TC _ _; rfl) | omega | (simp only [adN_zero]; omega)) | exact OutS.whole rfl rfl | (refine OpK.call c1 rfl rfl rfl rfl hE ?_ rfl rfl ?_; focus ((repeat' (first | exact PsA.lit _ | exact PsA.ref rfl rfl | constructor)); all_goals (fail "ps"))) | (refine OpK.callH c2 hA rfl rfl rfl rfl hE ?_ rfl rfl ?_; focus ((repeat' (first | exact PsA.lit _ | exact PsA.ref rfl rfl | constructor)); all_goals (fail "ps"))) | (refine OpK.call c3 rfl rfl rfl rfl hE ?_ rfl rfl ?_; focus ((repeat' (first | exact PsA.lit _ | exact PsA.ref rfl rfl | constructor)); all_goals (fail "ps"))) | (refine OpK.callH c4 hA rfl rfl rfl rfl hE ?_ rfl rfl ?_; focus ((repeat' (first | exact PsA.lit _ | exact PsA.ref rfl rfl | constructor)); all_goals (fail "ps"))) | (refine OpK.callB (bInt 3 2001536 b b1) c5 rfl rfl rfl rfl hE (BtOk.sl rfl l1) rfl (QsVs.cons (.one (.h rfl rfl rfl)) (.cons (.one (.c (.lit _) rfl)) (.cons (.one (.c (.lit _) rfl)) (.cons (.one (.c (.lit _) rfl)) .nil)))) rfl rfl ?_) | (refine OpK.callB (bInt 3 2001536 b1 b2) c6 rfl rfl rfl rfl hE (BtOk.sl rfl l2) rfl (QsVs.cons (.one (.h rfl rfl rfl)) (.cons (.one (.c (.lit _) rfl)) (.cons (.one (.c (.lit _) rfl)) (.cons (.one (.c (.lit _) rfl)) .nil)))) rfl rfl ?_) | (refine OpK.callB (bInt 3 2001536 b2 b3) c7 rfl rfl rfl rfl hE (BtOk.sl rfl l3) rfl (QsVs.cons (.one (.h rfl rfl rfl)) (.cons (.one (.c (.lit _) rfl)) (.cons (.one (.c (.lit _) rfl)) (.cons (.one (.c (.lit _) rfl)) .nil)))) rfl rfl ?_) | refine ListO.go gOk hE ?_)
        all_goals first | exact Need.mk rfl | exact OutS.whole rfl rfl | exact OutS.whole (by omega) rfl | (exfalso; omega) | trace_state
      · rw [if_neg hq]
        generalize nsX b c g o x = r at *
        obtain ⟨r1, r2⟩ := r
        dsimp only at *
        refine RunH.of_vc gOk Tryz.func20 rfl rfl (Nat.le_of_ble_eq_true rfl) (by repeat' (first | exact trivial | exact ⟨_, rfl, Nat.le_refl _⟩ | exact Nat.le_of_ble_eq_true rfl | refine And.intro ?_ ?_)) (Nat.le_of_ble_eq_true rfl) rfl (fun F hE hA => ?_)
        repeat' (first | exact trivial | refine BS.d (fun h => ?_) (fun h => ?_) | refine BS.e (fun h => ?_) (fun h => ?_) | refine BS.ne (fun h => ?_) (fun h => ?_) | refine BS.n ?_ | refine BS.s (fun h => ?_) (fun h => ?_) | refine And.intro ?_ ?_ | (refine Need.mk ?_; first | with_reducible rfl | (show @Eq TC _ _; rfl) | omega | (simp only [adN_zero]; omega)) | exact OutS.whole rfl rfl | (refine OpK.call c1 rfl rfl rfl rfl hE ?_ rfl rfl ?_; focus ((repeat' (first | exact PsA.lit _ | exact PsA.ref rfl rfl | constructor)); all_goals (fail "ps"))) | (refine OpK.callH c2 hA rfl rfl rfl rfl hE ?_ rfl rfl ?_; focus ((repeat' (first | exact PsA.lit _ | exact PsA.ref rfl rfl | constructor)); all_goals (fail "ps"))) | (refine OpK.call c3 rfl rfl rfl rfl hE ?_ rfl rfl ?_; focus ((repeat' (first | exact PsA.lit _ | exact PsA.ref rfl rfl | constructor)); all_goals (fail "ps"))) | (refine OpK.callH c4 hA rfl rfl rfl rfl hE ?_ rfl rfl ?_; focus ((repeat' (first | exact PsA.lit _ | exact PsA.ref rfl rfl | constructor)); all_goals (fail "ps"))) | refine ListO.go gOk hE ?_)
        all_goals first | exact Need.mk rfl | exact OutS.whole rfl rfl | (exfalso; omega) | (exfalso; simp_all; done) | trace_state
    | false =>
      simp only [Bool.false_eq_true, and_false, if_false]
      rw [if_neg (by decide)]
      refine RunH.of_vc gOk Tryz.func20 rfl rfl (Nat.le_of_ble_eq_true rfl) (by repeat' (first | exact trivial | exact ⟨_, rfl, Nat.le_refl _⟩ | exact Nat.le_of_ble_eq_true rfl | refine And.intro ?_ ?_)) (Nat.le_of_ble_eq_true rfl) rfl (fun F hE hA => ?_)
      repeat' (first | exact trivial | refine BS.d (fun h => ?_) (fun h => ?_) | refine BS.e (fun h => ?_) (fun h => ?_) | refine BS.ne (fun h => ?_) (fun h => ?_) | refine BS.n ?_ | refine BS.s (fun h => ?_) (fun h => ?_) | refine And.intro ?_ ?_ | (refine Need.mk ?_; first | with_reducible rfl | (show @Eq TC _ _; rfl) | omega | (simp only [adN_zero]; omega)) | exact OutS.whole rfl rfl | (refine OpK.call c1 rfl rfl rfl rfl hE ?_ rfl rfl ?_; focus ((repeat' (first | exact PsA.lit _ | exact PsA.ref rfl rfl | constructor)); all_goals (fail "ps"))) | (refine OpK.callH c2 hA rfl rfl rfl rfl hE ?_ rfl rfl ?_; focus ((repeat' (first | exact PsA.lit _ | exact PsA.ref rfl rfl | constructor)); all_goals (fail "ps"))) | (refine OpK.call c3 rfl rfl rfl rfl hE ?_ rfl rfl ?_; focus ((repeat' (first | exact PsA.lit _ | exact PsA.ref rfl rfl | constructor)); all_goals (fail "ps"))) | refine ListO.go gOk hE ?_)
      all_goals first | exact Need.mk rfl | exact OutS.whole rfl rfl | (exfalso; omega) | trace_state
  · rw [dcB_false hm] at c2 ⊢
    simp only [Bool.false_eq_true, false_and, if_false]
    rw [if_neg (by decide)]
    refine RunH.of_vc gOk Tryz.func20 rfl rfl (Nat.le_of_ble_eq_true rfl) (by repeat' (first | exact trivial | exact ⟨_, rfl, Nat.le_refl _⟩ | exact Nat.le_of_ble_eq_true rfl | refine And.intro ?_ ?_)) (Nat.le_of_ble_eq_true rfl) rfl (fun F hE hA => ?_)
    repeat' (first | exact trivial | refine BS.d (fun h => ?_) (fun h => ?_) | refine BS.e (fun h => ?_) (fun h => ?_) | refine BS.ne (fun h => ?_) (fun h => ?_) | refine BS.n ?_ | refine BS.s (fun h => ?_) (fun h => ?_) | refine And.intro ?_ ?_ | (refine Need.mk ?_; first | with_reducible rfl | (show @Eq TC _ _; rfl) | omega | (simp only [adN_zero]; omega)) | exact OutS.whole rfl rfl | (refine OpK.call c1 rfl rfl rfl rfl hE ?_ rfl rfl ?_; focus ((repeat' (first | exact PsA.lit _ | exact PsA.ref rfl rfl | constructor)); all_goals (fail "ps"))) | (refine OpK.callH c2 hA rfl rfl rfl rfl hE ?_ rfl rfl ?_; focus ((repeat' (first | exact PsA.lit _ | exact PsA.ref rfl rfl | constructor)); all_goals (fail "ps"))) | (refine OpK.call c3 rfl rfl rfl rfl hE ?_ rfl rfl ?_; focus ((repeat' (first | exact PsA.lit _ | exact PsA.ref rfl rfl | constructor)); all_goals (fail "ps"))) | refine ListO.go gOk hE ?_)
    all_goals first | exact Need.mk rfl | exact OutS.whole rfl rfl | (exfalso; omega) | trace_state
theorem NodePutS_run (e : Nat) (b c : List Int) (g o : List (List Int)) (x k v n : Int) (h : MmT b c g o) (hn : n ≤ 9223372036854775807) : RunT Tryz.prog 18 [aMm e b c g o, ti x, aN3 k v n] [] [.agg [tI (npL b c g o x k v n), tI c, tSL 136 g, tSL 136 o], oi (npC b c g o x k v n)] [] := by
  refine RunH.toT ?_
  have c1 := l9Copy_run e b c g o h.ok
  have c2 := h.S e
  have c3 := NodeOkSN_run k v n
  unfold npL npC
  generalize hs9 : ndK k v n = hs at *
  by_cases hm : mmP b c g o
  · rw [dcB_true hm] at c2 ⊢
    have c4 := l9Valid_run e b c g o x h hm.1
    have c6 := l19Spot_run e b c g o x hm.1.1.2.1
    have hok := @nsX_ok b c g o x
    cases hs with
    | true =>
      simp only [true_and, if_true]
      by_cases hq : (nsX b c g o x).2 = 0
      · obtain ⟨hv, he, h0, h1⟩ := hok hq
        rw [if_pos hq]
        rw [← he] at c6
        rw [hv] at c4
        rw [hq] at c6 ⊢
        have hbl := hm.1.1.1
        obtain ⟨p, hp⟩ := Int.eq_ofNat_of_zero_le h0
        rw [hp] at c6 h1 ⊢
        rw [Int.toNat_natCast]
        have c5 := (l19Put_run 136 136 b c g o p k v n (by omega) (by omega) hs9).toH hc0
        have hpl := pdL_len b p k v n
        generalize pdL b p k v n = nb at *
        refine RunH.of_vc gOk Tryz.func18 rfl rfl (Nat.le_of_ble_eq_true rfl) (by repeat' (first | exact trivial | exact ⟨_, rfl, Nat.le_refl _⟩ | exact Nat.le_of_ble_eq_true rfl | refine And.intro ?_ ?_)) (Nat.le_of_ble_eq_true rfl) rfl (fun F hE hA => ?_)
        repeat' (first | exact trivial | refine BS.d (fun h => ?_) (fun h => ?_) | refine BS.e (fun h => ?_) (fun h => ?_) | refine BS.ne (fun h => ?_) (fun h => ?_) | refine BS.n ?_ | refine BS.s (fun h => ?_) (fun h => ?_) | refine And.intro ?_ ?_ | (refine Need.mk ?_; first | with_reducible rfl | (show @Eq TC _ _; rfl) | omega | (simp only [adN_zero]; omega)) | exact OutS.whole rfl rfl | (refine OpK.call c1 rfl rfl rfl rfl hE ?_ rfl rfl ?_; focus ((repeat' (first | exact PsA.lit _ | exact PsA.ref rfl rfl | constructor)); all_goals (fail "ps"))) | (refine OpK.call c2 rfl rfl rfl rfl hE ?_ rfl rfl ?_; focus ((repeat' (first | exact PsA.lit _ | exact PsA.ref rfl rfl | constructor)); all_goals (fail "ps"))) | (refine OpK.call c3 rfl rfl rfl rfl hE ?_ rfl rfl ?_; focus ((repeat' (first | exact PsA.lit _ | exact PsA.ref rfl rfl | constructor)); all_goals (fail "ps"))) | (refine OpK.call c4 rfl rfl rfl rfl hE ?_ rfl rfl ?_; focus ((repeat' (first | exact PsA.lit _ | exact PsA.ref rfl rfl | constructor)); all_goals (fail "ps"))) | (refine OpK.call c6 rfl rfl rfl rfl hE ?_ rfl rfl ?_; focus ((repeat' (first | exact PsA.lit _ | exact PsA.ref rfl rfl | constructor)); all_goals (fail "ps"))) | (refine OpK.callG [] [(2001536, 0, 0), (2001537, 0, 1), (2001538, 0, 2), (2001539, 0, 3)] c5 hA rfl rfl rfl rfl hE (List.forall_mem_cons.2 ⟨rfl, List.forall_mem_cons.2 ⟨rfl, List.forall_mem_cons.2 ⟨rfl, List.forall_mem_cons.2 ⟨rfl, fun _ h => nomatch h⟩⟩⟩⟩) (fun _ h => nomatch h) (fun _ h => nomatch h) List.nodup_nil (QsVs.cons (.agg (.cons (.m rfl rfl (.whole rfl rfl)) (.cons (.m rfl rfl (.whole rfl rfl)) (.cons (.m rfl rfl (.whole rfl rfl)) (.cons (.m rfl rfl (.whole rfl rfl)) .nil))))) (.cons (.one (.c (.lit _) rfl)) (.cons (.agg (.cons (.c (.lit _) rfl) (.cons (.c (.lit _) rfl) (.cons (.c (.lit _) rfl) .nil)))) .nil))) rfl rfl ?_) | refine ListO.go gOk hE ?_)
        all_goals first | exact Need.mk rfl | exact OutS.whole rfl rfl | exact OutS.whole hpl.symm rfl | (exfalso; omega) | trace_state
      · rw [if_neg hq]
        unfold nsX at hq ⊢
        cases hv : vlB b c g o x with
        | true =>
          rw [hv] at c4 hq
          rw [if_pos rfl] at hq ⊢
          generalize ndX c x = r at *
          obtain ⟨r1, r2⟩ := r
          dsimp only at *
          refine RunH.of_vc gOk Tryz.func18 rfl rfl (Nat.le_of_ble_eq_true rfl) (by repeat' (first | exact trivial | exact ⟨_, rfl, Nat.le_refl _⟩ | exact Nat.le_of_ble_eq_true rfl | refine And.intro ?_ ?_)) (Nat.le_of_ble_eq_true rfl) rfl (fun F hE hA => ?_)
          repeat' (first | exact trivial | refine BS.d (fun h => ?_) (fun h => ?_) | refine BS.e (fun h => ?_) (fun h => ?_) | refine BS.ne (fun h => ?_) (fun h => ?_) | refine BS.n ?_ | refine BS.s (fun h => ?_) (fun h => ?_) | refine And.intro ?_ ?_ | (refine Need.mk ?_; first | with_reducible rfl | (show @Eq TC _ _; rfl) | omega | (simp only [adN_zero]; omega)) | exact OutS.whole rfl rfl | (refine OpK.call c1 rfl rfl rfl rfl hE ?_ rfl rfl ?_; focus ((repeat' (first | exact PsA.lit _ | exact PsA.ref rfl rfl | constructor)); all_goals (fail "ps"))) | (refine OpK.call c2 rfl rfl rfl rfl hE ?_ rfl rfl ?_; focus ((repeat' (first | exact PsA.lit _ | exact PsA.ref rfl rfl | constructor)); all_goals (fail "ps"))) | (refine OpK.call c3 rfl rfl rfl rfl hE ?_ rfl rfl ?_; focus ((repeat' (first | exact PsA.lit _ | exact PsA.ref rfl rfl | constructor)); all_goals (fail "ps"))) | (refine OpK.call c4 rfl rfl rfl rfl hE ?_ rfl rfl ?_; focus ((repeat' (first | exact PsA.lit _ | exact PsA.ref rfl rfl | constructor)); all_goals (fail "ps"))) | (refine OpK.call c6 rfl rfl rfl rfl hE ?_ rfl rfl ?_; focus ((repeat' (first | exact PsA.lit _ | exact PsA.ref rfl rfl | constructor)); all_goals (fail "ps"))) | refine ListO.go gOk hE ?_)
          all_goals first | exact Need.mk rfl | exact OutS.whole rfl rfl | (exfalso; omega) | (exfalso; simp_all; done) | trace_state
        | false =>
          rw [hv] at c4
          rw [if_neg (by decide)]
          refine RunH.of_vc gOk Tryz.func18 rfl rfl (Nat.le_of_ble_eq_true rfl) (by repeat' (first | exact trivial | exact ⟨_, rfl, Nat.le_refl _⟩ | exact Nat.le_of_ble_eq_true rfl | refine And.intro ?_ ?_)) (Nat.le_of_ble_eq_true rfl) rfl (fun F hE hA => ?_)
          repeat' (first | exact trivial | refine BS.d (fun h => ?_) (fun h => ?_) | refine BS.e (fun h => ?_) (fun h => ?_) | refine BS.ne (fun h => ?_) (fun h => ?_) | refine BS.n ?_ | refine BS.s (fun h => ?_) (fun h => ?_) | refine And.intro ?_ ?_ | (refine Need.mk ?_; first | with_reducible rfl | (show @Eq TC _ _; rfl) | omega | (simp only [adN_zero]; omega)) | exact OutS.whole rfl rfl | (refine OpK.call c1 rfl rfl rfl rfl hE ?_ rfl rfl ?_; focus ((repeat' (first | exact PsA.lit _ | exact PsA.ref rfl rfl | constructor)); all_goals (fail "ps"))) | (refine OpK.call c2 rfl rfl rfl rfl hE ?_ rfl rfl ?_; focus ((repeat' (first | exact PsA.lit _ | exact PsA.ref rfl rfl | constructor)); all_goals (fail "ps"))) | (refine OpK.call c3 rfl rfl rfl rfl hE ?_ rfl rfl ?_; focus ((repeat' (first | exact PsA.lit _ | exact PsA.ref rfl rfl | constructor)); all_goals (fail "ps"))) | (refine OpK.call c4 rfl rfl rfl rfl hE ?_ rfl rfl ?_; focus ((repeat' (first | exact PsA.lit _ | exact PsA.ref rfl rfl | constructor)); all_goals (fail "ps"))) | refine ListO.go gOk hE ?_)
          all_goals first | exact Need.mk rfl | exact OutS.whole rfl rfl | (exfalso; omega) | trace_state
    | false =>
      simp only [Bool.false_eq_true, and_false, if_false]
      rw [if_neg (by decide)]
      refine RunH.of_vc gOk Tryz.func18 rfl rfl (Nat.le_of_ble_eq_true rfl) (by repeat' (first | exact trivial | exact ⟨_, rfl, Nat.le_refl _⟩ | exact Nat.le_of_ble_eq_true rfl | refine And.intro ?_ ?_)) (Nat.le_of_ble_eq_true rfl) rfl (fun F hE hA => ?_)
      repeat' (first | exact trivial | refine BS.d (fun h => ?_) (fun h => ?_) | refine BS.e (fun h => ?_) (fun h => ?_) | refine BS.ne (fun h => ?_) (fun h => ?_) | refine BS.n ?_ | refine BS.s (fun h => ?_) (fun h => ?_) | refine And.intro ?_ ?_ | (refine Need.mk ?_; first | with_reducible rfl | (show @Eq TC _ _; rfl) | omega | (simp only [adN_zero]; omega)) | exact OutS.whole rfl rfl | (refine OpK.call c1 rfl rfl rfl rfl hE ?_ rfl rfl ?_; focus ((repeat' (first | exact PsA.lit _ | exact PsA.ref rfl rfl | constructor)); all_goals (fail "ps"))) | (refine OpK.call c2 rfl rfl rfl rfl hE ?_ rfl rfl ?_; focus ((repeat' (first | exact PsA.lit _ | exact PsA.ref rfl rfl | constructor)); all_goals (fail "ps"))) | (refine OpK.call c3 rfl rfl rfl rfl hE ?_ rfl rfl ?_; focus ((repeat' (first | exact PsA.lit _ | exact PsA.ref rfl rfl | constructor)); all_goals (fail "ps"))) | refine ListO.go gOk hE ?_)
      all_goals first | exact Need.mk rfl | exact OutS.whole rfl rfl | (exfalso; omega) | trace_state
  · rw [dcB_false hm] at c2 ⊢
    simp only [Bool.false_eq_true, false_and, if_false]
    rw [if_neg (by decide)]
    refine RunH.of_vc gOk Tryz.func18 rfl rfl (Nat.le_of_ble_eq_true rfl) (by repeat' (first | exact trivial | exact ⟨_, rfl, Nat.le_refl _⟩ | exact Nat.le_of_ble_eq_true rfl | refine And.intro ?_ ?_)) (Nat.le_of_ble_eq_true rfl) rfl (fun F hE hA => ?_)
    repeat' (first | exact trivial | refine BS.d (fun h => ?_) (fun h => ?_) | refine BS.e (fun h => ?_) (fun h => ?_) | refine BS.ne (fun h => ?_) (fun h => ?_) | refine BS.n ?_ | refine BS.s (fun h => ?_) (fun h => ?_) | refine And.intro ?_ ?_ | (refine Need.mk ?_; first | with_reducible rfl | (show @Eq TC _ _; rfl) | omega | (simp only [adN_zero]; omega)) | exact OutS.whole rfl rfl | (refine OpK.call c1 rfl rfl rfl rfl hE ?_ rfl rfl ?_; focus ((repeat' (first | exact PsA.lit _ | exact PsA.ref rfl rfl | constructor)); all_goals (fail "ps"))) | (refine OpK.call c2 rfl rfl rfl rfl hE ?_ rfl rfl ?_; focus ((repeat' (first | exact PsA.lit _ | exact PsA.ref rfl rfl | constructor)); all_goals (fail "ps"))) | (refine OpK.call c3 rfl rfl rfl rfl hE ?_ rfl rfl ?_; focus ((repeat' (first | exact PsA.lit _ | exact PsA.ref rfl rfl | constructor)); all_goals (fail "ps"))) | refine ListO.go gOk hE ?_)
    all_goals first | exact Need.mk rfl | exact OutS.whole rfl rfl | (exfalso; omega) | trace_state
end Go.Proofs.YtpmhkpmkmbkjbaaGreatDoor
end

section
/- Two equal answers of NodePut, in fresh memory: the law. -/
namespace Go.Proofs.YtpmhkpmkmbkjbaaGreatDoor
open Go Go.Tr
set_option maxRecDepth 100000
set_option maxHeartbeats 40000000
set_option linter.unusedVariables false
set_option linter.unusedSimpArgs false
theorem szM_bc {b c : List Int} {g o : List (List Int)} {m : Int} (h0 : 0 ≤ m) (h : ¬ szM b c g o m < 0) : b.length + c.length ≤ m := by
  unfold szM at h
  split at h
  · omega
  · rename_i hh
    unfold szH at hh
    unfold szI at hh
    split at hh <;> (try split at hh) <;> omega
theorem toNodeN_run (k v x : Int) : RunT Tryz.prog 19 [aN3 k v x] [] [.agg [.lit (.int .i64 k), .lit (.int .i64 v), .lit (.int .i64 x)]] [] := by
  refine RunT.of_vc gOk Tryz.func19 rfl rfl (Nat.le_of_ble_eq_true rfl) (by repeat' (first | exact trivial | exact ⟨_, rfl, Nat.le_refl _⟩ | exact Nat.le_of_ble_eq_true rfl | refine And.intro ?_ ?_)) (Nat.le_of_ble_eq_true rfl) rfl (fun F hE => ?_)
  repeat' (first | exact trivial | refine BS.d (fun h => ?_) (fun h => ?_) | refine BS.e (fun h => ?_) (fun h => ?_) | refine BS.ne (fun h => ?_) (fun h => ?_) | refine BS.n ?_ | refine BS.s (fun h => ?_) (fun h => ?_) | refine And.intro ?_ ?_ | (refine Need.mk ?_; first | with_reducible rfl | (show @Eq TC _ _; rfl) | omega | (simp only [adN_zero]; omega)) | exact OutS.whole rfl rfl | refine ListO.go gOk hE ?_)
abbrev npR (e κ : Nat) (b c : List Int) (g o : List (List Int)) : List (Nat × TRoot) := [(κ, .ty .own true 3 1 Int encI decI 0 b), (κ + 1, .ty .own true 3 1 Int encI decI 0 c), (κ + 2, .ty .own true e 1 (List Int) encL decL [] g), (κ + 3, .ty .own true e 1 (List Int) encL decL [] o)]
abbrev npB (e s κ nb nc ng no : Nat) : Nat × TRoot := (s, .box e [.ref κ 0 nb, .ref (κ + 1) 0 nc, .ref (κ + 2) 0 ng, .ref (κ + 3) 0 no])
abbrev npE (b c : List Int) (g o : List (List Int)) (kk v n : Int) : List (Nat × TRoot) := [(5, .box 44 [.cl (.lit (.int .i64 kk)), .cl (.lit (.int .i64 v)), .cl (.lit (.int .i64 n))]), npB 29 3 1000000 b.length c.length g.length o.length,
  (1000000, .ty .fro false 3 1 Int encI decI 0 b), (1000001, .ty .fro false 3 1 Int encI decI 0 c), (1000002, .ty .fro false 0 1 (List Int) encL decL [] g), (1000003, .ty .fro false 0 1 (List Int) encL decL [] o)]
theorem NodePut_law (b c : List Int) (g o : List (List Int)) (x kk v n : Int) (h1 : MmOk 9223372036854775807 b c g o) (hx : x ≤ 9223372036854775807) (hn : n ≤ 9223372036854775807) : RunH Tryz.prog hT 4 [aMm 0 b c g o, ti x, aN3 kk v n] [] [ob true] [] := by
  have c0 := szMem_run 0 0 b c g o 1048576 (by decide) (by decide) h1.hb h1.hc h1.hg h1.hg' h1.ho h1.ho'
  by_cases hz : szM b c g o 1048576 < 0
  · generalize szM b c g o 1048576 = z at *
    refine RunH.of_vc gOk Tryz.func4 rfl rfl (Nat.le_of_ble_eq_true rfl) (by repeat' (first | exact trivial | exact ⟨_, rfl, Nat.le_refl _⟩ | exact Nat.le_of_ble_eq_true rfl | refine And.intro ?_ ?_)) (Nat.le_of_ble_eq_true rfl) rfl (fun F hE hA => ?_)
    repeat' (first | exact trivial | refine BS.d (fun h => ?_) (fun h => ?_) | refine BS.e (fun h => ?_) (fun h => ?_) | refine BS.ne (fun h => ?_) (fun h => ?_) | refine BS.n ?_ | refine BS.s (fun h => ?_) (fun h => ?_) | refine And.intro ?_ ?_ | (refine Need.mk ?_; first | with_reducible rfl | (show @Eq TC _ _; rfl) | omega | (simp only [adN_zero]; omega)) | exact OutS.whole rfl rfl | (refine OpK.call c0 rfl rfl rfl rfl hE ?_ rfl rfl ?_; focus ((repeat' (first | exact PsA.lit _ | exact PsA.ref rfl rfl | constructor)); all_goals (fail "ps"))) | refine ListO.go gOk hE ?_)
    all_goals first | exact Need.mk rfl | (exfalso; omega) | trace_state
  · have ht := MmT.of_sz (m := 1048576) (by decide) (by decide) hz
    have hbc := szM_bc (m := 1048576) (by decide) hz
    generalize szM b c g o 1048576 = z at *
    have k := ht.ok
    have k3 := k.le (m' := 4000000) (by decide)
    have c1 := toMem_run 0 b c g o k.hb k.hc k.hg k.hg' k.ho k.ho'
    have c3 := NodePutS_run 136 b c g o x kk v n ht hn
    have c4 := NodePutI_run 136 b c g o x kk v n ht hx hn
    have c5 := eqMem_run 136 b c g o k3.hb k3.hc k3.hg k3.hg' k3.ho k3.ho'
    have t1 := toNodeN_run kk v n
    have hnl := npL_len b c g o x kk v n
    generalize npL b c g o x kk v n = nb at *
    generalize npC b c g o x kk v n = cc at *
    have hk : MkOk b c g o := ⟨k, by omega, ht.f⟩
    have hk2 : MkOk nb c g o := ⟨⟨by rw [hnl]; exact k.hb, k.hc, k.hg, k.ho, k.hg', k.ho'⟩, by omega, ht.f⟩
    have c6 := eqMem_run 136 nb c g o (by rw [hnl]; exact k3.hb) k3.hc k3.hg k3.hg' k3.ho k3.ho'
    have m0 := markMemX_run 3 136 136 b c g o hk
    have m1 := markMemX_run 3 136 136 nb c g o hk2
    have d1 := heldMem_run 136 136 nb c g o hk2
    have z0 := mZ_bd (b := b) (c := c) (g := g) (o := o)
    have z1 := mZ_bd (b := nb) (c := c) (g := g) (o := o)
    generalize mZ b c g o = zz0 at *
    generalize mZ nb c g o = zz1 at *
    refine RunH.of_ck gOk Tryz.func4 rfl rfl (Nat.le_of_ble_eq_true rfl) (by repeat' (first | exact trivial | exact ⟨_, rfl, Nat.le_refl _⟩ | exact Nat.le_of_ble_eq_true rfl | refine And.intro ?_ ?_)) (Nat.le_of_ble_eq_true rfl) rfl (fun F hE hA => ?_)
    repeat' (first | exact trivial | refine BS.d (fun h => ?_) (fun h => ?_) | refine BS.e (fun h => ?_) (fun h => ?_) | refine BS.ne (fun h => ?_) (fun h => ?_) | refine BS.n ?_ | refine BS.s (fun h => ?_) (fun h => ?_) | refine And.intro ?_ ?_ | (refine Need.mk ?_; first | with_reducible rfl | (show @Eq TC _ _; rfl) | omega | (simp only [adN_zero]; omega)) | exact OutS.whole rfl rfl | (refine OpK.call c0 rfl rfl rfl rfl hE ?_ rfl rfl ?_; focus ((repeat' (first | exact PsA.lit _ | exact PsA.ref rfl rfl | constructor)); all_goals (fail "ps"))) | (refine OpK.call c1 rfl rfl rfl rfl hE ?_ rfl rfl ?_; focus ((repeat' (first | exact PsA.lit _ | exact PsA.ref rfl rfl | constructor)); all_goals (fail "ps"))) | (refine OpK.call c3 rfl rfl rfl rfl hE ?_ rfl rfl ?_; focus ((repeat' (first | exact PsA.lit _ | exact PsA.ref rfl rfl | constructor)); all_goals (fail "ps"))) | (refine OpK.callH c4 hA rfl rfl rfl rfl hE ?_ rfl rfl ?_; focus ((repeat' (first | exact PsA.lit _ | exact PsA.ref rfl rfl | constructor)); all_goals (fail "ps"))) | (refine OpK.call c5 rfl rfl rfl rfl hE ?_ rfl rfl ?_; focus ((repeat' (first | exact PsA.lit _ | exact PsA.ref rfl rfl | constructor)); all_goals (fail "ps"))) | (refine OpK.call c6 rfl rfl rfl rfl hE ?_ rfl rfl ?_; focus ((repeat' (first | exact PsA.lit _ | exact PsA.ref rfl rfl | constructor)); all_goals (fail "ps"))) | (refine OpK.call d1 rfl rfl rfl rfl hE ?_ rfl rfl ?_; focus ((repeat' (first | exact PsA.lit _ | exact PsA.ref rfl rfl | exact PsA.ref rfl (mkL_len _ _ _ _).symm | constructor)); all_goals (fail "ps"))) | (refine OpK.call t1 rfl rfl rfl rfl hE ?_ rfl rfl ?_; focus ((repeat' (first | exact PsA.lit _ | exact PsA.ref rfl rfl | constructor)); all_goals (fail "ps"))) | (refine CodeK.draw gOk hE rfl (fun _ _ h => h) (.take 2 (.alt 0 (.alt 1 (.alt 3 (.alt 4 (.alt 5 (.take 6 (.take 7 (.take 8 (.alt 9 (.alt 10 (.take 11 .done) .stop) .stop)))) (.alt 9 (.alt 5 (.take 6 (.take 7 (.take 8 (.alt 10 (.take 11 .done) .stop)))) .stop) .stop)) (.alt 9 (.alt 4 (.alt 5 (.take 6 (.take 7 (.take 8 (.alt 10 (.take 11 .done) .stop)))) .stop) .stop) .stop)) (.alt 9 (.alt 3 (.alt 4 (.alt 5 (.take 6 (.take 7 (.take 8 (.alt 10 (.take 11 .done) .stop)))) .stop) .stop) .stop) .stop)) (.alt 3 (.alt 1 (.alt 4 (.alt 5 (.take 6 (.take 7 (.take 8 (.alt 9 (.alt 10 (.take 11 .done) .stop) .stop)))) (.alt 9 (.alt 5 (.take 6 (.take 7 (.take 8 (.alt 10 (.take 11 .done) .stop)))) .stop) .stop)) (.alt 9 (.alt 4 (.alt 5 (.take 6 (.take 7 (.take 8 (.alt 10 (.take 11 .done) .stop)))) .stop) .stop) .stop)) (.alt 9 (.alt 1 (.alt 4 (.alt 5 (.take 6 (.take 7 (.take 8 (.alt 10 (.take 11 .done) .stop)))) .stop) .stop) .stop) .stop)) (.alt 9 (.alt 1 (.alt 3 (.alt 4 (.alt 5 (.take 6 (.take 7 (.take 8 (.alt 10 (.take 11 .done) .stop)))) .stop) .stop) .stop) (.alt 3 (.alt 1 (.alt 4 (.alt 5 (.take 6 (.take 7 (.take 8 (.alt 10 (.take 11 .done) .stop)))) .stop) .stop) .stop) .stop)) .stop))) (.alt 3 (.alt 0 (.alt 1 (.alt 4 (.alt 5 (.take 6 (.take 7 (.take 8 (.alt 9 (.alt 10 (.take 11 .done) .stop) .stop)))) (.alt 9 (.alt 5 (.take 6 (.take 7 (.take 8 (.alt 10 (.take 11 .done) .stop)))) .stop) .stop)) (.alt 9 (.alt 4 (.alt 5 (.take 6 (.take 7 (.take 8 (.alt 10 (.take 11 .done) .stop)))) .stop) .stop) .stop)) (.alt 9 (.alt 1 (.alt 4 (.alt 5 (.take 6 (.take 7 (.take 8 (.alt 10 (.take 11 .done) .stop)))) .stop) .stop) .stop) .stop)) (.alt 9 (.alt 0 (.alt 1 (.alt 4 (.alt 5 (.take 6 (.take 7 (.take 8 (.alt 10 (.take 11 .done) .stop)))) .stop) .stop) .stop) .stop) .stop)) (.alt 9 (.alt 0 (.alt 1 (.alt 3 (.alt 4 (.alt 5 (.take 6 (.take 7 (.take 8 (.alt 10 (.take 11 .done) .stop)))) .stop) .stop) .stop) (.alt 3 (.alt 1 (.alt 4 (.alt 5 (.take 6 (.take 7 (.take 8 (.alt 10 (.take 11 .done) .stop)))) .stop) .stop) .stop) .stop)) (.alt 3 (.alt 0 (.alt 1 (.alt 4 (.alt 5 (.take 6 (.take 7 (.take 8 (.alt 10 (.take 11 .done) .stop)))) .stop) .stop) .stop) .stop) .stop)) .stop)))) ?_ ?_; focus (decide +kernel)) | (refine CodeK.draw gOk hE rfl (fun _ _ h => h) (.take 1 (.alt 0 (.alt 2 (.alt 3 (.alt 4 (.take 5 (.take 6 (.take 7 (.alt 8 (.alt 9 (.take 10 .done) .stop) .stop)))) (.alt 8 (.alt 4 (.take 5 (.take 6 (.take 7 (.alt 9 (.take 10 .done) .stop)))) .stop) .stop)) (.alt 8 (.alt 3 (.alt 4 (.take 5 (.take 6 (.take 7 (.alt 9 (.take 10 .done) .stop)))) .stop) .stop) .stop)) (.alt 8 (.alt 2 (.alt 3 (.alt 4 (.take 5 (.take 6 (.take 7 (.alt 9 (.take 10 .done) .stop)))) .stop) .stop) .stop) .stop)) (.alt 2 (.alt 0 (.alt 3 (.alt 4 (.take 5 (.take 6 (.take 7 (.alt 8 (.alt 9 (.take 10 .done) .stop) .stop)))) (.alt 8 (.alt 4 (.take 5 (.take 6 (.take 7 (.alt 9 (.take 10 .done) .stop)))) .stop) .stop)) (.alt 8 (.alt 3 (.alt 4 (.take 5 (.take 6 (.take 7 (.alt 9 (.take 10 .done) .stop)))) .stop) .stop) .stop)) (.alt 3 (.alt 0 (.alt 4 (.take 5 (.take 6 (.take 7 (.alt 8 (.alt 9 (.take 10 .done) .stop) .stop)))) (.alt 8 (.alt 4 (.take 5 (.take 6 (.take 7 (.alt 9 (.take 10 .done) .stop)))) .stop) .stop)) (.alt 8 (.alt 0 (.alt 4 (.take 5 (.take 6 (.take 7 (.alt 9 (.take 10 .done) .stop)))) .stop) .stop) .stop)) (.alt 8 (.alt 0 (.alt 3 (.alt 4 (.take 5 (.take 6 (.take 7 (.alt 9 (.take 10 .done) .stop)))) .stop) .stop) (.alt 3 (.alt 0 (.alt 4 (.take 5 (.take 6 (.take 7 (.alt 9 (.take 10 .done) .stop)))) .stop) .stop) .stop)) .stop))) (.alt 8 (.alt 0 (.alt 2 (.alt 3 (.alt 4 (.take 5 (.take 6 (.take 7 (.alt 9 (.take 10 .done) .stop)))) .stop) .stop) .stop) (.alt 2 (.alt 0 (.alt 3 (.alt 4 (.take 5 (.take 6 (.take 7 (.alt 9 (.take 10 .done) .stop)))) .stop) .stop) (.alt 3 (.alt 0 (.alt 4 (.take 5 (.take 6 (.take 7 (.alt 9 (.take 10 .done) .stop)))) .stop) .stop) .stop)) .stop)) .stop)))) ?_ ?_; focus (decide +kernel)) | (refine CodeK.draw gOk hE rfl (fun _ _ h => h) (.alt 0 (.alt 1 (.alt 2 (.alt 3 (.take 4 .done) .stop) .stop) .stop) (.alt 1 (.alt 0 (.alt 2 (.alt 3 (.take 4 .done) .stop) .stop) (.alt 2 (.alt 0 (.alt 3 (.take 4 .done) .stop) .stop) .stop)) .stop)) ?_ ?_; focus (decide +kernel)) | (refine CodeK.seqD 5 (⟨[(9, vi cc), (8, .ptr 8 0 0), (5, .ptr 5 0 0), (3, .ptr 3 0 0), (1, vi x)], npB 36 8 2003712 nb.length c.length g.length o.length :: npR 136 2003712 nb c g o ++ npE b c g o kk v n⟩) rfl ?_ ?_) | (refine CodeK.seqD 7 (⟨[(12, vi cc), (11, .ptr 11 0 0), (10, .ptr 10 0 0), (9, vi cc), (8, .ptr 8 0 0), (5, .ptr 5 0 0), (3, .ptr 3 0 0), (1, vi x)], npB 36 11 2004992 nb.length c.length g.length o.length :: npR 136 2004992 nb c g o ++ npB 36 10 2004224 b.length c.length g.length o.length :: npR 136 2004224 b c g o ++ npB 36 8 2003712 nb.length c.length g.length o.length :: npR 136 2003712 nb c g o ++ npE b c g o kk v n⟩) rfl ?_ ?_) | (refine CodeK.seqD 10 (⟨[(55, .a (.lit (.bool false))), (12, vi cc), (11, .ptr 11 0 0), (10, .ptr 10 0 0), (9, vi cc), (8, .ptr 8 0 0), (5, .ptr 5 0 0), (3, .ptr 3 0 0), (1, vi x)], npB 36 11 2004992 nb.length c.length g.length o.length :: npR 136 2004992 nb c g o ++ npB 36 10 2004224 b.length c.length g.length o.length :: npR 136 2004224 b c g o ++ npB 36 8 2003712 nb.length c.length g.length o.length :: npR 136 2003712 nb c g o ++ npE b c g o kk v n⟩) rfl ?_ ?_) | (refine CodeK.seqD 24 (⟨[(17, vi cc), (16, .ptr 16 0 0), (14, vi zz1), (11, .ptr 11 0 0), (9, vi cc), (8, .ptr 8 0 0)], npB 36 16 2011392 nb.length c.length g.length o.length :: npR 136 2011392 nb c g o ++ npB 36 11 2004992 nb.length c.length g.length o.length :: npR 136 2004992 (mB nb) (mC nb c) (mG nb c g) (mO nb c g o) ++ npB 36 8 2003712 nb.length c.length g.length o.length :: npR 136 2003712 nb c g o⟩) rfl ?_ ?_) | (refine CodeK.seqv gOk hE ?_) | (refine CodeK.vc gOk hE ?_) | (refine OpK.callBs [bInt 3 2004224 b (mB b), bInt 3 2004225 c (mC b c), bSL 136 2004226 g (mG b c g), bSL 136 2004227 o (mO b c g o)] m0 rfl rfl rfl rfl hE (List.forall_mem_cons.2 ⟨BtOk.sl rfl (mkL_len _ _ _ _), List.forall_mem_cons.2 ⟨BtOk.sl rfl (mkL_len _ _ _ _), List.forall_mem_cons.2 ⟨BtOk.sl rfl (mkL_len _ _ _ _), List.forall_mem_cons.2 ⟨BtOk.sl rfl (mkL_len _ _ _ _), fun _ h => nomatch h⟩⟩⟩⟩) (List.forall_mem_cons.2 ⟨rfl, List.forall_mem_cons.2 ⟨rfl, List.forall_mem_cons.2 ⟨rfl, List.forall_mem_cons.2 ⟨rfl, fun _ h => nomatch h⟩⟩⟩⟩) (show List.Nodup [2004224, 2004225, 2004226, 2004227] by decide) (QsVs.cons (.agg (.cons (.h rfl rfl rfl) (.cons (.h rfl rfl rfl) (.cons (.h rfl rfl rfl) (.cons (.h rfl rfl rfl) .nil))))) (.cons (.one (.c (.lit _) rfl)) .nil)) rfl rfl ?_) | (refine OpK.callBs [bInt 3 2004992 nb (mB nb), bInt 3 2004993 c (mC nb c), bSL 136 2004994 g (mG nb c g), bSL 136 2004995 o (mO nb c g o)] m1 rfl rfl rfl rfl hE (List.forall_mem_cons.2 ⟨BtOk.sl rfl (mkL_len _ _ _ _), List.forall_mem_cons.2 ⟨BtOk.sl rfl (mkL_len _ _ _ _), List.forall_mem_cons.2 ⟨BtOk.sl rfl (mkL_len _ _ _ _), List.forall_mem_cons.2 ⟨BtOk.sl rfl (mkL_len _ _ _ _), fun _ h => nomatch h⟩⟩⟩⟩) (List.forall_mem_cons.2 ⟨rfl, List.forall_mem_cons.2 ⟨rfl, List.forall_mem_cons.2 ⟨rfl, List.forall_mem_cons.2 ⟨rfl, fun _ h => nomatch h⟩⟩⟩⟩) (show List.Nodup [2004992, 2004993, 2004994, 2004995] by decide) (QsVs.cons (.agg (.cons (.h rfl rfl rfl) (.cons (.h rfl rfl rfl) (.cons (.h rfl rfl rfl) (.cons (.h rfl rfl rfl) .nil))))) (.cons (.one (.c (.lit _) rfl)) .nil)) rfl rfl ?_) | refine ListO.go gOk hE ?_)
    all_goals first | exact Need.mk rfl | exact (by refine leT.of ?_ ?_ rfl <;> repeat' (first | exact trivial | refine And.intro rfl ?_ | refine And.intro (by first | rfl | (simp; done)) ?_)) | (exfalso; omega) | exact absurd rfl h | (simp_all; done) | trace_state
end Go.Proofs.YtpmhkpmkmbkjbaaGreatDoor
end
