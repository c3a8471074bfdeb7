import Derived.Test.YtlnlogflhagocaaZRLA
import Derived.Test.YtlnlogflhagocaaPB
import Derived.Test.YtlnlogflhagocaaPD
import Derived.Test.YtlnlogflhagocaaVZ
import Derived.Laws.BitsLemmas
import Derived.Test.YtlnlogflhagocaaVS
import Derived.ChangeKeysEq
import Derived.Test.YtlnlogflhagocaaVT
import Derived.Test.YtlnlogflhagocaaUP
import Derived.Test.YtlnlogflhagocaaMkL
import Derived.Test.YtlnlogflhagocaaUN
section
/- CmdDo of spec. -/
namespace Go.Proofs.Ytlnlogflhagocaa
open Go Go.Tr
set_option maxRecDepth 100000
set_option maxHeartbeats 4000000
set_option linter.unusedVariables false
set_option linter.unusedSimpArgs false
theorem CmdDoS_run (e : Nat) (xs : List KVT) (c : CmdT) (hn : xs.length ≤ 1048576) : RunT Try.prog 223 [.one (.c (tKV e xs)), aCmd c] [] [.one (tKV 179 (cdM xs c)), oRes (cdR xs c)] [] := by
  have c1 := MapOkS_run e xs hn
  have c2 := CmdOkS_run c
  unfold cdM cdR cdOk
  cases hm : allP xs.length (pmo xs) with
  | false =>
    rw [hm] at c1
    simp only [Bool.false_and, Bool.false_eq_true, if_false]
    generalize cmOk c = q at *
    refine RunT.of_vc gOk Try.func223 rfl rfl (Nat.le_of_ble_eq_true rfl) (by repeat' (first | exact trivial | exact ⟨_, rfl, Nat.le_refl _⟩ | exact Nat.le_of_ble_eq_true rfl | refine And.intro ?_ ?_)) (Nat.le_of_ble_eq_true rfl) rfl (fun F hE => ?_)
    repeat' (first | exact trivial | refine BS.d (fun h => ?_) (fun h => ?_) | refine BS.e (fun h => ?_) (fun h => ?_) | refine BS.ne (fun h => ?_) (fun h => ?_) | refine BS.n ?_ | refine BS.s (fun h => ?_) (fun h => ?_) | refine And.intro ?_ ?_ | (refine Need.mk ?_; first | with_reducible rfl | (show @Eq TC _ _; rfl) | omega | (simp only [adN_zero]; omega)) | exact OutS.whole rfl rfl | (refine OpK.call c1 rfl rfl rfl rfl hE ?_ rfl rfl ?_; focus ((repeat' (first | exact PsA.lit _ | exact PsA.ref rfl rfl | constructor)); all_goals (fail "ps"))) | (refine OpK.call c2 rfl rfl rfl rfl hE ?_ rfl rfl ?_; focus ((repeat' (first | exact PsA.lit _ | exact PsA.ref rfl rfl | constructor)); all_goals (fail "ps"))) | (refine OpK.apps gOk rfl rfl rfl rfl rfl rfl rfl rfl rfl rfl rfl flatKV rfl ?_ ?_) | refine ListO.go gOk hE ?_)
    all_goals first | (refine ⟨?_, ?_⟩ <;> (try unfold maxLen) <;> (try simp only [List.length_nil]) <;> omega) | (unfold maxLen; simp only [List.length_nil]; omega) | (simp only [List.length_nil]; omega) | exact Need.mk rfl | exact OutS.whole rfl rfl | (exfalso; simp_all; done) | trace_state
  | true =>
    rw [hm] at c1
    cases hq : cmOk c with
    | false =>
      rw [hq] at c2
      simp only [Bool.and_false, Bool.false_eq_true, if_false]
      refine RunT.of_vc gOk Try.func223 rfl rfl (Nat.le_of_ble_eq_true rfl) (by repeat' (first | exact trivial | exact ⟨_, rfl, Nat.le_refl _⟩ | exact Nat.le_of_ble_eq_true rfl | refine And.intro ?_ ?_)) (Nat.le_of_ble_eq_true rfl) rfl (fun F hE => ?_)
      repeat' (first | exact trivial | refine BS.d (fun h => ?_) (fun h => ?_) | refine BS.e (fun h => ?_) (fun h => ?_) | refine BS.ne (fun h => ?_) (fun h => ?_) | refine BS.n ?_ | refine BS.s (fun h => ?_) (fun h => ?_) | refine And.intro ?_ ?_ | (refine Need.mk ?_; first | with_reducible rfl | (show @Eq TC _ _; rfl) | omega | (simp only [adN_zero]; omega)) | exact OutS.whole rfl rfl | (refine OpK.call c1 rfl rfl rfl rfl hE ?_ rfl rfl ?_; focus ((repeat' (first | exact PsA.lit _ | exact PsA.ref rfl rfl | constructor)); all_goals (fail "ps"))) | (refine OpK.call c2 rfl rfl rfl rfl hE ?_ rfl rfl ?_; focus ((repeat' (first | exact PsA.lit _ | exact PsA.ref rfl rfl | constructor)); all_goals (fail "ps"))) | (refine OpK.apps gOk rfl rfl rfl rfl rfl rfl rfl rfl rfl rfl rfl flatKV rfl ?_ ?_) | refine ListO.go gOk hE ?_)
      all_goals first | (refine ⟨?_, ?_⟩ <;> (try unfold maxLen) <;> (try simp only [List.length_nil]) <;> omega) | (unfold maxLen; simp only [List.length_nil]; omega) | (simp only [List.length_nil]; omega) | exact Need.mk rfl | exact OutS.whole rfl rfl | (exfalso; simp_all; done) | trace_state
    | true =>
      rw [hq] at c2
      simp only [Bool.and_self, if_true]
      unfold cmOk at hq
      simp only [decide_eq_true_eq] at hq
      have hb := mget_bd c.2.1 hm
      have c4 := MapGetS_run e xs c.2.1 (by omega) hn
      have c5 := MapPutS_run e xs c.2.1 c.2.2 (by omega)
      have c6 := MapDelS_run e xs c.2.1 (by omega)
      have c7 := l21Sum_run (mget xs c.2.1).1 c.2.2 hb (by omega)
      have c8 := MapPutS_run e xs c.2.1 (((mget xs c.2.1).1 + c.2.2) % 65536) (by omega)
      generalize mput xs c.2.1 (((mget xs c.2.1).1 + c.2.2) % 65536) = r1 at *
      generalize ((mget xs c.2.1).1 + c.2.2) % 65536 = r2 at *
      generalize mput xs c.2.1 c.2.2 = r3 at *
      generalize mdel xs c.2.1 = r4 at *
      generalize (mget xs c.2.1).1 = r5 at *
      generalize (mget xs c.2.1).2 = r6 at *
      by_cases k2 : c.1 = 2
      · simp only [if_pos k2]
        refine RunT.of_vc gOk Try.func223 rfl rfl (Nat.le_of_ble_eq_true rfl) (by repeat' (first | exact trivial | exact ⟨_, rfl, Nat.le_refl _⟩ | exact Nat.le_of_ble_eq_true rfl | refine And.intro ?_ ?_)) (Nat.le_of_ble_eq_true rfl) rfl (fun F hE => ?_)
        repeat' (first | exact trivial | refine BS.d (fun h => ?_) (fun h => ?_) | refine BS.e (fun h => ?_) (fun h => ?_) | refine BS.ne (fun h => ?_) (fun h => ?_) | refine BS.n ?_ | refine BS.s (fun h => ?_) (fun h => ?_) | refine And.intro ?_ ?_ | (refine Need.mk ?_; first | with_reducible rfl | (show @Eq TC _ _; rfl) | omega | (simp only [adN_zero]; omega)) | exact OutS.whole rfl rfl | (refine OpK.call c1 rfl rfl rfl rfl hE ?_ rfl rfl ?_; focus ((repeat' (first | exact PsA.lit _ | exact PsA.ref rfl rfl | constructor)); all_goals (fail "ps"))) | (refine OpK.call c2 rfl rfl rfl rfl hE ?_ rfl rfl ?_; focus ((repeat' (first | exact PsA.lit _ | exact PsA.ref rfl rfl | constructor)); all_goals (fail "ps"))) | (refine OpK.apps gOk rfl rfl rfl rfl rfl rfl rfl rfl rfl rfl rfl flatKV rfl ?_ ?_) | (refine OpK.call c4 rfl rfl rfl rfl hE ?_ rfl rfl ?_; focus ((repeat' (first | exact PsA.lit _ | exact PsA.ref rfl rfl | constructor)); all_goals (fail "ps"))) | (refine OpK.call c5 rfl rfl rfl rfl hE ?_ rfl rfl ?_; focus ((repeat' (first | exact PsA.lit _ | exact PsA.ref rfl rfl | constructor)); all_goals (fail "ps"))) | (refine OpK.call c6 rfl rfl rfl rfl hE ?_ rfl rfl ?_; focus ((repeat' (first | exact PsA.lit _ | exact PsA.ref rfl rfl | constructor)); all_goals (fail "ps"))) | refine ListO.go gOk hE ?_)
        all_goals first | (refine ⟨?_, ?_⟩ <;> (try unfold maxLen) <;> (try simp only [List.length_nil]) <;> omega) | (unfold maxLen; simp only [List.length_nil]; omega) | (simp only [List.length_nil]; omega) | (exfalso; omega) | exact Need.mk rfl | exact OutS.whole rfl rfl | trace_state
      · by_cases k3 : c.1 = 3
        · simp only [if_neg k2, if_pos k3]
          refine RunT.of_vc gOk Try.func223 rfl rfl (Nat.le_of_ble_eq_true rfl) (by repeat' (first | exact trivial | exact ⟨_, rfl, Nat.le_refl _⟩ | exact Nat.le_of_ble_eq_true rfl | refine And.intro ?_ ?_)) (Nat.le_of_ble_eq_true rfl) rfl (fun F hE => ?_)
          repeat' (first | exact trivial | refine BS.d (fun h => ?_) (fun h => ?_) | refine BS.e (fun h => ?_) (fun h => ?_) | refine BS.ne (fun h => ?_) (fun h => ?_) | refine BS.n ?_ | refine BS.s (fun h => ?_) (fun h => ?_) | refine And.intro ?_ ?_ | (refine Need.mk ?_; first | with_reducible rfl | (show @Eq TC _ _; rfl) | omega | (simp only [adN_zero]; omega)) | exact OutS.whole rfl rfl | (refine OpK.call c1 rfl rfl rfl rfl hE ?_ rfl rfl ?_; focus ((repeat' (first | exact PsA.lit _ | exact PsA.ref rfl rfl | constructor)); all_goals (fail "ps"))) | (refine OpK.call c2 rfl rfl rfl rfl hE ?_ rfl rfl ?_; focus ((repeat' (first | exact PsA.lit _ | exact PsA.ref rfl rfl | constructor)); all_goals (fail "ps"))) | (refine OpK.apps gOk rfl rfl rfl rfl rfl rfl rfl rfl rfl rfl rfl flatKV rfl ?_ ?_) | (refine OpK.call c4 rfl rfl rfl rfl hE ?_ rfl rfl ?_; focus ((repeat' (first | exact PsA.lit _ | exact PsA.ref rfl rfl | constructor)); all_goals (fail "ps"))) | (refine OpK.call c5 rfl rfl rfl rfl hE ?_ rfl rfl ?_; focus ((repeat' (first | exact PsA.lit _ | exact PsA.ref rfl rfl | constructor)); all_goals (fail "ps"))) | (refine OpK.call c6 rfl rfl rfl rfl hE ?_ rfl rfl ?_; focus ((repeat' (first | exact PsA.lit _ | exact PsA.ref rfl rfl | constructor)); all_goals (fail "ps"))) | refine ListO.go gOk hE ?_)
          all_goals first | (refine ⟨?_, ?_⟩ <;> (try unfold maxLen) <;> (try simp only [List.length_nil]) <;> omega) | (unfold maxLen; simp only [List.length_nil]; omega) | (simp only [List.length_nil]; omega) | (exfalso; omega) | exact Need.mk rfl | exact OutS.whole rfl rfl | trace_state
        · by_cases k4 : c.1 = 4
          · simp only [if_neg k2, if_neg k3, if_pos k4]
            refine RunT.of_vc gOk Try.func223 rfl rfl (Nat.le_of_ble_eq_true rfl) (by repeat' (first | exact trivial | exact ⟨_, rfl, Nat.le_refl _⟩ | exact Nat.le_of_ble_eq_true rfl | refine And.intro ?_ ?_)) (Nat.le_of_ble_eq_true rfl) rfl (fun F hE => ?_)
            repeat' (first | exact trivial | refine BS.d (fun h => ?_) (fun h => ?_) | refine BS.e (fun h => ?_) (fun h => ?_) | refine BS.ne (fun h => ?_) (fun h => ?_) | refine BS.n ?_ | refine BS.s (fun h => ?_) (fun h => ?_) | refine And.intro ?_ ?_ | (refine Need.mk ?_; first | with_reducible rfl | (show @Eq TC _ _; rfl) | omega | (simp only [adN_zero]; omega)) | exact OutS.whole rfl rfl | (refine OpK.call c1 rfl rfl rfl rfl hE ?_ rfl rfl ?_; focus ((repeat' (first | exact PsA.lit _ | exact PsA.ref rfl rfl | constructor)); all_goals (fail "ps"))) | (refine OpK.call c2 rfl rfl rfl rfl hE ?_ rfl rfl ?_; focus ((repeat' (first | exact PsA.lit _ | exact PsA.ref rfl rfl | constructor)); all_goals (fail "ps"))) | (refine OpK.apps gOk rfl rfl rfl rfl rfl rfl rfl rfl rfl rfl rfl flatKV rfl ?_ ?_) | (refine OpK.call c4 rfl rfl rfl rfl hE ?_ rfl rfl ?_; focus ((repeat' (first | exact PsA.lit _ | exact PsA.ref rfl rfl | constructor)); all_goals (fail "ps"))) | (refine OpK.call c5 rfl rfl rfl rfl hE ?_ rfl rfl ?_; focus ((repeat' (first | exact PsA.lit _ | exact PsA.ref rfl rfl | constructor)); all_goals (fail "ps"))) | (refine OpK.call c6 rfl rfl rfl rfl hE ?_ rfl rfl ?_; focus ((repeat' (first | exact PsA.lit _ | exact PsA.ref rfl rfl | constructor)); all_goals (fail "ps"))) | (refine OpK.call c7 rfl rfl rfl rfl hE ?_ rfl rfl ?_; focus ((repeat' (first | exact PsA.lit _ | exact PsA.ref rfl rfl | constructor)); all_goals (fail "ps"))) | (refine OpK.call c8 rfl rfl rfl rfl hE ?_ rfl rfl ?_; focus ((repeat' (first | exact PsA.lit _ | exact PsA.ref rfl rfl | constructor)); all_goals (fail "ps"))) | (refine CodeK.draw gOk hE rfl (fun _ _ h => h) (.take 0 (.take 1 (.take 3 (.take 4 (.take 8 (.take 9 (.alt 2 (.alt 5 (.alt 6 (.alt 7 (.alt 10 (.alt 11 (.take 13 (.alt 12 (.alt 14 .done .stop) .stop)) .stop) .stop) (.alt 10 (.alt 7 (.alt 11 (.take 13 (.alt 12 (.alt 14 .done .stop) .stop)) .stop) .stop) .stop)) (.alt 10 (.alt 6 (.alt 7 (.alt 11 (.take 13 (.alt 12 (.alt 14 .done .stop) .stop)) .stop) .stop) .stop) .stop)) (.alt 10 (.alt 5 (.alt 6 (.alt 7 (.alt 11 (.take 13 (.alt 12 (.alt 14 .done .stop) .stop)) .stop) .stop) .stop) .stop) .stop)) (.alt 5 (.alt 2 (.alt 6 (.alt 7 (.alt 10 (.alt 11 (.take 13 (.alt 12 (.alt 14 .done .stop) .stop)) .stop) .stop) (.alt 10 (.alt 7 (.alt 11 (.take 13 (.alt 12 (.alt 14 .done .stop) .stop)) .stop) .stop) .stop)) (.alt 10 (.alt 6 (.alt 7 (.alt 11 (.take 13 (.alt 12 (.alt 14 .done .stop) .stop)) .stop) .stop) .stop) .stop)) (.alt 6 (.alt 2 (.alt 7 (.alt 10 (.alt 11 (.take 13 (.alt 12 (.alt 14 .done .stop) .stop)) .stop) .stop) (.alt 10 (.alt 7 (.alt 11 (.take 13 (.alt 12 (.alt 14 .done .stop) .stop)) .stop) .stop) .stop)) (.alt 10 (.alt 2 (.alt 7 (.alt 11 (.take 13 (.alt 12 (.alt 14 .done .stop) .stop)) .stop) .stop) .stop) .stop)) (.alt 10 (.alt 2 (.alt 6 (.alt 7 (.alt 11 (.take 13 (.alt 12 (.alt 14 .done .stop) .stop)) .stop) .stop) .stop) (.alt 6 (.alt 2 (.alt 7 (.alt 11 (.take 13 (.alt 12 (.alt 14 .done .stop) .stop)) .stop) .stop) .stop) .stop)) .stop))) (.alt 10 (.alt 2 (.alt 5 (.alt 6 (.alt 7 (.alt 11 (.take 13 (.alt 12 (.alt 14 .done .stop) .stop)) .stop) .stop) .stop) .stop) (.alt 5 (.alt 2 (.alt 6 (.alt 7 (.alt 11 (.take 13 (.alt 12 (.alt 14 .done .stop) .stop)) .stop) .stop) .stop) (.alt 6 (.alt 2 (.alt 7 (.alt 11 (.take 13 (.alt 12 (.alt 14 .done .stop) .stop)) .stop) .stop) .stop) .stop)) .stop)) .stop))))))))) ?_ ?_; focus (decide +kernel)) | refine ListO.go gOk hE ?_)
            all_goals first | (refine ⟨?_, ?_⟩ <;> (try unfold maxLen) <;> (try simp only [List.length_nil]) <;> omega) | (unfold maxLen; simp only [List.length_nil]; omega) | (simp only [List.length_nil]; omega) | (exfalso; omega) | exact Need.mk rfl | exact OutS.whole rfl rfl | trace_state
          · simp only [if_neg k2, if_neg k3, if_neg k4]
            refine RunT.of_vc gOk Try.func223 rfl rfl (Nat.le_of_ble_eq_true rfl) (by repeat' (first | exact trivial | exact ⟨_, rfl, Nat.le_refl _⟩ | exact Nat.le_of_ble_eq_true rfl | refine And.intro ?_ ?_)) (Nat.le_of_ble_eq_true rfl) rfl (fun F hE => ?_)
            repeat' (first | exact trivial | refine BS.d (fun h => ?_) (fun h => ?_) | refine BS.e (fun h => ?_) (fun h => ?_) | refine BS.ne (fun h => ?_) (fun h => ?_) | refine BS.n ?_ | refine BS.s (fun h => ?_) (fun h => ?_) | refine And.intro ?_ ?_ | (refine Need.mk ?_; first | with_reducible rfl | (show @Eq TC _ _; rfl) | omega | (simp only [adN_zero]; omega)) | exact OutS.whole rfl rfl | (refine OpK.call c1 rfl rfl rfl rfl hE ?_ rfl rfl ?_; focus ((repeat' (first | exact PsA.lit _ | exact PsA.ref rfl rfl | constructor)); all_goals (fail "ps"))) | (refine OpK.call c2 rfl rfl rfl rfl hE ?_ rfl rfl ?_; focus ((repeat' (first | exact PsA.lit _ | exact PsA.ref rfl rfl | constructor)); all_goals (fail "ps"))) | (refine OpK.apps gOk rfl rfl rfl rfl rfl rfl rfl rfl rfl rfl rfl flatKV rfl ?_ ?_) | (refine OpK.call c4 rfl rfl rfl rfl hE ?_ rfl rfl ?_; focus ((repeat' (first | exact PsA.lit _ | exact PsA.ref rfl rfl | constructor)); all_goals (fail "ps"))) | (refine OpK.call c5 rfl rfl rfl rfl hE ?_ rfl rfl ?_; focus ((repeat' (first | exact PsA.lit _ | exact PsA.ref rfl rfl | constructor)); all_goals (fail "ps"))) | (refine OpK.call c6 rfl rfl rfl rfl hE ?_ rfl rfl ?_; focus ((repeat' (first | exact PsA.lit _ | exact PsA.ref rfl rfl | constructor)); all_goals (fail "ps"))) | (refine OpK.call c7 rfl rfl rfl rfl hE ?_ rfl rfl ?_; focus ((repeat' (first | exact PsA.lit _ | exact PsA.ref rfl rfl | constructor)); all_goals (fail "ps"))) | (refine OpK.call c8 rfl rfl rfl rfl hE ?_ rfl rfl ?_; focus ((repeat' (first | exact PsA.lit _ | exact PsA.ref rfl rfl | constructor)); all_goals (fail "ps"))) | (refine CodeK.draw gOk hE rfl (fun _ _ h => h) (.take 0 (.take 1 (.take 3 (.take 4 (.take 8 (.take 9 (.alt 2 (.alt 5 (.alt 6 (.alt 7 (.alt 10 (.alt 11 (.take 13 (.alt 12 (.alt 14 .done .stop) .stop)) .stop) .stop) (.alt 10 (.alt 7 (.alt 11 (.take 13 (.alt 12 (.alt 14 .done .stop) .stop)) .stop) .stop) .stop)) (.alt 10 (.alt 6 (.alt 7 (.alt 11 (.take 13 (.alt 12 (.alt 14 .done .stop) .stop)) .stop) .stop) .stop) .stop)) (.alt 10 (.alt 5 (.alt 6 (.alt 7 (.alt 11 (.take 13 (.alt 12 (.alt 14 .done .stop) .stop)) .stop) .stop) .stop) .stop) .stop)) (.alt 5 (.alt 2 (.alt 6 (.alt 7 (.alt 10 (.alt 11 (.take 13 (.alt 12 (.alt 14 .done .stop) .stop)) .stop) .stop) (.alt 10 (.alt 7 (.alt 11 (.take 13 (.alt 12 (.alt 14 .done .stop) .stop)) .stop) .stop) .stop)) (.alt 10 (.alt 6 (.alt 7 (.alt 11 (.take 13 (.alt 12 (.alt 14 .done .stop) .stop)) .stop) .stop) .stop) .stop)) (.alt 6 (.alt 2 (.alt 7 (.alt 10 (.alt 11 (.take 13 (.alt 12 (.alt 14 .done .stop) .stop)) .stop) .stop) (.alt 10 (.alt 7 (.alt 11 (.take 13 (.alt 12 (.alt 14 .done .stop) .stop)) .stop) .stop) .stop)) (.alt 10 (.alt 2 (.alt 7 (.alt 11 (.take 13 (.alt 12 (.alt 14 .done .stop) .stop)) .stop) .stop) .stop) .stop)) (.alt 10 (.alt 2 (.alt 6 (.alt 7 (.alt 11 (.take 13 (.alt 12 (.alt 14 .done .stop) .stop)) .stop) .stop) .stop) (.alt 6 (.alt 2 (.alt 7 (.alt 11 (.take 13 (.alt 12 (.alt 14 .done .stop) .stop)) .stop) .stop) .stop) .stop)) .stop))) (.alt 10 (.alt 2 (.alt 5 (.alt 6 (.alt 7 (.alt 11 (.take 13 (.alt 12 (.alt 14 .done .stop) .stop)) .stop) .stop) .stop) .stop) (.alt 5 (.alt 2 (.alt 6 (.alt 7 (.alt 11 (.take 13 (.alt 12 (.alt 14 .done .stop) .stop)) .stop) .stop) .stop) (.alt 6 (.alt 2 (.alt 7 (.alt 11 (.take 13 (.alt 12 (.alt 14 .done .stop) .stop)) .stop) .stop) .stop) .stop)) .stop)) .stop))))))))) ?_ ?_; focus (decide +kernel)) | refine ListO.go gOk hE ?_)
            all_goals first | (refine ⟨?_, ?_⟩ <;> (try unfold maxLen) <;> (try simp only [List.length_nil]) <;> omega) | (unfold maxLen; simp only [List.length_nil]; omega) | (simp only [List.length_nil]; omega) | (exfalso; omega) | exact Need.mk rfl | exact OutS.whole rfl rfl | trace_state
end Go.Proofs.Ytlnlogflhagocaa
end

section
/- A root gets another key. -/
set_option linter.unusedVariables false
set_option linter.unusedSimpArgs false
universe u
namespace Go.Tr
open Go Go.RowKit
def rkN (κ κ' d : Nat) : Nat := bif Nat.beq d κ then κ' else d
theorem rkN_eq (κ κ' d : Nat) : rkN κ κ' d = if d = κ then κ' else d := by
  simp only [rkN, beq_dec]; by_cases h : d = κ <;> simp [h]
def At.rk (κ κ' : Nat) : At → At
  | .ref d lo n => .ref (rkN κ κ' d) lo n
  | .spot d i r => .spot (rkN κ κ' d) i r
  | x => x
def V.rk0 (κ κ' : Nat) : V → V
  | .a x => .a (x.rk κ κ')
  | .agg l => .agg (l.map (At.rk κ κ'))
  | .ptr d i r => .ptr (rkN κ κ' d) i r
  | x => x
def V.rk (κ κ' : Nat) : V → V
  | .tup l => .tup (l.map (V.rk0 κ κ'))
  | x => x.rk0 κ κ'
def Cl.rk (κ κ' : Nat) : Cl → Cl
  | .ref d lo n => .ref (rkN κ κ' d) lo n
  | x => x
def Root.rk (κ κ' : Nat) (R : Root) : Root := { R with op := R.op.map fun p => (p.1, p.2.rk κ κ') }
theorem look2_rk (κ κ' : Nat) : ∀ (l : List ((Nat × Nat) × Cl)) (i r : Nat) (c : C), look2 (l.map fun p => (p.1, p.2.rk κ κ')) i r (.cl c) = (look2 l i r (.cl c)).rk κ κ'
  | [], i, r, c => rfl
  | ((a, b), x) :: l, i, r, c => by
    simp only [List.map_cons, look2]
    rw [look2_rk κ κ' l i r c]
    split
    · split <;> rfl
    · rfl
theorem Root.get_rk (κ κ' : Nat) (R : Root) (i r : Nat) : (R.rk κ κ').get i r = (R.get i r).rk κ κ' := look2_rk κ κ' R.op i r _
section
variable {P : Program} {F : Fm} {N : Nat} {σ σ' : St} {a : Act} {w : World} {ω : Om} {β : Nat → Bs}
def rkW (κ κ' : Nat) : Wh → Wh
  | .row d => .row (if d = κ then κ' else d)
  | .sub d i r => .sub (if d = κ then κ' else d) i r
  | .fro => .fro
theorem Rel1.rekeyG (h : Rel1 F N σ a w ω β) {κ κ' : Nat} (hne : κ ≠ κ') (hn' : σ.rt κ' = none) (hok : okK F κ) (hok' : okK F κ')
    (hv : ∀ d R2, σ.rt d = some R2 → ∀ i r, R2.o ≠ .vw κ i r)
    (ht : ∀ t, σ'.tv t = .any ∨ σ'.tv t = (σ.tv t).rk κ κ') (hr : ∀ d, d ≠ κ' → σ'.rt d = if d = κ then none else (σ.rt d).map (Root.rk κ κ')) (hrκ' : σ'.rt κ' = (σ.rt κ).map (Root.rk κ κ')) :
    Rel1 F N σ' a w (fun b j => (ω b j).map (rkW κ κ')) (fun d => if d = κ' then β κ else β d) := by
  have hdn : ∀ d R2, σ.rt d = some R2 → d ≠ κ' := fun d R2 hd e => by rw [e, hn'] at hd; cases hd
  have hroot : ∀ d R2, σ.rt d = some R2 → σ'.rt (rkN κ κ' d) = some (R2.rk κ κ') ∧ (if rkN κ κ' d = κ' then β κ else β (rkN κ κ' d)) = β d := by
    intro d R2 hd
    rw [rkN_eq]
    by_cases e : d = κ
    · subst e; rw [if_pos rfl, hrκ', hd, if_pos rfl]; exact ⟨rfl, rfl⟩
    · rw [if_neg e, hr d (hdn d R2 hd), if_neg e, hd, if_neg (hdn d R2 hd)]; exact ⟨rfl, rfl⟩
  have href : ∀ {d lo n : Nat} {v : Value}, RefRel σ β d lo n v → RefRel σ' (fun d => if d = κ' then β κ else β d) (rkN κ κ' d) lo n v := by
    rintro d lo n v ⟨R2, hR2, k1⟩
    obtain ⟨h1, h2⟩ := hroot d R2 hR2
    exact ⟨R2.rk κ κ', h1, by (try dsimp only); rw [h2]; exact k1⟩
  have hlive : ∀ c : Cl, (c.rk κ κ').live = c.live := fun c => by cases c <;> rfl
  have hA : ∀ {x : At} {u : Value}, ARel σ β w x u → ARel σ' (fun d => if d = κ' then β κ else β d) w (x.rk κ κ') u := by
    intro x u hh
    cases x with
    | any => exact hh
    | lit v => exact hh
    | nil _ _ => exact hh
    | ref d lo n => exact href hh
    | spot d i r =>
      obtain ⟨R2, g, j, h1, h2, h3, h4, h5, h6⟩ := hh
      obtain ⟨k1, k2⟩ := hroot d R2 h1
      exact ⟨R2.rk κ κ', g, j, k1, h2, h3, by rw [Root.get_rk, hlive]; exact h4, by (try dsimp only); rw [k2]; exact h5, h6⟩
  have hV0 : ∀ {x : V} {u : Value}, VRel0 σ β w x u → VRel0 σ' (fun d => if d = κ' then β κ else β d) w (x.rk0 κ κ') u := by
    intro x u hh
    cases x with
    | any => trivial
    | a x => exact hA hh
    | agg l =>
      obtain ⟨us, h1, h2, h3⟩ := hh
      refine ⟨us, h1, by simpa using h2, fun j x hj => ?_⟩
      rw [List.getElem?_map] at hj
      cases hq : l[j]? with
      | none => rw [hq] at hj; cases hj
      | some y =>
        rw [hq] at hj; injection hj with hj; subst hj
        obtain ⟨y', h4, h5⟩ := h3 j y hq
        exact ⟨y', h4, hA h5⟩
    | ptr d i r =>
      obtain ⟨R2, g, j, h1, h2, h3⟩ := hh
      obtain ⟨k1, k2⟩ := hroot d R2 h1
      exact ⟨R2.rk κ κ', g, j, k1, by (try dsimp only); rw [k2]; exact h2, h3⟩
    | tup l => exact hh.elim
  refine ⟨h.tsz, h.dfr, fun t => ?_, fun d R2 hR2 => ?_, fun b j x hx => ?_, h.fr, fun b j hx => ?_, fun ρ R2 hρ hR2 => ?_⟩
  · have h0 := h.tmps t
    rcases ht t with e | e
    · rw [e]; trivial
    · rw [e]
      generalize σ.tv t = v at h0
      cases v with
      | tup l =>
        obtain ⟨us, h1, h2, h3⟩ := h0
        refine ⟨us, h1, by simpa using h2, fun j x hj => ?_⟩
        rw [List.getElem?_map] at hj
        cases hq : l[j]? with
        | none => rw [hq] at hj; cases hj
        | some y =>
          rw [hq] at hj; injection hj with hj; subst hj
          obtain ⟨y', h4, h5⟩ := h3 j y hq
          exact ⟨y', h4, hV0 h5⟩
      | any => trivial
      | a x => exact hV0 (x := .a x) h0
      | agg l => exact hV0 (x := .agg l) h0
      | ptr d i r => exact hV0 (x := .ptr d i r) h0
  · -- the root, as it was before
    obtain ⟨d0, R0, hd0, rfl, rfl, hb⟩ : ∃ d0 R0, σ.rt d0 = some R0 ∧ rkN κ κ' d0 = d ∧ R0.rk κ κ' = R2 ∧ (if d = κ' then β κ else β d) = β d0 := by
      by_cases e : d = κ'
      · subst e
        rw [hrκ'] at hR2
        cases hq : σ.rt κ with
        | none => rw [hq] at hR2; cases hR2
        | some R0 => rw [hq] at hR2; injection hR2 with hR2; exact ⟨κ, R0, hq, by rw [rkN_eq, if_pos rfl], hR2, by rw [if_pos rfl]⟩
      · rw [hr d e] at hR2
        by_cases e2 : d = κ
        · rw [if_pos e2] at hR2; cases hR2
        · rw [if_neg e2] at hR2
          cases hq : σ.rt d with
          | none => rw [hq] at hR2; cases hR2
          | some R0 => rw [hq] at hR2; injection hR2 with hR2; exact ⟨d, R0, hq, by rw [rkN_eq, if_neg e2], hR2, by rw [if_neg e]⟩
    have hh := h.roots d0 R0 hd0
    have hmine : ∀ b j x, ω b j = some x → Mine R0.o d0 x → ((ω b j).map (rkW κ κ')) = some (rkW κ κ' x) := fun b j x hx _ => by rw [hx]; rfl
    have hkd : (if d0 = κ then κ' else d0) = rkN κ κ' d0 := (rkN_eq κ κ' d0).symm
    refine ⟨fun i r hi hr' hlv => ?_, fun hf => ?_⟩
    · have hl0 : (R0.get i r).live = true := by rw [Root.get_rk, hlive] at hlv; exact hlv
      obtain ⟨g, j, u, k1, k2, k3, k4, k5⟩ := hh.cells i r hi hr' hl0
      refine ⟨g, j, u, by (try dsimp only); rw [hb]; exact k1, k2, ?_, k4, ?_⟩
      · show Tg _ R0.o _ g j
        cases ho : R0.o with
        | own => rw [ho] at k3; show (ω g j).map (rkW κ κ') = _; rw [show ω g j = _ from k3]; simp only [Option.map_some, rkW, hkd]
        | fro => rw [ho] at k3; show (ω g j).map (rkW κ κ') = _; rw [show ω g j = _ from k3]; rfl
        | vw k i' r' =>
          rw [ho] at k3
          have hk : k ≠ κ := fun e => hv d0 R0 hd0 i' r' (by rw [ho, e])
          rcases k3 with k3 | k3
          · exact .inl (by show (ω g j).map (rkW κ κ') = _; rw [k3]; rfl)
          · exact .inr (by show (ω g j).map (rkW κ κ') = _; rw [k3]; simp only [Option.map_some, rkW, if_neg hk])
      · unfold CellRel at k5 ⊢
        rw [Root.get_rk]
        cases hg : R0.get i r with
        | ref d2 lo n => rw [hg] at k5; exact href k5
        | cl c =>
          rw [hg] at k5
          refine CRel.mono (fun b q hz => ?_) _ _ _ _ k5 (fun b q hs => ?_)
          · show Zr _ R0.o b q
            cases ho : R0.o with
            | own => rw [ho] at hz; show (ω b q).map (rkW κ κ') = _; rw [show ω b q = _ from hz]; rfl
            | fro => rw [ho] at hz; show (ω b q).map (rkW κ κ') = _; rw [show ω b q = _ from hz]; rfl
            | vw k i' r' =>
              rw [ho] at hz
              have hk : k ≠ κ := fun e => hv d0 R0 hd0 i' r' (by rw [ho, e])
              rcases hz with hz | hz
              · exact .inl (by show (ω b q).map (rkW κ κ') = _; rw [hz]; rfl)
              · exact .inr (by show (ω b q).map (rkW κ κ') = _; rw [hz]; simp only [Option.map_some, rkW, if_neg hk])
          · show Sr _ R0.o _ i r b q
            cases ho : R0.o with
            | own => rw [ho] at hs; show (ω b q).map (rkW κ κ') = _; rw [show ω b q = _ from hs]; simp only [Option.map_some, rkW, hkd]
            | fro => rw [ho] at hs; exact hs
            | vw k i' r' => rw [ho] at hs; exact hs
    · obtain ⟨m0, m1, m2, m3, m4⟩ := hh.full hf
      (try dsimp only)
      rw [hb]
      refine ⟨fun i r hi hr' => by rw [Root.get_rk, hlive]; exact m0 i r hi hr', m1, m2, m3, ?_⟩
      rcases m4 with m4 | ⟨g, cur, n1, n2, n3, n4⟩
      · exact .inl m4
      · exact .inr ⟨g, cur, n1, n2, n3, fun j hj => ⟨by show (ω g j).map (rkW κ κ') = _; rw [(n4 j hj).1]; simp only [Option.map_some, rkW, hkd], (n4 j hj).2⟩⟩
  · cases ho : ω b j with
    | none => (try dsimp only at hx); rw [ho] at hx; cases hx
    | some y =>
      (try dsimp only at hx); rw [ho] at hx; injection hx with hx
      have hw := h.wr b j y ho
      exact ⟨hw.1, fun hne2 => hw.2 (fun e => by subst e; exact hne2 hx.symm)⟩
  · cases ho : ω b j with
    | none => (try dsimp only at hx); rw [ho] at hx; cases hx
    | some y =>
      (try dsimp only at hx); rw [ho] at hx; injection hx with hx
      cases y with
      | fro => exact h.fz b j ho
      | row d => cases hx
      | sub d i r => cases hx
  · have e1 := Ne.symm (hok' ρ hρ)
    have e2 := Ne.symm (hok ρ hρ)
    (try dsimp only)
    rw [if_neg e1]
    rw [hr _ e1, if_neg e2] at hR2
    cases hq : σ.rt (1000000 + ρ) with
    | none => rw [hq] at hR2; cases hR2
    | some R0 => exact h.ex ρ R0 hρ hq
end
def St.rk (κ κ' : Nat) (σ : St) : St := ⟨σ.t.map fun p => (p.1, p.2.rk κ κ'), σ.r.map fun p => (rkN κ κ' p.1, p.2.rk κ κ')⟩
theorem look_rk {κ κ' : Nat} (hne : κ ≠ κ') : ∀ (l : List (Nat × Root)), look l κ' = none → ∀ d, look (l.map fun p => (rkN κ κ' p.1, p.2.rk κ κ')) d = if d = κ' then (look l κ).map (Root.rk κ κ') else if d = κ then none else (look l d).map (Root.rk κ κ')
  | [], _, d => by simp [look]
  | (k, R) :: l, h, d => by
    have hk : κ' ≠ k := fun e => by simp only [look, e, if_true] at h; cases h
    have hl : look l κ' = none := by simp only [look, if_neg hk] at h; exact h
    simp only [List.map_cons, look]
    rw [look_rk hne l hl d, rkN_eq]
    by_cases e1 : k = κ
    · subst e1
      rw [if_pos rfl]
      by_cases e2 : d = κ'
      · rw [if_pos e2, if_pos e2, if_pos rfl]; rfl
      · rw [if_neg e2, if_neg e2]
        by_cases e3 : d = k
        · rw [if_pos e3, if_pos e3]; rw [if_neg e2]
        · rw [if_neg e3, if_neg e3, if_neg e3]; rw [if_neg e2]
    · rw [if_neg e1, if_neg (Ne.symm e1)]
      by_cases e2 : d = κ'
      · subst e2; rw [if_neg hk, if_pos rfl]; rw [if_pos rfl]
      · rw [if_neg e2]
        by_cases e3 : d = κ
        · subst e3; rw [if_neg (Ne.symm e1), if_pos rfl]; rw [if_neg e2, if_pos rfl]
        · rw [if_neg e3]; rw [if_neg e2, if_neg e3]
          by_cases e4 : d = k
          · rw [if_pos e4, if_pos e4]; rfl
          · rw [if_neg e4, if_neg e4]
def TCl.rk (κ κ' : Nat) : TCl → TCl
  | .ref d lo n => .ref (rkN κ κ' d) lo n
  | x => x
theorem TCl.rk_er (κ κ' : Nat) (c : TCl) : (c.rk κ κ').er = c.er.rk κ κ' := by cases c <;> rfl
def TRoot.rk (κ κ' : Nat) : TRoot → TRoot
  | .box e cs => .box e (cs.map (TCl.rk κ κ'))
  | .litr e k cs => .litr e k (cs.map fun l => l.map (TCl.rk κ κ'))
  | .tyo f e k X enc dec d xs i r key n => .tyo f e k X enc dec d xs i r (rkN κ κ' key) n
  | T => T
def rkOk : TRoot → Bool
  | .ty _ _ _ _ _ _ _ _ _ => true
  | .box _ _ => true
  | .tyo _ _ _ _ _ _ _ _ _ _ _ _ => true
  | .litr _ k [l] => Nat.beq l.length k
  | _ => false
theorem TRoot.rk_sim (κ κ' : Nat) (T : TRoot) (h : rkOk T = true) : RSim (T.er.rk κ κ') (T.rk κ κ').er := by
  cases T with
  | ty o f e k X enc dec d xs =>
    refine ⟨rfl, fun h => ⟨h, rfl⟩, rfl, rfl, fun i r hi hr => ?_⟩
    rw [Root.get_rk, ty_get]; exact CSame.rfl _
  | box e cs =>
    refine ⟨rfl, fun h => ⟨h, rfl⟩, by show (cs.map _).length = cs.length; simp, rfl, fun i r hi hr => ?_⟩
    change i < 1 at hi
    obtain rfl : i = 0 := by omega
    rw [Root.get_rk, box_get]
    show ClSim _ ((TRoot.box e (cs.map (TCl.rk κ κ'))).er.get 0 r)
    rw [box_get, List.getElem?_map]
    cases cs[r]? with
    | none => exact CSame.rfl _
    | some c =>
      simp only [Option.map_some, Option.getD_some]
      rw [TCl.rk_er]; exact ClSim.rfl _
  | litr e k cs =>
    match cs, h with
    | [l], h =>
      simp only [rkOk, beq_dec, decide_eq_true_eq] at h
      refine ⟨rfl, fun h => ⟨h, rfl⟩, rfl, rfl, fun i r hi hr => ?_⟩
      change i < 1 at hi; change r < k at hr
      obtain rfl : i = 0 := by omega
      rw [Root.get_rk, litr_get h hr]
      show ClSim _ ((TRoot.litr e k [l.map (TCl.rk κ κ')]).er.get 0 r)
      rw [litr_get (by simpa using h) hr, List.getElem?_map]
      cases l[r]? with
      | none => exact CSame.rfl _
      | some c =>
        simp only [Option.map_some, Option.getD_some]
        rw [TCl.rk_er]; exact ClSim.rfl _
  | raw R => cases h
  | tyo f e k X enc dec d xs i r key n =>
    refine ⟨rfl, fun h => ⟨h, rfl⟩, rfl, rfl, fun i' r' hi hr => ?_⟩
    have := look2_rk κ κ' [((i, r), Cl.ref key 0 n)] i' r' ((enc (xs.getD i' d) r').er .own)
    show ClSim (look2 [((i, r), (Cl.ref key 0 n).rk κ κ')] i' r' (.cl ((enc (xs.getD i' d) r').er .own))) (look2 [((i, r), Cl.ref (rkN κ κ' key) 0 n)] i' r' (.cl ((enc (xs.getD i' d) r').er .own)))
    exact ClSim.rfl _
def TS.rk (κ κ' : Nat) (σ : TS) : TS := ⟨σ.t.map fun p => (p.1, p.2.rk κ κ'), σ.r.map fun p => (rkN κ κ' p.1, p.2.rk κ κ')⟩
theorem stA_rk (κ κ' : Nat) (x : At) : stA (x.rk κ κ') = (stA x).rk κ κ' := by cases x <;> rfl
theorem stV0_rk (κ κ' : Nat) (v : V) : stV0 (v.rk0 κ κ') = (stV0 v).rk0 κ κ' := by
  cases v with
  | a x => exact congrArg V.a (stA_rk κ κ' x)
  | agg l => show V.agg _ = V.agg _; congr 1; simp only [List.map_map]; exact List.map_congr_left fun x _ => stA_rk κ κ' x
  | _ => rfl
theorem stV_rk (κ κ' : Nat) (v : V) : stV (v.rk κ κ') = (stV v).rk κ κ' := by
  cases v with
  | a x => exact congrArg V.a (stA_rk κ κ' x)
  | agg l => show V.agg _ = V.agg _; congr 1; simp only [List.map_map]; exact List.map_congr_left fun x _ => stA_rk κ κ' x
  | tup l => show V.tup _ = V.tup _; congr 1; simp only [List.map_map]; exact List.map_congr_left fun x _ => stV0_rk κ κ' x
  | _ => rfl
theorem lkR_rk {κ κ' : Nat} (hne : κ ≠ κ') : ∀ (l : List (Nat × TRoot)), lkR l κ' = none → ∀ d, lkR (l.map fun p => (rkN κ κ' p.1, p.2.rk κ κ')) d = if d = κ' then (lkR l κ).map (TRoot.rk κ κ') else if d = κ then none else (lkR l d).map (TRoot.rk κ κ')
  | [], _, d => by simp [lkR]
  | (k, R) :: l, h, d => by
    rw [lkR_cons] at h
    have hk : κ' ≠ k := fun e => by rw [if_pos e] at h; cases h
    rw [if_neg hk] at h
    rw [List.map_cons, lkR_cons, lkR_rk hne l h d, rkN_eq, lkR_cons, lkR_cons]
    by_cases e1 : k = κ
    · subst e1
      rw [if_pos rfl]
      by_cases e2 : d = κ'
      · rw [if_pos e2, if_pos e2, if_pos rfl]; rfl
      · rw [if_neg e2, if_neg e2]
        by_cases e3 : d = k
        · rw [if_pos e3, if_neg e2, if_pos e3]
        · rw [if_neg e3, if_neg e2, if_neg e3, if_neg e3]
    · rw [if_neg e1, if_neg (Ne.symm e1)]
      by_cases e2 : d = κ'
      · subst e2; rw [if_neg hk, if_pos rfl, if_pos rfl]
      · rw [if_neg e2, if_neg e2]
        by_cases e3 : d = κ
        · subst e3; rw [if_neg (Ne.symm e1), if_pos rfl, if_pos rfl]
        · rw [if_neg e3, if_neg e3]
          by_cases e4 : d = k
          · rw [if_pos e4, if_pos e4]; rfl
          · rw [if_neg e4, if_neg e4]
theorem lkR_allB {q : TRoot → Bool} : ∀ (l : List (Nat × TRoot)) (d : Nat) (T : TRoot), (l.all fun p => q p.2) = true → lkR l d = some T → q T = true
  | [], d, T, _, h => by cases h
  | p :: l, d, T, h, h2 => by
    simp only [List.all_cons, Bool.and_eq_true] at h
    rw [lkR_cons] at h2
    split at h2
    · injection h2 with h2; subst h2; exact h.1
    · exact lkR_allB l d T h.2 h2
section
variable {P : Program} {F : Fm} {N : Nat} {G : Gt} {o : Oper} {ops : Array Oper} {σ : TS} {k : TS → Prop} {Q : Exit → TS → Prop} {c : Code}
theorem rekey_le {κ κ' : Nat} (hE : F.nE ≤ 1000000) (hne : Nat.beq κ κ' = false) (hk : (Nat.blt κ 1000000 || Nat.ble 2000000 κ) = true) (hk' : (Nat.blt κ' 1000000 || Nat.ble 2000000 κ') = true) (hv : noVw κ (σ.drop κ').r = true) (hro : ((σ.drop κ').r.all fun p => rkOk p.2) = true)
    {a : Act} {w : World} (h : Rel F N σ.er a w) : Rel F N (TS.rk κ κ' (σ.drop κ')).er a w := by
  have okb : ∀ d, (Nat.blt d 1000000 || Nat.ble 2000000 d) = true → okK F d := fun d hd => by
    simp only [Bool.or_eq_true, blt_dec, ble_dec, decide_eq_true_eq] at hd
    intro ρ hρ e; omega
  simp only [beq_dec, decide_eq_false_iff_not] at hne
  obtain ⟨ω, β, h0⟩ := h
  have h1 : Rel1 F N (σ.drop κ').er a w ω β := by
    have := (h0.drop κ')
    refine this.sim (fun t => .inr (drop_tv σ κ' t)) (fun d R hR => ⟨R, by rw [drop_rt]; exact hR, RSim.rfl R⟩) (fun d R hR => ⟨R, by rw [← drop_rt]; exact hR⟩)
  have hn' : (σ.drop κ').er.rt κ' = none := by rw [drop_rt, St.rt_drop, if_pos rfl]
  generalize σ.drop κ' = τ at h1 hn' hv hro ⊢
  have h2 := h1.rekeyG (κ := κ) (κ' := κ') (σ' := St.rk κ κ' τ.er) hne hn' (okb κ hk) (okb κ' hk') (fun d R2 hd i r => noVw_ok hv d R2 i r (by rw [← TS.rt_er]; exact hd)) (fun t => .inr ?_) (fun d hd => ?_) ?_
  · refine le_lk (s := St.rk κ κ' τ.er) (τ := TS.rk κ κ' τ) (fun t => .inr ?_) (fun d => ?_) F N a w ⟨_, _, h2⟩
    · show stV (lkT (τ.t.map fun p => (p.1, p.2.rk κ κ')) t) = (look (τ.er.t.map fun p => (p.1, p.2.rk κ κ')) t).getD .any
      rw [lkT_map (V.rk κ κ') rfl, St.tv_map τ.er (V.rk κ κ') rfl, TS.tv_er, stV_rk]
    · have hl : lkR τ.r κ' = none := by
        rw [TS.rt_er] at hn'
        cases hq : lkR τ.r κ' with
        | none => rfl
        | some T => rw [hq] at hn'; cases hn'
      show OSim (look (τ.er.r.map fun p => (rkN κ κ' p.1, p.2.rk κ κ')) d) ((lkR (τ.r.map fun p => (rkN κ κ' p.1, p.2.rk κ κ')) d).map TRoot.er)
      rw [look_rk hne τ.er.r hn' d, lkR_rk hne τ.r hl d]
      have key : ∀ d, OSim ((look τ.er.r d).map (Root.rk κ κ')) (((lkR τ.r d).map (TRoot.rk κ κ')).map TRoot.er) := by
        intro d
        have : look τ.er.r d = (lkR τ.r d).map TRoot.er := lkR_eq τ.r d
        rw [this]
        cases hq : lkR τ.r d with
        | none => trivial
        | some T => exact TRoot.rk_sim κ κ' T (lkR_allB τ.r d T hro hq)
      by_cases e1 : d = κ'
      · rw [if_pos e1, if_pos e1]; exact key κ
      · rw [if_neg e1, if_neg e1]
        by_cases e2 : d = κ
        · rw [if_pos e2, if_pos e2]; trivial
        · rw [if_neg e2, if_neg e2]; exact key d
  · show (look (τ.er.t.map fun p => (p.1, p.2.rk κ κ')) t).getD .any = _
    rw [St.tv_map τ.er (V.rk κ κ') rfl]
  · show look (τ.er.r.map fun p => (rkN κ κ' p.1, p.2.rk κ κ')) d = _
    rw [look_rk hne τ.er.r hn' d, if_neg hd]; rfl
  · show look (τ.er.r.map fun p => (rkN κ κ' p.1, p.2.rk κ κ')) κ' = _
    rw [look_rk hne τ.er.r hn' κ', if_pos rfl]; rfl
/-- A root gets the key of one that is not wanted any more; before the region told by its number. -/
theorem CodeK.rekeyG (κ κ' : Nat) (hE : F.nE ≤ 1000000) (hne : Nat.beq κ κ' = false) (hk : (Nat.blt κ 1000000 || Nat.ble 2000000 κ) = true) (hk' : (Nat.blt κ' 1000000 || Nat.ble 2000000 κ') = true) (hv : noVw κ (σ.drop κ').r = true) (hro : ((σ.drop κ').r.all fun p => rkOk p.2) = true)
    (h : fS (TS.rk κ κ' (σ.drop κ')) fun σ => CodeK P F N c σ Q) : CodeK P F N c σ Q := by
  rw [fS_eq] at h
  exact ⟨fun a w hr => h.h a w (rekey_le hE hne hk hk' hv hro hr)⟩
theorem CodeK.rekeyR {id : Nat} {dr : Bool} (n κ κ' : Nat) (hid : id = n) (hE : F.nE ≤ 1000000) (hne : Nat.beq κ κ' = false) (hk : (Nat.blt κ 1000000 || Nat.ble 2000000 κ) = true) (hk' : (Nat.blt κ' 1000000 || Nat.ble 2000000 κ') = true) (hh : (lkR σ.r κ).isSome = true) (hv : noVw κ (σ.drop κ').r = true) (hro : ((σ.drop κ').r.all fun p => rkOk p.2) = true)
    (h : fS (TS.rk κ κ' (σ.drop κ')) fun σ => CodeK P F N (.region id ops dr) σ Q) : CodeK P F N (.region id ops dr) σ Q := CodeK.rekeyG κ κ' hE hne hk hk' hv hro h
theorem CodeK.rekeyS {id : Nat} {dr : Bool} {b : Code} (n κ κ' : Nat) (hid : id = n) (hE : F.nE ≤ 1000000) (hne : Nat.beq κ κ' = false) (hk : (Nat.blt κ 1000000 || Nat.ble 2000000 κ) = true) (hk' : (Nat.blt κ' 1000000 || Nat.ble 2000000 κ') = true) (hh : (lkR σ.r κ).isSome = true) (hv : noVw κ (σ.drop κ').r = true) (hro : ((σ.drop κ').r.all fun p => rkOk p.2) = true)
    (h : fS (TS.rk κ κ' (σ.drop κ')) fun σ => CodeK P F N (.seq (.region id ops dr) b) σ Q) : CodeK P F N (.seq (.region id ops dr) b) σ Q := CodeK.rekeyG κ κ' hE hne hk hk' hv hro h
theorem CodeK.loopK {ι : Type} (S : ι → TS) (p : ι → Prop) (M : ι → Nat) (i0 : ι) (h0 : leT σ (S i0)) (hp : p i0) (round : ∀ i, p i → fS (S i) fun σ => CodeK P F N c σ (TLoop S p M i Q)) : CodeK P F N (.loop c) σ Q := by
  refine ⟨AC.loopS (ι := {i : ι // p i}) (fun i => (S i.1).er) (fun i => M i.1) ⟨i0, hp⟩ h0 fun i => ?_⟩
  have hr := round i.1 i.2
  rw [fS_eq] at hr
  refine AC.mono hr.h (fun e s hq => ?_)
  obtain ⟨τ, h1, h2⟩ := hq
  cases e with
  | normal =>
    obtain ⟨j, h3, h4, h5⟩ := h2
    exact ⟨⟨j, h4⟩, h5, h1.trans h3⟩
  | exit id => exact ⟨τ, h1, h2⟩
  | goto l => exact ⟨τ, h1, h2⟩
  | ret => exact ⟨τ, h1, h2⟩
  | panic c => exact ⟨τ, h1, h2⟩
  | outgrown => exact ⟨τ, h1, h2⟩
end
end Go.Tr
end

section
/- CmdsDo in both packages. -/
namespace Go.Proofs.Ytlnlogflhagocaa
open Go Go.Tr
set_option maxRecDepth 100000
set_option maxHeartbeats 4000000
set_option linter.unusedVariables false
set_option linter.unusedSimpArgs false
noncomputable def csS (st : List KVT × List ResT) (c : CmdT) : List KVT × List ResT := (cdM st.1 c, st.2 ++ [cdR st.1 c])
noncomputable def csT (xs : List KVT) (ys : List CmdT) : List KVT × List ResT := ys.foldl csS (xs, [])
noncomputable abbrev csM (xs : List KVT) (ys : List CmdT) : List KVT := (csT xs ys).1
noncomputable abbrev csR (xs : List KVT) (ys : List CmdT) : List ResT := (csT xs ys).2
theorem csT_succ (xs : List KVT) (ys : List CmdT) {i : Nat} (h : i < ys.length) : csT xs (ys.take (i + 1)) = csS (csT xs (ys.take i)) (ys.getD i zCmd) := by
  unfold csT
  rw [List.take_succ_eq_append_getElem h, List.foldl_append]
  simp [List.getD, h]
theorem csT_bd (xs : List KVT) (ys : List CmdT) : ∀ i, i ≤ ys.length → (csT xs (ys.take i)).1.length ≤ xs.length + i ∧ (csT xs (ys.take i)).2.length = i
  | 0, _ => ⟨Nat.le_refl _, rfl⟩
  | i + 1, h => by
    obtain ⟨h1, h2⟩ := csT_bd xs ys i (by omega)
    rw [csT_succ xs ys (by omega)]
    have := cdM_le (csT xs (ys.take i)).1 (ys.getD i zCmd)
    refine ⟨?_, ?_⟩
    · show (cdM _ _).length ≤ _; omega
    · show (_ ++ [_]).length = _; simp [h2]
theorem csM_le (xs : List KVT) (ys : List CmdT) : (csM xs ys).length ≤ xs.length + ys.length := by
  have := (csT_bd xs ys ys.length (Nat.le_refl _)).1
  rwa [List.take_of_length_le (Nat.le_refl _)] at this
theorem csR_le (xs : List KVT) (ys : List CmdT) : (csR xs ys).length ≤ ys.length := by
  have := (csT_bd xs ys ys.length (Nat.le_refl _)).2
  rw [List.take_of_length_le (Nat.le_refl _)] at this
  exact Nat.le_of_eq this
theorem CmdsDoS_run (e e1 : Nat) (xs : List KVT) (ys : List CmdT) (hn : xs.length + ys.length ≤ 1048576) : RunT Try.prog 159 [.one (.c (tKV e xs)), .one (.c (tCmd e1 ys))] [] [.one (tKV 179 (csM xs ys)), .one (tRes 249 (csR xs ys))] [] := by
  refine RunT.of_vc gOk Try.func159 rfl rfl (Nat.le_of_ble_eq_true rfl) (by repeat' (first | exact trivial | exact ⟨_, rfl, Nat.le_refl _⟩ | exact Nat.le_of_ble_eq_true rfl | refine And.intro ?_ ?_)) (Nat.le_of_ble_eq_true rfl) rfl (fun F hE => ?_)
  repeat' (first | exact trivial | refine BS.d (fun h => ?_) (fun h => ?_) | refine BS.e (fun h => ?_) (fun h => ?_) | refine BS.ne (fun h => ?_) (fun h => ?_) | refine BS.n ?_ | refine BS.s (fun h => ?_) (fun h => ?_) | refine And.intro ?_ ?_ | (refine Need.mk ?_; first | with_reducible rfl | (show @Eq TC _ _; rfl) | omega | (simp only [adN_zero]; omega)) | exact OutS.whole rfl rfl | (refine OpK.apps gOk rfl rfl rfl rfl rfl rfl rfl rfl rfl rfl rfl flatKV rfl ?_ ?_) | refine ListO.go gOk hE ?_)
  all_goals first
    | (refine ⟨?_, ?_⟩ <;> (try unfold maxLen) <;> (try simp only [List.length_nil]) <;> omega)
    | (unfold maxLen; simp only [List.length_nil]; omega)
    | (simp only [List.length_nil]; omega)
    | skip
  refine CodeK.loopK (fun i : Nat => ⟨[(1, vr 1000001 ys.length), (6, vr 11 (csT xs (ys.take i)).1.length), (7, vr 14 (csT xs (ys.take i)).2.length), (8, vi i)], [(11, rKV .own true 179 (csT xs (ys.take i)).1), (14, rRes .own true 249 (csT xs (ys.take i)).2), (1000001, rCmd .fro false e1 ys)]⟩) (fun i => i ≤ ys.length) (fun i => ys.length - i) 0 (by refine leT.of ?_ ?_ rfl <;> repeat' (first | exact trivial | refine And.intro rfl ?_ | refine And.intro (by first | rfl | (simp [csT] <;> rfl)) ?_)) (Nat.zero_le _) ?_
  rintro i hi
  obtain ⟨hb1, hb2⟩ := csT_bd xs ys i hi
  by_cases hi2 : i < ys.length
  · have hsu := csT_succ xs ys hi2
    have c1 := CmdDoS_run 179 (csT xs (ys.take i)).1 (ys.getD i zCmd) (by omega)
    generalize csT xs (ys.take i) = st at *
    have hst : csT xs (ys.take (i + 1)) = (cdM st.1 (ys.getD i zCmd), st.2 ++ [cdR st.1 (ys.getD i zCmd)]) := hsu
    clear hsu
    generalize cdM st.1 (ys.getD i zCmd) = m1 at *
    generalize cdR st.1 (ys.getD i zCmd) = r1 at *
    repeat' (first | exact trivial | refine BS.d (fun h => ?_) (fun h => ?_) | refine BS.e (fun h => ?_) (fun h => ?_) | refine BS.ne (fun h => ?_) (fun h => ?_) | refine BS.n ?_ | refine BS.s (fun h => ?_) (fun h => ?_) | refine And.intro ?_ ?_ | (refine Need.mk ?_; first | with_reducible rfl | (show @Eq TC _ _; rfl) | omega | (simp only [adN_zero]; omega)) | exact OutS.whole rfl rfl | (refine OpK.call c1 rfl rfl rfl rfl hE ?_ rfl rfl ?_; focus ((repeat' (first | exact PsA.lit _ | exact PsA.ref rfl rfl | constructor)); all_goals (fail "ps"))) | (refine CodeK.rekeyR 5 2003456 11 rfl hE rfl rfl rfl rfl rfl rfl ?_) | (refine CodeK.rekeyS 5 2003456 11 rfl hE rfl rfl rfl rfl rfl rfl ?_) | (refine CodeK.seqL 9999 rfl ?_) | (refine CodeK.seqv gOk hE ?_) | (refine CodeK.vc gOk hE ?_) | (refine ListO.step gOk hE ?_) | (refine ListO.done ?_) | refine ListO.go gOk hE ?_)
    all_goals (try simp only [adN_zero] at *)
    all_goals first
      | (exfalso; omega)
      | (refine Need.mk ?_; first | omega | (refine ⟨?_, ?_⟩ <;> (try unfold maxLen) <;> omega))
      | (refine ⟨i + 1, (by refine leT.of ?_ ?_ rfl <;> repeat' (first | exact trivial | refine And.intro rfl ?_ | refine And.intro (by first | rfl | (rw [hst]; rfl) | (simp [hst] <;> rfl)) ?_)), by omega, by first | omega | (dsimp only; omega)⟩)
      | trace_state
  · have hlast : csT xs (ys.take i) = csT xs ys := by rw [List.take_of_length_le (by omega)]
    rw [hlast] at *
    repeat' (first | exact trivial | refine BS.d (fun h => ?_) (fun h => ?_) | refine BS.e (fun h => ?_) (fun h => ?_) | refine BS.ne (fun h => ?_) (fun h => ?_) | refine BS.n ?_ | refine BS.s (fun h => ?_) (fun h => ?_) | refine And.intro ?_ ?_ | (refine Need.mk ?_; first | with_reducible rfl | (show @Eq TC _ _; rfl) | omega | (simp only [adN_zero]; omega)) | exact OutS.whole rfl rfl | (refine CodeK.seqL 9999 rfl ?_) | (refine CodeK.seqv gOk hE ?_) | (refine CodeK.vc gOk hE ?_) | (refine ListO.step gOk hE ?_) | (refine ListO.done ?_) | refine ListO.go gOk hE ?_)
    all_goals first
      | (exfalso; omega)
      | exact OutS.whole rfl rfl
      | trace_state
end Go.Proofs.Ytlnlogflhagocaa
end

section
/- Replaying a log: what it makes of a map. -/
namespace Go.Proofs.Ytlnlogflhagocaa
open Go Go.Tr
set_option maxRecDepth 100000
set_option maxHeartbeats 4000000
set_option linter.unusedVariables false
set_option linter.unusedSimpArgs false
/-- The commands of a serial's call, the results of its tell. -/
def cmA (L : List TEvT) (s : Int) : List CmdT := (L.getD (plc L 1 s).toNat zTEv).2.2.2.2.1
def rsA (L : List TEvT) (s : Int) : List ResT := (L.getD (plc L 3 s).toNat zTEv).2.2.2.2.2
noncomputable def rpM (L : List TEvT) (m : List KVT) (s : Int) : List KVT := if plc L 1 s < 0 then m else csM m (cmA L s)
noncomputable def rpQ (L : List TEvT) (m : List KVT) (s : Int) : Bool := if plc L 1 s < 0 then false else decide (csR m (cmA L s) = rsA L s)
noncomputable def rpS (L : List TEvT) (st : List KVT × Bool) (s : Int) : List KVT × Bool := (rpM L st.1 s, st.2 && rpQ L st.1 s)
noncomputable def rpN (L : List TEvT) (o : List Int) (i : Nat) : List KVT × Bool := (o.take i).foldl (rpS L) ([], true)
theorem rpN_succ (L : List TEvT) {o : List Int} {i : Nat} (h : i < o.length) : rpN L o (i + 1) = rpS L (rpN L o i) (o.getD i 0) := by
  unfold rpN
  rw [List.take_succ_eq_append_getElem h, List.foldl_append]
  simp [List.getD, h]
def gS (s : Int) : List TEvT → Nat
  | [] => 0
  | e :: l => (if e.2.2.1 = s then e.2.2.2.2.1.length else 0) + gS s l
def totC : List TEvT → Nat
  | [] => 0
  | e :: l => e.2.2.2.2.1.length + totC l
def sumS (L : List TEvT) : List Int → Nat
  | [] => 0
  | s :: o => gS s L + sumS L o
theorem sumS_nil : ∀ o, sumS [] o = 0
  | [] => rfl
  | s :: o => by simp [sumS, gS, sumS_nil o]
theorem sumS_not (e : TEvT) (L : List TEvT) : ∀ o : List Int, e.2.2.1 ∉ o → sumS (e :: L) o = sumS L o
  | [], _ => rfl
  | s :: o, h => by
    have h1 : e.2.2.1 ≠ s := fun hh => h (by rw [hh]; exact List.mem_cons_self ..)
    have h2 := sumS_not e L o (fun hh => h (List.mem_cons_of_mem _ hh))
    simp [sumS, gS, h1, h2]
theorem sumS_cons (e : TEvT) (L : List TEvT) : ∀ o : List Int, o.Nodup → sumS (e :: L) o ≤ e.2.2.2.2.1.length + sumS L o
  | [], _ => Nat.zero_le _
  | s :: o, hd => by
    rw [List.nodup_cons] at hd
    by_cases h1 : e.2.2.1 = s
    · have := sumS_not e L o (by rw [h1]; exact hd.1)
      simp only [sumS, gS, h1, if_true, this]; omega
    · have := sumS_cons e L o hd.2
      simp only [sumS, gS, h1, if_false]; omega
theorem sumS_le : ∀ (L : List TEvT) (o : List Int), o.Nodup → sumS L o ≤ totC L
  | [], o, _ => by rw [sumS_nil]; exact Nat.zero_le _
  | e :: L, o, h => by
    have h1 := sumS_cons e L o h
    have h2 := sumS_le L o h
    simp only [totC]; omega
theorem gS_ge : ∀ (L : List TEvT) (i : Nat) (s : Int), i < L.length → (L.getD i zTEv).2.2.1 = s → (L.getD i zTEv).2.2.2.2.1.length ≤ gS s L
  | [], i, s, h, _ => by simp at h
  | e :: L, 0, s, _, hs => by
    have hs : e.2.2.1 = s := hs
    show e.2.2.2.2.1.length ≤ _
    simp only [gS, hs, if_true]; omega
  | e :: L, i + 1, s, h, hs => by
    have := gS_ge L i s (by simpa using h) (by simpa [List.getD] using hs)
    simp only [gS]
    show (L.getD i zTEv).2.2.2.2.1.length ≤ _
    omega
theorem plc_pl {L : List TEvT} {k s : Int} (h : 0 ≤ plc L k s) : (plc L k s).toNat < L.length ∧ (L.getD (plc L k s).toNat zTEv).2.2.1 = s := by
  unfold plc at h ⊢
  cases hf : firstP (pl L k s) 0 L.length with
  | none => rw [hf] at h; exact absurd h (by simp [plR])
  | some j =>
    obtain ⟨_, h2, h3⟩ := firstP_lt hf
    unfold pl at h3
    simp only [Bool.and_eq_true, decide_eq_true_eq] at h3
    exact ⟨by simpa [plR] using h2, by simpa [plR] using h3.2⟩
theorem cmA_le (L : List TEvT) {s : Int} (h : ¬ plc L 1 s < 0) : (cmA L s).length ≤ gS s L := by
  obtain ⟨h1, h2⟩ := plc_pl (L := L) (k := 1) (s := s) (by omega)
  exact gS_ge L _ s h1 h2
theorem rpM_le (L : List TEvT) (m : List KVT) (s : Int) : (rpM L m s).length ≤ m.length + gS s L := by
  unfold rpM
  split
  · omega
  · rename_i h
    have := csM_le m (cmA L s)
    have := cmA_le L h
    omega
theorem rpN_le (L : List TEvT) (o : List Int) : ∀ i, i ≤ o.length → (rpN L o i).1.length ≤ sumS L (o.take i)
  | 0, _ => by simp [rpN]
  | i + 1, h => by
    have hi : i < o.length := by omega
    rw [rpN_succ L hi]
    have h1 := rpN_le L o i (by omega)
    have h2 := rpM_le L (rpN L o i).1 (o.getD i 0)
    have h3 : ∀ (a : List Int) (s : Int), sumS L (a ++ [s]) = sumS L a + gS s L := by
      intro a s
      induction a with
      | nil => simp [sumS]
      | cons x a ih => simp only [List.cons_append, sumS, ih]; omega
    rw [List.take_succ_eq_append_getElem hi, h3]
    have h4 : o.getD i 0 = o[i] := by simp [List.getD, hi]
    rw [h4] at h2
    show (rpM L (rpN L o i).1 (o.getD i 0)).length ≤ _
    rw [h4]; omega
theorem ordN_nd (L : List TEvT) : ∀ i, (ordN L i).Nodup
  | 0 => List.nodup_nil
  | i + 1 => by
    have h0 := ordN_nd L i
    unfold ordN
    split
    · rename_i ht
      unfold oTk at ht
      simp only [Bool.and_eq_true, decide_eq_true_eq, Bool.not_eq_true', decide_eq_false_iff_not] at ht
      refine List.nodup_append.2 ⟨h0, by simp, fun a ha b hb e => ?_⟩
      simp only [List.mem_singleton] at hb
      exact ht.2.2 (by rw [← hb, ← e]; exact ha)
    · exact h0
theorem sumS_take (L : List TEvT) : ∀ (o : List Int) (i : Nat), i < o.length → sumS L (o.take i) + gS (o.getD i 0) L ≤ sumS L o
  | [], i, h => by simp at h
  | s :: o, 0, _ => by simp [sumS, List.getD]
  | s :: o, i + 1, h => by
    have := sumS_take L o i (by simpa using h)
    simp only [List.take_succ_cons, sumS]
    show gS s L + sumS L (o.take i) + gS (o.getD i 0) L ≤ _
    omega
/-- The map and the next commands together stay within the log's size. -/
theorem rpN_fit (L : List TEvT) {o : List Int} (hd : o.Nodup) {i : Nat} (hi : i < o.length) : (rpN L o i).1.length + gS (o.getD i 0) L ≤ totC L := by
  have h1 := rpN_le L o i (by omega)
  have h2 := sumS_take L o i hi
  have h3 := sumS_le L o hd
  omega
theorem rpN_all (L : List TEvT) {o : List Int} (hd : o.Nodup) {i : Nat} (hi : i ≤ o.length) : (rpN L o i).1.length ≤ totC L := by
  have h1 := rpN_le L o i hi
  have h2 : sumS L (o.take i) ≤ totC L := sumS_le L _ (hd.sublist (List.take_sublist _ _))
  omega
theorem szTs_tot : ∀ (l : List TEvT) (m : Int), 0 ≤ m → 0 ≤ szTs l m → (totC l : Int) ≤ m
  | [], m, h, _ => by simp [totC]; omega
  | x :: l, m, h, hs => by
    have h1 := szT_bd x m h
    unfold szTs at hs
    split at hs
    · omega
    · rename_i h2
      have h3 := szTs_tot l (szT x m) (by omega) hs
      have h4 : szT x m + x.2.2.2.2.1.length ≤ m := by
        unfold szT at h2 ⊢
        split at h2
        · omega
        · rename_i h5
          rw [if_neg h5]
          have e1 : szI x.2.2.2.2.1 m = m - x.2.2.2.2.1.length := by
            unfold szI at h5 ⊢; split at h5 <;> split <;> omega
          have e2 := (szI_bd x.2.2.2.2.2 (szI x.2.2.2.2.1 m) (by omega)).1
          omega
      simp only [totC]; omega
theorem szTL_tot {L : List TEvT} (hz : ¬ szTL L 1048576 < 0) : totC L ≤ 1048576 := by
  unfold szTL at hz
  split at hz
  · omega
  · have := szTs_tot L (1048576 - L.length) (by omega) (by omega)
    omega
end Go.Proofs.Ytlnlogflhagocaa
end

section
/- Shifts by a constant. -/
set_option linter.unusedVariables false
set_option linter.unusedSimpArgs false
universe u
namespace Go.Tr
open Go Go.RowKit
section
variable {P : Program} {F : Fm} {N : Nat} {G : Gt} {o : Oper} {τ σ : TS} {k : TS → Prop}
theorem PK.shl8 {t u : Nat} {x y : Operand} {k' : IntKind} {i : Int} {kv : V → Prop} (hop : o.op = .binOp .shl t x y u) (hx : evS σ x = .a (.lit (.int .i64 i))) (hy : evS σ y = .a (.lit (.int k' 8))) (hb : -36028797018963968 ≤ i ∧ i ≤ 36028797018963967)
    (h : kv (.a (.lit (.int .i64 (i * 256))))) : PK P F N o σ kv := by
  refine ⟨_, h, fun a w ω β hr => ?_⟩
  have ex : a.eval x = .int .i64 i := ev_lit hr (by rw [evS_eq, hx]; rfl)
  have ey : a.eval y = .int k' 8 := ev_lit hr (by rw [evS_eq, hy]; rfl)
  refine ⟨.int .i64 (i * 256), fun w' => ?_, rfl, rfl⟩
  generalize a.eval = ρ at ex ey ⊢
  refine run_bin ρ w' hop (by rw [ex, ey]; exact run_guard_int w' _ _ _ _ _ _ _ _) ?_
  rw [ex, ey]
  show (Op.shift .shl .i64 i k' 8).run P w' = _
  unfold Op.shift
  rw [if_neg (by omega)]
  show Result.ok (Value.int .i64 (IntKind.i64.wrap (i * 2 ^ 8))) w' = _
  rw [show i * 2 ^ 8 = i * 256 by omega, IntWalk.i64_in _ (by omega)]
theorem or8 (x y : Int) (h0 : 0 ≤ x) (h1 : x ≤ 281474976710655) (h2 : 0 ≤ y) (h3 : y ≤ 255) : wr .i64 ((BitVec.ofInt IntKind.i64.bits (x * 256) ||| BitVec.ofInt IntKind.i64.bits y).toNat) = x * 256 + y := by
  rw [wr_eq]
  exact bits_join .i64 63 (by decide) (fun n h₀ h₁ => by rw [IntKind.wrap_i64]; omega) 8 (x * 256) y (by omega) (by omega) (by omega) h2 (by omega) (by omega)
end
end Go.Tr
end

section
/- An array out of a slice: a run of literal elements read together. -/
set_option linter.unusedVariables false
set_option linter.unusedSimpArgs false
universe u
namespace Go.Tr
open Go Go.RowKit
section
variable {P : Program} {F : Fm} {N : Nat} {G : Gt} {o : Oper} {τ σ : TS} {k : TS → Prop}
theorem OpK.toArr (hG : GOk P G) {t m e ke kt : Nat} {z : List ZC} {x : Operand} {κ lo n : Nat} {R : TRoot} (hop : o.op = .sliceToArrayPointer t x) (hg : o.guard = none) (hd : okD N o.dst = true) (hx : evS σ x = .a (.ref κ lo n)) (ht : G.T t = some ⟨kt, .arr m e ke, z⟩) (hR : lkR σ.r κ = some R) (hm : 0 < n ∧ m ≤ n)
    (h : stO o σ (.ptr κ lo 0) k) : OpK P F N o σ k :=
  ⟨fun ops Q rest kk => by
    obtain ⟨h1, inf, h2, h3⟩ := (hG.T t _ ht).kind
    refine AL.val hg hd (fun a w ω β hr => ?_) (stO_ok hd kk h)
    have hv := hr.ev x
    rw [evS_eq, hx] at hv
    obtain ⟨R', e1, _, A, c, e2, e3, _, _, _, e5⟩ := hv
    obtain ⟨g, o', e6, e7⟩ := e5 (by omega)
    refine ⟨.pointer A, ?_, R', g, _, e1, ⟨o', e6, rfl⟩, by rw [e7]; rfl⟩
    generalize a.eval = ρ at e2 ⊢
    simp [execOp, hop, go_sem, e2, e7, Instr.arrayAt, underlying, h1]
    omega⟩
theorem OpK.ldArr (hG : GOk P G) {t m κ lo e : Nat} {oo : RO} {f : Bool} {kd : TK} {z : List ZC} {x : Operand} {X : Type} {enc : X → Nat → TC} {dec : List Value → Option X} {d : X} {xs : List X} (v : X → Value) (hop : o.op = .load t x) (hg : o.guard = none) (hd : okD N o.dst = true) (hx : evS σ x = .ptr κ lo 0) (ht : G.T t = some ⟨m, kd, z⟩) (hk : agK kd = true)
    (hR : lkR σ.r κ = some (.ty oo f e 1 X enc dec d xs)) (hl : lo + m ≤ xs.length) (he : ∀ x, enc x 0 = .lit (v x))
    (h : stO o σ (.agg ((List.range m).map fun q => .lit (v (xs.getD (lo + q) d)))) k) : OpK P F N o σ k :=
  ⟨fun ops Q rest kk => by
    have hF := hG.T t _ ht
    obtain ⟨D, h1, h2⟩ : ∃ D, P.underlying t = some D ∧ scD D = false := by
      have h := hF.kind
      cases kd with
      | st pl => obtain ⟨fs, h1, _⟩ := h; exact ⟨_, h1, rfl⟩
      | arr n e ke => exact ⟨_, h.1, rfl⟩
      | sc => cases hk
      | sl _ _ _ => cases hk
      | ot => cases hk
    obtain ⟨inf, zv, h3, h4, _⟩ := hF.info
    have hRe := TS.rt_some hR
    refine AL.val hg hd (fun a w ω β hr => ?_) (stO_ok hd kk h)
    have hv := hr.ev x
    rw [evS_eq, hx] at hv
    obtain ⟨R', g, j, e1, ⟨o', e2, e3⟩, e4⟩ := hv
    rw [hRe] at e1; injection e1 with e1; subst e1
    have hcell : ∀ q, q < m → w.cell? ⟨g, j + q, none⟩ = some (v (xs.getD (lo + q) d)) ∧ scal (v (xs.getD (lo + q) d)) = true := by
      intro q hq
      obtain ⟨g', j', u, ⟨o2, f1, f2⟩, k2, k3⟩ := hr.load hRe (i := lo + q) (r := 0) (show lo + q < xs.length by omega) (show 0 < 1 by omega) rfl
      rw [e2] at f1; injection f1 with f1; injection f1 with f3 f4 _
      subst f3 f4
      have e5 : j = o' + (lo * 1 + 0) := e3
      have f5 : j' = o' + ((lo + q) * 1 + 0) := f2
      have : j' = j + q := by omega
      subst this
      have ha : (TRoot.ty oo f e 1 X enc dec d xs).er.atom κ (lo + q) 0 = .lit (v (xs.getD (lo + q) d)) := by
        show (match Cl.cl ((enc (xs.getD (lo + q) d) 0).er (owOf oo)) with
          | .ref κ' lo n => At.ref κ' lo n
          | .cl (.lit v) => .lit v
          | .cl (.sl _ _ _ _ _) => .spot κ (lo + q) 0
          | .cl _ => .any) = _
        rw [he]; rfl
      rw [ha] at k3
      obtain ⟨rfl, k4⟩ := k3
      exact ⟨k2, k4⟩
    refine ⟨.agg ((List.range m).map fun q => v (xs.getD (lo + q) d)).toArray, run_load _ w hop e4 (run_loadVar_agg (P := P) (w := w) (g := g) (j := j) h1 h2 h3 (show inf.size = m from h4) (fun q => v (xs.getD (lo + q) d)) (fun q hq => (hcell q hq).1)), _, rfl, by simp, fun i x hi => ?_⟩
    rw [List.getElem?_map, List.getElem?_map] at hi
    by_cases hlt : i < m
    · rw [List.getElem?_range hlt] at hi
      injection hi with hi; subst hi
      refine ⟨v (xs.getD (lo + i) d), ?_, rfl, (hcell i hlt).2⟩
      simp [List.getElem?_range hlt]
    · rw [List.getElem?_eq_none (by simp; omega)] at hi
      cases hi⟩
theorem OpK.buildArr (hG : GOk P G) {t m n e ke : Nat} {z : List ZC} {parts : Array (Nat × Operand)} {qs : List (Nat × List At)} (hop : o.op = .build t parts) (hg : o.guard = none) (hd : okD N o.dst = true)
    (ht : G.T t = some ⟨m, .arr n e ke, z⟩) (hz : z.all ZC.ok = true) (hq : partsQ σ (fun i => some (i * ke, ke)) parts.toList = some qs) (hok : fillOk m qs = true) (h : stO o σ (.agg (fillA (z.map ZC.at_) qs)) k) : OpK P F N o σ k :=
  ⟨fun ops Q rest kk => by
    have hp := partsQ_ok hq
    have hF := hG.T t _ ht
    obtain ⟨inf, zv, h3, h4, h5, h6⟩ := hF.info
    have hlen : z.length = m := hF.zl
    obtain ⟨h1, ie, h7, h8⟩ := hF.kind
    refine AL.val hg hd (fun a w ω β h => ?_) (stO_ok hd kk h)
    have hr0 : FillR σ.er β w zv.cells (z.map ZC.at_) := by
      refine ⟨by rw [← Array.length_toList, h6]; simp, fun j x hj => ?_⟩
      rw [List.getElem?_map] at hj
      cases hq : z[j]? with
      | none => rw [hq] at hj; cases hj
      | some zc =>
        rw [hq] at hj; injection hj with hj
        subst hj
        refine ⟨zc.val, ?_, ZC.arel (List.all_eq_true.1 hz _ (List.mem_of_getElem? hq))⟩
        rw [← Array.getElem?_toList, h6]
        show (z.map ZC.val)[j]? = _
        rw [List.getElem?_map, hq]; rfl
    obtain ⟨c', k1, k2, k3⟩ := fill_rel h parts.toList qs zv.cells (z.map ZC.at_) hp (by simpa [hlen] using hok) hr0
    have est := fillA_st _ _ (zat_st z) (partsQ_st hq)
    refine ⟨.agg c', ?_, c', rfl, by rw [est]; exact k2.1, by rw [est]; exact k2.2⟩
    have hbuilt : P.built t ((parts.map fun (i, x) => (i, a.eval x)).toList) = some c' := by
      unfold Program.built
      rw [h3, h1]
      simp only [h5, h7, h8]
      rw [Array.toList_map, ← k1]
    have hrun := run_build w t (parts.map fun (i, x) => (i, a.eval x)) c' hbuilt
    unfold execOp
    rw [hop]
    show ((Instr.build t (parts.map fun (i, x) => (i, a.eval x)) >>= fun v => pure (Next.value v)) : Sem Next).run P w = _
    rw [Sem.run_bind, hrun]
    rfl⟩
theorem arr_items {e : TypeId} {d : Nat} {w : World} (he : P.underlying e = some (.int .i64)) (f g : Nat → Int) (n : Nat) (xs ys : Array Value) (hx : ∀ i, i < n → xs[i]? = some (.int .i64 (f i))) (hy : ∀ i, i < n → ys[i]? = some (.int .i64 (g i))) :
    ∀ is : List Nat, (∀ i ∈ is, i < n) → (Op.eqItems (d + 1) e 1 xs ys is).run P w = .ok (decide (∀ i ∈ is, f i = g i)) w
  | [], _ => by simp [Op.eqItems]
  | i :: is, h => by
    have h1 := hx i (h i (by simp))
    have h2 := hy i (h i (by simp))
    have p1 : (part e xs (i * 1)).run P w = .ok (.int .i64 (f i)) w := by simp [part, isAgg, he, go_sem, run_underlying, h1]
    have p2 : (part e ys (i * 1)).run P w = .ok (.int .i64 (g i)) w := by simp [part, isAgg, he, go_sem, run_underlying, h2]
    have ih := arr_items (d := d) (w := w) he f g n xs ys hx hy is (fun j hj => h j (by simp [hj]))
    simp only [Op.eqItems, Sem.run_bind, p1, p2, Result.andThen_ok, run_equalIn_int w d e .i64 .i64 (f i) (g i) he]
    by_cases e1 : f i = g i
    · simp [e1, ih]
    · simp [e1]
theorem arr_eq {t e : TypeId} {n : Nat} {w : World} {inf : TypeInfo} (ht : P.underlying t = some (.array n e)) (he : P.underlying e = some (.int .i64)) (hi : P.info? e = some inf) (hc : P.cellsOf e = 1) (f g : Nat → Int) (xs ys : Array Value) (hx : ∀ i, i < n → xs[i]? = some (.int .i64 (f i))) (hy : ∀ i, i < n → ys[i]? = some (.int .i64 (g i))) :
    (Op.equalIn 10000 t (.agg xs) (.agg ys)).run P w = .ok (decide (∀ i ∈ List.range n, f i = g i)) w := by
  rw [show (10000 : Nat) = 9999 + 1 from rfl, run_equalIn_array w 9999 xs ys ht hi, hc]
  exact arr_items (d := 9998) he f g n xs ys hx hy _ (fun i hi => List.mem_range.1 hi)
end
end Go.Tr
end

section
/- An array variable is told as a row of elements: it is sliced, filled and read. -/
set_option linter.unusedVariables false
set_option linter.unusedSimpArgs false
universe u
namespace Go.Tr
open Go Go.RowKit
section
variable {F : Fm} {N : Nat} {σ σ' : St} {a : Act} {w : World} {ω : Om} {β : Nat → Bs}
theorem Rel1.reshapeC (h : Rel1 F N σ a w ω β) {κ n k : Nat} {R R' : Root} (hR : σ.rt κ = some R) (hn : R.n = 1) (hk : R.k = n * k) (ho : R.o = .own) (ho' : R'.o = .own) (hf' : R'.full = false) (hn' : R'.n = n) (hk' : R'.k = k)
    (hg : ∀ i r, i < n → r < k → ∃ v, R.get 0 (i * k + r) = .cl (.lit v) ∧ R'.get i r = .cl (.lit v)) (ht : ∀ t, σ'.tv t = .any ∨ (σ'.tv t = σ.tv t ∧ frV κ (σ.tv t)) ∨ (σ'.tv t = .ptr κ 0 0 ∧ σ.tv t = .ptr κ 0 0))
    (hr : ∀ κ', κ' ≠ κ → σ'.rt κ' = σ.rt κ') (hrκ : σ'.rt κ = some R') (hc : ∀ κ' R2 i r d lo n, κ' ≠ κ → σ.rt κ' = some R2 → R2.get i r = .ref d lo n → d ≠ κ) (hκ : κ < 1000000) : Rel1 F N σ' a w ω (fun κ' => if κ' = κ then ⟨(β κ).A, n⟩ else β κ') := by
  have hβ : ∀ d, d ≠ κ → (fun κ' => if κ' = κ then (⟨(β κ).A, n⟩ : Bs) else β κ') d = β d := fun d hd => if_neg hd
  have hβκ : (fun κ' => if κ' = κ then (⟨(β κ).A, n⟩ : Bs) else β κ') κ = ⟨(β κ).A, n⟩ := if_pos rfl
  generalize (fun κ' => if κ' = κ then (⟨(β κ).A, n⟩ : Bs) else β κ') = β' at hβ hβκ
  have href : ∀ {d lo n : Nat} {v : Value}, d ≠ κ → RefRel σ β d lo n v → RefRel σ' β' d lo n v := by
    rintro d lo n v hd ⟨R2, hR2, k1⟩
    exact ⟨R2, by rw [hr d hd]; exact hR2, by rw [hβ d hd]; exact k1⟩
  have hA : ∀ {x : At} {u : Value}, frA κ x → ARel σ β w x u → ARel σ' β' w x u := by
    intro x u hx hh
    cases x with
    | any => exact hh
    | lit v => exact hh
    | nil _ _ => exact hh
    | ref d lo n => exact href hx hh
    | spot d i r =>
      obtain ⟨R2, g, j, h1, h2, h3, h4, h5, h6⟩ := hh
      exact ⟨R2, g, j, by rw [hr d hx]; exact h1, h2, h3, h4, by rw [hβ d hx]; exact h5, h6⟩
  have hV0 : ∀ {x : V} {u : Value}, frV0 κ x → VRel0 σ β w x u → VRel0 σ' β' w x u := by
    intro x u hx hh
    cases x with
    | any => trivial
    | a x => exact hA hx hh
    | agg l =>
      obtain ⟨us, h1, h2, h3⟩ := hh
      exact ⟨us, h1, h2, fun j x hj => by obtain ⟨y, h4, h5⟩ := h3 j x hj; exact ⟨y, h4, hA (hx x (List.mem_of_getElem? hj)) h5⟩⟩
    | ptr d i r =>
      obtain ⟨R2, g, j, h1, h2, h3⟩ := hh
      exact ⟨R2, g, j, by rw [hr d hx]; exact h1, by rw [hβ d hx]; exact h2, h3⟩
    | tup l => exact hh.elim
  refine ⟨h.tsz, h.dfr, fun t => ?_, fun κ' R2 hR2 => ?_, h.wr, h.fr, h.fz, fun ρ R2 hρ hR2 => ?_⟩
  · have h0 := h.tmps t
    rcases ht t with e | ⟨e, hfr⟩ | ⟨e, e'⟩
    · rw [e]; trivial
    · rw [e]
      generalize σ.tv t = v at h0 hfr
      cases v with
      | tup l =>
        obtain ⟨us, h1, h2, h3⟩ := h0
        exact ⟨us, h1, h2, fun j x hj => by obtain ⟨y, h4, h5⟩ := h3 j x hj; exact ⟨y, h4, hV0 (hfr x (List.mem_of_getElem? hj)) h5⟩⟩
      | any => trivial
      | a x => exact hV0 (x := .a x) hfr h0
      | agg l => exact hV0 (x := .agg l) hfr h0
      | ptr d i r => exact hV0 (x := .ptr d i r) hfr h0
    · rw [e]; rw [e'] at h0
      obtain ⟨R2, g, j, h1, ⟨o, h2, h3⟩, h4⟩ := h0
      exact ⟨R', g, j, hrκ, ⟨o, by rw [hβκ]; exact h2, by rw [h3]; omega⟩, h4⟩
  · by_cases e : κ' = κ
    · subst e
      rw [hrκ] at hR2; injection hR2 with hR2; subst hR2
      refine ⟨fun i r hi hr' _ => ?_, fun hf => by rw [hf'] at hf; cases hf⟩
      rw [hn'] at hi; rw [hk'] at hr'
      obtain ⟨v, g1, g2⟩ := hg i r hi hr'
      have hlt : i * k + r < n * k := by
        have : (i + 1) * k ≤ n * k := Nat.mul_le_mul_right _ (by omega)
        rw [Nat.add_mul] at this
        omega
      obtain ⟨g, j, u, ⟨o2, k1, k2⟩, k3, k4, k5, k6⟩ := (h.roots κ' R hR).cells 0 (i * k + r) (by omega) (by omega) (by rw [g1]; rfl)
      refine ⟨g, j, u, ⟨o2, by rw [hβκ]; exact k1, by rw [k2, hk', Nat.zero_mul, Nat.zero_add]⟩, k3, by rw [ho'] ; rw [ho] at k4; exact k4, fun _ => k5 ho, ?_⟩
      unfold CellRel at k6 ⊢
      rw [g1] at k6
      rw [g2]
      exact k6
    · rw [hr κ' e] at hR2
      have hh := h.roots κ' R2 hR2
      refine ⟨fun i r hi hr' hl => ?_, fun hf => by rw [hβ κ' e]; exact hh.full hf⟩
      obtain ⟨g, j, u, k1, k3, k4, k5, k6⟩ := hh.cells i r hi hr' hl
      refine ⟨g, j, u, by rw [hβ κ' e]; exact k1, k3, k4, k5, ?_⟩
      unfold CellRel at k6 ⊢
      cases hq : R2.get i r with
      | ref d lo n => rw [hq] at k6; exact href (hc κ' R2 i r d lo n e hR2 hq) k6
      | cl c => rw [hq] at k6; exact k6
  · have e : 1000000 + ρ ≠ κ := by omega
    rw [hβ _ e]
    exact h.ex ρ R2 hρ (by rw [← hr _ e]; exact hR2)
end
def naA (κ : Nat) : At → Bool
  | .ref d _ _ => !Nat.beq d κ
  | .spot d _ _ => !Nat.beq d κ
  | _ => true
def naV0 (κ : Nat) : V → Bool
  | .a x => naA κ x
  | .agg l => l.all (naA κ)
  | .ptr d _ _ => !Nat.beq d κ
  | _ => true
def naV (κ : Nat) : V → Bool
  | .tup l => l.all (naV0 κ)
  | .ptr d i r => !Nat.beq d κ || (Nat.beq i 0 && Nat.beq r 0)
  | x => naV0 κ x
def naC (κ : Nat) : TCl → Bool
  | .ref d _ _ => !Nat.beq d κ
  | .cl _ => true
def naR (κ : Nat) : TRoot → Bool
  | .ty _ _ _ _ _ _ _ _ _ => true
  | .box _ cs => cs.all (naC κ)
  | _ => false
/-- A root is named by pointers to its beginning alone. -/
def naS (κ : Nat) (σ : TS) : Bool := (σ.t.all fun p => naV κ p.2) && σ.r.all fun p => Nat.beq p.1 κ || naR κ p.2
theorem naA_ok {κ : Nat} {x : At} (h : naA κ x = true) : frA κ (stA x) := by
  cases x with
  | ref d _ _ => exact (by simpa [naA, beq_dec] using h : ¬ d = κ)
  | _ => trivial
theorem naV0_ok {κ : Nat} {x : V} (h : naV0 κ x = true) : frV0 κ (stV0 x) := by
  cases x with
  | a x => exact naA_ok h
  | agg l =>
    intro y hy
    obtain ⟨z, hz, rfl⟩ := List.mem_map.1 hy
    exact naA_ok (List.all_eq_true.1 h z hz)
  | ptr d i r => exact (by simpa [naV0, beq_dec] using h : ¬ d = κ)
  | any => trivial
  | tup l => trivial
theorem naV_ok {κ : Nat} {x : V} (h : naV κ x = true) : frV κ (stV x) ∨ stV x = .ptr κ 0 0 := by
  cases x with
  | a x => exact .inl (naA_ok h)
  | agg l => exact .inl (naV0_ok (x := .agg l) h)
  | any => exact .inl trivial
  | tup l =>
    refine .inl fun y hy => ?_
    obtain ⟨z, hz, rfl⟩ := List.mem_map.1 hy
    exact naV0_ok (List.all_eq_true.1 h z hz)
  | ptr d i r =>
    by_cases e : d = κ
    · subst e
      simp [naV, beq_dec] at h
      exact .inr (by rw [h.1, h.2]; rfl)
    · exact .inl e
theorem lkT_memA {l : List (Nat × V)} {p : V → Prop} (h0 : p .any) (h : ∀ q ∈ l, p q.2) (t : Nat) : p (lkT l t) := by
  induction l with
  | nil => exact h0
  | cons q l ih =>
    simp only [lkT, beq_dec]
    by_cases e : t = q.1
    · simp [e]; exact h q (List.mem_cons_self ..)
    · simp [e]; exact ih fun q hq => h q (List.mem_cons_of_mem _ hq)
theorem lkR_memA {l : List (Nat × TRoot)} {κ : Nat} {R : TRoot} (h : lkR l κ = some R) : (κ, R) ∈ l := by
  induction l with
  | nil => cases h
  | cons q l ih =>
    simp only [lkR, beq_dec] at h
    by_cases e : κ = q.1
    · simp [e] at h; subst h; rw [e]; exact List.mem_cons_self ..
    · simp [e] at h; exact List.mem_cons_of_mem _ (ih h)
section
variable {P : Program} {F : Fm} {N : Nat} {G : Gt} {o : Oper} {σ : TS} {k : TS → Prop}
theorem Rel1.arrT {a : Act} {w : World} {ω : Om} {β : Nat → Bs} {κ n kk e e0 : Nat} {cs : List TCl} {X : Type} {enc : X → Nat → TC} {dec : List Value → Option X} {d : X} {xs : List X} (h : Rel1 F N σ.er a w ω β) (hR : lkR σ.r κ = some (.box e0 cs)) (hcs : cs.length = n * kk) (hxs : xs.length = n)
    (hc : ∀ i r, i < n → r < kk → ∃ v, cs[i * kk + r]? = some (.cl (.lit v)) ∧ enc (xs.getD i d) r = .lit v) (hκ : κ < 1000000) (hnm : naS κ σ = true) :
    Rel1 F N (⟨σ.t, (κ, .ty .own false e kk X enc dec d xs) :: erl σ.r κ⟩ : TS).er a w ω (fun κ' => if κ' = κ then ⟨(β κ).A, n⟩ else β κ') := by
  simp only [naS, Bool.and_eq_true] at hnm
  refine h.reshapeC (TS.rt_some hR) rfl hcs rfl rfl rfl hxs rfl (R' := (TRoot.ty .own false e kk X enc dec d xs).er) (fun i r hi hr => ?_) (fun t => ?_) (fun κ' hne => ?_) ?_ (fun κ' R2 i r d2 lo n2 hne hR2 hg => ?_) hκ
  · obtain ⟨v, h1, h2⟩ := hc i r hi hr
    refine ⟨v, by rw [box_get, h1]; rfl, ?_⟩
    show Cl.cl ((enc (xs.getD i d) r).er .own) = _
    rw [h2]; rfl
  · have e1 : (TS.er ⟨σ.t, (κ, .ty .own false e kk X enc dec d xs) :: erl σ.r κ⟩).tv t = σ.er.tv t := by rw [TS.tv_er, TS.tv_er]
    rw [e1, TS.tv_er]
    rcases naV_ok (lkT_memA (p := fun v => naV κ v = true) rfl (fun q hq => List.all_eq_true.1 hnm.1 q hq) t) with h1 | h1
    · exact .inr (.inl ⟨rfl, h1⟩)
    · exact .inr (.inr ⟨h1, h1⟩)
  · rw [rt_mk, lkR_cons, lkR_erl, if_neg hne, if_neg hne, ← TS.rt_er]
  · rw [rt_mk, lkR_cons, if_pos rfl]; rfl
  · rw [TS.rt_er] at hR2
    cases hq : lkR σ.r κ' with
    | none => rw [hq] at hR2; cases hR2
    | some T =>
      rw [hq] at hR2; injection hR2 with hR2; subst hR2
      have hm := List.all_eq_true.1 hnm.2 _ (lkR_memA hq)
      simp only [beq_dec, Bool.or_eq_true, decide_eq_true_eq] at hm
      rcases hm with hm | hm
      · exact absurd hm hne
      · cases T with
        | ty o2 f2 e2 k2 X2 enc2 dec2 d2' xs2 => exact absurd hg (by show ¬ (Cl.cl _ = _); intro hh; cases hh)
        | box e2 cs2 =>
          have hi : i = 0 := by
            by_cases hi : i = 0
            · exact hi
            · exfalso
              have : (TRoot.box e2 cs2).er.get i r = .cl .any := by
                show look2 (mkop 0 0 (cs2.map TCl.er)) i r (.cl .any) = _
                have := look2_mkop (i := 0) (i' := i) (c := .cl .any) [] (cs2.map TCl.er) 0 r
                rw [List.append_nil] at this
                rw [this, if_neg (fun hh => hi hh.1)]; rfl
              rw [this] at hg; cases hg
          subst hi
          rw [box_get] at hg
          cases hq2 : cs2[r]? with
          | none => rw [hq2] at hg; cases hg
          | some y =>
            rw [hq2] at hg
            have hy := List.all_eq_true.1 hm y (List.mem_of_getElem? hq2)
            cases y with
            | ref a1 b1 c1 =>
              have : Cl.ref a1 b1 c1 = .ref d2 lo n2 := hg
              injection this with e3 _ _
              subst e3
              simpa [naC, beq_dec] using hy
            | cl t => have : Cl.cl (t.er .own) = .ref d2 lo n2 := hg; cases this
        | litr e2 k2 cs2 => cases hm
        | raw R3 => cases hm
        | tyo f2 e2 k2 X2 enc2 dec2 d2' xs2 i2 r2 key2 n3 => cases hm
/-- An array variable is sliced: it is told as a row from here on. -/
theorem OpK.arrSl (hG : GOk P G) {t n ke e kt κ e0 : Nat} {z : List ZC} {x : Operand} {cs : List TCl} {X : Type} {enc : X → Nat → TC} (dec : List Value → Option X) (d : X) (xs : List X) (hop : o.op = .slice t x none none none) (hg : o.guard = none) (hd : okD N o.dst = true) (hx : evS σ x = .ptr κ 0 0)
    (ht : G.T t = some ⟨kt, .arr n e ke, z⟩) (hR : lkR σ.r κ = some (.box e0 cs)) (hcs : cs.length = n * ke) (hxs : xs.length = n) (hc : ∀ i r, i < n → r < ke → ∃ v, cs[i * ke + r]? = some (.cl (.lit v)) ∧ enc (xs.getD i d) r = .lit v)
    (hκ : κ < 1000000) (hn0 : 0 < n ∧ n ≤ 1048576) (hnm : naS κ σ = true) (h : stO o ⟨σ.t, (κ, .ty .own false e ke X enc dec d xs) :: erl σ.r κ⟩ (.a (.ref κ 0 n)) k) : OpK P F N o σ k :=
  ⟨fun ops Q rest kk => by
    intro a w hr
    obtain ⟨ω, β, h0⟩ := hr
    have h1 := h0.arrT (e := e) (dec := dec) (d := d) (xs := xs) hR hcs hxs hc hκ hnm
    obtain ⟨g1, inf, g2, g3⟩ := (hG.T t _ ht).kind
    have hv := h0.ev x
    rw [evS_eq, hx] at hv
    obtain ⟨R1, g, j, e1, ⟨o1, e2, e3⟩, e4⟩ := hv
    have hj : j = o1 := by rw [e3]; omega
    subst hj
    refine wpList_plain hg fun K hK => ?_
    unfold Oper.wp
    have hrun : (execOp a.eval o).run P w = .ok (.value (.slice (some ⟨g, j, none⟩) n n)) w := by
      generalize a.eval = ρ at e4 ⊢
      have hz : (0 : Nat) ≤ n := Nat.zero_le n
      by_cases hn1 : n = 0
      · omega
      · simp [execOp, hop, go_sem, e4, Instr.sliceAt, underlying, g1, Instr.sureAddr, Instr.sliceBounds, Instr.sliceBound, sizeOf, typeInfo, g2, Addr.add, hn1]
    rw [hrun, Oper.upon_value]
    refine hK _ _ (stO_ok hd kk h _ _ ⟨ω, _, h1.putO hd ?_⟩)
    refine ⟨_, by rw [rt_mk, lkR_cons, if_pos rfl]; rfl, by show 0 + n ≤ xs.length; omega, some ⟨g, j, none⟩, n, rfl, Nat.le_refl _, by unfold maxLen; omega, (fun hh => by cases hh), fun _ => ?_, fun _ => ?_⟩
    · show _ = (if κ = κ then (⟨(β κ).A, n⟩ : Bs) else β κ).A ∧ n = (if κ = κ then (⟨(β κ).A, n⟩ : Bs) else β κ).cap
      rw [if_pos rfl]; exact ⟨e2.symm, rfl⟩
    · refine ⟨g, j, ?_, by rw [Nat.zero_mul]; rfl⟩
      show (if κ = κ then (⟨(β κ).A, n⟩ : Bs) else β κ).A = _
      rw [if_pos rfl]; exact e2⟩
/-- The whole of a row is read as an array. -/
theorem OpK.ldArrK (hG : GOk P G) {t m κ e kk n : Nat} {oo : RO} {f : Bool} {kd : TK} {z : List ZC} {x : Operand} {X : Type} {enc : X → Nat → TC} {dec : List Value → Option X} {d : X} {xs : List X} (vs : List Value) (hop : o.op = .load t x) (hg : o.guard = none) (hd : okD N o.dst = true) (hx : evS σ x = .ptr κ 0 0) (ht : G.T t = some ⟨m, kd, z⟩) (hk : agK kd = true)
    (hR : lkR σ.r κ = some (.ty oo f e kk X enc dec d xs)) (hl : n ≤ xs.length) (hm : m = n * kk) (hvs : vs.length = m) (he : ∀ i r, i < n → r < kk → ∃ v, vs[i * kk + r]? = some v ∧ enc (xs.getD i d) r = .lit v)
    (h : stO o σ (.agg (vs.map .lit)) k) : OpK P F N o σ k :=
  ⟨fun ops Q rest kk' => by
    have hF := hG.T t _ ht
    obtain ⟨D, h1, h2⟩ : ∃ D, P.underlying t = some D ∧ scD D = false := by
      have h := hF.kind
      cases kd with
      | st pl => obtain ⟨fs, h1, _⟩ := h; exact ⟨_, h1, rfl⟩
      | arr n e ke => exact ⟨_, h.1, rfl⟩
      | sc => cases hk
      | sl _ _ _ => cases hk
      | ot => cases hk
    obtain ⟨inf, zv, h3, h4, _⟩ := hF.info
    have hRe := TS.rt_some hR
    refine AL.val hg hd (fun a w ω β hr => ?_) (by have := stO_ok hd kk' h; simpa [stV, stA, List.map_map, Function.comp] using this)
    have hv := hr.ev x
    rw [evS_eq, hx] at hv
    obtain ⟨R', g, j, e1, ⟨o', e2, e3⟩, e4⟩ := hv
    rw [hRe] at e1; injection e1 with e1; subst e1
    have hcell : ∀ q, q < m → w.cell? ⟨g, j + q, none⟩ = some (vs.getD q undef) ∧ scal (vs.getD q undef) = true := by
      intro q hq
      have hkk : 0 < kk := by
        rcases Nat.eq_zero_or_pos kk with h0 | h0
        · rw [h0, Nat.mul_zero] at hm; omega
        · exact h0
      have hdm := Nat.div_add_mod q kk
      have hr1 := Nat.mod_lt q hkk
      have hi1 : q / kk < n := by
        rw [Nat.div_lt_iff_lt_mul hkk]; omega
      rw [Nat.mul_comm] at hdm
      obtain ⟨v, q1, q2⟩ := he (q / kk) (q % kk) hi1 hr1
      rw [hdm] at q1
      have hvq : vs.getD q undef = v := by simp [List.getD, q1]
      rw [hvq]
      obtain ⟨g', j', u, ⟨o2, f1, f2⟩, k2, k3⟩ := hr.load hRe (i := q / kk) (r := q % kk) (show q / kk < xs.length by omega) hr1 rfl
      rw [e2] at f1; injection f1 with f1; injection f1 with f3 f4 _
      subst f3 f4
      have e5 : j = o' + (0 * kk + 0) := e3
      have f5 : j' = o' + (q / kk * kk + q % kk) := f2
      have : j' = j + q := by omega
      subst this
      have ha : (TRoot.ty oo f e kk X enc dec d xs).er.atom κ (q / kk) (q % kk) = .lit v := by
        show (match Cl.cl ((enc (xs.getD (q / kk) d) (q % kk)).er (owOf oo)) with
          | .ref κ' lo n => At.ref κ' lo n
          | .cl (.lit v) => .lit v
          | .cl (.sl _ _ _ _ _) => .spot κ (q / kk) (q % kk)
          | .cl _ => .any) = _
        rw [q2]; rfl
      rw [ha] at k3
      obtain ⟨rfl, k4⟩ := k3
      exact ⟨k2, k4⟩
    refine ⟨.agg ((List.range m).map fun q => vs.getD q undef).toArray, run_load _ w hop e4 (run_loadVar_agg (P := P) (w := w) (g := g) (j := j) h1 h2 h3 (show inf.size = m from h4) (fun q => vs.getD q undef) (fun q hq => (hcell q hq).1)), _, rfl, by simp [hvs], fun i x hi => ?_⟩
    rw [List.getElem?_map] at hi
    cases hq : vs[i]? with
    | none => rw [hq] at hi; cases hi
    | some v =>
      rw [hq] at hi; injection hi with hi; subst hi
      have hlt : i < m := by rw [← hvs]; exact (List.getElem?_eq_some_iff.1 hq).1
      have hc := (hcell i hlt).2
      have hvq : vs.getD i undef = v := by simp [List.getD, hq]
      rw [hvq] at hc
      refine ⟨v, ?_, rfl, hc⟩
      simp [List.getElem?_range hlt, hq]⟩
/-- One operation of a list that is told step by step, by a rule. -/
theorem ListO.ofOp {ops : Array Oper} {l : List Oper} (h : OpK P F N o σ fun σ => ListO P F N ops l σ k) : ListO P F N ops (o :: l) σ k := ⟨fun Q kk => h.h ops Q l (fun τ hτ => hτ.h Q kk)⟩
end
end Go.Tr
end

section
namespace Go.Proofs.Ytlnlogflhagocaa
open Go Go.Tr
set_option maxRecDepth 100000
set_option linter.unusedVariables false
set_option linter.unusedSimpArgs false
set_option maxHeartbeats 4000000
theorem Res_eq (p q : ResT) (w : World) : (Op.equalIn 10000 249 (.agg (vRes p).toArray) (.agg (vRes q).toArray)).run Try.prog w = .ok (decide (p = q)) w := by
  have u3 := Try.underlying3
  have u4 := Try.underlying4
  obtain ⟨p0, p1⟩ := p
  obtain ⟨q0, q1⟩ := q
  have hS : Try.prog.underlying 249 = some (.struct (Try.prog.fieldsOf 249)) := by kernel_rfl
  rw [show (10000 : Nat) = 9999 + 1 from rfl, run_equalIn_agg w 9999 249 _ _ hS (by kernel_rfl)]
  simp only [Program.fieldsOf, Try.underlying249]
  go_simp
  by_cases h0 : p0 = q0 <;> by_cases h1 : p1 = q1 <;> simp [h0, h1]
end Go.Proofs.Ytlnlogflhagocaa
end

section
/- Results are compared. -/
namespace Go.Proofs.Ytlnlogflhagocaa
open Go Go.Tr
set_option maxRecDepth 100000
set_option maxHeartbeats 4000000
set_option linter.unusedVariables false
set_option linter.unusedSimpArgs false
theorem dropR_eq {xs ys : List ResT} {i : Nat} (h1 : xs.length = ys.length) (h : i < xs.length) : (decide (xs.drop i = ys.drop i)) = (decide (xs.getD i zRes = ys.getD i zRes) && decide (xs.drop (i + 1) = ys.drop (i + 1))) := by
  rw [drop_cons zRes h, drop_cons zRes (by omega : i < ys.length)]; simp
theorem l23SameRes_run (e e' : Nat) (xs ys : List ResT) (hn : xs.length ≤ 1048576) (hn' : ys.length ≤ 1048576) : RunT Try.prog 160 [.one (.c (tRes e xs)), .one (.c (tRes e' ys))] [] [ob (decide (xs = ys))] [] := by
  refine RunT.of_vc gOk Try.func160 rfl rfl (Nat.le_of_ble_eq_true rfl) (by repeat' (first | exact trivial | exact ⟨_, rfl, Nat.le_refl _⟩ | exact Nat.le_of_ble_eq_true rfl | refine And.intro ?_ ?_)) (Nat.le_of_ble_eq_true rfl) rfl (fun F hE => ?_)
  repeat' (first | exact trivial | refine BS.d (fun h => ?_) (fun h => ?_) | refine BS.e (fun h => ?_) (fun h => ?_) | refine BS.ne (fun h => ?_) (fun h => ?_) | refine BS.n ?_ | refine BS.s (fun h => ?_) (fun h => ?_) | refine And.intro ?_ ?_ | (refine Need.mk ?_; first | with_reducible rfl | (show @Eq TC _ _; rfl) | omega | (simp only [adN_zero]; omega)) | exact OutS.whole rfl rfl | refine ListO.go gOk hE ?_)
  · refine Need.mk ?_
    rw [decide_eq_false (fun e => by subst e; omega)]
  · refine CodeK.loop gOk hE (fun i : Nat => ⟨[(0, vr 1000000 xs.length), (1, vr 1000001 ys.length), (5, vi i)], [(1000000, rRes .fro false e xs), (1000001, rRes .fro false e' ys)]⟩) (fun i => i ≤ xs.length ∧ decide (xs = ys) = decide (xs.drop i = ys.drop i)) (fun i => xs.length - i) 0 (by refine leT.of ?_ ?_ rfl <;> repeat' (first | exact trivial | refine And.intro rfl ?_ | refine And.intro (by simp) ?_)) ⟨Nat.zero_le _, rfl⟩ ?_
    rintro i ⟨hi, hs⟩
    have hl : xs.length = ys.length := by omega
    repeat' (first | exact trivial | refine BS.d (fun h => ?_) (fun h => ?_) | refine BS.e (fun h => ?_) (fun h => ?_) | refine BS.ne (fun h => ?_) (fun h => ?_) | refine BS.n ?_ | refine BS.s (fun h => ?_) (fun h => ?_) | refine And.intro ?_ ?_ | (refine Need.mk ?_; first | with_reducible rfl | (show @Eq TC _ _; rfl) | omega | (simp only [adN_zero]; omega)) | exact OutS.whole rfl rfl | refine ListO.go gOk hE ?_)
    · have hc := dropR_eq hl (i := i) (by omega)
      refine CodeK.draw gOk hE rfl (fun _ _ h => h) (.take 0 (.take 1 (.take 2 (.take 4 (.take 5 (.take 6 (.alt 3 (.alt 7 (.take 8 .done) .stop) (.alt 7 (.alt 3 (.take 8 .done) .stop) .stop)))))))) (by decide +kernel) ?_
      repeat' (first | exact trivial | refine BS.d (fun h => ?_) (fun h => ?_) | refine BS.e (fun h => ?_) (fun h => ?_) | refine BS.ne (fun h => ?_) (fun h => ?_) | refine BS.n ?_ | refine BS.s (fun h => ?_) (fun h => ?_) | refine And.intro ?_ ?_ | (refine Need.mk ?_; first | with_reducible rfl | (show @Eq TC _ _; rfl) | omega | (simp only [adN_zero]; omega)) | exact OutS.whole rfl rfl | (refine PK.neA (vRes (xs.getD i zRes)) (vRes (ys.getD i zRes)) rfl rfl rfl rfl rfl (by kernel_rfl) (Res_eq _ _) ?_) | refine ListO.go gOk hE ?_)
      (
          all_goals (try simp only [adN_zero] at *)
          all_goals (first
            | (refine Need.mk ?_; first | (rw [hs, hc, decide_eq_false ‹_ ≠ _›]; rfl) | (rw [hs, hc]; simp_all) | (rw [hs, List.drop_eq_nil_of_le (by omega), List.drop_eq_nil_of_le (by omega)]; rfl) | (simp_all; done))
            | (refine ⟨i + 1, (by refine leT.of ?_ ?_ rfl <;> repeat' (first | exact trivial | refine And.intro rfl ?_ | refine And.intro (by simp) ?_)), ⟨by omega, by rw [hs, hc]; simp_all⟩, by first | omega | (dsimp only; omega)⟩)))
    · refine Need.mk ?_
      rw [hs, List.drop_eq_nil_of_le (by omega), List.drop_eq_nil_of_le (by omega)]; rfl
/-- The first six results, as values. -/
def f6 (xs : List ResT) (q : Nat) : ResT := xs.getD q zRes
def v6 (xs : List ResT) : List Value := vRes (f6 xs 0) ++ (vRes (f6 xs 1) ++ (vRes (f6 xs 2) ++ (vRes (f6 xs 3) ++ (vRes (f6 xs 4) ++ vRes (f6 xs 5)))))
abbrev o6 (xs : List ResT) : TAr := .agg ((v6 xs).map .lit)
def p6 (xs : List ResT) : List ResT := [f6 xs 0, f6 xs 1, f6 xs 2, f6 xs 3, f6 xs 4, f6 xs 5]
theorem six {i : Nat} (h : i < 6) : i = 0 ∨ i = 1 ∨ i = 2 ∨ i = 3 ∨ i = 4 ∨ i = 5 := by omega
theorem two {i : Nat} (h : i < 2) : i = 0 ∨ i = 1 := by omega
theorem firstResults_run (e : Nat) (xs : List ResT) (hn : xs.length ≤ 1048576) : RunT Try.prog 231 [.one (.c (tRes e xs))] [] [o6 xs] [] := by
  refine RunT.of_ck gOk Try.func231 rfl rfl (Nat.le_of_ble_eq_true rfl) (by repeat' (first | exact trivial | exact ⟨_, rfl, Nat.le_refl _⟩ | exact Nat.le_of_ble_eq_true rfl | refine And.intro ?_ ?_)) (Nat.le_of_ble_eq_true rfl) rfl (fun F hE => ?_)
  repeat' (first | exact trivial | refine BS.d (fun h => ?_) (fun h => ?_) | refine BS.e (fun h => ?_) (fun h => ?_) | refine BS.ne (fun h => ?_) (fun h => ?_) | refine BS.n ?_ | refine BS.s (fun h => ?_) (fun h => ?_) | refine And.intro ?_ ?_ | (refine Need.mk ?_; first | with_reducible rfl | (show @Eq TC _ _; rfl) | omega | (simp only [adN_zero]; omega)) | exact OutS.whole rfl rfl | (refine ListO.ofOp (OpK.arrSl gOk (enc := encRes) decRes zRes (List.replicate 6 zRes) rfl rfl rfl rfl rfl rfl rfl rfl ?_ (by decide) (by decide) rfl ?_); focus (intro i r hi hr; rcases six hi with rfl | rfl | rfl | rfl | rfl | rfl <;> rcases two hr with rfl | rfl <;> exact ⟨_, rfl, rfl⟩)) | (refine OpK.copyT gOk (p6 xs) rfl rfl rfl rfl rfl rfl rfl rfl rfl rfl ?_ ?_ ?_) | (refine OpK.ldArrK gOk (n := 6) (v6 xs) rfl rfl rfl rfl rfl rfl rfl (Nat.le_refl 6) rfl rfl ?_ ?_; focus (intro i r hi hr; rcases six hi with rfl | rfl | rfl | rfl | rfl | rfl <;> rcases two hr with rfl | rfl <;> exact ⟨_, rfl, rfl⟩)) | (refine CodeK.seqL 2 rfl ?_) | (refine CodeK.seqv gOk hE ?_) | (refine CodeK.vc gOk hE ?_) | (refine ListO.step gOk hE ?_) | (refine ListO.done ?_) | refine ListO.go gOk hE ?_)
  all_goals first
    | exact Need.mk rfl
    | (intro i r hi hr
       have h6 : i < 6 := Nat.lt_of_lt_of_le hi (Nat.min_le_right _ _)
       rcases six h6 with rfl | rfl | rfl | rfl | rfl | rfl <;> rcases two hr with rfl | rfl <;> exact ⟨_, rfl, rfl⟩)
    | (intro q hq
       by_cases h6 : q < 6
       · have hx : ¬ q < xs.length := fun h7 => hq ⟨Nat.zero_le _, by rw [Nat.zero_add]; exact Nat.lt_min.2 ⟨h7, h6⟩⟩
         have e1 : xs.getD q zRes = zRes := by simp [List.getD, hx]
         rcases six h6 with rfl | rfl | rfl | rfl | rfl | rfl <;> exact e1
       · have e1 : (p6 xs).getD q zRes = zRes := by simp [List.getD, p6, show ¬ q < 6 from h6]
         have e2 : (List.replicate 6 zRes).getD q zRes = zRes := by simp [List.getD, List.getElem?_replicate, h6]
         rw [e1, e2])
    | trace_state
end Go.Proofs.Ytlnlogflhagocaa
end

section
/- CmdsDo of impl. -/
namespace Go.Proofs.Ytlnlogflhagocaa
open Go Go.Tr
set_option maxRecDepth 100000
set_option maxHeartbeats 4000000
set_option linter.unusedVariables false
set_option linter.unusedSimpArgs false
theorem pad_set {α : Type} (z y : α) (xs : List α) (n : Nat) (h : xs.length < n) : (xs ++ List.replicate (n - xs.length) z).set xs.length y = (xs ++ [y]) ++ List.replicate (n - (xs.length + 1)) z := by
  rw [List.set_append_right _ _ (Nat.le_refl _), Nat.sub_self]
  obtain ⟨k, hk⟩ : ∃ k, n - xs.length = k + 1 := ⟨n - xs.length - 1, by omega⟩
  rw [hk, show n - (xs.length + 1) = k by omega, List.replicate_succ, List.set_cons_zero]; simp
theorem CmdsDoI_run (e e1 : Nat) (xs : List KVT) (ys : List CmdT) (hn : xs.length + ys.length ≤ 1048576) : RunT Try.prog 166 [.one (.c (tKV e xs)), .one (.c (tCmd e1 ys))] [] [.one (tKV 179 (csM xs ys)), .one (tRes 249 (csR xs ys))] [] := by
  have c0 := CloneKV_run e xs (by omega)
  refine RunT.of_vc gOk Try.func166 rfl rfl (Nat.le_of_ble_eq_true rfl) (by repeat' (first | exact trivial | exact ⟨_, rfl, Nat.le_refl _⟩ | exact Nat.le_of_ble_eq_true rfl | refine And.intro ?_ ?_)) (Nat.le_of_ble_eq_true rfl) rfl (fun F hE => ?_)
  repeat' (first | exact trivial | refine BS.d (fun h => ?_) (fun h => ?_) | refine BS.e (fun h => ?_) (fun h => ?_) | refine BS.ne (fun h => ?_) (fun h => ?_) | refine BS.n ?_ | refine BS.s (fun h => ?_) (fun h => ?_) | refine And.intro ?_ ?_ | (refine Need.mk ?_; first | with_reducible rfl | (show @Eq TC _ _; rfl) | omega | (simp only [adN_zero]; omega)) | exact OutS.whole rfl rfl | (refine OpK.call c0 rfl rfl rfl rfl hE ?_ rfl rfl ?_; focus ((repeat' (first | exact PsA.lit _ | exact PsA.ref rfl rfl | constructor)); all_goals (fail "ps"))) | refine ListO.go gOk hE ?_)
  all_goals first
    | (exfalso; omega)
    | (refine Need.mk ?_; first | omega | (refine ⟨?_, ?_⟩ <;> (try unfold maxLen) <;> omega))
    | skip
  refine CodeK.loopK (fun i : Nat => ⟨[(6, vr 2001408 (csT xs (ys.take i)).1.length), (7, vr 14 ys.length), (15, vr 1000001 ys.length), (16, vi ys.length), (17, vi i)], [(2001408, rKV .own true 179 (csT xs (ys.take i)).1), (14, rRes .own true 249 ((csT xs (ys.take i)).2 ++ List.replicate (ys.length - (csT xs (ys.take i)).2.length) (false, 0))), (1000001, rCmd .fro false e1 ys)]⟩) (fun i => i ≤ ys.length) (fun i => ys.length - i) 0 (by refine leT.of ?_ ?_ rfl <;> repeat' (first | exact trivial | refine And.intro rfl ?_ | refine And.intro (by first | rfl | (simp [csT] <;> rfl)) ?_)) (Nat.zero_le _) ?_
  rintro i hi
  obtain ⟨hb1, hb2⟩ := csT_bd xs ys i hi
  by_cases hi2 : i < ys.length
  · have hsu := csT_succ xs ys hi2
    have c1 := CmdDoI_run 179 (csT xs (ys.take i)).1 (ys.getD i zCmd) (by omega)
    generalize csT xs (ys.take i) = st at *
    have hst : csT xs (ys.take (i + 1)) = (cdM st.1 (ys.getD i zCmd), st.2 ++ [cdR st.1 (ys.getD i zCmd)]) := hsu
    clear hsu
    have hps := pad_set (false, (0 : Int)) (cdR st.1 (ys.getD i zCmd)) st.2 ys.length (by omega)
    rw [hb2] at hps
    have hpl : (st.2 ++ List.replicate (ys.length - st.2.length) (false, (0 : Int))).length = ys.length := by simp; omega
    rw [hb2] at hpl
    generalize cdM st.1 (ys.getD i zCmd) = m1 at *
    generalize cdR st.1 (ys.getD i zCmd) = r1 at *
    rw [hb2]
    repeat' (first | exact trivial | refine BS.d (fun h => ?_) (fun h => ?_) | refine BS.e (fun h => ?_) (fun h => ?_) | refine BS.ne (fun h => ?_) (fun h => ?_) | refine BS.n ?_ | refine BS.s (fun h => ?_) (fun h => ?_) | refine And.intro ?_ ?_ | (refine Need.mk ?_; first | with_reducible rfl | (show @Eq TC _ _; rfl) | omega | (simp only [adN_zero]; omega)) | exact OutS.whole rfl rfl | (refine OpK.call c1 rfl rfl rfl rfl hE ?_ rfl rfl ?_; focus ((repeat' (first | exact PsA.lit _ | exact PsA.ref rfl rfl | constructor)); all_goals (fail "ps"))) | (refine CodeK.rekeyR 7 2003456 2001408 rfl hE rfl rfl rfl rfl rfl rfl ?_) | (refine CodeK.rekeyS 7 2003456 2001408 rfl hE rfl rfl rfl rfl rfl rfl ?_) | (refine CodeK.seqL 9999 rfl ?_) | (refine CodeK.seqv gOk hE ?_) | (refine CodeK.vc gOk hE ?_) | (refine ListO.step gOk hE ?_) | (refine ListO.done ?_) | refine ListO.go gOk hE ?_)
    all_goals (try simp only [adN_zero] at *)
    all_goals first
      | (exfalso; omega)
      | (refine Need.mk ?_; first | omega | (refine ⟨?_, ?_⟩ <;> (try unfold maxLen) <;> omega))
      | (refine ⟨i + 1, (by refine leT.of ?_ ?_ rfl <;> repeat' (first | exact trivial | refine And.intro rfl ?_ | refine And.intro (by first | rfl | (rw [hst]; rfl) | (rw [hst]; simp only [List.length_append, List.length_singleton, hb2]; rw [← hps]; rfl) | (simp [hst] <;> rfl)) ?_)), by omega, by first | omega | (dsimp only; omega)⟩)
      | trace_state
  · have hlast : csT xs (ys.take i) = csT xs ys := by rw [List.take_of_length_le (by omega)]
    have hlen : (csT xs ys).2.length = ys.length := by
      have := (csT_bd xs ys ys.length (Nat.le_refl _)).2
      rwa [List.take_of_length_le (Nat.le_refl _)] at this
    rw [hlast]
    repeat' (first | exact trivial | refine BS.d (fun h => ?_) (fun h => ?_) | refine BS.e (fun h => ?_) (fun h => ?_) | refine BS.ne (fun h => ?_) (fun h => ?_) | refine BS.n ?_ | refine BS.s (fun h => ?_) (fun h => ?_) | refine And.intro ?_ ?_ | (refine Need.mk ?_; first | with_reducible rfl | (show @Eq TC _ _; rfl) | omega | (simp only [adN_zero]; omega)) | exact OutS.whole rfl rfl | (refine CodeK.seqL 9999 rfl ?_) | (refine CodeK.seqv gOk hE ?_) | (refine CodeK.vc gOk hE ?_) | (refine ListO.step gOk hE ?_) | (refine ListO.done ?_) | refine ListO.go gOk hE ?_)
    all_goals first
      | (exfalso; omega)
      | exact OutS.whole rfl rfl
      | exact OutS.whole (by simp [hlen]) (by rw [hlen, Nat.sub_self, List.replicate_zero, List.append_nil]; rfl)
      | trace_state
end Go.Proofs.Ytlnlogflhagocaa
end

section
/- A call is replayed. -/
namespace Go.Proofs.Ytlnlogflhagocaa
open Go Go.Tr
set_option maxRecDepth 100000
set_option maxHeartbeats 4000000
set_option linter.unusedVariables false
set_option linter.unusedSimpArgs false
theorem l27Do_run (e eC eR : Nat) (L : List TEvT) (m : List KVT) (s : Int) (hn : L.length ≤ 1048576) (hx : ∀ i, (L.getD i zTEv).2.2.2.2.1.length ≤ 1048576 ∧ (L.getD i zTEv).2.2.2.2.2.length ≤ 1048576) (h3 : 0 ≤ plc L 3 s) (hm : m.length + gS s L ≤ 1048576) :
    RunT Try.prog 99 [.one (.m (tKV 179 m)), .one (.c (tTEv e eC eR L)), ti s] [] [.one (tKV 179 (rpM L m s)), ob (rpQ L m s)] [] := by
  have c1 := PlaceOfS_run e eC eR L 1 s hn
  have c2 := PlaceOfS_run e eC eR L 3 s hn
  obtain ⟨p2, p3⟩ := plc_pl h3
  have p4 := (hx (plc L 3 s).toNat).2
  unfold rpM rpQ
  by_cases h1 : plc L 1 s < 0
  · rw [if_pos h1, if_pos h1]
    generalize plc L 1 s = r1 at *
    generalize plc L 3 s = r3 at *
    refine RunT.of_vc gOk Try.func99 rfl rfl (Nat.le_of_ble_eq_true rfl) (by repeat' (first | exact trivial | exact ⟨_, rfl, Nat.le_refl _⟩ | exact Nat.le_of_ble_eq_true rfl | refine And.intro ?_ ?_)) (Nat.le_of_ble_eq_true rfl) rfl (fun F hE => ?_)
    repeat' (first | exact trivial | refine BS.d (fun h => ?_) (fun h => ?_) | refine BS.e (fun h => ?_) (fun h => ?_) | refine BS.ne (fun h => ?_) (fun h => ?_) | refine BS.n ?_ | refine BS.s (fun h => ?_) (fun h => ?_) | refine And.intro ?_ ?_ | (refine Need.mk ?_; first | with_reducible rfl | (show @Eq TC _ _; rfl) | omega | (simp only [adN_zero]; omega)) | exact OutS.whole rfl rfl | (refine OpK.call c1 rfl rfl rfl rfl hE ?_ rfl rfl ?_; focus ((repeat' (first | exact PsA.lit _ | exact PsA.ref rfl rfl | constructor)); all_goals (fail "ps"))) | (refine OpK.call c2 rfl rfl rfl rfl hE ?_ rfl rfl ?_; focus ((repeat' (first | exact PsA.lit _ | exact PsA.ref rfl rfl | constructor)); all_goals (fail "ps"))) | refine ListO.go gOk hE ?_)
    all_goals first | exact Need.mk rfl | (exfalso; omega) | trace_state
  · rw [if_neg h1, if_neg h1]
    have q1 := cmA_le L h1
    have q2 := csR_le m (cmA L s)
    have c3 := CmdsDoS_run 179 eC m (cmA L s) (by omega)
    have c4 := l23SameRes_run 249 eR (csR m (cmA L s)) (rsA L s) (by omega) p4
    obtain ⟨q4, q5⟩ := plc_pl (L := L) (k := 1) (s := s) (by omega)
    generalize csM m (cmA L s) = M1 at *
    generalize csR m (cmA L s) = R1 at *
    unfold cmA at c3
    unfold rsA at c4 ⊢
    obtain ⟨r1, e1⟩ := Int.eq_ofNat_of_zero_le (show 0 ≤ plc L 1 s by omega)
    obtain ⟨r3, e3⟩ := Int.eq_ofNat_of_zero_le h3
    rw [e1] at c1 c3 q4
    rw [e3] at c2 c4 p2 ⊢
    simp only [Int.toNat_natCast] at c3 c4 q4 p2 ⊢
    refine RunT.of_vc gOk Try.func99 rfl rfl (Nat.le_of_ble_eq_true rfl) (by repeat' (first | exact trivial | exact ⟨_, rfl, Nat.le_refl _⟩ | exact Nat.le_of_ble_eq_true rfl | refine And.intro ?_ ?_)) (Nat.le_of_ble_eq_true rfl) rfl (fun F hE => ?_)
    repeat' (first | exact trivial | refine BS.d (fun h => ?_) (fun h => ?_) | refine BS.e (fun h => ?_) (fun h => ?_) | refine BS.ne (fun h => ?_) (fun h => ?_) | refine BS.n ?_ | refine BS.s (fun h => ?_) (fun h => ?_) | refine And.intro ?_ ?_ | (refine Need.mk ?_; first | with_reducible rfl | (show @Eq TC _ _; rfl) | omega | (simp only [adN_zero]; omega)) | exact OutS.whole rfl rfl | (refine OpK.call c1 rfl rfl rfl rfl hE ?_ rfl rfl ?_; focus ((repeat' (first | exact PsA.lit _ | exact PsA.ref rfl rfl | constructor)); all_goals (fail "ps"))) | (refine OpK.call c2 rfl rfl rfl rfl hE ?_ rfl rfl ?_; focus ((repeat' (first | exact PsA.lit _ | exact PsA.ref rfl rfl | constructor)); all_goals (fail "ps"))) | (refine OpK.call c3 rfl rfl rfl rfl hE ?_ rfl rfl ?_; focus ((repeat' (first | exact PsA.lit _ | exact PsA.ref rfl rfl | constructor)); all_goals (fail "ps"))) | (refine OpK.call c4 rfl rfl rfl rfl hE ?_ rfl rfl ?_; focus ((repeat' (first | exact PsA.lit _ | exact PsA.ref rfl rfl | constructor)); all_goals (fail "ps"))) | refine ListO.go gOk hE ?_)
    all_goals (try simp only [adN_zero] at *)
    all_goals first | exact Need.mk rfl | (exfalso; omega) | (refine Need.mk ?_; omega) | trace_state
end Go.Proofs.Ytlnlogflhagocaa
end

section
/- A call is replayed, II. -/
namespace Go.Proofs.Ytlnlogflhagocaa
open Go Go.Tr
set_option maxRecDepth 100000
set_option maxHeartbeats 4000000
set_option linter.unusedVariables false
set_option linter.unusedSimpArgs false
def s6 (X Y : List ResT) : Bool := decide (∀ i ∈ List.range 6, f6 X i = f6 Y i)
theorem drop6 {a b : List ResT} (hl : a.length = b.length) : decide (a = b) = (s6 a b && decide (a.drop (min a.length 6) = b.drop (min a.length 6))) := by
  have key : a = b ↔ (∀ i ∈ List.range 6, f6 a i = f6 b i) ∧ a.drop (min a.length 6) = b.drop (min a.length 6) := by
    constructor
    · rintro rfl; exact ⟨fun _ _ => rfl, rfl⟩
    · rintro ⟨h1, h2⟩
      have h3 : a.take (min a.length 6) = b.take (min a.length 6) := by
        apply List.ext_getElem
        · simp [hl]
        · intro j j1 j2
          rw [List.length_take] at j1 j2
          have := h1 j (List.mem_range.2 (by omega))
          rw [List.getElem_take, List.getElem_take]
          unfold f6 at this
          simpa [List.getD, show j < a.length by omega, show j < b.length by omega] using this
      rw [← List.take_append_drop (min a.length 6) a, ← List.take_append_drop (min a.length 6) b, h3, h2]
  unfold s6
  rw [← Bool.decide_and]
  exact decide_eq_decide.2 key
theorem partR (X : List ResT) {i : Nat} (hi : i < 6) (w : World) : (part 249 (v6 X).toArray (i * 2)).run Try.prog w = .ok (.agg (vRes (f6 X i)).toArray) w := by
  have hu := Try.underlying249
  obtain ⟨inf, hc, hs⟩ : ∃ inf, Try.prog.info? 249 = some inf ∧ inf.size = 2 := ⟨_, (by kernel_rfl : Try.prog.info? 249 = some ((Try.prog.info? 249).get (by kernel_rfl))), by kernel_rfl⟩
  rcases six hi with rfl | rfl | rfl | rfl | rfl | rfl <;> simp [part, isAgg, hu, go_sem, run_underlying, sizeOf, typeInfo, hc, hs, v6]
theorem ResD_eq (d : Nat) (p q : ResT) (w : World) : (Op.equalIn (d + 2) 249 (.agg (vRes p).toArray) (.agg (vRes q).toArray)).run Try.prog w = .ok (decide (p = q)) w := by
  have u3 := Try.underlying3
  have u4 := Try.underlying4
  obtain ⟨p0, p1⟩ := p
  obtain ⟨q0, q1⟩ := q
  have hS : Try.prog.underlying 249 = some (.struct (Try.prog.fieldsOf 249)) := by kernel_rfl
  rw [show d + 2 = (d + 1) + 1 from rfl, run_equalIn_agg w (d + 1) 249 _ _ hS (by kernel_rfl)]
  simp only [Program.fieldsOf, Try.underlying249]
  go_simp
  by_cases h0 : p0 = q0 <;> by_cases h1 : p1 = q1 <;> simp [h0, h1]
theorem itemsR (d : Nat) (X Y : List ResT) (w : World) : ∀ is : List Nat, (∀ i ∈ is, i < 6) → (Op.eqItems (d + 2) 249 2 (v6 X).toArray (v6 Y).toArray is).run Try.prog w = .ok (decide (∀ i ∈ is, f6 X i = f6 Y i)) w
  | [], _ => by simp [Op.eqItems]
  | i :: is, h => by
    have p1 := partR X (h i (by simp)) w
    have p2 := partR Y (h i (by simp)) w
    have ih := itemsR d X Y w is (fun j hj => h j (by simp [hj]))
    simp only [Op.eqItems, Sem.run_bind, p1, p2, Result.andThen_ok, ResD_eq d (f6 X i) (f6 Y i) w]
    by_cases e1 : f6 X i = f6 Y i
    · simp [e1, ih]
    · simp [e1]
theorem R6_eq (X Y : List ResT) (w : World) : (Op.equalIn 10000 304 (.agg (v6 X).toArray) (.agg (v6 Y).toArray)).run Try.prog w = .ok (s6 X Y) w := by
  have hi : Try.prog.info? 249 = some ((Try.prog.info? 249).get (by kernel_rfl)) := by kernel_rfl
  have hc : Try.prog.cellsOf 249 = 2 := by kernel_rfl
  rw [show (10000 : Nat) = 9999 + 1 from rfl, run_equalIn_array w 9999 (v6 X).toArray (v6 Y).toArray Try.underlying304 hi, hc, show (9999 : Nat) = 9997 + 2 from rfl, itemsR 9997 X Y w _ (fun i hi => List.mem_range.1 hi)]
  rfl
theorem sameResults_run (e e' : Nat) (xs ys : List ResT) (hn : xs.length ≤ 1048576) (hn' : ys.length ≤ 1048576) : RunT Try.prog 167 [.one (.c (tRes e xs)), .one (.c (tRes e' ys))] [] [ob (decide (xs = ys))] [] := by
  refine RunT.of_vc gOk Try.func167 rfl rfl (Nat.le_of_ble_eq_true rfl) (by repeat' (first | exact trivial | exact ⟨_, rfl, Nat.le_refl _⟩ | exact Nat.le_of_ble_eq_true rfl | refine And.intro ?_ ?_)) (Nat.le_of_ble_eq_true rfl) rfl (fun F hE => ?_)
  repeat' (first | exact trivial | refine BS.d (fun h => ?_) (fun h => ?_) | refine BS.e (fun h => ?_) (fun h => ?_) | refine BS.ne (fun h => ?_) (fun h => ?_) | refine BS.n ?_ | refine BS.s (fun h => ?_) (fun h => ?_) | refine And.intro ?_ ?_ | (refine Need.mk ?_; first | with_reducible rfl | (show @Eq TC _ _; rfl) | omega | (simp only [adN_zero]; omega)) | exact OutS.whole rfl rfl | refine ListO.go gOk hE ?_)
  · refine Need.mk ?_
    rw [decide_eq_false (fun e => by subst e; omega)]
  · refine CodeK.loop gOk hE (fun i : Nat => ⟨[(0, .a (.ref 1000000 i (xs.length - i))), (1, .a (.ref 1000001 i (ys.length - i)))], [(1000000, rRes .fro false e xs), (1000001, rRes .fro false e' ys)]⟩) (fun i => i ≤ xs.length ∧ decide (xs = ys) = decide (xs.drop i = ys.drop i)) (fun i => xs.length - i) 0 (by refine leT.of ?_ ?_ rfl <;> repeat' (first | exact trivial | refine And.intro rfl ?_ | refine And.intro (by first | rfl | (simp; done)) ?_)) ⟨Nat.zero_le _, rfl⟩ ?_
    rintro i ⟨hi, hs⟩
    have hl : xs.length = ys.length := by omega
    have e1 : (xs.drop i).take (xs.length - i) = xs.drop i := List.take_of_length_le (by simp)
    have e2 : (ys.drop i).take (ys.length - i) = ys.drop i := List.take_of_length_le (by simp)
    have c1 := firstResults_run e (xs.drop i) (by simp; omega)
    have c2 := firstResults_run e' (ys.drop i) (by simp; omega)
    by_cases hi2 : i < xs.length
    · have h6 := drop6 (a := xs.drop i) (b := ys.drop i) (by simp; omega)
      rw [List.drop_drop, List.drop_drop, List.length_drop] at h6
      rw [h6] at hs
      generalize hq : s6 (xs.drop i) (ys.drop i) = q at *
      have hmx : (if (6 : Int) < ((xs.length - i : Nat) : Int) then (6 : Int) else ((xs.length - i : Nat) : Int)) = ((min (xs.length - i) 6 : Nat) : Int) := by split <;> omega
      have hmy : (if (6 : Int) < ((ys.length - i : Nat) : Int) then (6 : Int) else ((ys.length - i : Nat) : Int)) = ((min (xs.length - i) 6 : Nat) : Int) := by split <;> omega
      have R6 := R6_eq (xs.drop i) (ys.drop i)
      rw [hq] at R6
      cases q
      all_goals (repeat' (first | exact trivial | refine BS.d (fun h => ?_) (fun h => ?_) | refine BS.e (fun h => ?_) (fun h => ?_) | refine BS.ne (fun h => ?_) (fun h => ?_) | refine BS.n ?_ | refine BS.s (fun h => ?_) (fun h => ?_) | refine And.intro ?_ ?_ | (refine Need.mk ?_; first | with_reducible rfl | (show @Eq TC _ _; rfl) | omega | (simp only [adN_zero]; omega)) | exact OutS.whole rfl rfl | (refine OpK.call c1 rfl rfl rfl rfl hE ?_ rfl rfl ?_; focus (exact PsVs.cons (.one (.seg rfl (by omega) e1.symm)) .nil)) | (refine OpK.call c2 rfl rfl rfl rfl hE ?_ rfl rfl ?_; focus (exact PsVs.cons (.one (.seg rfl (by omega) e2.symm)) .nil)) | (refine PK.neA (v6 (xs.drop i)) (v6 (ys.drop i)) rfl rfl rfl rfl rfl (by kernel_rfl) R6 ?_) | (refine CodeK.draw gOk hE rfl (fun _ _ h => h) (.take 0 (.take 1 (.take 2 (.take 5 (.take 6 (.take 7 (.alt 3 (.take 4 (.take 10 (.alt 8 (.take 9 (.take 11 .done)) .stop))) (.alt 8 (.take 9 (.alt 3 (.take 4 (.take 10 (.take 11 .done))) .stop)) .stop)))))))) ?_ ?_; focus (decide +kernel)) | (refine OpK.min rfl rfl rfl rfl rfl ?_) | refine ListO.go gOk hE ?_))
      all_goals (try simp only [hmx, hmy, adN_eq, Int.toNat_natCast, Nat.sub_sub] at *)
      all_goals (try simp only [adN_zero] at *)
      all_goals first
        | (exfalso; omega)
        | (refine Need.mk ?_; first | omega | (rw [hs]; rfl) | (refine ⟨?_, ?_⟩ <;> omega))
        | (refine ⟨i + min (xs.length - i) 6, (by refine leT.of ?_ ?_ rfl <;> repeat' (first | exact trivial | refine And.intro rfl ?_ | refine And.intro (by first | rfl | (simp; done) | (simp <;> omega)) ?_)), ⟨by omega, by rw [hs]; rfl⟩, by first | omega | (dsimp only; omega)⟩)
        | trace_state
    · repeat' (first | exact trivial | refine BS.d (fun h => ?_) (fun h => ?_) | refine BS.e (fun h => ?_) (fun h => ?_) | refine BS.ne (fun h => ?_) (fun h => ?_) | refine BS.n ?_ | refine BS.s (fun h => ?_) (fun h => ?_) | refine And.intro ?_ ?_ | (refine Need.mk ?_; first | with_reducible rfl | (show @Eq TC _ _; rfl) | omega | (simp only [adN_zero]; omega)) | exact OutS.whole rfl rfl | refine ListO.go gOk hE ?_)
      all_goals first
        | (exfalso; omega)
        | (refine Need.mk ?_; rw [hs, List.drop_eq_nil_of_le (by omega), List.drop_eq_nil_of_le (by omega)]; rfl)
        | trace_state
end Go.Proofs.Ytlnlogflhagocaa
end

section
/- A call is replayed, III. -/
namespace Go.Proofs.Ytlnlogflhagocaa
open Go Go.Tr
set_option maxRecDepth 100000
set_option maxHeartbeats 4000000
set_option linter.unusedVariables false
set_option linter.unusedSimpArgs false
theorem replayOne_run (e eC eR : Nat) (L : List TEvT) (m : List KVT) (s : Int) (hn : L.length ≤ 1048576) (hx : ∀ i, (L.getD i zTEv).2.2.2.2.1.length ≤ 1048576 ∧ (L.getD i zTEv).2.2.2.2.2.length ≤ 1048576) (h3 : 0 ≤ plc L 3 s) (hm : m.length + gS s L ≤ 1048576) :
    RunT Try.prog 102 [.one (.c (tTEv e eC eR L)), .one (.m (tKV 179 m)), ti s] [] [.one (tKV 179 (rpM L m s)), ob (rpQ L m s)] [] := by
  have c1 := PlaceOfI_run e eC eR L 1 s hn
  have c2 := PlaceOfI_run e eC eR L 3 s hn
  obtain ⟨p2, p3⟩ := plc_pl h3
  have p4 := (hx (plc L 3 s).toNat).2
  unfold rpM rpQ
  by_cases h1 : plc L 1 s < 0
  · rw [if_pos h1, if_pos h1]
    generalize plc L 1 s = r1 at *
    generalize plc L 3 s = r3 at *
    refine RunT.of_vc gOk Try.func102 rfl rfl (Nat.le_of_ble_eq_true rfl) (by repeat' (first | exact trivial | exact ⟨_, rfl, Nat.le_refl _⟩ | exact Nat.le_of_ble_eq_true rfl | refine And.intro ?_ ?_)) (Nat.le_of_ble_eq_true rfl) rfl (fun F hE => ?_)
    repeat' (first | exact trivial | refine BS.d (fun h => ?_) (fun h => ?_) | refine BS.e (fun h => ?_) (fun h => ?_) | refine BS.ne (fun h => ?_) (fun h => ?_) | refine BS.n ?_ | refine BS.s (fun h => ?_) (fun h => ?_) | refine And.intro ?_ ?_ | (refine Need.mk ?_; first | with_reducible rfl | (show @Eq TC _ _; rfl) | omega | (simp only [adN_zero]; omega)) | exact OutS.whole rfl rfl | (refine OpK.call c1 rfl rfl rfl rfl hE ?_ rfl rfl ?_; focus ((repeat' (first | exact PsA.lit _ | exact PsA.ref rfl rfl | constructor)); all_goals (fail "ps"))) | (refine OpK.call c2 rfl rfl rfl rfl hE ?_ rfl rfl ?_; focus ((repeat' (first | exact PsA.lit _ | exact PsA.ref rfl rfl | constructor)); all_goals (fail "ps"))) | refine ListO.go gOk hE ?_)
    all_goals first | exact Need.mk rfl | (exfalso; omega) | trace_state
  · rw [if_neg h1, if_neg h1]
    have q1 := cmA_le L h1
    have q2 := csR_le m (cmA L s)
    have c3 := CmdsDoI_run 179 eC m (cmA L s) (by omega)
    have c4 := sameResults_run 249 eR (csR m (cmA L s)) (rsA L s) (by omega) p4
    obtain ⟨q4, q5⟩ := plc_pl (L := L) (k := 1) (s := s) (by omega)
    generalize csM m (cmA L s) = M1 at *
    generalize csR m (cmA L s) = R1 at *
    unfold cmA at c3
    unfold rsA at c4 ⊢
    obtain ⟨r1, e1⟩ := Int.eq_ofNat_of_zero_le (show 0 ≤ plc L 1 s by omega)
    obtain ⟨r3, e3⟩ := Int.eq_ofNat_of_zero_le h3
    rw [e1] at c1 c3 q4
    rw [e3] at c2 c4 p2 ⊢
    simp only [Int.toNat_natCast] at c3 c4 q4 p2 ⊢
    refine RunT.of_vc gOk Try.func102 rfl rfl (Nat.le_of_ble_eq_true rfl) (by repeat' (first | exact trivial | exact ⟨_, rfl, Nat.le_refl _⟩ | exact Nat.le_of_ble_eq_true rfl | refine And.intro ?_ ?_)) (Nat.le_of_ble_eq_true rfl) rfl (fun F hE => ?_)
    repeat' (first | exact trivial | refine BS.d (fun h => ?_) (fun h => ?_) | refine BS.e (fun h => ?_) (fun h => ?_) | refine BS.ne (fun h => ?_) (fun h => ?_) | refine BS.n ?_ | refine BS.s (fun h => ?_) (fun h => ?_) | refine And.intro ?_ ?_ | (refine Need.mk ?_; first | with_reducible rfl | (show @Eq TC _ _; rfl) | omega | (simp only [adN_zero]; omega)) | exact OutS.whole rfl rfl | (refine OpK.call c1 rfl rfl rfl rfl hE ?_ rfl rfl ?_; focus ((repeat' (first | exact PsA.lit _ | exact PsA.ref rfl rfl | constructor)); all_goals (fail "ps"))) | (refine OpK.call c2 rfl rfl rfl rfl hE ?_ rfl rfl ?_; focus ((repeat' (first | exact PsA.lit _ | exact PsA.ref rfl rfl | constructor)); all_goals (fail "ps"))) | (refine OpK.call c3 rfl rfl rfl rfl hE ?_ rfl rfl ?_; focus ((repeat' (first | exact PsA.lit _ | exact PsA.ref rfl rfl | constructor)); all_goals (fail "ps"))) | (refine OpK.call c4 rfl rfl rfl rfl hE ?_ rfl rfl ?_; focus ((repeat' (first | exact PsA.lit _ | exact PsA.ref rfl rfl | constructor)); all_goals (fail "ps"))) | refine ListO.go gOk hE ?_)
    all_goals (try simp only [adN_zero] at *)
    all_goals first | exact Need.mk rfl | (exfalso; omega) | (refine Need.mk ?_; omega) | trace_state
end Go.Proofs.Ytlnlogflhagocaa
end

section
namespace Go.Proofs.Ytlnlogflhagocaa
open Go Go.Tr
set_option maxRecDepth 100000
set_option maxHeartbeats 4000000
set_option linter.unusedVariables false
set_option linter.unusedSimpArgs false
/-- No serial was called behind the tell of a later one. -/
def stP (xs : List TEvT) (o : List Int) (i : Nat) : Prop := ∀ k, k < i → ¬ plc xs 3 (o.getD i 0) < plc xs 1 (o.getD k 0)
noncomputable def stR (xs : List TEvT) (o : List Int) : Bool := allP o.length (stP xs o)
def lcN (xs : List TEvT) (o : List Int) : Nat → Int
  | 0 => -1
  | i + 1 => if lcN xs o i < plc xs 1 (o.getD i 0) then plc xs 1 (o.getD i 0) else lcN xs o i
theorem lcN_bd (xs : List TEvT) (o : List Int) : ∀ i, -1 ≤ lcN xs o i ∧ ∀ t : Int, 0 ≤ t → (t < lcN xs o i ↔ ∃ k, k < i ∧ t < plc xs 1 (o.getD k 0))
  | 0 => ⟨Int.le_refl _, fun t ht => ⟨fun h => by unfold lcN at h; omega, fun ⟨k, hk, _⟩ => absurd hk (Nat.not_lt_zero _)⟩⟩
  | i + 1 => by
    obtain ⟨h1, h2⟩ := lcN_bd xs o i
    unfold lcN
    refine ⟨by split <;> omega, fun t ht => ?_⟩
    have := h2 t ht
    split
    · refine ⟨fun h => ⟨i, Nat.lt_succ_self _, h⟩, fun ⟨k, hk, hk2⟩ => ?_⟩
      by_cases e : k = i
      · subst e; exact hk2
      · have := this.2 ⟨k, by omega, hk2⟩; omega
    · refine ⟨fun h => ?_, fun ⟨k, hk, hk2⟩ => ?_⟩
      · obtain ⟨k, hk, hk2⟩ := this.1 h; exact ⟨k, by omega, hk2⟩
      · by_cases e : k = i
        · subst e; omega
        · exact this.2 ⟨k, by omega, hk2⟩
theorem mem_getD {o : List Int} {i : Nat} (h : i < o.length) : o.getD i 0 ∈ o := by
  rw [List.getD_eq_getElem?_getD, List.getElem?_eq_getElem h]; exact List.getElem_mem _
theorem OrderI_run (e eC eR : Nat) (xs : List TEvT) (hn : xs.length ≤ 1048576) : RunT Try.prog 101 [.one (.c (tTEv e eC eR xs))] [] [.one (tI (ordN xs xs.length))] [] := by
  refine RunT.of_vc gOk Try.func101 rfl rfl (Nat.le_of_ble_eq_true rfl) (by repeat' (first | exact trivial | exact ⟨_, rfl, Nat.le_refl _⟩ | exact Nat.le_of_ble_eq_true rfl | refine And.intro ?_ ?_)) (Nat.le_of_ble_eq_true rfl) rfl (fun F hE => ?_)
  repeat' (first | exact trivial | refine BS.d (fun h => ?_) (fun h => ?_) | refine BS.e (fun h => ?_) (fun h => ?_) | refine BS.ne (fun h => ?_) (fun h => ?_) | refine BS.n ?_ | refine BS.s (fun h => ?_) (fun h => ?_) | refine And.intro ?_ ?_ | (refine Need.mk ?_; first | with_reducible rfl | (show @Eq TC _ _; rfl) | omega | (simp only [adN_zero]; omega)) | exact OutS.whole rfl rfl | refine ListO.go gOk hE ?_)
  refine CodeK.nilT gOk hE 3 900000 3 1 Int encI decI 0 (by rfl) (by rfl) (by decide) ?_
  repeat' (first | exact trivial | refine BS.d (fun h => ?_) (fun h => ?_) | refine BS.e (fun h => ?_) (fun h => ?_) | refine BS.ne (fun h => ?_) (fun h => ?_) | refine BS.n ?_ | refine BS.s (fun h => ?_) (fun h => ?_) | refine And.intro ?_ ?_ | (refine Need.mk ?_; first | with_reducible rfl | (show @Eq TC _ _; rfl) | omega | (simp only [adN_zero]; omega)) | exact OutS.whole rfl rfl | refine ListO.go gOk hE ?_)
  refine CodeK.loop gOk hE (fun i : Nat => ⟨[(0, vr 1000000 xs.length), (3, vr 900000 (ordN xs i).length), (6, vr 1000000 xs.length), (7, vi xs.length), (8, vi i)], [(900000, rI .own true (ordN xs i)), (1000000, rTEv .fro false e eC eR xs)]⟩) (fun i => i ≤ xs.length) (fun i => xs.length - i) 0 (by refine leT.of ?_ ?_ rfl <;> repeat' (first | exact trivial | refine And.intro rfl ?_ | refine And.intro (by first | rfl | (simp [ordN]; done)) ?_)) (Nat.zero_le _) ?_
  rintro i hi
  have hl := ordN_le xs i
  have c1 := ContainsI_run (ordN xs i) (xs.getD i zTEv).2.2.1 (by omega)
  have c2 := committed_run e eC eR xs (xs.getD i zTEv).2.2.1 hn
  have hN : ordN xs (i + 1) = if oTk xs (ordN xs i) (xs.getD i zTEv) then ordN xs i ++ [(xs.getD i zTEv).2.2.1] else ordN xs i := rfl
  unfold oTk at hN
  rcases h3 : cmt xs (xs.getD i zTEv).2.2.1 <;> by_cases h1 : (xs.getD i zTEv).1 = 2 <;> by_cases h2 : (xs.getD i zTEv).2.2.1 ∈ ordN xs i
  all_goals rw [h3] at c2
  all_goals simp only [h1, h2, h3, decide_true, decide_false, Bool.not_true, Bool.not_false, Bool.and_true, Bool.and_false, Bool.true_and, Bool.false_and, if_true, if_false, Bool.false_eq_true] at hN c1
  all_goals (repeat' (first | exact trivial | refine BS.d (fun h => ?_) (fun h => ?_) | refine BS.e (fun h => ?_) (fun h => ?_) | refine BS.ne (fun h => ?_) (fun h => ?_) | refine BS.n ?_ | refine BS.s (fun h => ?_) (fun h => ?_) | refine And.intro ?_ ?_ | (refine Need.mk ?_; first | with_reducible rfl | (show @Eq TC _ _; rfl) | omega | (simp only [adN_zero]; omega)) | exact OutS.whole rfl rfl | (refine OpK.call c1 rfl rfl rfl rfl hE ?_ rfl rfl ?_; focus ((repeat' (first | exact PsA.lit _ | exact PsA.ref rfl rfl | constructor)); all_goals (fail "ps"))) | (refine OpK.call c2 rfl rfl rfl rfl hE ?_ rfl rfl ?_; focus ((repeat' (first | exact PsA.lit _ | exact PsA.ref rfl rfl | constructor)); all_goals (fail "ps"))) | refine ListO.go gOk hE ?_))
  all_goals (try simp only [adN_zero] at *)
  all_goals first
    | (exfalso; first | omega | contradiction)
    | (refine Need.mk ?_; omega)
    | (refine Need.mk ?_; refine ⟨?_, ?_⟩ <;> (try unfold maxLen) <;> omega)
    | (refine OutS.whole rfl ?_; rw [show xs.length = i by omega]; rfl)
    | skip
  all_goals (repeat' (first | exact trivial | refine BS.d (fun h => ?_) (fun h => ?_) | refine BS.e (fun h => ?_) (fun h => ?_) | refine BS.ne (fun h => ?_) (fun h => ?_) | refine BS.n ?_ | refine BS.s (fun h => ?_) (fun h => ?_) | refine And.intro ?_ ?_ | (refine Need.mk ?_; first | with_reducible rfl | (show @Eq TC _ _; rfl) | omega | (simp only [adN_zero]; omega)) | exact OutS.whole rfl rfl | refine ListO.go gOk hE ?_))
  all_goals (refine ⟨i + 1, (by refine leT.of ?_ ?_ rfl <;> repeat' (first | exact trivial | refine And.intro rfl ?_ | refine And.intro (by rw [hN]; first | rfl | (simp; done)) ?_)), ?_⟩; (refine And.intro ?_ ?_) <;> (first | omega | (dsimp only; omega) | trivial))
end Go.Proofs.Ytlnlogflhagocaa
end

section
/- A log is replayed. -/
namespace Go.Proofs.Ytlnlogflhagocaa
open Go Go.Tr
set_option maxRecDepth 100000
set_option maxHeartbeats 4000000
set_option linter.unusedVariables false
set_option linter.unusedSimpArgs false
theorem ordN_p3 (L : List TEvT) {i : Nat} (h : i < (ordN L L.length).length) : 0 ≤ plc L 3 ((ordN L L.length).getD i 0) := by
  refine ordN_ok L L.length _ ?_
  simp [List.getD, h]
theorem ReplayS_run (e eC eR : Nat) (L : List TEvT) (hn : L.length ≤ 1048576) (hx : ∀ i, (L.getD i zTEv).2.2.2.2.1.length ≤ 1048576 ∧ (L.getD i zTEv).2.2.2.2.2.length ≤ 1048576) (ht : totC L ≤ 1048576) : RunT Try.prog 42 [.one (.c (tTEv e eC eR L))] [] [.one (tKV 179 (rpN L (ordN L L.length) (ordN L L.length).length).1), ob (rpN L (ordN L L.length) (ordN L L.length).length).2] [] := by
  have c0 := OrderS_run e eC eR L hn
  have hp3 := @ordN_p3 L
  have hnd := ordN_nd L L.length
  have hol := ordN_le L L.length
  generalize ordN L L.length = o at *
  refine RunT.of_vc gOk Try.func42 rfl rfl (Nat.le_of_ble_eq_true rfl) (by repeat' (first | exact trivial | exact ⟨_, rfl, Nat.le_refl _⟩ | exact Nat.le_of_ble_eq_true rfl | refine And.intro ?_ ?_)) (Nat.le_of_ble_eq_true rfl) rfl (fun F hE => ?_)
  repeat' (first | exact trivial | refine BS.d (fun h => ?_) (fun h => ?_) | refine BS.e (fun h => ?_) (fun h => ?_) | refine BS.ne (fun h => ?_) (fun h => ?_) | refine BS.n ?_ | refine BS.s (fun h => ?_) (fun h => ?_) | refine And.intro ?_ ?_ | (refine Need.mk ?_; first | with_reducible rfl | (show @Eq TC _ _; rfl) | omega | (simp only [adN_zero]; omega)) | exact OutS.whole rfl rfl | (refine OpK.call c0 rfl rfl rfl rfl hE ?_ rfl rfl ?_; focus ((repeat' (first | exact PsA.lit _ | exact PsA.ref rfl rfl | constructor)); all_goals (fail "ps"))) | refine ListO.go gOk hE ?_)
  refine CodeK.loopK (fun i : Nat => ⟨[(0, vr 1000000 L.length), (4, vr 10 (rpN L o i).1.length), (5, vb (rpN L o i).2), (6, vr 2001536 o.length), (7, vi i)], [(10, rKV .own true 179 (rpN L o i).1), (2001536, rI .own true o), (1000000, rTEv .fro false e eC eR L)]⟩) (fun i => i ≤ o.length) (fun i => o.length - i) 0 (by refine leT.of ?_ ?_ rfl <;> repeat' (first | exact trivial | refine And.intro rfl ?_ | refine And.intro (by first | rfl | (simp [rpN] <;> rfl) | (simp [rpN]; done)) ?_)) (Nat.zero_le _) ?_
  rintro i hi
  by_cases hi2 : i < o.length
  · have hsu := rpN_succ L hi2
    have hfit := rpN_fit L hnd hi2
    have h3 := hp3 hi2
    have c1 := l27Do_run e eC eR L (rpN L o i).1 (o.getD i 0) hn hx h3 (by omega)
    generalize rpN L o i = st at *
    obtain ⟨m0, b0⟩ := st
    unfold rpS at hsu
    dsimp only at *
    generalize rpM L m0 (o.getD i 0) = m1 at *
    generalize rpQ L m0 (o.getD i 0) = q1 at *
    repeat' (first | exact trivial | refine BS.d (fun h => ?_) (fun h => ?_) | refine BS.e (fun h => ?_) (fun h => ?_) | refine BS.ne (fun h => ?_) (fun h => ?_) | refine BS.n ?_ | refine BS.s (fun h => ?_) (fun h => ?_) | refine And.intro ?_ ?_ | (refine Need.mk ?_; first | with_reducible rfl | (show @Eq TC _ _; rfl) | omega | (simp only [adN_zero]; omega)) | exact OutS.whole rfl rfl | (refine OpK.callM 10 0 0 c1 rfl rfl rfl rfl hE rfl (QsVs.cons (.one (.m rfl rfl (.whole rfl rfl))) (.cons (.one (.c (.ref rfl rfl) rfl)) (.cons (.one (.c (.lit _) rfl)) .nil))) rfl rfl ?_) | (refine CodeK.rekeyR 6 2003328 10 rfl hE rfl rfl rfl rfl rfl rfl ?_) | (refine CodeK.rekeyS 6 2003328 10 rfl hE rfl rfl rfl rfl rfl rfl ?_) | (refine CodeK.seqL 9999 rfl ?_) | (refine CodeK.seqv gOk hE ?_) | (refine CodeK.vc gOk hE ?_) | (refine ListO.step gOk hE ?_) | (refine ListO.done ?_) | refine ListO.go gOk hE ?_)
    all_goals (try simp only [adN_zero] at *)
    all_goals first
      | (exfalso; omega)
      | (refine Need.mk ?_; first | rfl | omega | simp_all; done)
      | (refine ⟨i + 1, (by refine leT.of ?_ ?_ rfl <;> repeat' (first | exact trivial | refine And.intro rfl ?_ | refine And.intro (by first | rfl | (rw [hsu]; first | rfl | (simp_all; done) | (simp_all <;> rfl))) ?_)), by omega, by first | omega | (dsimp only; omega)⟩)
      | trace_state
  · have hlast : i = o.length := by omega
    subst hlast
    generalize rpN L o o.length = st at *
    obtain ⟨m0, b0⟩ := st
    repeat' (first | exact trivial | refine BS.d (fun h => ?_) (fun h => ?_) | refine BS.e (fun h => ?_) (fun h => ?_) | refine BS.ne (fun h => ?_) (fun h => ?_) | refine BS.n ?_ | refine BS.s (fun h => ?_) (fun h => ?_) | refine And.intro ?_ ?_ | (refine Need.mk ?_; first | with_reducible rfl | (show @Eq TC _ _; rfl) | omega | (simp only [adN_zero]; omega)) | exact OutS.whole rfl rfl | (refine CodeK.seqL 9999 rfl ?_) | (refine CodeK.seqv gOk hE ?_) | (refine CodeK.vc gOk hE ?_) | (refine ListO.step gOk hE ?_) | (refine ListO.done ?_) | refine ListO.go gOk hE ?_)
    all_goals first
      | (exfalso; omega)
      | exact Need.mk rfl
      | exact OutS.whole rfl rfl
      | trace_state
theorem ReplayI_run (e eC eR : Nat) (L : List TEvT) (hn : L.length ≤ 1048576) (hx : ∀ i, (L.getD i zTEv).2.2.2.2.1.length ≤ 1048576 ∧ (L.getD i zTEv).2.2.2.2.2.length ≤ 1048576) (ht : totC L ≤ 1048576) : RunT Try.prog 44 [.one (.c (tTEv e eC eR L))] [] [.one (tKV 179 (rpN L (ordN L L.length) (ordN L L.length).length).1), ob (rpN L (ordN L L.length) (ordN L L.length).length).2] [] := by
  have c0 := OrderI_run e eC eR L hn
  have hp3 := @ordN_p3 L
  have hnd := ordN_nd L L.length
  have hol := ordN_le L L.length
  generalize ordN L L.length = o at *
  refine RunT.of_vc gOk Try.func44 rfl rfl (Nat.le_of_ble_eq_true rfl) (by repeat' (first | exact trivial | exact ⟨_, rfl, Nat.le_refl _⟩ | exact Nat.le_of_ble_eq_true rfl | refine And.intro ?_ ?_)) (Nat.le_of_ble_eq_true rfl) rfl (fun F hE => ?_)
  repeat' (first | exact trivial | refine BS.d (fun h => ?_) (fun h => ?_) | refine BS.e (fun h => ?_) (fun h => ?_) | refine BS.ne (fun h => ?_) (fun h => ?_) | refine BS.n ?_ | refine BS.s (fun h => ?_) (fun h => ?_) | refine And.intro ?_ ?_ | (refine Need.mk ?_; first | with_reducible rfl | (show @Eq TC _ _; rfl) | omega | (simp only [adN_zero]; omega)) | exact OutS.whole rfl rfl | (refine OpK.call c0 rfl rfl rfl rfl hE ?_ rfl rfl ?_; focus ((repeat' (first | exact PsA.lit _ | exact PsA.ref rfl rfl | constructor)); all_goals (fail "ps"))) | refine ListO.go gOk hE ?_)
  refine CodeK.nilT gOk hE 5 900000 179 2 KVT encKV decKV zKV (by rfl) (by rfl) (by decide) ?_
  refine CodeK.loopK (fun i : Nat => ⟨[(0, vr 1000000 L.length), (4, vb (rpN L o i).2), (5, vr 900000 (rpN L o i).1.length), (11, vr 2001408 o.length), (12, vi o.length), (13, vi i)], [(900000, rKV .own true 179 (rpN L o i).1), (2001408, rI .own true o), (1000000, rTEv .fro false e eC eR L)]⟩) (fun i => i ≤ o.length) (fun i => o.length - i) 0 (by refine leT.of ?_ ?_ rfl <;> repeat' (first | exact trivial | refine And.intro rfl ?_ | refine And.intro (by first | rfl | (simp [rpN] <;> rfl) | (simp [rpN]; done)) ?_)) (Nat.zero_le _) ?_
  rintro i hi
  by_cases hi2 : i < o.length
  · have hsu := rpN_succ L hi2
    have hfit := rpN_fit L hnd hi2
    have h3 := hp3 hi2
    have c1 := replayOne_run e eC eR L (rpN L o i).1 (o.getD i 0) hn hx h3 (by omega)
    generalize rpN L o i = st at *
    obtain ⟨m0, b0⟩ := st
    unfold rpS at hsu
    dsimp only at *
    generalize rpM L m0 (o.getD i 0) = m1 at *
    generalize rpQ L m0 (o.getD i 0) = q1 at *
    repeat' (first | exact trivial | refine BS.d (fun h => ?_) (fun h => ?_) | refine BS.e (fun h => ?_) (fun h => ?_) | refine BS.ne (fun h => ?_) (fun h => ?_) | refine BS.n ?_ | refine BS.s (fun h => ?_) (fun h => ?_) | refine And.intro ?_ ?_ | (refine Need.mk ?_; first | with_reducible rfl | (show @Eq TC _ _; rfl) | omega | (simp only [adN_zero]; omega)) | exact OutS.whole rfl rfl | (refine OpK.callM 900000 1 0 c1 rfl rfl rfl rfl hE rfl (QsVs.cons (.one (.c (.ref rfl rfl) rfl)) (.cons (.one (.m rfl rfl (.whole rfl rfl))) (.cons (.one (.c (.lit _) rfl)) .nil))) rfl rfl ?_) | (refine CodeK.rekeyR 8 2002688 900000 rfl hE rfl rfl rfl rfl rfl rfl ?_) | (refine CodeK.rekeyS 8 2002688 900000 rfl hE rfl rfl rfl rfl rfl rfl ?_) | (refine CodeK.seqL 9999 rfl ?_) | (refine CodeK.seqv gOk hE ?_) | (refine CodeK.vc gOk hE ?_) | (refine ListO.step gOk hE ?_) | (refine ListO.done ?_) | refine ListO.go gOk hE ?_)
    all_goals (try simp only [adN_zero] at *)
    all_goals first
      | (exfalso; omega)
      | (refine Need.mk ?_; first | rfl | omega | simp_all; done)
      | (refine ⟨i + 1, (by refine leT.of ?_ ?_ rfl <;> repeat' (first | exact trivial | refine And.intro rfl ?_ | refine And.intro (by first | rfl | (rw [hsu]; first | rfl | (simp_all; done) | (simp_all <;> rfl))) ?_)), by omega, by first | omega | (dsimp only; omega)⟩)
      | trace_state
  · have hlast : i = o.length := by omega
    subst hlast
    generalize rpN L o o.length = st at *
    obtain ⟨m0, b0⟩ := st
    repeat' (first | exact trivial | refine BS.d (fun h => ?_) (fun h => ?_) | refine BS.e (fun h => ?_) (fun h => ?_) | refine BS.ne (fun h => ?_) (fun h => ?_) | refine BS.n ?_ | refine BS.s (fun h => ?_) (fun h => ?_) | refine And.intro ?_ ?_ | (refine Need.mk ?_; first | with_reducible rfl | (show @Eq TC _ _; rfl) | omega | (simp only [adN_zero]; omega)) | exact OutS.whole rfl rfl | (refine CodeK.seqL 9999 rfl ?_) | (refine CodeK.seqv gOk hE ?_) | (refine CodeK.vc gOk hE ?_) | (refine ListO.step gOk hE ?_) | (refine ListO.done ?_) | refine ListO.go gOk hE ?_)
    all_goals first
      | (exfalso; omega)
      | exact Need.mk rfl
      | exact OutS.whole rfl rfl
      | trace_state
end Go.Proofs.Ytlnlogflhagocaa
end

section
/- Marks of commands, results and events. -/
namespace Go.Proofs.Ytlnlogflhagocaa
open Go Go.Tr
set_option maxRecDepth 100000
set_option maxHeartbeats 4000000
set_option linter.unusedVariables false
set_option linter.unusedSimpArgs false
abbrev fC (m : Int) (j : Nat) : CmdT := (m + 3 * j, m + 3 * j + 1, m + 3 * j + 1 + 1)
abbrev fRs (m : Int) (j : Nat) : ResT := ((m + 2 * j).tmod 3 == 0, m + 2 * j + 1)
abbrev bCmd (e κ : Nat) (xs xs' : List CmdT) : Bt := ⟨κ, 0, true, .sl e 3 CmdT encCmd decCmd zCmd xs, .sl e 3 CmdT encCmd decCmd zCmd xs', .ty .own true e 3 CmdT encCmd decCmd zCmd xs'⟩
abbrev bRes (e κ : Nat) (xs xs' : List ResT) : Bt := ⟨κ, 0, true, .sl e 2 ResT encRes decRes zRes xs, .sl e 2 ResT encRes decRes zRes xs', .ty .own true e 2 ResT encRes decRes zRes xs'⟩
theorem markC_run (e : Nat) (xs : List CmdT) (m : Int) (h0 : 0 ≤ m) (h1 : m ≤ 4503599627370496) (hn : xs.length ≤ 4000000) : RunT Try.prog 105 [.one (.h 0 xs.length), ti m] [.sl e 3 CmdT encCmd decCmd zCmd xs] [oi (m + 3 * xs.length)] [.sl e 3 CmdT encCmd decCmd zCmd (mkL zCmd (fC m) xs xs.length)] := by
  refine RunT.of_vc gOk Try.func105 rfl rfl (Nat.le_of_ble_eq_true rfl) (by repeat' (first | exact trivial | exact ⟨_, rfl, Nat.le_refl _⟩ | exact Nat.le_of_ble_eq_true rfl | refine And.intro ?_ ?_)) (Nat.le_of_ble_eq_true rfl) rfl (fun F hE => ?_)
  repeat' (first | exact trivial | refine BS.d (fun h => ?_) (fun h => ?_) | refine BS.e (fun h => ?_) (fun h => ?_) | refine BS.ne (fun h => ?_) (fun h => ?_) | refine BS.n ?_ | refine BS.s (fun h => ?_) (fun h => ?_) | refine And.intro ?_ ?_ | (refine Need.mk ?_; first | with_reducible rfl | (show @Eq TC _ _; rfl) | omega | (simp only [adN_zero]; omega)) | exact OutS.whole rfl rfl | refine ListO.go gOk hE ?_)
  refine CodeK.loop gOk hE (fun i : Nat => ⟨[(0, vr 1000000 xs.length), (1, vi (m + 3 * i)), (5, vi i)], [(1000000, rCmd .own false 0 (mkL zCmd (fC m) xs i))]⟩) (fun i => i ≤ xs.length) (fun i => xs.length - i) 0 (by refine leT.of ?_ ?_ rfl <;> repeat' (first | exact trivial | refine And.intro rfl ?_ | refine And.intro (by simp [mkL_zero] <;> rfl) ?_)) (Nat.zero_le _) ?_
  rintro i hi
  have hl := mkL_len zCmd (fC m) xs i
  repeat' (first | exact trivial | refine BS.d (fun h => ?_) (fun h => ?_) | refine BS.e (fun h => ?_) (fun h => ?_) | refine BS.ne (fun h => ?_) (fun h => ?_) | refine BS.n ?_ | refine BS.s (fun h => ?_) (fun h => ?_) | refine And.intro ?_ ?_ | (refine Need.mk ?_; first | with_reducible rfl | (show @Eq TC _ _; rfl) | omega | (simp only [adN_zero]; omega)) | exact OutS.whole rfl rfl | refine ListO.go gOk hE ?_)
  all_goals (try simp only [adN_zero] at *)
  all_goals first
    | (refine Need.mk ?_; first | omega | (simp only [List.length_set]; omega) | rw [show i = xs.length by omega])
    | (refine ⟨i + 1, (by refine leT.of ?_ ?_ rfl <;> repeat' (first | exact trivial | refine And.intro rfl ?_ | refine And.intro (by first | rfl | (refine litInt ?_; omega) | (refine congrArg (fun l => some (rCmd .own false 0 l)) ?_; have hlt : i < (mkL zCmd (fC m) xs i).length := (by omega); simp only [List.set_set]; simp only [set_getD _ _ _ _ hlt]; exact mkL_set zCmd (fC m) _ _ (by omega))) ?_)), by omega, by first | omega | (dsimp only; omega)⟩)
    | trace_state
theorem markR_run (e : Nat) (xs : List ResT) (m : Int) (h0 : 0 ≤ m) (h1 : m ≤ 4503599627370496) (hn : xs.length ≤ 4000000) : RunT Try.prog 106 [.one (.h 0 xs.length), ti m] [.sl e 2 ResT encRes decRes zRes xs] [oi (m + 2 * xs.length)] [.sl e 2 ResT encRes decRes zRes (mkL zRes (fRs m) xs xs.length)] := by
  refine RunT.of_vc gOk Try.func106 rfl rfl (Nat.le_of_ble_eq_true rfl) (by repeat' (first | exact trivial | exact ⟨_, rfl, Nat.le_refl _⟩ | exact Nat.le_of_ble_eq_true rfl | refine And.intro ?_ ?_)) (Nat.le_of_ble_eq_true rfl) rfl (fun F hE => ?_)
  repeat' (first | exact trivial | refine BS.d (fun h => ?_) (fun h => ?_) | refine BS.e (fun h => ?_) (fun h => ?_) | refine BS.ne (fun h => ?_) (fun h => ?_) | refine BS.n ?_ | refine BS.s (fun h => ?_) (fun h => ?_) | refine And.intro ?_ ?_ | (refine Need.mk ?_; first | with_reducible rfl | (show @Eq TC _ _; rfl) | omega | (simp only [adN_zero]; omega)) | exact OutS.whole rfl rfl | refine ListO.go gOk hE ?_)
  refine CodeK.loop gOk hE (fun i : Nat => ⟨[(0, vr 1000000 xs.length), (1, vi (m + 2 * i)), (5, vi i)], [(1000000, rRes .own false 0 (mkL zRes (fRs m) xs i))]⟩) (fun i => i ≤ xs.length) (fun i => xs.length - i) 0 (by refine leT.of ?_ ?_ rfl <;> repeat' (first | exact trivial | refine And.intro rfl ?_ | refine And.intro (by simp [mkL_zero] <;> rfl) ?_)) (Nat.zero_le _) ?_
  rintro i hi
  have hl := mkL_len zRes (fRs m) xs i
  repeat' (first | exact trivial | refine BS.d (fun h => ?_) (fun h => ?_) | refine BS.e (fun h => ?_) (fun h => ?_) | refine BS.ne (fun h => ?_) (fun h => ?_) | refine BS.n ?_ | refine BS.s (fun h => ?_) (fun h => ?_) | refine And.intro ?_ ?_ | (refine Need.mk ?_; first | with_reducible rfl | (show @Eq TC _ _; rfl) | omega | (simp only [adN_zero]; omega)) | exact OutS.whole rfl rfl | refine ListO.go gOk hE ?_)
  all_goals (try simp only [adN_zero] at *)
  all_goals first
    | (refine Need.mk ?_; first | omega | (simp only [List.length_set]; omega) | rw [show i = xs.length by omega])
    | (refine ⟨i + 1, (by refine leT.of ?_ ?_ rfl <;> repeat' (first | exact trivial | refine And.intro rfl ?_ | refine And.intro (by first | rfl | (refine litInt ?_; omega) | (refine congrArg (fun l => some (rRes .own false 0 l)) ?_; have hlt : i < (mkL zRes (fRs m) xs i).length := (by omega); simp only [List.set_set]; simp only [set_getD _ _ _ _ hlt]; exact mkL_set zRes (fRs m) _ _ (by omega))) ?_)), by omega, by first | omega | (dsimp only; omega)⟩)
    | trace_state
end Go.Proofs.Ytlnlogflhagocaa
end

section
/- One cell of an element of an own row is stored. -/
set_option linter.unusedVariables false
set_option linter.unusedSimpArgs false
universe u
namespace Go.Tr
open Go Go.RowKit
section
variable {P : Program} {F : Fm} {N : Nat} {G : Gt} {o : Oper} {σ : TS} {k : TS → Prop}
theorem OpK.stE (hG : GOk P G) {t : Nat} {kd : TK} {z : List ZC} {x y : Operand} {κ i r : Nat} {full : Bool} {e kw : Nat} {X : Type} {enc : X → Nat → TC} {dec : List Value → Option X} {d : X} {xs : List X} {v : Value} (x' : X) (hop : o.op = .store t x y) (hg : o.guard = none) (hd : o.dst = none)
    (hx : evS σ x = .ptr κ i r) (ht : G.T t = some ⟨1, kd, z⟩) (hy : evS σ y = .a (.lit v)) (hR : lkR σ.r κ = some (.ty .own full e kw X enc dec d xs)) (hi : i < xs.length) (hr : r < kw)
    (he : enc x' r = .lit v) (he' : ∀ r', r' < kw → r' ≠ r → enc x' r' = enc (xs.getD i d) r') (h : setK σ κ (.ty .own full e kw X enc dec d (xs.set i x')) k) : OpK P F N o σ k := by
  rw [setK_eq] at h
  refine ⟨fun ops Q rest kk => ?_⟩
  have hye : (σ.er.ev y).atoms = some [.lit v] := by rw [evS_eq, hy]; rfl
  refine AL.store hG.T hop hg hd (by rw [evS_eq, hx]; rfl) ht hye rfl (TS.rt_some hR) rfl hi (show r + 1 ≤ kw by omega) (liveL_true _ _ _ _) ?_
  refine AL.le (le_lk (τ := ⟨σ.t, (κ, .ty .own full e kw X enc dec d (xs.set i x')) :: erl σ.r κ⟩) (fun t' => .inr ?_) (fun κ' => ?_)) (kk _ h)
  · show _ = (look (σ.er.t.map fun p => (p.1, p.2.map (dimA κ) none)) t').getD .any
    rw [St.tv_map σ.er _ rfl, TS.tv_er, dim_st]
  · show OSim (if κ' = κ then some _ else σ.er.rt κ') _
    rw [lkR_cons, lkR_erl]
    by_cases e1 : κ' = κ
    · rw [if_pos e1, if_pos e1]
      have hw := wrL_same i ([At.lit v].map At.cl) (TRoot.ty .own full e kw X enc dec d xs).er r
      have hsl : (xs.set i x').length = xs.length := List.length_set
      refine ⟨hw.1.symm, (fun hf => ⟨hw.2.1.trans hf, hw.2.2.1⟩), hw.2.2.2.1.symm, by rw [hw.2.2.2.2]; exact hsl, fun i' r' hi' hr' => ?_⟩
      rw [ty_get]
      by_cases e2 : i' = i
      · subst e2
        have hg' : (xs.set i' x').getD i' d = x' := by rw [List.getD_eq_getElem?_getD, List.getElem?_set_self hi]; rfl
        rw [hg']
        by_cases e3 : r' = r
        · subst e3
          rw [get_wrL_eq _ _ _ ⟨Nat.le_refl _, by simp⟩, Nat.sub_self, he]
          exact CSame.rfl _
        · rw [get_wrL_out _ _ _ (by simp; omega), ty_get, he' r' (by rw [hw.2.2.2.1] at hr'; exact hr') e3]
          exact CSame.rfl _
      · rw [get_wrL_ne e2, ty_get]
        have hg' : (xs.set i x').getD i' d = xs.getD i' d := by rw [List.getD_eq_getElem?_getD, List.getElem?_set_ne (fun e => e2 e.symm), ← List.getD_eq_getElem?_getD]
        rw [hg']
        exact CSame.rfl _
    · rw [if_neg e1, if_neg e1, if_neg e1, TS.rt_er]; exact OSim.rfl _
end
end Go.Tr
end

section
namespace Go.Proofs.Ytlnlogflhagocaa
open Go Go.Tr
set_option maxRecDepth 100000
set_option maxHeartbeats 8000000
set_option linter.unusedVariables false
set_option linter.unusedSimpArgs false
/-- The number that an event begins with. -/
def offT (m : Int) (xs : List TEvT) : Nat → Int
  | 0 => m
  | i + 1 => offT m xs i + 1 + 1 + 1 + 1 + 3 * (xs.getD i zTEv).2.2.2.2.1.length + 2 * (xs.getD i zTEv).2.2.2.2.2.length
theorem offT_bd {m : Int} {xs : List TEvT} (h0 : 0 ≤ m) (hx : ∀ i, (xs.getD i zTEv).2.2.2.2.1.length ≤ 1048576 ∧ (xs.getD i zTEv).2.2.2.2.2.length ≤ 1048576) : ∀ i : Nat, 0 ≤ offT m xs i ∧ offT m xs i ≤ m + i * 5242884
  | 0 => ⟨h0, by show m ≤ m + ((0 : Nat) : Int) * 5242884; omega⟩
  | i + 1 => by
    have ih := offT_bd (m := m) h0 hx i
    have := hx i
    unfold offT
    omega
abbrev gTE (m : Int) (xs : List TEvT) (j : Nat) : TEvT :=
  (offT m xs j, offT m xs j + 1, offT m xs j + 1 + 1, offT m xs j + 1 + 1 + 1,
    mkL zCmd (fC (offT m xs j + 1 + 1 + 1 + 1)) (xs.getD j zTEv).2.2.2.2.1 (xs.getD j zTEv).2.2.2.2.1.length,
    mkL zRes (fRs (offT m xs j + 1 + 1 + 1 + 1 + 3 * (xs.getD j zTEv).2.2.2.2.1.length)) (xs.getD j zTEv).2.2.2.2.2 (xs.getD j zTEv).2.2.2.2.2.length)
theorem markTE_run (e eC eR : Nat) (xs : List TEvT) (m : Int) (h0 : 0 ≤ m) (h1 : m ≤ 1) (hn : xs.length ≤ 1048576) (hx : ∀ i, (xs.getD i zTEv).2.2.2.2.1.length ≤ 1048576 ∧ (xs.getD i zTEv).2.2.2.2.2.length ≤ 1048576) : RunT Try.prog 47 [.one (.h 0 xs.length), ti m] [.sl e 6 TEvT (encTEv eC eR) decTEv zTEv xs] [oi (offT m xs xs.length)] [.sl e 6 TEvT (encTEv eC eR) decTEv zTEv (mkL zTEv (gTE m xs) xs xs.length)] := by
  refine RunT.of_vc gOk Try.func47 rfl rfl (Nat.le_of_ble_eq_true rfl) (by repeat' (first | exact trivial | exact ⟨_, rfl, Nat.le_refl _⟩ | exact Nat.le_of_ble_eq_true rfl | refine And.intro ?_ ?_)) (Nat.le_of_ble_eq_true rfl) rfl (fun F hE => ?_)
  repeat' (first | exact trivial | refine BS.d (fun h => ?_) (fun h => ?_) | refine BS.e (fun h => ?_) (fun h => ?_) | refine BS.ne (fun h => ?_) (fun h => ?_) | refine BS.n ?_ | refine BS.s (fun h => ?_) (fun h => ?_) | refine And.intro ?_ ?_ | (refine Need.mk ?_; first | with_reducible rfl | (show @Eq TC _ _; rfl) | omega | (simp only [adN_zero]; omega)) | exact OutS.whole rfl rfl | refine ListO.go gOk hE ?_)
  refine CodeK.loop gOk hE (fun i : Nat => ⟨[(0, vr 1000000 xs.length), (1, vi (offT m xs i)), (5, vi i)], [(1000000, rTEv .own false 0 eC eR (mkL zTEv (gTE m xs) xs i))]⟩) (fun i => i ≤ xs.length) (fun i => xs.length - i) 0 (by refine leT.of ?_ ?_ rfl <;> repeat' (first | exact trivial | refine And.intro rfl ?_ | refine And.intro (by first | rfl | (simp [mkL_zero] <;> rfl)) ?_)) (Nat.zero_le _) ?_
  rintro i hi
  have hl := mkL_len zTEv (gTE m xs) xs i
  have hb := offT_bd (xs := xs) h0 hx i
  by_cases hi2 : i < xs.length
  · have hgi := mkL_ge zTEv (gTE m xs) xs i i (Nat.le_refl _)
    have hxi := hx i
    have hmul : (i : Int) * 5242884 ≤ 1048576 * 5242884 := by omega
    have hG : gTE m xs i = (offT m xs i, offT m xs i + 1, offT m xs i + 1 + 1, offT m xs i + 1 + 1 + 1, mkL zCmd (fC (offT m xs i + 1 + 1 + 1 + 1)) (xs.getD i zTEv).2.2.2.2.1 (xs.getD i zTEv).2.2.2.2.1.length, mkL zRes (fRs (offT m xs i + 1 + 1 + 1 + 1 + 3 * (xs.getD i zTEv).2.2.2.2.1.length)) (xs.getD i zTEv).2.2.2.2.2 (xs.getD i zTEv).2.2.2.2.2.length) := rfl
    have hS := mkL_set zTEv (gTE m xs) xs i hi2
    have hO : offT m xs (i + 1) = offT m xs i + 1 + 1 + 1 + 1 + 3 * (xs.getD i zTEv).2.2.2.2.1.length + 2 * (xs.getD i zTEv).2.2.2.2.2.length := rfl
    rw [hG] at hS
    generalize mkL zTEv (gTE m xs) xs i = Y at *
    generalize offT m xs i = w at *
    generalize xs.getD i zTEv = x at *
    obtain ⟨a0, a1, a2, a3, C, R⟩ := x
    dsimp only at hxi hO hS
    have hY : i < Y.length := by omega
    have s1 : ∀ v, (Y.set i v).getD i zTEv = v := fun v => set_getD _ _ _ _ hY
    have c1 := markC_run eC C (w + 1 + 1 + 1 + 1) (by omega) (by omega) (by omega)
    have c2 := markR_run eR R (w + 1 + 1 + 1 + 1 + 3 * C.length) (by omega) (by omega) (by omega)
    have k1 : ∀ r', r' < 6 → r' ≠ 0 → encTEv eC eR (w, a1, a2, a3, C, R) r' = encTEv eC eR (Y.getD i zTEv) r' := fun r' h8 h9 => by
      rw [hgi]
      match r', h8, h9 with
      | 1, _, _ => rfl
      | 2, _, _ => rfl
      | 3, _, _ => rfl
      | 4, _, _ => rfl
      | 5, _, _ => rfl
    repeat' (first | exact trivial | refine BS.d (fun h => ?_) (fun h => ?_) | refine BS.e (fun h => ?_) (fun h => ?_) | refine BS.ne (fun h => ?_) (fun h => ?_) | refine BS.n ?_ | refine BS.s (fun h => ?_) (fun h => ?_) | refine And.intro ?_ ?_ | (refine Need.mk ?_; first | with_reducible rfl | (show @Eq TC _ _; rfl) | omega | (simp only [adN_zero]; omega)) | exact OutS.whole rfl rfl | refine ListO.go gOk hE ?_)
    all_goals (try simp only [adN_zero] at *)
    all_goals first | (exfalso; omega) | (refine Need.mk ?_; omega) | skip
    have hYs : ∀ v, i < (Y.set i v).length := fun v => by rw [List.length_set]; exact hY
    have k2 : ∀ r', r' < 6 → r' ≠ 1 → encTEv eC eR (w, w + 1, a2, a3, C, R) r' = encTEv eC eR ((Y.set i (w, a1, a2, a3, C, R)).getD i zTEv) r' := fun r' h8 h9 => by
      rw [s1]
      match r', h8, h9 with
      | 0, _, _ => rfl
      | 2, _, _ => rfl
      | 3, _, _ => rfl
      | 4, _, _ => rfl
      | 5, _, _ => rfl
    have k3 : ∀ r', r' < 6 → r' ≠ 2 → encTEv eC eR (w, w + 1, w + 1 + 1, a3, C, R) r' = encTEv eC eR ((Y.set i (w, w + 1, a2, a3, C, R)).getD i zTEv) r' := fun r' h8 h9 => by
      rw [s1]
      match r', h8, h9 with
      | 0, _, _ => rfl
      | 1, _, _ => rfl
      | 3, _, _ => rfl
      | 4, _, _ => rfl
      | 5, _, _ => rfl
    have k4 : ∀ r', r' < 6 → r' ≠ 3 → encTEv eC eR (w, w + 1, w + 1 + 1, w + 1 + 1 + 1, C, R) r' = encTEv eC eR ((Y.set i (w, w + 1, w + 1 + 1, a3, C, R)).getD i zTEv) r' := fun r' h8 h9 => by
      rw [s1]
      match r', h8, h9 with
      | 0, _, _ => rfl
      | 1, _, _ => rfl
      | 2, _, _ => rfl
      | 4, _, _ => rfl
      | 5, _, _ => rfl
    have k5 : ∀ r', r' < 6 → r' ≠ 4 → encTEv eC eR (w, w + 1, w + 1 + 1, w + 1 + 1 + 1, mkL zCmd (fC (w + 1 + 1 + 1 + 1)) C C.length, R) r' = encTEv eC eR ((Y.set i (w, w + 1, w + 1 + 1, w + 1 + 1 + 1, C, R)).getD i zTEv) r' := fun r' h8 h9 => by
      rw [s1]
      match r', h8, h9 with
      | 0, _, _ => rfl
      | 1, _, _ => rfl
      | 2, _, _ => rfl
      | 3, _, _ => rfl
      | 5, _, _ => rfl
    have k6 : ∀ r', r' < 6 → r' ≠ 5 → encTEv eC eR (w, w + 1, w + 1 + 1, w + 1 + 1 + 1, mkL zCmd (fC (w + 1 + 1 + 1 + 1)) C C.length, mkL zRes (fRs (w + 1 + 1 + 1 + 1 + 3 * C.length)) R R.length) r' = encTEv eC eR ((Y.set i (w, w + 1, w + 1 + 1, w + 1 + 1 + 1, mkL zCmd (fC (w + 1 + 1 + 1 + 1)) C C.length, R)).getD i zTEv) r' := fun r' h8 h9 => by
      rw [s1]
      match r', h8, h9 with
      | 0, _, _ => rfl
      | 1, _, _ => rfl
      | 2, _, _ => rfl
      | 3, _, _ => rfl
      | 4, _, _ => rfl
      | 5, _, h9 => exact absurd rfl h9
    refine OpK.stE gOk (w, a1, a2, a3, C, R) rfl rfl rfl rfl rfl rfl rfl hY (by decide) rfl k1 ?_
    repeat' (first | exact trivial | refine BS.d (fun h => ?_) (fun h => ?_) | refine BS.e (fun h => ?_) (fun h => ?_) | refine BS.ne (fun h => ?_) (fun h => ?_) | refine BS.n ?_ | refine BS.s (fun h => ?_) (fun h => ?_) | refine And.intro ?_ ?_ | (refine Need.mk ?_; first | with_reducible rfl | (show @Eq TC _ _; rfl) | omega | (simp only [adN_zero]; omega)) | exact OutS.whole rfl rfl | refine ListO.go gOk hE ?_)
    all_goals (try simp only [adN_zero, List.set_set] at *)
    all_goals first | (exfalso; omega) | (refine Need.mk ?_; first | omega | (rw [List.length_set]; omega)) | skip
    refine OpK.stE gOk (w, w + 1, a2, a3, C, R) rfl rfl rfl rfl rfl rfl rfl (hYs _) (by decide) rfl k2 ?_
    repeat' (first | exact trivial | refine BS.d (fun h => ?_) (fun h => ?_) | refine BS.e (fun h => ?_) (fun h => ?_) | refine BS.ne (fun h => ?_) (fun h => ?_) | refine BS.n ?_ | refine BS.s (fun h => ?_) (fun h => ?_) | refine And.intro ?_ ?_ | (refine Need.mk ?_; first | with_reducible rfl | (show @Eq TC _ _; rfl) | omega | (simp only [adN_zero]; omega)) | exact OutS.whole rfl rfl | refine ListO.go gOk hE ?_)
    all_goals (try simp only [adN_zero, List.set_set] at *)
    all_goals first | (exfalso; omega) | (refine Need.mk ?_; first | omega | (rw [List.length_set]; omega)) | skip
    refine OpK.stE gOk (w, w + 1, w + 1 + 1, a3, C, R) rfl rfl rfl rfl rfl rfl rfl (hYs _) (by decide) rfl k3 ?_
    repeat' (first | exact trivial | refine BS.d (fun h => ?_) (fun h => ?_) | refine BS.e (fun h => ?_) (fun h => ?_) | refine BS.ne (fun h => ?_) (fun h => ?_) | refine BS.n ?_ | refine BS.s (fun h => ?_) (fun h => ?_) | refine And.intro ?_ ?_ | (refine Need.mk ?_; first | with_reducible rfl | (show @Eq TC _ _; rfl) | omega | (simp only [adN_zero]; omega)) | exact OutS.whole rfl rfl | refine ListO.go gOk hE ?_)
    all_goals (try simp only [adN_zero, List.set_set] at *)
    all_goals first | (exfalso; omega) | (refine Need.mk ?_; first | omega | (rw [List.length_set]; omega)) | skip
    have hYt : ∀ v u, i < ((Y.set i v).set i u).length := fun v u => by rw [List.length_set, List.length_set]; exact hY
    have hYu : ∀ v u t, i < (((Y.set i v).set i u).set i t).length := fun v u t => by rw [List.length_set, List.length_set, List.length_set]; exact hY
    have e4 : encTEv eC eR (((Y.set i (w, w + 1, w + 1 + 1, a3, C, R)).set i (w, w + 1, w + 1 + 1, w + 1 + 1 + 1, C, R)).getD i zTEv) (0 + 4) = .sl eC 3 CmdT encCmd decCmd zCmd C := by rw [List.set_set, s1]; rfl
    have e5 : encTEv eC eR ((((Y.set i (w, w + 1, w + 1 + 1, a3, C, R)).set i (w, w + 1, w + 1 + 1, w + 1 + 1 + 1, C, R)).set i (w, w + 1, w + 1 + 1, w + 1 + 1 + 1, mkL zCmd (fC (w + 1 + 1 + 1 + 1)) C C.length, R)).getD i zTEv) (0 + 5) = .sl eR 2 ResT encRes decRes zRes R := by rw [List.set_set, List.set_set, s1]; rfl
    have j5 : ∀ r', r' < 6 → r' ≠ 0 + 4 → encTEv eC eR (w, w + 1, w + 1 + 1, w + 1 + 1 + 1, mkL zCmd (fC (w + 1 + 1 + 1 + 1)) C C.length, R) r' = encTEv eC eR (((Y.set i (w, w + 1, w + 1 + 1, a3, C, R)).set i (w, w + 1, w + 1 + 1, w + 1 + 1 + 1, C, R)).getD i zTEv) r' := fun r' h8 h9 => by rw [List.set_set]; exact k5 r' h8 h9
    have j6 : ∀ r', r' < 6 → r' ≠ 0 + 5 → encTEv eC eR (w, w + 1, w + 1 + 1, w + 1 + 1 + 1, mkL zCmd (fC (w + 1 + 1 + 1 + 1)) C C.length, mkL zRes (fRs (w + 1 + 1 + 1 + 1 + 3 * C.length)) R R.length) r' = encTEv eC eR ((((Y.set i (w, w + 1, w + 1 + 1, a3, C, R)).set i (w, w + 1, w + 1 + 1, w + 1 + 1 + 1, C, R)).set i (w, w + 1, w + 1 + 1, w + 1 + 1 + 1, mkL zCmd (fC (w + 1 + 1 + 1 + 1)) C C.length, R)).getD i zTEv) r' := fun r' h8 h9 => by rw [List.set_set, List.set_set]; exact k6 r' h8 h9
    refine OpK.stE gOk (w, w + 1, w + 1 + 1, w + 1 + 1 + 1, C, R) rfl rfl rfl rfl rfl rfl rfl (hYs _) (by decide) rfl k4 ?_
    repeat' (first | exact trivial | refine BS.d (fun h => ?_) (fun h => ?_) | refine BS.e (fun h => ?_) (fun h => ?_) | refine BS.ne (fun h => ?_) (fun h => ?_) | refine BS.n ?_ | refine BS.s (fun h => ?_) (fun h => ?_) | refine And.intro ?_ ?_ | (refine Need.mk ?_; first | with_reducible rfl | (show @Eq TC _ _; rfl) | omega | (simp only [adN_zero]; omega)) | exact OutS.whole rfl rfl | (refine ListO.open_ gOk hE 5000 rfl rfl rfl rfl rfl rfl rfl rfl (hYt _ _) (show 0 + 4 < 6 by decide) e4 rfl rfl rfl ?_) | (refine OpK.callB (bCmd eC 5000 C (mkL zCmd (fC (w + 1 + 1 + 1 + 1)) C C.length)) c1 rfl rfl rfl rfl hE (BtOk.sl rfl (mkL_len _ _ _ _)) rfl (QsVs.cons (.one (.h rfl rfl rfl)) (.cons (.one (.c (.lit _) rfl)) .nil)) rfl rfl ?_) | (refine ListO.close gOk hE (κ := 1000000) (key := 5000) (w, w + 1, w + 1 + 1, w + 1 + 1 + 1, mkL zCmd (fC (w + 1 + 1 + 1 + 1)) C C.length, R) rfl rfl (mkL_len _ _ _ _).symm rfl rfl (hYt _ _) (show 0 + 4 < 6 by decide) rfl j5 ?_) | (refine ListO.open_ gOk hE 5001 rfl rfl rfl rfl rfl rfl rfl rfl (hYu _ _ _) (show 0 + 5 < 6 by decide) e5 rfl rfl rfl ?_) | (refine OpK.callB (bRes eR 5001 R (mkL zRes (fRs (w + 1 + 1 + 1 + 1 + 3 * C.length)) R R.length)) c2 rfl rfl rfl rfl hE (BtOk.sl rfl (mkL_len _ _ _ _)) rfl (QsVs.cons (.one (.h rfl rfl rfl)) (.cons (.one (.c (.lit _) rfl)) .nil)) rfl rfl ?_) | refine ListO.go gOk hE ?_)
    all_goals (try simp only [adN_zero] at *)
    all_goals first | (exfalso; omega) | (refine Need.mk ?_; first | omega | (simp only [List.length_set]; omega)) | skip
    refine ⟨i + 1, ?_, by omega, by first | omega | (dsimp only; omega)⟩
    refine St.le.trans (close_le (κ := 1000000) (key := 5001) (w, w + 1, w + 1 + 1, w + 1 + 1 + 1, mkL zCmd (fC (w + 1 + 1 + 1 + 1)) C C.length, mkL zRes (fRs (w + 1 + 1 + 1 + 1 + 3 * C.length)) R R.length) (by rfl) (by rfl) (by exact (mkL_len _ _ _ _).symm) (by rfl) (by rfl) (hYu _ _ _) (show 0 + 5 < 6 by decide) (by rfl) j6) ?_
    exact (by refine leT.of ?_ ?_ rfl <;> repeat' (first | exact trivial | refine And.intro rfl ?_ | refine And.intro (by first | rfl | (rw [hO]; rfl) | (refine congrArg (fun l => some (rTEv .own false 0 eC eR l)) ?_; rw [List.set_set, List.set_set, List.set_set]; exact hS)) ?_))
  · repeat' (first | exact trivial | refine BS.d (fun h => ?_) (fun h => ?_) | refine BS.e (fun h => ?_) (fun h => ?_) | refine BS.ne (fun h => ?_) (fun h => ?_) | refine BS.n ?_ | refine BS.s (fun h => ?_) (fun h => ?_) | refine And.intro ?_ ?_ | (refine Need.mk ?_; first | with_reducible rfl | (show @Eq TC _ _; rfl) | omega | (simp only [adN_zero]; omega)) | exact OutS.whole rfl rfl | refine ListO.go gOk hE ?_)
    all_goals (try simp only [adN_zero] at *)
    all_goals first
      | (exfalso; omega)
      | (refine Need.mk ?_; first | omega | rw [show i = xs.length by omega])
      | (refine Need.mk ?_; (try rw [show i = xs.length by omega]); rfl)
end Go.Proofs.Ytlnlogflhagocaa
end

section
namespace Go.Proofs.Ytlnlogflhagocaa
open Go Go.Tr
set_option maxRecDepth 100000
set_option maxHeartbeats 4000000
set_option linter.unusedVariables false
set_option linter.unusedSimpArgs false
theorem eqIo_run (xs : List Int) (hn : xs.length ≤ 4000000) : RunT Try.prog 33 [.one (.c (tI xs)), .one (.c (tI xs))] [] [ob true] [] := by
  refine RunT.of_vc gOk Try.func33 rfl rfl (Nat.le_of_ble_eq_true rfl) (by repeat' (first | exact trivial | exact ⟨_, rfl, Nat.le_refl _⟩ | exact Nat.le_of_ble_eq_true rfl | refine And.intro ?_ ?_)) (Nat.le_of_ble_eq_true rfl) rfl (fun F hE => ?_)
  repeat' (first | exact trivial | refine BS.d (fun h => ?_) (fun h => ?_) | refine BS.e (fun h => ?_) (fun h => ?_) | refine BS.ne (fun h => ?_) (fun h => ?_) | refine BS.n ?_ | refine BS.s (fun h => ?_) (fun h => ?_) | refine And.intro ?_ ?_ | (refine Need.mk ?_; first | with_reducible rfl | (show @Eq TC _ _; rfl) | omega | (simp only [adN_zero]; omega)) | exact OutS.whole rfl rfl | refine ListO.go gOk hE ?_)
  · refine CodeK.loop gOk hE (fun i : Nat => ⟨[(0, vr 1000000 xs.length), (1, vr 1000001 xs.length), (5, vi i)], [(1000000, rI .fro false xs), (1000001, rI .fro false xs)]⟩) (fun i => i ≤ xs.length) (fun i => xs.length - i) 0 (by refine leT.of ?_ ?_ rfl <;> repeat' (first | exact trivial | refine And.intro rfl ?_ | refine And.intro (by simp) ?_)) (Nat.zero_le _) ?_
    rintro i hi
    repeat' (first | exact trivial | refine BS.d (fun h => ?_) (fun h => ?_) | refine BS.e (fun h => ?_) (fun h => ?_) | refine BS.ne (fun h => ?_) (fun h => ?_) | refine BS.n ?_ | refine BS.s (fun h => ?_) (fun h => ?_) | refine And.intro ?_ ?_ | (refine Need.mk ?_; first | with_reducible rfl | (show @Eq TC _ _; rfl) | omega | (simp only [adN_zero]; omega)) | exact OutS.whole rfl rfl | refine ListO.go gOk hE ?_)
    · refine CodeK.draw gOk hE rfl (fun _ _ h => h) (.take 0 (.take 1 (.take 2 (.take 4 (.take 5 (.take 6 (.alt 3 (.alt 7 (.take 8 .done) .stop) (.alt 7 (.alt 3 (.take 8 .done) .stop) .stop)))))))) (by decide +kernel) ?_
      repeat' (first | exact trivial | refine BS.d (fun h => ?_) (fun h => ?_) | refine BS.e (fun h => ?_) (fun h => ?_) | refine BS.ne (fun h => ?_) (fun h => ?_) | refine BS.n ?_ | refine BS.s (fun h => ?_) (fun h => ?_) | refine And.intro ?_ ?_ | (refine Need.mk ?_; first | with_reducible rfl | (show @Eq TC _ _; rfl) | omega | (simp only [adN_zero]; omega)) | exact OutS.whole rfl rfl | refine ListO.go gOk hE ?_)
      all_goals (refine ⟨i + 1, (by refine leT.of ?_ ?_ rfl <;> repeat' (first | exact trivial | refine And.intro rfl ?_ | refine And.intro (by simp) ?_)), ?_⟩; (refine And.intro ?_ ?_) <;> (first | omega | (dsimp only; omega) | trivial))
abbrev fI (m : Int) (j : Nat) : Int := m + j
abbrev bInt (e κ : Nat) (xs xs' : List Int) : Bt := ⟨κ, 0, true, .sl e 1 Int encI decI 0 xs, .sl e 1 Int encI decI 0 xs', .ty .own true e 1 Int encI decI 0 xs'⟩
abbrev bTEv (e eC eR κ : Nat) (xs xs' : List TEvT) : Bt := ⟨κ, 0, true, .sl e 6 TEvT (encTEv eC eR) decTEv zTEv xs, .sl e 6 TEvT (encTEv eC eR) decTEv zTEv xs', .ty .own true e 6 TEvT (encTEv eC eR) decTEv zTEv xs'⟩
theorem markI_run (e : Nat) (xs : List Int) (m : Int) (h0 : 0 ≤ m) (h1 : m ≤ 4194304) (hn : xs.length ≤ 4000000) : RunT Try.prog 34 [.one (.h 0 xs.length), ti m] [.sl e 1 Int encI decI 0 xs] [oi (m + xs.length)] [.sl e 1 Int encI decI 0 (mkL 0 (fI m) xs xs.length)] := by
  refine RunT.of_vc gOk Try.func34 rfl rfl (Nat.le_of_ble_eq_true rfl) (by repeat' (first | exact trivial | exact ⟨_, rfl, Nat.le_refl _⟩ | exact Nat.le_of_ble_eq_true rfl | refine And.intro ?_ ?_)) (Nat.le_of_ble_eq_true rfl) rfl (fun F hE => ?_)
  repeat' (first | exact trivial | refine BS.d (fun h => ?_) (fun h => ?_) | refine BS.e (fun h => ?_) (fun h => ?_) | refine BS.ne (fun h => ?_) (fun h => ?_) | refine BS.n ?_ | refine BS.s (fun h => ?_) (fun h => ?_) | refine And.intro ?_ ?_ | (refine Need.mk ?_; first | with_reducible rfl | (show @Eq TC _ _; rfl) | omega | (simp only [adN_zero]; omega)) | exact OutS.whole rfl rfl | refine ListO.go gOk hE ?_)
  refine CodeK.loop gOk hE (fun i : Nat => ⟨[(0, vr 1000000 xs.length), (1, vi (m + i)), (5, vi i)], [(1000000, .ty .own false 0 1 Int encI decI 0 (mkL 0 (fI m) xs i))]⟩) (fun i => i ≤ xs.length) (fun i => xs.length - i) 0 (by refine leT.of ?_ ?_ rfl <;> repeat' (first | exact trivial | refine And.intro rfl ?_ | refine And.intro (by simp [mkL_zero] <;> rfl) ?_)) (Nat.zero_le _) ?_
  rintro i hi
  have hl := mkL_len 0 (fI m) xs i
  repeat' (first | exact trivial | refine BS.d (fun h => ?_) (fun h => ?_) | refine BS.e (fun h => ?_) (fun h => ?_) | refine BS.ne (fun h => ?_) (fun h => ?_) | refine BS.n ?_ | refine BS.s (fun h => ?_) (fun h => ?_) | refine And.intro ?_ ?_ | (refine Need.mk ?_; first | with_reducible rfl | (show @Eq TC _ _; rfl) | omega | (simp only [adN_zero]; omega)) | exact OutS.whole rfl rfl | refine ListO.go gOk hE ?_)
  all_goals (try simp only [adN_zero] at *)
  all_goals first
    | (refine Need.mk ?_; first | omega | (rw [List.length_set]; omega) | rw [show i = xs.length by omega])
    | (refine ⟨i + 1, (by refine leT.of ?_ ?_ rfl <;> repeat' (first | exact trivial | refine And.intro rfl ?_ | refine And.intro (by first | rfl | (refine litInt ?_; omega) | (refine congrArg (fun l => some (TRoot.ty .own false 0 1 Int encI decI 0 l)) ?_; exact mkL_set 0 (fI m) _ _ (by omega))) ?_)), by omega, by first | omega | (dsimp only; omega)⟩)
theorem heldI_run (xs : List Int) (m : Int) (h0 : 0 ≤ m) (h1 : m ≤ 4194304) (hn : xs.length ≤ 4000000) : RunT Try.prog 35 [.one (.c (tI (mkL 0 (fI m) xs xs.length))), ti m] [] [oi (m + xs.length)] [] := by
  have hl := mkL_len 0 (fI m) xs xs.length
  refine RunT.of_vc gOk Try.func35 rfl rfl (Nat.le_of_ble_eq_true rfl) (by repeat' (first | exact trivial | exact ⟨_, rfl, Nat.le_refl _⟩ | exact Nat.le_of_ble_eq_true rfl | refine And.intro ?_ ?_)) (Nat.le_of_ble_eq_true rfl) rfl (fun F hE => ?_)
  repeat' (first | exact trivial | refine BS.d (fun h => ?_) (fun h => ?_) | refine BS.e (fun h => ?_) (fun h => ?_) | refine BS.ne (fun h => ?_) (fun h => ?_) | refine BS.n ?_ | refine BS.s (fun h => ?_) (fun h => ?_) | refine And.intro ?_ ?_ | (refine Need.mk ?_; first | with_reducible rfl | (show @Eq TC _ _; rfl) | omega | (simp only [adN_zero]; omega)) | exact OutS.whole rfl rfl | refine ListO.go gOk hE ?_)
  refine CodeK.loop gOk hE (fun i : Nat => ⟨[(0, vr 1000000 (mkL 0 (fI m) xs xs.length).length), (1, vi (m + i)), (5, vi i)], [(1000000, rI .fro false (mkL 0 (fI m) xs xs.length))]⟩) (fun i => i ≤ xs.length) (fun i => xs.length - i) 0 (by refine leT.of ?_ ?_ rfl <;> repeat' (first | exact trivial | refine And.intro rfl ?_ | refine And.intro (by simp <;> rfl) ?_)) (Nat.zero_le _) ?_
  rintro i hi
  have hg : i < xs.length → (mkL 0 (fI m) xs xs.length).getD i 0 = fI m i := fun h => mkL_get _ _ _ _ _ h h
  repeat' (first | exact trivial | refine BS.d (fun h => ?_) (fun h => ?_) | refine BS.e (fun h => ?_) (fun h => ?_) | refine BS.ne (fun h => ?_) (fun h => ?_) | refine BS.n ?_ | refine BS.s (fun h => ?_) (fun h => ?_) | refine And.intro ?_ ?_ | (refine Need.mk ?_; first | with_reducible rfl | (show @Eq TC _ _; rfl) | omega | (simp only [adN_zero]; omega)) | exact OutS.whole rfl rfl | refine ListO.go gOk hE ?_)
  all_goals (try simp only [adN_zero] at *)
  all_goals first
    | (exfalso; have h9 := hg (by omega); rw [h9] at *; first | omega | (simp_all; done))
    | (refine Need.mk ?_; first | omega | rw [show i = xs.length by omega])
    | (refine ⟨i + 1, (by refine leT.of ?_ ?_ rfl <;> repeat' (first | exact trivial | refine And.intro rfl ?_ | refine And.intro (by first | rfl | (refine litInt ?_; omega)) ?_)), by omega, by first | omega | (dsimp only; omega)⟩)
end Go.Proofs.Ytlnlogflhagocaa
end

section

end

section
/- Marks of a row of flat elements. -/
namespace Go.Proofs.Ytlnlogflhagocaa
open Go Go.Tr
set_option maxRecDepth 100000
set_option maxHeartbeats 4000000
set_option linter.unusedVariables false
set_option linter.unusedSimpArgs false
abbrev fKV (m : Int) (j : Nat) : KVT := (m + 2 * j, m + 2 * j + 1)
abbrev bKV (κ : Nat) (xs xs' : List KVT) : Bt := ⟨κ, 0, true, .sl 179 2 KVT encKV decKV zKV xs, .sl 179 2 KVT encKV decKV zKV xs', .ty .own true 179 2 KVT encKV decKV zKV xs'⟩
theorem markKVG_run (xs : List KVT) (m : Int) (h0 : 0 ≤ m) (h1 : m ≤ 33554432) (hn : xs.length ≤ 4000000) : RunT Try.prog 48 [.one (.h 0 xs.length), ti m] [.sl 179 2 KVT encKV decKV zKV xs] [oi (m + 2 * xs.length)] [.sl 179 2 KVT encKV decKV zKV (mkL zKV (fKV m) xs xs.length)] := by
  refine RunT.of_vc gOk Try.func48 rfl rfl (Nat.le_of_ble_eq_true rfl) (by repeat' (first | exact trivial | exact ⟨_, rfl, Nat.le_refl _⟩ | exact Nat.le_of_ble_eq_true rfl | refine And.intro ?_ ?_)) (Nat.le_of_ble_eq_true rfl) rfl (fun F hE => ?_)
  repeat' (first | exact trivial | refine BS.d (fun h => ?_) (fun h => ?_) | refine BS.e (fun h => ?_) (fun h => ?_) | refine BS.ne (fun h => ?_) (fun h => ?_) | refine BS.n ?_ | refine BS.s (fun h => ?_) (fun h => ?_) | refine And.intro ?_ ?_ | (refine Need.mk ?_; first | with_reducible rfl | (show @Eq TC _ _; rfl) | omega | (simp only [adN_zero]; omega)) | exact OutS.whole rfl rfl | refine ListO.go gOk hE ?_)
  refine CodeK.loop gOk hE (fun i : Nat => ⟨[(0, vr 1000000 xs.length), (1, vi (m + 2 * i)), (5, vi i)], [(1000000, rKV .own false 0 (mkL zKV (fKV m) xs i))]⟩) (fun i => i ≤ xs.length) (fun i => xs.length - i) 0 (by refine leT.of ?_ ?_ rfl <;> repeat' (first | exact trivial | refine And.intro rfl ?_ | refine And.intro (by simp [mkL_zero] <;> rfl) ?_)) (Nat.zero_le _) ?_
  rintro i hi
  have hl := mkL_len zKV (fKV m) xs i
  have hgs : ∀ (ys : List KVT) (a : KVT), ys.length = xs.length → i < xs.length → (ys.set i a).getD i zKV = a := fun ys a h1 h2 => by simp [List.getD, h1, h2]
  repeat' (first | exact trivial | refine BS.d (fun h => ?_) (fun h => ?_) | refine BS.e (fun h => ?_) (fun h => ?_) | refine BS.ne (fun h => ?_) (fun h => ?_) | refine BS.n ?_ | refine BS.s (fun h => ?_) (fun h => ?_) | refine And.intro ?_ ?_ | (refine Need.mk ?_; first | with_reducible rfl | (show @Eq TC _ _; rfl) | omega | (simp only [adN_zero]; omega)) | exact OutS.whole rfl rfl | refine ListO.go gOk hE ?_)
  all_goals (try simp only [adN_zero] at *)
  all_goals first
    | (refine Need.mk ?_; first | omega | (simp only [List.length_set]; omega) | rw [show i = xs.length by omega])
    | (refine ⟨i + 1, (by refine leT.of ?_ ?_ rfl <;> repeat' (first | exact trivial | refine And.intro rfl ?_ | refine And.intro (by first | rfl | (refine litInt ?_; omega) | (refine congrArg (fun l => some (rKV .own false 0 l)) ?_; simp only [List.set_set, hgs _ _ hl (by omega)]; refine Eq.trans (congrArg (List.set _ i) ?_) (mkL_set _ _ _ _ (by omega)); first | rfl | (refine Prod.ext ?_ ?_ <;> first | rfl | (dsimp only; omega) | (refine Prod.ext ?_ ?_ <;> first | rfl | (dsimp only; omega))))) ?_)), by omega, by first | omega | (dsimp only; omega)⟩)
    | trace_state
theorem heldKVG_run (e : Nat) (xs : List KVT) (m : Int) (h0 : 0 ≤ m) (h1 : m ≤ 33554432) (hn : xs.length ≤ 4000000) : RunT Try.prog 49 [.one (.c (tKV e (mkL zKV (fKV m) xs xs.length))), ti m] [] [oi (m + 2 * xs.length)] [] := by
  have hl := mkL_len zKV (fKV m) xs xs.length
  refine RunT.of_vc gOk Try.func49 rfl rfl (Nat.le_of_ble_eq_true rfl) (by repeat' (first | exact trivial | exact ⟨_, rfl, Nat.le_refl _⟩ | exact Nat.le_of_ble_eq_true rfl | refine And.intro ?_ ?_)) (Nat.le_of_ble_eq_true rfl) rfl (fun F hE => ?_)
  repeat' (first | exact trivial | refine BS.d (fun h => ?_) (fun h => ?_) | refine BS.e (fun h => ?_) (fun h => ?_) | refine BS.ne (fun h => ?_) (fun h => ?_) | refine BS.n ?_ | refine BS.s (fun h => ?_) (fun h => ?_) | refine And.intro ?_ ?_ | (refine Need.mk ?_; first | with_reducible rfl | (show @Eq TC _ _; rfl) | omega | (simp only [adN_zero]; omega)) | exact OutS.whole rfl rfl | refine ListO.go gOk hE ?_)
  refine CodeK.loop gOk hE (fun i : Nat => ⟨[(0, vr 1000000 (mkL zKV (fKV m) xs xs.length).length), (1, vi (m + 2 * i)), (5, vi i)], [(1000000, rKV .fro false e (mkL zKV (fKV m) xs xs.length))]⟩) (fun i => i ≤ xs.length) (fun i => xs.length - i) 0 (by refine leT.of ?_ ?_ rfl <;> repeat' (first | exact trivial | refine And.intro rfl ?_ | refine And.intro (by simp <;> rfl) ?_)) (Nat.zero_le _) ?_
  rintro i hi
  have hg : i < xs.length → (mkL zKV (fKV m) xs xs.length).getD i zKV = fKV m i := fun h => mkL_get _ _ _ _ _ h h
  repeat' (first | exact trivial | refine BS.d (fun h => ?_) (fun h => ?_) | refine BS.e (fun h => ?_) (fun h => ?_) | refine BS.ne (fun h => ?_) (fun h => ?_) | refine BS.n ?_ | refine BS.s (fun h => ?_) (fun h => ?_) | refine And.intro ?_ ?_ | (refine Need.mk ?_; first | with_reducible rfl | (show @Eq TC _ _; rfl) | omega | (simp only [adN_zero]; omega)) | exact OutS.whole rfl rfl | refine ListO.go gOk hE ?_)
  all_goals (try simp only [adN_zero] at *)
  all_goals first
    | (exfalso; have h9 := hg (by omega); simp only [h9] at *; first | omega | (simp_all; done) | (simp_all; omega))
    | (refine Need.mk ?_; first | omega | rw [show i = xs.length by omega])
    | (refine ⟨i + 1, (by refine leT.of ?_ ?_ rfl <;> repeat' (first | exact trivial | refine And.intro rfl ?_ | refine And.intro (by first | rfl | (refine litInt ?_; omega)) ?_)), by omega, by first | omega | (dsimp only; omega)⟩)
    | trace_state
end Go.Proofs.Ytlnlogflhagocaa
end
