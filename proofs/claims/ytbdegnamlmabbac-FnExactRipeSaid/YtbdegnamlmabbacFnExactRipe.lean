/- For every row and every epoch the two Ripe give the same answer, so the law returns true. -/
import Derived.Test.YtbdegnamlmabbacRows
import Derived.WalkKit
import Derived.ProofKit
import Derived.OpenShut
import Derived.ShutString
import Derived.ChangeOld
import Derived.Below
import Derived.ChangeArms
import Derived.Test.YtbdegnamlmabbacFrame
import Derived.Test.YtbdegnamlmabbacRp
namespace Go.Proofs.Ytbdegnamlmabbac.fnExactRipe
open Go.Proofs.Ytbdegnamlmabbac Go.Tr
open Go.ChangeShapes Go.WideShapes Go.ChangeAt Go.RowKit
set_option linter.unusedVariables false
set_option linter.unusedSimpArgs false

set_option maxRecDepth 100000 in
set_option maxHeartbeats 4000000 in
theorem law_run (a0x : Int) (w0x : -9223372036854775808 ≤ a0x ∧ a0x ≤ 9223372036854775807) (a0y : Int) (w0y : -9223372036854775808 ≤ a0y ∧ a0y ≤ 9223372036854775807) (a1 : Int) (w1 : -9223372036854775808 ≤ a1 ∧ a1 ≤ 9223372036854775807) :
    Run Try.prog 6 [.agg [.c (.lit (.int .i64 a0x)), .c (.lit (.int .i64 a0y))], .one (.c (.lit (.int .i64 a1)))] [] fun outs ext => outs = [.one (.lit (.bool true))] ∧ ext = [] := by
  refine Run.of_body tyOk Try.func6 (by rfl) (Nat.le_of_ble_eq_true rfl) (by simp [argsOk, aasOk, aaOk]) [] rfl (fun F hF => ?_)
  repeat (first | (first
      | refine AL.nil ?_
      | refine AL.move (.inl (by rfl)) (by rfl) (by rfl) ?_
      | refine AL.move (.inr (by rfl)) (by rfl) (by rfl) ?_
      | refine AL.fieldAddr tyOk (by rfl) (by rfl) (by rfl) (by rfl) (by rfl) (by rfl) ?_
      | refine AL.load1 tyOk (by rfl) (by rfl) (by rfl) (by rfl) (by rfl) (by rfl) (by rfl) (by first | exact Nat.le_of_ble_eq_true rfl | (dsimp only; omega) | omega | assumption | (simp only [openR]; omega) | exact Nat.lt_of_lt_of_le (m := 3) (by omega) (Nat.le_of_ble_eq_true rfl)) (by first | exact Nat.le_of_ble_eq_true rfl | (dsimp only; omega) | omega | assumption | (simp only [openR]; omega) | exact Nat.lt_of_lt_of_le (m := 3) (by omega) (Nat.le_of_ble_eq_true rfl)) (by rfl) ?_
      | refine AL.loadAggE tyOk (by rfl) (by rfl) (by rfl) (by rfl) (by rfl) (by rfl) (by rfl) (by first | exact Nat.le_of_ble_eq_true rfl | (dsimp only; omega) | omega | assumption | (simp only [openR]; omega) | exact Nat.lt_of_lt_of_le (m := 3) (by omega) (Nat.le_of_ble_eq_true rfl)) (by first | exact Nat.le_of_ble_eq_true rfl | (dsimp only; omega) | omega | assumption | (simp only [openR]; omega) | exact Nat.lt_of_lt_of_le (m := 3) (by omega) (Nat.le_of_ble_eq_true rfl)) (by rfl) ?_
      | refine AL.stor tyOk (by rfl) (by rfl) (by rfl) (by rfl) (by rfl) (by rfl) (by rfl) (by rfl) (by rfl) (by first | exact Nat.le_of_ble_eq_true rfl | (dsimp only; omega) | omega | assumption | (simp only [openR]; omega) | exact Nat.lt_of_lt_of_le (m := 3) (by omega) (Nat.le_of_ble_eq_true rfl)) (by first | exact Nat.le_of_ble_eq_true rfl | (dsimp only; omega) | omega | assumption | (simp only [openR]; omega) | exact Nat.lt_of_lt_of_le (m := 3) (by omega) (Nat.le_of_ble_eq_true rfl)) ?_
      | refine AL.len (ty := 0) tyOk (by rfl) (by rfl) (by rfl) (by rfl) (by rfl) ?_
      | refine AL.add (by rfl) (by rfl) (by rfl) (by rfl) (by rfl) (by constructor <;> omega) ?_
      | refine AL.sub (by rfl) (by rfl) (by rfl) (by rfl) (by rfl) (by constructor <;> omega) ?_
      | refine AL.mul (by rfl) (by rfl) (by rfl) (by rfl) (by rfl) (by constructor <;> omega) ?_
      | refine AL.int2 (by rfl) (by rfl) (by rfl) (by rfl) (by rfl) (by rfl) (by first | trivial | decide | omega) ?_
      | refine AL.bEq (by rfl) (by rfl) (by rfl) (by rfl) (by rfl) Try.underlying4 ?_
      | refine AL.bNe (by rfl) (by rfl) (by rfl) (by rfl) (by rfl) Try.underlying4 ?_
      | refine AL.not (by rfl) (by rfl) (by rfl) (by rfl) ?_
      | refine AL.gOnE (by rfl) (by rfl) (by rfl) (by rfl) (by decide) (by first | rfl | assumption) ?_
      | refine AL.gOffE (by rfl) (by rfl) (by rfl) (by rfl) (by rfl) (by decide) (by first | rfl | assumption) ?_
      | refine AL.pickE (b' := true) (by rfl) (by rfl) (by rfl) (by rfl) (by first | rfl | assumption) ?_
      | refine AL.pickE (b' := false) (by rfl) (by rfl) (by rfl) (by rfl) (by first | rfl | assumption) ?_
      | refine AL.extract (by rfl) (by rfl) (by rfl) (by rfl) (by rfl) ?_
      | refine AL.boxD tyOk (by rfl) (by rfl) (by rfl) (Nat.le_of_ble_eq_true rfl) (by rfl) (by rfl) (by rfl) (by decide) (by rfl) ?_
      | refine AL.allocD tyOk (by rfl) (by rfl) (by rfl) (Nat.le_of_ble_eq_true rfl) (by rfl) (by rfl) (by decide) (by rfl) ?_
      | refine AL.indexN tyOk (by rfl) (by rfl) (by rfl) (by rfl) (by rfl) (by rfl) (by rfl) (by rfl) (by first | rfl | exact (Int.toNat_of_nonneg (by omega)).symm) (by omega) ?_
      | refine AL.indexSl tyOk (by rfl) (by rfl) (by rfl) (by rfl) (by rfl) (by rfl) (by rfl) (by rfl) (by constructor <;> omega) ?_
      | refine AL.indexArr tyOk (by rfl) (by rfl) (by rfl) (by rfl) (by rfl) (by rfl) (by constructor <;> omega) ?_
      | refine AL.makeD tyOk _ (by rfl) (by rfl) (by rfl) (Nat.le_of_ble_eq_true rfl) (by rfl) (by rfl) (by rfl) (by rfl) (by rfl) (by rfl) (by rfl) (by omega) (by omega) (by decide) (by rfl) ?_
      | refine AL.build (qs := []) tyOk (by rfl) (by rfl) (by rfl) (by rfl) (by rfl) (by exact PartsOk.nil) (by rfl) ?_
      | refine AL.build (qs := [(_, _)]) tyOk (by rfl) (by rfl) (by rfl) (by rfl) (by rfl) (by exact PartsOk.cons (by rfl) (by rfl) PartsOk.nil) (by rfl) ?_
      | refine AL.build (qs := [(_, _), (_, _)]) tyOk (by rfl) (by rfl) (by rfl) (by rfl) (by rfl) (by exact PartsOk.cons (by rfl) (by rfl) (PartsOk.cons (by rfl) (by rfl) PartsOk.nil)) (by rfl) ?_
      | refine AL.nilCheck (by rfl) (by rfl) (by rfl) (by rfl) ?_) | (first
          | refine AC.region ?_
          | refine AC.seq ?_
          | refine AC.block ?_
          | refine AC.ret ?_
          | refine AC.exit ?_
          | refine AC.skip ?_))
  refine AL.call [] (by rfl) (by rfl) (by rfl) Try.func27 (by rfl) (by rfl) (by exact toLRow_run a0x a0y) (by repeat (first | exact trivial | exact Nat.le_of_ble_eq_true rfl | rfl | exact ⟨_, rfl, rfl, Nat.le_refl _, rfl⟩ | refine And.intro ?_ ?_)) BwOk.nil (by rw [hF]; exact Nat.le_of_ble_eq_true rfl) 2000100 (by decide) (by rfl) ?_
  rintro _ _ ⟨rfl, rfl⟩
  refine And.intro rfl (And.intro (fun ρ b x h => by cases h) (And.intro (by first | exact mine_nil | (simp [Ar.mine, C.mine]; done) | (simp [Ar.mine, C.mine, pinC_mine]; done) | (simp [Ar.mine, C.mine, pinC]; done)) (And.intro (Nat.le_of_ble_eq_true rfl) ?_)))
  repeat (first | (first
      | refine AL.nil ?_
      | refine AL.move (.inl (by rfl)) (by rfl) (by rfl) ?_
      | refine AL.move (.inr (by rfl)) (by rfl) (by rfl) ?_
      | refine AL.fieldAddr tyOk (by rfl) (by rfl) (by rfl) (by rfl) (by rfl) (by rfl) ?_
      | refine AL.load1 tyOk (by rfl) (by rfl) (by rfl) (by rfl) (by rfl) (by rfl) (by rfl) (by first | exact Nat.le_of_ble_eq_true rfl | (dsimp only; omega) | omega | assumption | (simp only [openR]; omega) | exact Nat.lt_of_lt_of_le (m := 3) (by omega) (Nat.le_of_ble_eq_true rfl)) (by first | exact Nat.le_of_ble_eq_true rfl | (dsimp only; omega) | omega | assumption | (simp only [openR]; omega) | exact Nat.lt_of_lt_of_le (m := 3) (by omega) (Nat.le_of_ble_eq_true rfl)) (by rfl) ?_
      | refine AL.loadAggE tyOk (by rfl) (by rfl) (by rfl) (by rfl) (by rfl) (by rfl) (by rfl) (by first | exact Nat.le_of_ble_eq_true rfl | (dsimp only; omega) | omega | assumption | (simp only [openR]; omega) | exact Nat.lt_of_lt_of_le (m := 3) (by omega) (Nat.le_of_ble_eq_true rfl)) (by first | exact Nat.le_of_ble_eq_true rfl | (dsimp only; omega) | omega | assumption | (simp only [openR]; omega) | exact Nat.lt_of_lt_of_le (m := 3) (by omega) (Nat.le_of_ble_eq_true rfl)) (by rfl) ?_
      | refine AL.stor tyOk (by rfl) (by rfl) (by rfl) (by rfl) (by rfl) (by rfl) (by rfl) (by rfl) (by rfl) (by first | exact Nat.le_of_ble_eq_true rfl | (dsimp only; omega) | omega | assumption | (simp only [openR]; omega) | exact Nat.lt_of_lt_of_le (m := 3) (by omega) (Nat.le_of_ble_eq_true rfl)) (by first | exact Nat.le_of_ble_eq_true rfl | (dsimp only; omega) | omega | assumption | (simp only [openR]; omega) | exact Nat.lt_of_lt_of_le (m := 3) (by omega) (Nat.le_of_ble_eq_true rfl)) ?_
      | refine AL.len (ty := 0) tyOk (by rfl) (by rfl) (by rfl) (by rfl) (by rfl) ?_
      | refine AL.add (by rfl) (by rfl) (by rfl) (by rfl) (by rfl) (by constructor <;> omega) ?_
      | refine AL.sub (by rfl) (by rfl) (by rfl) (by rfl) (by rfl) (by constructor <;> omega) ?_
      | refine AL.mul (by rfl) (by rfl) (by rfl) (by rfl) (by rfl) (by constructor <;> omega) ?_
      | refine AL.int2 (by rfl) (by rfl) (by rfl) (by rfl) (by rfl) (by rfl) (by first | trivial | decide | omega) ?_
      | refine AL.bEq (by rfl) (by rfl) (by rfl) (by rfl) (by rfl) Try.underlying4 ?_
      | refine AL.bNe (by rfl) (by rfl) (by rfl) (by rfl) (by rfl) Try.underlying4 ?_
      | refine AL.not (by rfl) (by rfl) (by rfl) (by rfl) ?_
      | refine AL.gOnE (by rfl) (by rfl) (by rfl) (by rfl) (by decide) (by first | rfl | assumption) ?_
      | refine AL.gOffE (by rfl) (by rfl) (by rfl) (by rfl) (by rfl) (by decide) (by first | rfl | assumption) ?_
      | refine AL.pickE (b' := true) (by rfl) (by rfl) (by rfl) (by rfl) (by first | rfl | assumption) ?_
      | refine AL.pickE (b' := false) (by rfl) (by rfl) (by rfl) (by rfl) (by first | rfl | assumption) ?_
      | refine AL.extract (by rfl) (by rfl) (by rfl) (by rfl) (by rfl) ?_
      | refine AL.boxD tyOk (by rfl) (by rfl) (by rfl) (Nat.le_of_ble_eq_true rfl) (by rfl) (by rfl) (by rfl) (by decide) (by rfl) ?_
      | refine AL.allocD tyOk (by rfl) (by rfl) (by rfl) (Nat.le_of_ble_eq_true rfl) (by rfl) (by rfl) (by decide) (by rfl) ?_
      | refine AL.indexN tyOk (by rfl) (by rfl) (by rfl) (by rfl) (by rfl) (by rfl) (by rfl) (by rfl) (by first | rfl | exact (Int.toNat_of_nonneg (by omega)).symm) (by omega) ?_
      | refine AL.indexSl tyOk (by rfl) (by rfl) (by rfl) (by rfl) (by rfl) (by rfl) (by rfl) (by rfl) (by constructor <;> omega) ?_
      | refine AL.indexArr tyOk (by rfl) (by rfl) (by rfl) (by rfl) (by rfl) (by rfl) (by constructor <;> omega) ?_
      | refine AL.makeD tyOk _ (by rfl) (by rfl) (by rfl) (Nat.le_of_ble_eq_true rfl) (by rfl) (by rfl) (by rfl) (by rfl) (by rfl) (by rfl) (by rfl) (by omega) (by omega) (by decide) (by rfl) ?_
      | refine AL.build (qs := []) tyOk (by rfl) (by rfl) (by rfl) (by rfl) (by rfl) (by exact PartsOk.nil) (by rfl) ?_
      | refine AL.build (qs := [(_, _)]) tyOk (by rfl) (by rfl) (by rfl) (by rfl) (by rfl) (by exact PartsOk.cons (by rfl) (by rfl) PartsOk.nil) (by rfl) ?_
      | refine AL.build (qs := [(_, _), (_, _)]) tyOk (by rfl) (by rfl) (by rfl) (by rfl) (by rfl) (by exact PartsOk.cons (by rfl) (by rfl) (PartsOk.cons (by rfl) (by rfl) PartsOk.nil)) (by rfl) ?_
      | refine AL.nilCheck (by rfl) (by rfl) (by rfl) (by rfl) ?_) | (first
          | refine AC.region ?_
          | refine AC.seq ?_
          | refine AC.block ?_
          | refine AC.ret ?_
          | refine AC.exit ?_
          | refine AC.skip ?_))
  refine AL.call [] (by rfl) (by rfl) (by rfl) Try.func26 (by rfl) (by rfl) (by exact sRipe_run a0x a0y a1 w1) (by repeat (first | exact trivial | exact Nat.le_of_ble_eq_true rfl | rfl | exact ⟨_, rfl, rfl, Nat.le_refl _, rfl⟩ | refine And.intro ?_ ?_)) BwOk.nil (by rw [hF]; exact Nat.le_of_ble_eq_true rfl) 2000200 (by decide) (by rfl) ?_
  rintro _ _ ⟨z1, rfl, hz1, rfl⟩
  refine And.intro rfl (And.intro (fun ρ b x h => by cases h) (And.intro (by first | exact mine_nil | (simp [Ar.mine, C.mine]; done) | (simp [Ar.mine, C.mine, pinC_mine]; done) | (simp [Ar.mine, C.mine, pinC]; done)) (And.intro (Nat.le_of_ble_eq_true rfl) ?_)))
  repeat (first | (first
      | refine AL.nil ?_
      | refine AL.move (.inl (by rfl)) (by rfl) (by rfl) ?_
      | refine AL.move (.inr (by rfl)) (by rfl) (by rfl) ?_
      | refine AL.fieldAddr tyOk (by rfl) (by rfl) (by rfl) (by rfl) (by rfl) (by rfl) ?_
      | refine AL.load1 tyOk (by rfl) (by rfl) (by rfl) (by rfl) (by rfl) (by rfl) (by rfl) (by first | exact Nat.le_of_ble_eq_true rfl | (dsimp only; omega) | omega | assumption | (simp only [openR]; omega) | exact Nat.lt_of_lt_of_le (m := 3) (by omega) (Nat.le_of_ble_eq_true rfl)) (by first | exact Nat.le_of_ble_eq_true rfl | (dsimp only; omega) | omega | assumption | (simp only [openR]; omega) | exact Nat.lt_of_lt_of_le (m := 3) (by omega) (Nat.le_of_ble_eq_true rfl)) (by rfl) ?_
      | refine AL.loadAggE tyOk (by rfl) (by rfl) (by rfl) (by rfl) (by rfl) (by rfl) (by rfl) (by first | exact Nat.le_of_ble_eq_true rfl | (dsimp only; omega) | omega | assumption | (simp only [openR]; omega) | exact Nat.lt_of_lt_of_le (m := 3) (by omega) (Nat.le_of_ble_eq_true rfl)) (by first | exact Nat.le_of_ble_eq_true rfl | (dsimp only; omega) | omega | assumption | (simp only [openR]; omega) | exact Nat.lt_of_lt_of_le (m := 3) (by omega) (Nat.le_of_ble_eq_true rfl)) (by rfl) ?_
      | refine AL.stor tyOk (by rfl) (by rfl) (by rfl) (by rfl) (by rfl) (by rfl) (by rfl) (by rfl) (by rfl) (by first | exact Nat.le_of_ble_eq_true rfl | (dsimp only; omega) | omega | assumption | (simp only [openR]; omega) | exact Nat.lt_of_lt_of_le (m := 3) (by omega) (Nat.le_of_ble_eq_true rfl)) (by first | exact Nat.le_of_ble_eq_true rfl | (dsimp only; omega) | omega | assumption | (simp only [openR]; omega) | exact Nat.lt_of_lt_of_le (m := 3) (by omega) (Nat.le_of_ble_eq_true rfl)) ?_
      | refine AL.len (ty := 0) tyOk (by rfl) (by rfl) (by rfl) (by rfl) (by rfl) ?_
      | refine AL.add (by rfl) (by rfl) (by rfl) (by rfl) (by rfl) (by constructor <;> omega) ?_
      | refine AL.sub (by rfl) (by rfl) (by rfl) (by rfl) (by rfl) (by constructor <;> omega) ?_
      | refine AL.mul (by rfl) (by rfl) (by rfl) (by rfl) (by rfl) (by constructor <;> omega) ?_
      | refine AL.int2 (by rfl) (by rfl) (by rfl) (by rfl) (by rfl) (by rfl) (by first | trivial | decide | omega) ?_
      | refine AL.bEq (by rfl) (by rfl) (by rfl) (by rfl) (by rfl) Try.underlying4 ?_
      | refine AL.bNe (by rfl) (by rfl) (by rfl) (by rfl) (by rfl) Try.underlying4 ?_
      | refine AL.not (by rfl) (by rfl) (by rfl) (by rfl) ?_
      | refine AL.gOnE (by rfl) (by rfl) (by rfl) (by rfl) (by decide) (by first | rfl | assumption) ?_
      | refine AL.gOffE (by rfl) (by rfl) (by rfl) (by rfl) (by rfl) (by decide) (by first | rfl | assumption) ?_
      | refine AL.pickE (b' := true) (by rfl) (by rfl) (by rfl) (by rfl) (by first | rfl | assumption) ?_
      | refine AL.pickE (b' := false) (by rfl) (by rfl) (by rfl) (by rfl) (by first | rfl | assumption) ?_
      | refine AL.extract (by rfl) (by rfl) (by rfl) (by rfl) (by rfl) ?_
      | refine AL.boxD tyOk (by rfl) (by rfl) (by rfl) (Nat.le_of_ble_eq_true rfl) (by rfl) (by rfl) (by rfl) (by decide) (by rfl) ?_
      | refine AL.allocD tyOk (by rfl) (by rfl) (by rfl) (Nat.le_of_ble_eq_true rfl) (by rfl) (by rfl) (by decide) (by rfl) ?_
      | refine AL.indexN tyOk (by rfl) (by rfl) (by rfl) (by rfl) (by rfl) (by rfl) (by rfl) (by rfl) (by first | rfl | exact (Int.toNat_of_nonneg (by omega)).symm) (by omega) ?_
      | refine AL.indexSl tyOk (by rfl) (by rfl) (by rfl) (by rfl) (by rfl) (by rfl) (by rfl) (by rfl) (by constructor <;> omega) ?_
      | refine AL.indexArr tyOk (by rfl) (by rfl) (by rfl) (by rfl) (by rfl) (by rfl) (by constructor <;> omega) ?_
      | refine AL.makeD tyOk _ (by rfl) (by rfl) (by rfl) (Nat.le_of_ble_eq_true rfl) (by rfl) (by rfl) (by rfl) (by rfl) (by rfl) (by rfl) (by rfl) (by omega) (by omega) (by decide) (by rfl) ?_
      | refine AL.build (qs := []) tyOk (by rfl) (by rfl) (by rfl) (by rfl) (by rfl) (by exact PartsOk.nil) (by rfl) ?_
      | refine AL.build (qs := [(_, _)]) tyOk (by rfl) (by rfl) (by rfl) (by rfl) (by rfl) (by exact PartsOk.cons (by rfl) (by rfl) PartsOk.nil) (by rfl) ?_
      | refine AL.build (qs := [(_, _), (_, _)]) tyOk (by rfl) (by rfl) (by rfl) (by rfl) (by rfl) (by exact PartsOk.cons (by rfl) (by rfl) (PartsOk.cons (by rfl) (by rfl) PartsOk.nil)) (by rfl) ?_
      | refine AL.nilCheck (by rfl) (by rfl) (by rfl) (by rfl) ?_) | (first
          | refine AC.region ?_
          | refine AC.seq ?_
          | refine AC.block ?_
          | refine AC.ret ?_
          | refine AC.exit ?_
          | refine AC.skip ?_))
  refine AL.call [] (by rfl) (by rfl) (by rfl) Try.func27 (by rfl) (by rfl) (by exact toLRow_run a0x a0y) (by repeat (first | exact trivial | exact Nat.le_of_ble_eq_true rfl | rfl | exact ⟨_, rfl, rfl, Nat.le_refl _, rfl⟩ | refine And.intro ?_ ?_)) BwOk.nil (by rw [hF]; exact Nat.le_of_ble_eq_true rfl) 2000300 (by decide) (by rfl) ?_
  rintro _ _ ⟨rfl, rfl⟩
  refine And.intro rfl (And.intro (fun ρ b x h => by cases h) (And.intro (by first | exact mine_nil | (simp [Ar.mine, C.mine]; done) | (simp [Ar.mine, C.mine, pinC_mine]; done) | (simp [Ar.mine, C.mine, pinC]; done)) (And.intro (Nat.le_of_ble_eq_true rfl) ?_)))
  repeat (first | (first
      | refine AL.nil ?_
      | refine AL.move (.inl (by rfl)) (by rfl) (by rfl) ?_
      | refine AL.move (.inr (by rfl)) (by rfl) (by rfl) ?_
      | refine AL.fieldAddr tyOk (by rfl) (by rfl) (by rfl) (by rfl) (by rfl) (by rfl) ?_
      | refine AL.load1 tyOk (by rfl) (by rfl) (by rfl) (by rfl) (by rfl) (by rfl) (by rfl) (by first | exact Nat.le_of_ble_eq_true rfl | (dsimp only; omega) | omega | assumption | (simp only [openR]; omega) | exact Nat.lt_of_lt_of_le (m := 3) (by omega) (Nat.le_of_ble_eq_true rfl)) (by first | exact Nat.le_of_ble_eq_true rfl | (dsimp only; omega) | omega | assumption | (simp only [openR]; omega) | exact Nat.lt_of_lt_of_le (m := 3) (by omega) (Nat.le_of_ble_eq_true rfl)) (by rfl) ?_
      | refine AL.loadAggE tyOk (by rfl) (by rfl) (by rfl) (by rfl) (by rfl) (by rfl) (by rfl) (by first | exact Nat.le_of_ble_eq_true rfl | (dsimp only; omega) | omega | assumption | (simp only [openR]; omega) | exact Nat.lt_of_lt_of_le (m := 3) (by omega) (Nat.le_of_ble_eq_true rfl)) (by first | exact Nat.le_of_ble_eq_true rfl | (dsimp only; omega) | omega | assumption | (simp only [openR]; omega) | exact Nat.lt_of_lt_of_le (m := 3) (by omega) (Nat.le_of_ble_eq_true rfl)) (by rfl) ?_
      | refine AL.stor tyOk (by rfl) (by rfl) (by rfl) (by rfl) (by rfl) (by rfl) (by rfl) (by rfl) (by rfl) (by first | exact Nat.le_of_ble_eq_true rfl | (dsimp only; omega) | omega | assumption | (simp only [openR]; omega) | exact Nat.lt_of_lt_of_le (m := 3) (by omega) (Nat.le_of_ble_eq_true rfl)) (by first | exact Nat.le_of_ble_eq_true rfl | (dsimp only; omega) | omega | assumption | (simp only [openR]; omega) | exact Nat.lt_of_lt_of_le (m := 3) (by omega) (Nat.le_of_ble_eq_true rfl)) ?_
      | refine AL.len (ty := 0) tyOk (by rfl) (by rfl) (by rfl) (by rfl) (by rfl) ?_
      | refine AL.add (by rfl) (by rfl) (by rfl) (by rfl) (by rfl) (by constructor <;> omega) ?_
      | refine AL.sub (by rfl) (by rfl) (by rfl) (by rfl) (by rfl) (by constructor <;> omega) ?_
      | refine AL.mul (by rfl) (by rfl) (by rfl) (by rfl) (by rfl) (by constructor <;> omega) ?_
      | refine AL.int2 (by rfl) (by rfl) (by rfl) (by rfl) (by rfl) (by rfl) (by first | trivial | decide | omega) ?_
      | refine AL.bEq (by rfl) (by rfl) (by rfl) (by rfl) (by rfl) Try.underlying4 ?_
      | refine AL.bNe (by rfl) (by rfl) (by rfl) (by rfl) (by rfl) Try.underlying4 ?_
      | refine AL.not (by rfl) (by rfl) (by rfl) (by rfl) ?_
      | refine AL.gOnE (by rfl) (by rfl) (by rfl) (by rfl) (by decide) (by first | rfl | assumption) ?_
      | refine AL.gOffE (by rfl) (by rfl) (by rfl) (by rfl) (by rfl) (by decide) (by first | rfl | assumption) ?_
      | refine AL.pickE (b' := true) (by rfl) (by rfl) (by rfl) (by rfl) (by first | rfl | assumption) ?_
      | refine AL.pickE (b' := false) (by rfl) (by rfl) (by rfl) (by rfl) (by first | rfl | assumption) ?_
      | refine AL.extract (by rfl) (by rfl) (by rfl) (by rfl) (by rfl) ?_
      | refine AL.boxD tyOk (by rfl) (by rfl) (by rfl) (Nat.le_of_ble_eq_true rfl) (by rfl) (by rfl) (by rfl) (by decide) (by rfl) ?_
      | refine AL.allocD tyOk (by rfl) (by rfl) (by rfl) (Nat.le_of_ble_eq_true rfl) (by rfl) (by rfl) (by decide) (by rfl) ?_
      | refine AL.indexN tyOk (by rfl) (by rfl) (by rfl) (by rfl) (by rfl) (by rfl) (by rfl) (by rfl) (by first | rfl | exact (Int.toNat_of_nonneg (by omega)).symm) (by omega) ?_
      | refine AL.indexSl tyOk (by rfl) (by rfl) (by rfl) (by rfl) (by rfl) (by rfl) (by rfl) (by rfl) (by constructor <;> omega) ?_
      | refine AL.indexArr tyOk (by rfl) (by rfl) (by rfl) (by rfl) (by rfl) (by rfl) (by constructor <;> omega) ?_
      | refine AL.makeD tyOk _ (by rfl) (by rfl) (by rfl) (Nat.le_of_ble_eq_true rfl) (by rfl) (by rfl) (by rfl) (by rfl) (by rfl) (by rfl) (by rfl) (by omega) (by omega) (by decide) (by rfl) ?_
      | refine AL.build (qs := []) tyOk (by rfl) (by rfl) (by rfl) (by rfl) (by rfl) (by exact PartsOk.nil) (by rfl) ?_
      | refine AL.build (qs := [(_, _)]) tyOk (by rfl) (by rfl) (by rfl) (by rfl) (by rfl) (by exact PartsOk.cons (by rfl) (by rfl) PartsOk.nil) (by rfl) ?_
      | refine AL.build (qs := [(_, _), (_, _)]) tyOk (by rfl) (by rfl) (by rfl) (by rfl) (by rfl) (by exact PartsOk.cons (by rfl) (by rfl) (PartsOk.cons (by rfl) (by rfl) PartsOk.nil)) (by rfl) ?_
      | refine AL.nilCheck (by rfl) (by rfl) (by rfl) (by rfl) ?_) | (first
          | refine AC.region ?_
          | refine AC.seq ?_
          | refine AC.block ?_
          | refine AC.ret ?_
          | refine AC.exit ?_
          | refine AC.skip ?_))
  refine AL.call [] (by rfl) (by rfl) (by rfl) Try.func28 (by rfl) (by rfl) (by exact iRipe_run a0x a0y a1 w1) (by repeat (first | exact trivial | exact Nat.le_of_ble_eq_true rfl | rfl | exact ⟨_, rfl, rfl, Nat.le_refl _, rfl⟩ | refine And.intro ?_ ?_)) BwOk.nil (by rw [hF]; exact Nat.le_of_ble_eq_true rfl) 2000400 (by decide) (by rfl) ?_
  rintro _ _ ⟨z2, rfl, hz2, rfl⟩
  obtain rfl : z2 = z1 := Bool.eq_iff_iff.2 (hz2.trans hz1.symm)
  refine And.intro rfl (And.intro (fun ρ b x h => by cases h) (And.intro (by first | exact mine_nil | (simp [Ar.mine, C.mine]; done) | (simp [Ar.mine, C.mine, pinC_mine]; done) | (simp [Ar.mine, C.mine, pinC]; done)) (And.intro (Nat.le_of_ble_eq_true rfl) ?_)))
  repeat (first | (first
      | refine AL.nil ?_
      | refine AL.move (.inl (by rfl)) (by rfl) (by rfl) ?_
      | refine AL.move (.inr (by rfl)) (by rfl) (by rfl) ?_
      | refine AL.fieldAddr tyOk (by rfl) (by rfl) (by rfl) (by rfl) (by rfl) (by rfl) ?_
      | refine AL.load1 tyOk (by rfl) (by rfl) (by rfl) (by rfl) (by rfl) (by rfl) (by rfl) (by first | exact Nat.le_of_ble_eq_true rfl | (dsimp only; omega) | omega | assumption | (simp only [openR]; omega) | exact Nat.lt_of_lt_of_le (m := 3) (by omega) (Nat.le_of_ble_eq_true rfl)) (by first | exact Nat.le_of_ble_eq_true rfl | (dsimp only; omega) | omega | assumption | (simp only [openR]; omega) | exact Nat.lt_of_lt_of_le (m := 3) (by omega) (Nat.le_of_ble_eq_true rfl)) (by rfl) ?_
      | refine AL.loadAggE tyOk (by rfl) (by rfl) (by rfl) (by rfl) (by rfl) (by rfl) (by rfl) (by first | exact Nat.le_of_ble_eq_true rfl | (dsimp only; omega) | omega | assumption | (simp only [openR]; omega) | exact Nat.lt_of_lt_of_le (m := 3) (by omega) (Nat.le_of_ble_eq_true rfl)) (by first | exact Nat.le_of_ble_eq_true rfl | (dsimp only; omega) | omega | assumption | (simp only [openR]; omega) | exact Nat.lt_of_lt_of_le (m := 3) (by omega) (Nat.le_of_ble_eq_true rfl)) (by rfl) ?_
      | refine AL.stor tyOk (by rfl) (by rfl) (by rfl) (by rfl) (by rfl) (by rfl) (by rfl) (by rfl) (by rfl) (by first | exact Nat.le_of_ble_eq_true rfl | (dsimp only; omega) | omega | assumption | (simp only [openR]; omega) | exact Nat.lt_of_lt_of_le (m := 3) (by omega) (Nat.le_of_ble_eq_true rfl)) (by first | exact Nat.le_of_ble_eq_true rfl | (dsimp only; omega) | omega | assumption | (simp only [openR]; omega) | exact Nat.lt_of_lt_of_le (m := 3) (by omega) (Nat.le_of_ble_eq_true rfl)) ?_
      | refine AL.len (ty := 0) tyOk (by rfl) (by rfl) (by rfl) (by rfl) (by rfl) ?_
      | refine AL.add (by rfl) (by rfl) (by rfl) (by rfl) (by rfl) (by constructor <;> omega) ?_
      | refine AL.sub (by rfl) (by rfl) (by rfl) (by rfl) (by rfl) (by constructor <;> omega) ?_
      | refine AL.mul (by rfl) (by rfl) (by rfl) (by rfl) (by rfl) (by constructor <;> omega) ?_
      | refine AL.int2 (by rfl) (by rfl) (by rfl) (by rfl) (by rfl) (by rfl) (by first | trivial | decide | omega) ?_
      | refine AL.bEq (by rfl) (by rfl) (by rfl) (by rfl) (by rfl) Try.underlying4 ?_
      | refine AL.bNe (by rfl) (by rfl) (by rfl) (by rfl) (by rfl) Try.underlying4 ?_
      | refine AL.not (by rfl) (by rfl) (by rfl) (by rfl) ?_
      | refine AL.gOnE (by rfl) (by rfl) (by rfl) (by rfl) (by decide) (by first | rfl | assumption) ?_
      | refine AL.gOffE (by rfl) (by rfl) (by rfl) (by rfl) (by rfl) (by decide) (by first | rfl | assumption) ?_
      | refine AL.pickE (b' := true) (by rfl) (by rfl) (by rfl) (by rfl) (by first | rfl | assumption) ?_
      | refine AL.pickE (b' := false) (by rfl) (by rfl) (by rfl) (by rfl) (by first | rfl | assumption) ?_
      | refine AL.extract (by rfl) (by rfl) (by rfl) (by rfl) (by rfl) ?_
      | refine AL.boxD tyOk (by rfl) (by rfl) (by rfl) (Nat.le_of_ble_eq_true rfl) (by rfl) (by rfl) (by rfl) (by decide) (by rfl) ?_
      | refine AL.allocD tyOk (by rfl) (by rfl) (by rfl) (Nat.le_of_ble_eq_true rfl) (by rfl) (by rfl) (by decide) (by rfl) ?_
      | refine AL.indexN tyOk (by rfl) (by rfl) (by rfl) (by rfl) (by rfl) (by rfl) (by rfl) (by rfl) (by first | rfl | exact (Int.toNat_of_nonneg (by omega)).symm) (by omega) ?_
      | refine AL.indexSl tyOk (by rfl) (by rfl) (by rfl) (by rfl) (by rfl) (by rfl) (by rfl) (by rfl) (by constructor <;> omega) ?_
      | refine AL.indexArr tyOk (by rfl) (by rfl) (by rfl) (by rfl) (by rfl) (by rfl) (by constructor <;> omega) ?_
      | refine AL.makeD tyOk _ (by rfl) (by rfl) (by rfl) (Nat.le_of_ble_eq_true rfl) (by rfl) (by rfl) (by rfl) (by rfl) (by rfl) (by rfl) (by rfl) (by omega) (by omega) (by decide) (by rfl) ?_
      | refine AL.build (qs := []) tyOk (by rfl) (by rfl) (by rfl) (by rfl) (by rfl) (by exact PartsOk.nil) (by rfl) ?_
      | refine AL.build (qs := [(_, _)]) tyOk (by rfl) (by rfl) (by rfl) (by rfl) (by rfl) (by exact PartsOk.cons (by rfl) (by rfl) PartsOk.nil) (by rfl) ?_
      | refine AL.build (qs := [(_, _), (_, _)]) tyOk (by rfl) (by rfl) (by rfl) (by rfl) (by rfl) (by exact PartsOk.cons (by rfl) (by rfl) (PartsOk.cons (by rfl) (by rfl) PartsOk.nil)) (by rfl) ?_
      | refine AL.nilCheck (by rfl) (by rfl) (by rfl) (by rfl) ?_) | (first
          | refine AC.region ?_
          | refine AC.seq ?_
          | refine AC.block ?_
          | refine AC.ret ?_
          | refine AC.exit ?_
          | refine AC.skip ?_))
  refine AC.cond (by rfl) (fun h1 => ?_) (fun h1 => ?_)
  · simp at h1
  repeat (first | (first
      | refine AL.nil ?_
      | refine AL.move (.inl (by rfl)) (by rfl) (by rfl) ?_
      | refine AL.move (.inr (by rfl)) (by rfl) (by rfl) ?_
      | refine AL.fieldAddr tyOk (by rfl) (by rfl) (by rfl) (by rfl) (by rfl) (by rfl) ?_
      | refine AL.load1 tyOk (by rfl) (by rfl) (by rfl) (by rfl) (by rfl) (by rfl) (by rfl) (by first | exact Nat.le_of_ble_eq_true rfl | (dsimp only; omega) | omega | assumption | (simp only [openR]; omega) | exact Nat.lt_of_lt_of_le (m := 3) (by omega) (Nat.le_of_ble_eq_true rfl)) (by first | exact Nat.le_of_ble_eq_true rfl | (dsimp only; omega) | omega | assumption | (simp only [openR]; omega) | exact Nat.lt_of_lt_of_le (m := 3) (by omega) (Nat.le_of_ble_eq_true rfl)) (by rfl) ?_
      | refine AL.loadAggE tyOk (by rfl) (by rfl) (by rfl) (by rfl) (by rfl) (by rfl) (by rfl) (by first | exact Nat.le_of_ble_eq_true rfl | (dsimp only; omega) | omega | assumption | (simp only [openR]; omega) | exact Nat.lt_of_lt_of_le (m := 3) (by omega) (Nat.le_of_ble_eq_true rfl)) (by first | exact Nat.le_of_ble_eq_true rfl | (dsimp only; omega) | omega | assumption | (simp only [openR]; omega) | exact Nat.lt_of_lt_of_le (m := 3) (by omega) (Nat.le_of_ble_eq_true rfl)) (by rfl) ?_
      | refine AL.stor tyOk (by rfl) (by rfl) (by rfl) (by rfl) (by rfl) (by rfl) (by rfl) (by rfl) (by rfl) (by first | exact Nat.le_of_ble_eq_true rfl | (dsimp only; omega) | omega | assumption | (simp only [openR]; omega) | exact Nat.lt_of_lt_of_le (m := 3) (by omega) (Nat.le_of_ble_eq_true rfl)) (by first | exact Nat.le_of_ble_eq_true rfl | (dsimp only; omega) | omega | assumption | (simp only [openR]; omega) | exact Nat.lt_of_lt_of_le (m := 3) (by omega) (Nat.le_of_ble_eq_true rfl)) ?_
      | refine AL.len (ty := 0) tyOk (by rfl) (by rfl) (by rfl) (by rfl) (by rfl) ?_
      | refine AL.add (by rfl) (by rfl) (by rfl) (by rfl) (by rfl) (by constructor <;> omega) ?_
      | refine AL.sub (by rfl) (by rfl) (by rfl) (by rfl) (by rfl) (by constructor <;> omega) ?_
      | refine AL.mul (by rfl) (by rfl) (by rfl) (by rfl) (by rfl) (by constructor <;> omega) ?_
      | refine AL.int2 (by rfl) (by rfl) (by rfl) (by rfl) (by rfl) (by rfl) (by first | trivial | decide | omega) ?_
      | refine AL.bEq (by rfl) (by rfl) (by rfl) (by rfl) (by rfl) Try.underlying4 ?_
      | refine AL.bNe (by rfl) (by rfl) (by rfl) (by rfl) (by rfl) Try.underlying4 ?_
      | refine AL.not (by rfl) (by rfl) (by rfl) (by rfl) ?_
      | refine AL.gOnE (by rfl) (by rfl) (by rfl) (by rfl) (by decide) (by first | rfl | assumption) ?_
      | refine AL.gOffE (by rfl) (by rfl) (by rfl) (by rfl) (by rfl) (by decide) (by first | rfl | assumption) ?_
      | refine AL.pickE (b' := true) (by rfl) (by rfl) (by rfl) (by rfl) (by first | rfl | assumption) ?_
      | refine AL.pickE (b' := false) (by rfl) (by rfl) (by rfl) (by rfl) (by first | rfl | assumption) ?_
      | refine AL.extract (by rfl) (by rfl) (by rfl) (by rfl) (by rfl) ?_
      | refine AL.boxD tyOk (by rfl) (by rfl) (by rfl) (Nat.le_of_ble_eq_true rfl) (by rfl) (by rfl) (by rfl) (by decide) (by rfl) ?_
      | refine AL.allocD tyOk (by rfl) (by rfl) (by rfl) (Nat.le_of_ble_eq_true rfl) (by rfl) (by rfl) (by decide) (by rfl) ?_
      | refine AL.indexN tyOk (by rfl) (by rfl) (by rfl) (by rfl) (by rfl) (by rfl) (by rfl) (by rfl) (by first | rfl | exact (Int.toNat_of_nonneg (by omega)).symm) (by omega) ?_
      | refine AL.indexSl tyOk (by rfl) (by rfl) (by rfl) (by rfl) (by rfl) (by rfl) (by rfl) (by rfl) (by constructor <;> omega) ?_
      | refine AL.indexArr tyOk (by rfl) (by rfl) (by rfl) (by rfl) (by rfl) (by rfl) (by constructor <;> omega) ?_
      | refine AL.makeD tyOk _ (by rfl) (by rfl) (by rfl) (Nat.le_of_ble_eq_true rfl) (by rfl) (by rfl) (by rfl) (by rfl) (by rfl) (by rfl) (by rfl) (by omega) (by omega) (by decide) (by rfl) ?_
      | refine AL.build (qs := []) tyOk (by rfl) (by rfl) (by rfl) (by rfl) (by rfl) (by exact PartsOk.nil) (by rfl) ?_
      | refine AL.build (qs := [(_, _)]) tyOk (by rfl) (by rfl) (by rfl) (by rfl) (by rfl) (by exact PartsOk.cons (by rfl) (by rfl) PartsOk.nil) (by rfl) ?_
      | refine AL.build (qs := [(_, _), (_, _)]) tyOk (by rfl) (by rfl) (by rfl) (by rfl) (by rfl) (by exact PartsOk.cons (by rfl) (by rfl) (PartsOk.cons (by rfl) (by rfl) PartsOk.nil)) (by rfl) ?_
      | refine AL.nilCheck (by rfl) (by rfl) (by rfl) (by rfl) ?_) | (first
          | refine AC.region ?_
          | refine AC.seq ?_
          | refine AC.block ?_
          | refine AC.ret ?_
          | refine AC.exit ?_
          | refine AC.skip ?_))
  refine And.intro (by first | exact .inr rfl | exact .inl rfl) (And.intro (by repeat (first | exact trivial | exact Nat.le_of_ble_eq_true rfl | rfl | exact ⟨_, rfl, rfl, Nat.le_refl _, rfl⟩ | refine And.intro ?_ ?_)) (And.intro (by rfl) (And.intro (by rfl) (And.intro (by repeat (first | exact trivial | exact Nat.le_of_ble_eq_true rfl | rfl | exact ⟨_, rfl, rfl, Nat.le_refl _, rfl⟩ | refine And.intro ?_ ?_)) (And.intro (by repeat (first | exact trivial | exact Nat.le_of_ble_eq_true rfl | rfl | exact ⟨_, rfl, rfl, Nat.le_refl _, rfl⟩ | refine And.intro ?_ ?_)) ?_)))))
  exact And.intro rfl rfl

set_option maxRecDepth 100000 in
theorem dsOk0 : TyDs Try.prog 36 [.i, .i] := (TyDs.struct Try.underlying36 (FsDs.cons (TyDs.int Try.underlying3) rfl (by kernel_rfl) (FsDs.cons (TyDs.int Try.underlying3) rfl (by kernel_rfl) FsDs.nil)) (by kernel_rfl))
set_option maxRecDepth 100000 in
theorem lifted (os : Os) (started : os.Started) (H : Type) (enc : TypeId × Value → H) :
    ReturnsInHanded {} Try.checked os 6 .any (Rows.fnExactRipeSpec.pre6 enc Try.prog Try.f6 Rows.fnExactRipeRow.domain false) (Rows.fnExactRipeSpec.post enc Try.prog Try.f6 false true false false) := by
  refine returnsInHanded_of_change (C := Try.checked) own started (by kernel_rfl) Try.func6
    (ChangeSpec.witness6 (enc := enc) (C := Try.checked) false ⟨#[], #[.agg #[.int .i64 0, .int .i64 0], .int .i64 0], []⟩ 8 (by kernel_rfl) (by kernel_rfl) (by kernel_rfl) (by kernel_rfl)) ?_
  intro W base args ds gs before hval0 hW hcnd _
  have hval : ∀ (j : Nat) t v, Try.f6.params[j]? = some t → args[j]? = some v → Value.okWide Try.prog W .any base t v := hval0
  have hW' := hW
  obtain ⟨p, q, hA0, hV, rfl, hfz, hnd⟩ := hW
  have hA : DataW.TrodAll enc Try.prog W 0 (fun _ => true) true Try.f6.params.toList args.toList ds p := hA0
  rw [Try.params6] at hA hval
  obtain ⟨v0, vs0, d0, ds0, p0, q0, hargs, rfl, rfl, h0, r0⟩ := trodAll_cons hA
  obtain ⟨v1, vs1, d1, ds1, p1, q1, rfl, rfl, rfl, h1, r1⟩ := trodAll_cons r0
  obtain ⟨rfl, rfl, rfl⟩ := trodAll_nil r1
  obtain rfl : args = #[v0, v1] := by cases args; simp_all
  obtain ⟨rfl, rfl⟩ := trodVars_none hV
  have k0 := h0
  have lt0 : ∀ x ∈ p0, x.block < W.heap.size := by obtain ⟨m, hm⟩ := k0; exact DataW.trod_lt m _ _ _ hm
  have tr0 := arg_tree h0 dsOk0
  obtain ⟨cs0, rfl, sz0⟩ := okWide_struct Try.underlying36 (hval 0 36 v0 rfl rfl)
  obtain ⟨u0x, c0x, ce0x, ok0x, cr0x⟩ := tr0 0 _ rfl
  obtain ⟨a0x, rfl, w0x⟩ := ok0x.int
  obtain ⟨u0y, c0y, ce0y, ok0y, cr0y⟩ := tr0 1 _ rfl
  obtain ⟨a0y, rfl, w0y⟩ := ok0y.int
  obtain ⟨a1, rfl, rfl, rfl, u1⟩ := open_int Try.underlying3 (hval 1 3 v1 rfl rfl) h1
  have w1 := wf_in u1
  clear hA0 hval0
  have hw := Run.law (W := W) (cargs := #[.agg cs0, .int .i64 a1]) (law_run a0x w0x a0y w0y a1 w1) rfl (fun i x hx => by
    rcases i with _ | _ | i
    · injection hx with hx; subst hx; exact ⟨_, rfl, ag_agg (W := W) (l := [.lit (.int .i64 a0x), .lit (.int .i64 a0y)]) (by rw [sz0]; kernel_rfl) (fun j c hj => by
      rcases j with _ | _ | j
      · injection hj with hj; subst hj; exact ⟨_, ce0x, cr0x⟩
      · injection hj with hj; subst hj; exact ⟨_, ce0y, cr0y⟩
      · simp at hj)⟩
    · injection hx with hx; subst hx; exact ⟨_, rfl, ⟨rfl, rfl⟩⟩
    · simp at hx)
  refine hw.mono fun e W' ⟨he, bel⟩ => ?_
  subst he
  exact ⟨_, rfl, _, _, _, [], _, [], hW', trodAll_mk1 (shut_bool Try.underlying4 _), (trodAll_cons_mk (Below.trod laidOut (by kernel_rfl) (of_decide_eq_true (by kernel_rfl)) k0 bel lt0) (trodAll_cons_mk (shut_int Try.underlying3 u1) trodAll_mk0)), rfl, bel.frame _, fun h => by cases h⟩

theorem over : Rows.fnExactRipeRow.holds Try.pinned (OpenSpec.ofChange Rows.fnExactRipeSpec) :=
  OpenClaim.holds_of_wide 6 Try.f6 rfl rfl rfl rfl rfl rfl rfl ⟨rfl, rfl, rfl, rfl, rfl⟩ rfl rfl rfl rfl rfl (by kernel_rfl) Try.func6 (by kernel_rfl)
    (of_decide_eq_true (by kernel_rfl)) (by unfold Func.isWrapper; first | (rw [if_pos (by decide +kernel)]; kernel_rfl) | (rw [if_neg (by decide +kernel)]; exact ⟨rfl, rfl⟩))
    (fun os started H enc _ => lifted os started H enc)

theorem proved : Rows.FnExactRipeSaid := over
end Go.Proofs.Ytbdegnamlmabbac.fnExactRipe
