/- Contracts over clocks: small tests. -/
import Derived.Test.YtbdegnamlmabbabCk6
namespace Go.Proofs.Ytbdegnamlmabbab
open Go Go.Tr
set_option linter.unusedVariables false
set_option linter.unusedSimpArgs false
set_option maxRecDepth 100000

theorem pin_eq (p q : Pn) (w : World) : (Op.equalIn 10000 63 (.agg [Value.bool p.1, .int .i64 p.2.1, .bool p.2.2.1, .int .i64 p.2.2.2].toArray) (.agg [Value.bool q.1, .int .i64 q.2.1, .bool q.2.2.1, .int .i64 q.2.2.2].toArray)).run Try.prog w = .ok (decide (p = q)) w := by
  have u3 := Try.underlying3
  have u4 := Try.underlying4
  obtain ⟨p0, p1, p2, p3⟩ := p
  obtain ⟨q0, q1, q2, q3⟩ := q
  have hS : Try.prog.underlying 63 = some (.struct (Try.prog.fieldsOf 63)) := by kernel_rfl
  rw [show (10000 : Nat) = 9999 + 1 from rfl, run_equalIn_agg w 9999 63 _ _ hS (by kernel_rfl)]
  simp only [Program.fieldsOf, Try.underlying63]
  go_simp
  by_cases h0 : p0 = q0 <;> by_cases h1 : p1 = q1 <;> by_cases h2 : p2 = q2 <;> by_cases h3 : p3 = q3 <;> simp [h0, h1, h2, h3]

theorem l1In_run (x a b : Int) : Run Try.prog 56 [.one (.c (.lit (.int .i64 x))), .one (.c (.lit (.int .i64 a))), .one (.c (.lit (.int .i64 b)))] [] fun outs ext => ∃ z : Bool, outs = [.one (.lit (.bool z))] ∧ (z = true ↔ a ≤ x ∧ x ≤ b) ∧ ext = [] := by
  refine Run.of_body tyOk Try.func56 (by rfl) (Nat.le_of_ble_eq_true rfl) (by simp [argsOk, aasOk, aaOk]) [] rfl (fun F hF => ?_)
  repeat (first | (first
      | refine AL.nil ?_
      | refine AL.move (.inl (by rfl)) (by rfl) (by rfl) ?_
      | refine AL.move (.inr (by rfl)) (by rfl) (by rfl) ?_
      | refine AL.fieldAddr tyOk (by rfl) (by rfl) (by rfl) (by rfl) (by rfl) (by rfl) ?_
      | refine AL.load1 tyOk (by rfl) (by rfl) (by rfl) (by rfl) (by rfl) (by rfl) (by rfl) (by first | exact Nat.le_of_ble_eq_true rfl | (dsimp only; omega) | omega | assumption) (by first | exact Nat.le_of_ble_eq_true rfl | (dsimp only; omega) | omega | assumption) (by rfl) ?_
      | refine AL.loadAggE tyOk (by rfl) (by rfl) (by rfl) (by rfl) (by rfl) (by rfl) (by rfl) (by first | exact Nat.le_of_ble_eq_true rfl | (dsimp only; omega) | omega | assumption) (by first | exact Nat.le_of_ble_eq_true rfl | (dsimp only; omega) | omega | assumption) (by rfl) ?_
      | refine AL.stor tyOk (by rfl) (by rfl) (by rfl) (by rfl) (by rfl) (by rfl) (by rfl) (by rfl) (by rfl) (by first | exact Nat.le_of_ble_eq_true rfl | (dsimp only; omega) | omega | assumption) (by first | exact Nat.le_of_ble_eq_true rfl | (dsimp only; omega) | omega | assumption) ?_
      | refine AL.len (ty := 0) tyOk (by rfl) (by rfl) (by rfl) (by rfl) (by rfl) ?_
      | refine AL.add (by rfl) (by rfl) (by rfl) (by rfl) (by rfl) (by constructor <;> omega) ?_
      | refine AL.sub (by rfl) (by rfl) (by rfl) (by rfl) (by rfl) (by constructor <;> omega) ?_
      | refine AL.mul (by rfl) (by rfl) (by rfl) (by rfl) (by rfl) (by constructor <;> omega) ?_
      | refine AL.int2 (by rfl) (by rfl) (by rfl) (by rfl) (by rfl) (by rfl) (by first | trivial | decide | omega) ?_
      | refine AL.bEq (by rfl) (by rfl) (by rfl) (by rfl) (by rfl) Try.underlying4 ?_
      | refine AL.bNe (by rfl) (by rfl) (by rfl) (by rfl) (by rfl) Try.underlying4 ?_
      | refine AL.not (by rfl) (by rfl) (by rfl) (by rfl) ?_
      | refine AL.gOnE (by rfl) (by rfl) (by rfl) (by rfl) (by decide) (by first | rfl | assumption) ?_
      | refine AL.gOffE (by rfl) (by rfl) (by rfl) (by rfl) (by rfl) (by decide) (by first | rfl | assumption) ?_
      | refine AL.pickE (b' := true) (by rfl) (by rfl) (by rfl) (by rfl) (by first | rfl | assumption) ?_
      | refine AL.pickE (b' := false) (by rfl) (by rfl) (by rfl) (by rfl) (by first | rfl | assumption) ?_
      | refine AL.extract (by rfl) (by rfl) (by rfl) (by rfl) (by rfl) ?_
      | refine AL.boxD tyOk (by rfl) (by rfl) (by rfl) (Nat.le_of_ble_eq_true rfl) (by rfl) (by rfl) (by rfl) (by decide) (by rfl) ?_
      | refine AL.allocD tyOk (by rfl) (by rfl) (by rfl) (Nat.le_of_ble_eq_true rfl) (by rfl) (by rfl) (by decide) (by rfl) ?_
      | refine AL.indexN tyOk (by rfl) (by rfl) (by rfl) (by rfl) (by rfl) (by rfl) (by rfl) (by rfl) (by first | rfl | exact (Int.toNat_of_nonneg (by omega)).symm) (by omega) ?_
      | refine AL.indexSl tyOk (by rfl) (by rfl) (by rfl) (by rfl) (by rfl) (by rfl) (by rfl) (by rfl) (by constructor <;> omega) ?_
      | refine AL.indexArr tyOk (by rfl) (by rfl) (by rfl) (by rfl) (by rfl) (by rfl) (by constructor <;> omega) ?_
      | refine AL.makeD tyOk _ (by rfl) (by rfl) (by rfl) (Nat.le_of_ble_eq_true rfl) (by rfl) (by rfl) (by rfl) (by rfl) (by rfl) (by rfl) (by rfl) (by omega) (by omega) (by decide) (by rfl) ?_
      | refine AL.build (qs := []) tyOk (by rfl) (by rfl) (by rfl) (by rfl) (by rfl) (by exact PartsOk.nil) (by rfl) ?_
      | refine AL.build (qs := [(_, _)]) tyOk (by rfl) (by rfl) (by rfl) (by rfl) (by rfl) (by exact PartsOk.cons (by rfl) (by rfl) PartsOk.nil) (by rfl) ?_
      | refine AL.build (qs := [(_, _), (_, _)]) tyOk (by rfl) (by rfl) (by rfl) (by rfl) (by rfl) (by exact PartsOk.cons (by rfl) (by rfl) (PartsOk.cons (by rfl) (by rfl) PartsOk.nil)) (by rfl) ?_
      | refine AL.nilCheck (by rfl) (by rfl) (by rfl) (by rfl) ?_) | (first
          | refine AC.region ?_
          | refine AC.seq ?_
          | refine AC.block ?_
          | refine AC.ret ?_
          | refine AC.exit ?_
          | refine AC.skip ?_))
  refine AL.gSplit (by rfl) (by rfl) (by rfl) (by rfl) (by rfl) (Nat.le_of_ble_eq_true rfl) (fun h1 => ?_) (fun h1 => ?_)
  · repeat (first | (first
      | refine AL.nil ?_
      | refine AL.move (.inl (by rfl)) (by rfl) (by rfl) ?_
      | refine AL.move (.inr (by rfl)) (by rfl) (by rfl) ?_
      | refine AL.fieldAddr tyOk (by rfl) (by rfl) (by rfl) (by rfl) (by rfl) (by rfl) ?_
      | refine AL.load1 tyOk (by rfl) (by rfl) (by rfl) (by rfl) (by rfl) (by rfl) (by rfl) (by first | exact Nat.le_of_ble_eq_true rfl | (dsimp only; omega) | omega | assumption) (by first | exact Nat.le_of_ble_eq_true rfl | (dsimp only; omega) | omega | assumption) (by rfl) ?_
      | refine AL.loadAggE tyOk (by rfl) (by rfl) (by rfl) (by rfl) (by rfl) (by rfl) (by rfl) (by first | exact Nat.le_of_ble_eq_true rfl | (dsimp only; omega) | omega | assumption) (by first | exact Nat.le_of_ble_eq_true rfl | (dsimp only; omega) | omega | assumption) (by rfl) ?_
      | refine AL.stor tyOk (by rfl) (by rfl) (by rfl) (by rfl) (by rfl) (by rfl) (by rfl) (by rfl) (by rfl) (by first | exact Nat.le_of_ble_eq_true rfl | (dsimp only; omega) | omega | assumption) (by first | exact Nat.le_of_ble_eq_true rfl | (dsimp only; omega) | omega | assumption) ?_
      | refine AL.len (ty := 0) tyOk (by rfl) (by rfl) (by rfl) (by rfl) (by rfl) ?_
      | refine AL.add (by rfl) (by rfl) (by rfl) (by rfl) (by rfl) (by constructor <;> omega) ?_
      | refine AL.sub (by rfl) (by rfl) (by rfl) (by rfl) (by rfl) (by constructor <;> omega) ?_
      | refine AL.mul (by rfl) (by rfl) (by rfl) (by rfl) (by rfl) (by constructor <;> omega) ?_
      | refine AL.int2 (by rfl) (by rfl) (by rfl) (by rfl) (by rfl) (by rfl) (by first | trivial | decide | omega) ?_
      | refine AL.bEq (by rfl) (by rfl) (by rfl) (by rfl) (by rfl) Try.underlying4 ?_
      | refine AL.bNe (by rfl) (by rfl) (by rfl) (by rfl) (by rfl) Try.underlying4 ?_
      | refine AL.not (by rfl) (by rfl) (by rfl) (by rfl) ?_
      | refine AL.gOnE (by rfl) (by rfl) (by rfl) (by rfl) (by decide) (by first | rfl | assumption) ?_
      | refine AL.gOffE (by rfl) (by rfl) (by rfl) (by rfl) (by rfl) (by decide) (by first | rfl | assumption) ?_
      | refine AL.pickE (b' := true) (by rfl) (by rfl) (by rfl) (by rfl) (by first | rfl | assumption) ?_
      | refine AL.pickE (b' := false) (by rfl) (by rfl) (by rfl) (by rfl) (by first | rfl | assumption) ?_
      | refine AL.extract (by rfl) (by rfl) (by rfl) (by rfl) (by rfl) ?_
      | refine AL.boxD tyOk (by rfl) (by rfl) (by rfl) (Nat.le_of_ble_eq_true rfl) (by rfl) (by rfl) (by rfl) (by decide) (by rfl) ?_
      | refine AL.allocD tyOk (by rfl) (by rfl) (by rfl) (Nat.le_of_ble_eq_true rfl) (by rfl) (by rfl) (by decide) (by rfl) ?_
      | refine AL.indexN tyOk (by rfl) (by rfl) (by rfl) (by rfl) (by rfl) (by rfl) (by rfl) (by rfl) (by first | rfl | exact (Int.toNat_of_nonneg (by omega)).symm) (by omega) ?_
      | refine AL.indexSl tyOk (by rfl) (by rfl) (by rfl) (by rfl) (by rfl) (by rfl) (by rfl) (by rfl) (by constructor <;> omega) ?_
      | refine AL.indexArr tyOk (by rfl) (by rfl) (by rfl) (by rfl) (by rfl) (by rfl) (by constructor <;> omega) ?_
      | refine AL.makeD tyOk _ (by rfl) (by rfl) (by rfl) (Nat.le_of_ble_eq_true rfl) (by rfl) (by rfl) (by rfl) (by rfl) (by rfl) (by rfl) (by rfl) (by omega) (by omega) (by decide) (by rfl) ?_
      | refine AL.build (qs := []) tyOk (by rfl) (by rfl) (by rfl) (by rfl) (by rfl) (by exact PartsOk.nil) (by rfl) ?_
      | refine AL.build (qs := [(_, _)]) tyOk (by rfl) (by rfl) (by rfl) (by rfl) (by rfl) (by exact PartsOk.cons (by rfl) (by rfl) PartsOk.nil) (by rfl) ?_
      | refine AL.build (qs := [(_, _), (_, _)]) tyOk (by rfl) (by rfl) (by rfl) (by rfl) (by rfl) (by exact PartsOk.cons (by rfl) (by rfl) (PartsOk.cons (by rfl) (by rfl) PartsOk.nil)) (by rfl) ?_
      | refine AL.nilCheck (by rfl) (by rfl) (by rfl) (by rfl) ?_) | (first
          | refine AC.region ?_
          | refine AC.seq ?_
          | refine AC.block ?_
          | refine AC.ret ?_
          | refine AC.exit ?_
          | refine AC.skip ?_))
    refine And.intro (by first | exact .inr rfl | exact .inl rfl) (And.intro (by repeat (first | exact trivial | exact Nat.le_of_ble_eq_true rfl | rfl | exact ⟨_, rfl, rfl, Nat.le_refl _, rfl⟩ | refine And.intro ?_ ?_)) (And.intro (by rfl) (And.intro (by rfl) (And.intro (by repeat (first | exact trivial | exact Nat.le_of_ble_eq_true rfl | rfl | exact ⟨_, rfl, rfl, Nat.le_refl _, rfl⟩ | refine And.intro ?_ ?_)) (And.intro (by repeat (first | exact trivial | exact Nat.le_of_ble_eq_true rfl | rfl | exact ⟨_, rfl, rfl, Nat.le_refl _, rfl⟩ | refine And.intro ?_ ?_)) ?_)))))
    exact ⟨_, rfl, (by simp at h1 ⊢; omega), rfl⟩
  · repeat (first | (first
      | refine AL.nil ?_
      | refine AL.move (.inl (by rfl)) (by rfl) (by rfl) ?_
      | refine AL.move (.inr (by rfl)) (by rfl) (by rfl) ?_
      | refine AL.fieldAddr tyOk (by rfl) (by rfl) (by rfl) (by rfl) (by rfl) (by rfl) ?_
      | refine AL.load1 tyOk (by rfl) (by rfl) (by rfl) (by rfl) (by rfl) (by rfl) (by rfl) (by first | exact Nat.le_of_ble_eq_true rfl | (dsimp only; omega) | omega | assumption) (by first | exact Nat.le_of_ble_eq_true rfl | (dsimp only; omega) | omega | assumption) (by rfl) ?_
      | refine AL.loadAggE tyOk (by rfl) (by rfl) (by rfl) (by rfl) (by rfl) (by rfl) (by rfl) (by first | exact Nat.le_of_ble_eq_true rfl | (dsimp only; omega) | omega | assumption) (by first | exact Nat.le_of_ble_eq_true rfl | (dsimp only; omega) | omega | assumption) (by rfl) ?_
      | refine AL.stor tyOk (by rfl) (by rfl) (by rfl) (by rfl) (by rfl) (by rfl) (by rfl) (by rfl) (by rfl) (by first | exact Nat.le_of_ble_eq_true rfl | (dsimp only; omega) | omega | assumption) (by first | exact Nat.le_of_ble_eq_true rfl | (dsimp only; omega) | omega | assumption) ?_
      | refine AL.len (ty := 0) tyOk (by rfl) (by rfl) (by rfl) (by rfl) (by rfl) ?_
      | refine AL.add (by rfl) (by rfl) (by rfl) (by rfl) (by rfl) (by constructor <;> omega) ?_
      | refine AL.sub (by rfl) (by rfl) (by rfl) (by rfl) (by rfl) (by constructor <;> omega) ?_
      | refine AL.mul (by rfl) (by rfl) (by rfl) (by rfl) (by rfl) (by constructor <;> omega) ?_
      | refine AL.int2 (by rfl) (by rfl) (by rfl) (by rfl) (by rfl) (by rfl) (by first | trivial | decide | omega) ?_
      | refine AL.bEq (by rfl) (by rfl) (by rfl) (by rfl) (by rfl) Try.underlying4 ?_
      | refine AL.bNe (by rfl) (by rfl) (by rfl) (by rfl) (by rfl) Try.underlying4 ?_
      | refine AL.not (by rfl) (by rfl) (by rfl) (by rfl) ?_
      | refine AL.gOnE (by rfl) (by rfl) (by rfl) (by rfl) (by decide) (by first | rfl | assumption) ?_
      | refine AL.gOffE (by rfl) (by rfl) (by rfl) (by rfl) (by rfl) (by decide) (by first | rfl | assumption) ?_
      | refine AL.pickE (b' := true) (by rfl) (by rfl) (by rfl) (by rfl) (by first | rfl | assumption) ?_
      | refine AL.pickE (b' := false) (by rfl) (by rfl) (by rfl) (by rfl) (by first | rfl | assumption) ?_
      | refine AL.extract (by rfl) (by rfl) (by rfl) (by rfl) (by rfl) ?_
      | refine AL.boxD tyOk (by rfl) (by rfl) (by rfl) (Nat.le_of_ble_eq_true rfl) (by rfl) (by rfl) (by rfl) (by decide) (by rfl) ?_
      | refine AL.allocD tyOk (by rfl) (by rfl) (by rfl) (Nat.le_of_ble_eq_true rfl) (by rfl) (by rfl) (by decide) (by rfl) ?_
      | refine AL.indexN tyOk (by rfl) (by rfl) (by rfl) (by rfl) (by rfl) (by rfl) (by rfl) (by rfl) (by first | rfl | exact (Int.toNat_of_nonneg (by omega)).symm) (by omega) ?_
      | refine AL.indexSl tyOk (by rfl) (by rfl) (by rfl) (by rfl) (by rfl) (by rfl) (by rfl) (by rfl) (by constructor <;> omega) ?_
      | refine AL.indexArr tyOk (by rfl) (by rfl) (by rfl) (by rfl) (by rfl) (by rfl) (by constructor <;> omega) ?_
      | refine AL.makeD tyOk _ (by rfl) (by rfl) (by rfl) (Nat.le_of_ble_eq_true rfl) (by rfl) (by rfl) (by rfl) (by rfl) (by rfl) (by rfl) (by rfl) (by omega) (by omega) (by decide) (by rfl) ?_
      | refine AL.build (qs := []) tyOk (by rfl) (by rfl) (by rfl) (by rfl) (by rfl) (by exact PartsOk.nil) (by rfl) ?_
      | refine AL.build (qs := [(_, _)]) tyOk (by rfl) (by rfl) (by rfl) (by rfl) (by rfl) (by exact PartsOk.cons (by rfl) (by rfl) PartsOk.nil) (by rfl) ?_
      | refine AL.build (qs := [(_, _), (_, _)]) tyOk (by rfl) (by rfl) (by rfl) (by rfl) (by rfl) (by exact PartsOk.cons (by rfl) (by rfl) (PartsOk.cons (by rfl) (by rfl) PartsOk.nil)) (by rfl) ?_
      | refine AL.nilCheck (by rfl) (by rfl) (by rfl) (by rfl) ?_) | (first
          | refine AC.region ?_
          | refine AC.seq ?_
          | refine AC.block ?_
          | refine AC.ret ?_
          | refine AC.exit ?_
          | refine AC.skip ?_))
    refine And.intro (by first | exact .inr rfl | exact .inl rfl) (And.intro (by repeat (first | exact trivial | exact Nat.le_of_ble_eq_true rfl | rfl | exact ⟨_, rfl, rfl, Nat.le_refl _, rfl⟩ | refine And.intro ?_ ?_)) (And.intro (by rfl) (And.intro (by rfl) (And.intro (by repeat (first | exact trivial | exact Nat.le_of_ble_eq_true rfl | rfl | exact ⟨_, rfl, rfl, Nat.le_refl _, rfl⟩ | refine And.intro ?_ ?_)) (And.intro (by repeat (first | exact trivial | exact Nat.le_of_ble_eq_true rfl | rfl | exact ⟨_, rfl, rfl, Nat.le_refl _, rfl⟩ | refine And.intro ?_ ?_)) ?_)))))
    exact ⟨_, rfl, (by simp at h1 ⊢; omega), rfl⟩
theorem workerOk_run (x : Int) : Run Try.prog 62 [.one (.c (.lit (.int .i64 x)))] [] fun outs ext => ∃ z : Bool, outs = [.one (.lit (.bool z))] ∧ (z = true ↔ 0 ≤ x ∧ x ≤ 2) ∧ ext = [] := by
  refine Run.of_body tyOk Try.func62 (by rfl) (Nat.le_of_ble_eq_true rfl) (by simp [argsOk, aasOk, aaOk]) [] rfl (fun F hF => ?_)
  repeat (first | (first
      | refine AL.nil ?_
      | refine AL.move (.inl (by rfl)) (by rfl) (by rfl) ?_
      | refine AL.move (.inr (by rfl)) (by rfl) (by rfl) ?_
      | refine AL.fieldAddr tyOk (by rfl) (by rfl) (by rfl) (by rfl) (by rfl) (by rfl) ?_
      | refine AL.load1 tyOk (by rfl) (by rfl) (by rfl) (by rfl) (by rfl) (by rfl) (by rfl) (by first | exact Nat.le_of_ble_eq_true rfl | (dsimp only; omega) | omega | assumption) (by first | exact Nat.le_of_ble_eq_true rfl | (dsimp only; omega) | omega | assumption) (by rfl) ?_
      | refine AL.loadAggE tyOk (by rfl) (by rfl) (by rfl) (by rfl) (by rfl) (by rfl) (by rfl) (by first | exact Nat.le_of_ble_eq_true rfl | (dsimp only; omega) | omega | assumption) (by first | exact Nat.le_of_ble_eq_true rfl | (dsimp only; omega) | omega | assumption) (by rfl) ?_
      | refine AL.stor tyOk (by rfl) (by rfl) (by rfl) (by rfl) (by rfl) (by rfl) (by rfl) (by rfl) (by rfl) (by first | exact Nat.le_of_ble_eq_true rfl | (dsimp only; omega) | omega | assumption) (by first | exact Nat.le_of_ble_eq_true rfl | (dsimp only; omega) | omega | assumption) ?_
      | refine AL.len (ty := 0) tyOk (by rfl) (by rfl) (by rfl) (by rfl) (by rfl) ?_
      | refine AL.add (by rfl) (by rfl) (by rfl) (by rfl) (by rfl) (by constructor <;> omega) ?_
      | refine AL.sub (by rfl) (by rfl) (by rfl) (by rfl) (by rfl) (by constructor <;> omega) ?_
      | refine AL.mul (by rfl) (by rfl) (by rfl) (by rfl) (by rfl) (by constructor <;> omega) ?_
      | refine AL.int2 (by rfl) (by rfl) (by rfl) (by rfl) (by rfl) (by rfl) (by first | trivial | decide | omega) ?_
      | refine AL.bEq (by rfl) (by rfl) (by rfl) (by rfl) (by rfl) Try.underlying4 ?_
      | refine AL.bNe (by rfl) (by rfl) (by rfl) (by rfl) (by rfl) Try.underlying4 ?_
      | refine AL.not (by rfl) (by rfl) (by rfl) (by rfl) ?_
      | refine AL.gOnE (by rfl) (by rfl) (by rfl) (by rfl) (by decide) (by first | rfl | assumption) ?_
      | refine AL.gOffE (by rfl) (by rfl) (by rfl) (by rfl) (by rfl) (by decide) (by first | rfl | assumption) ?_
      | refine AL.pickE (b' := true) (by rfl) (by rfl) (by rfl) (by rfl) (by first | rfl | assumption) ?_
      | refine AL.pickE (b' := false) (by rfl) (by rfl) (by rfl) (by rfl) (by first | rfl | assumption) ?_
      | refine AL.extract (by rfl) (by rfl) (by rfl) (by rfl) (by rfl) ?_
      | refine AL.boxD tyOk (by rfl) (by rfl) (by rfl) (Nat.le_of_ble_eq_true rfl) (by rfl) (by rfl) (by rfl) (by decide) (by rfl) ?_
      | refine AL.allocD tyOk (by rfl) (by rfl) (by rfl) (Nat.le_of_ble_eq_true rfl) (by rfl) (by rfl) (by decide) (by rfl) ?_
      | refine AL.indexN tyOk (by rfl) (by rfl) (by rfl) (by rfl) (by rfl) (by rfl) (by rfl) (by rfl) (by first | rfl | exact (Int.toNat_of_nonneg (by omega)).symm) (by omega) ?_
      | refine AL.indexSl tyOk (by rfl) (by rfl) (by rfl) (by rfl) (by rfl) (by rfl) (by rfl) (by rfl) (by constructor <;> omega) ?_
      | refine AL.indexArr tyOk (by rfl) (by rfl) (by rfl) (by rfl) (by rfl) (by rfl) (by constructor <;> omega) ?_
      | refine AL.makeD tyOk _ (by rfl) (by rfl) (by rfl) (Nat.le_of_ble_eq_true rfl) (by rfl) (by rfl) (by rfl) (by rfl) (by rfl) (by rfl) (by rfl) (by omega) (by omega) (by decide) (by rfl) ?_
      | refine AL.build (qs := []) tyOk (by rfl) (by rfl) (by rfl) (by rfl) (by rfl) (by exact PartsOk.nil) (by rfl) ?_
      | refine AL.build (qs := [(_, _)]) tyOk (by rfl) (by rfl) (by rfl) (by rfl) (by rfl) (by exact PartsOk.cons (by rfl) (by rfl) PartsOk.nil) (by rfl) ?_
      | refine AL.build (qs := [(_, _), (_, _)]) tyOk (by rfl) (by rfl) (by rfl) (by rfl) (by rfl) (by exact PartsOk.cons (by rfl) (by rfl) (PartsOk.cons (by rfl) (by rfl) PartsOk.nil)) (by rfl) ?_
      | refine AL.nilCheck (by rfl) (by rfl) (by rfl) (by rfl) ?_) | (first
          | refine AC.region ?_
          | refine AC.seq ?_
          | refine AC.block ?_
          | refine AC.ret ?_
          | refine AC.exit ?_
          | refine AC.skip ?_))
  refine AL.gSplit (by rfl) (by rfl) (by rfl) (by rfl) (by rfl) (Nat.le_of_ble_eq_true rfl) (fun h1 => ?_) (fun h1 => ?_)
  · repeat (first | (first
      | refine AL.nil ?_
      | refine AL.move (.inl (by rfl)) (by rfl) (by rfl) ?_
      | refine AL.move (.inr (by rfl)) (by rfl) (by rfl) ?_
      | refine AL.fieldAddr tyOk (by rfl) (by rfl) (by rfl) (by rfl) (by rfl) (by rfl) ?_
      | refine AL.load1 tyOk (by rfl) (by rfl) (by rfl) (by rfl) (by rfl) (by rfl) (by rfl) (by first | exact Nat.le_of_ble_eq_true rfl | (dsimp only; omega) | omega | assumption) (by first | exact Nat.le_of_ble_eq_true rfl | (dsimp only; omega) | omega | assumption) (by rfl) ?_
      | refine AL.loadAggE tyOk (by rfl) (by rfl) (by rfl) (by rfl) (by rfl) (by rfl) (by rfl) (by first | exact Nat.le_of_ble_eq_true rfl | (dsimp only; omega) | omega | assumption) (by first | exact Nat.le_of_ble_eq_true rfl | (dsimp only; omega) | omega | assumption) (by rfl) ?_
      | refine AL.stor tyOk (by rfl) (by rfl) (by rfl) (by rfl) (by rfl) (by rfl) (by rfl) (by rfl) (by rfl) (by first | exact Nat.le_of_ble_eq_true rfl | (dsimp only; omega) | omega | assumption) (by first | exact Nat.le_of_ble_eq_true rfl | (dsimp only; omega) | omega | assumption) ?_
      | refine AL.len (ty := 0) tyOk (by rfl) (by rfl) (by rfl) (by rfl) (by rfl) ?_
      | refine AL.add (by rfl) (by rfl) (by rfl) (by rfl) (by rfl) (by constructor <;> omega) ?_
      | refine AL.sub (by rfl) (by rfl) (by rfl) (by rfl) (by rfl) (by constructor <;> omega) ?_
      | refine AL.mul (by rfl) (by rfl) (by rfl) (by rfl) (by rfl) (by constructor <;> omega) ?_
      | refine AL.int2 (by rfl) (by rfl) (by rfl) (by rfl) (by rfl) (by rfl) (by first | trivial | decide | omega) ?_
      | refine AL.bEq (by rfl) (by rfl) (by rfl) (by rfl) (by rfl) Try.underlying4 ?_
      | refine AL.bNe (by rfl) (by rfl) (by rfl) (by rfl) (by rfl) Try.underlying4 ?_
      | refine AL.not (by rfl) (by rfl) (by rfl) (by rfl) ?_
      | refine AL.gOnE (by rfl) (by rfl) (by rfl) (by rfl) (by decide) (by first | rfl | assumption) ?_
      | refine AL.gOffE (by rfl) (by rfl) (by rfl) (by rfl) (by rfl) (by decide) (by first | rfl | assumption) ?_
      | refine AL.pickE (b' := true) (by rfl) (by rfl) (by rfl) (by rfl) (by first | rfl | assumption) ?_
      | refine AL.pickE (b' := false) (by rfl) (by rfl) (by rfl) (by rfl) (by first | rfl | assumption) ?_
      | refine AL.extract (by rfl) (by rfl) (by rfl) (by rfl) (by rfl) ?_
      | refine AL.boxD tyOk (by rfl) (by rfl) (by rfl) (Nat.le_of_ble_eq_true rfl) (by rfl) (by rfl) (by rfl) (by decide) (by rfl) ?_
      | refine AL.allocD tyOk (by rfl) (by rfl) (by rfl) (Nat.le_of_ble_eq_true rfl) (by rfl) (by rfl) (by decide) (by rfl) ?_
      | refine AL.indexN tyOk (by rfl) (by rfl) (by rfl) (by rfl) (by rfl) (by rfl) (by rfl) (by rfl) (by first | rfl | exact (Int.toNat_of_nonneg (by omega)).symm) (by omega) ?_
      | refine AL.indexSl tyOk (by rfl) (by rfl) (by rfl) (by rfl) (by rfl) (by rfl) (by rfl) (by rfl) (by constructor <;> omega) ?_
      | refine AL.indexArr tyOk (by rfl) (by rfl) (by rfl) (by rfl) (by rfl) (by rfl) (by constructor <;> omega) ?_
      | refine AL.makeD tyOk _ (by rfl) (by rfl) (by rfl) (Nat.le_of_ble_eq_true rfl) (by rfl) (by rfl) (by rfl) (by rfl) (by rfl) (by rfl) (by rfl) (by omega) (by omega) (by decide) (by rfl) ?_
      | refine AL.build (qs := []) tyOk (by rfl) (by rfl) (by rfl) (by rfl) (by rfl) (by exact PartsOk.nil) (by rfl) ?_
      | refine AL.build (qs := [(_, _)]) tyOk (by rfl) (by rfl) (by rfl) (by rfl) (by rfl) (by exact PartsOk.cons (by rfl) (by rfl) PartsOk.nil) (by rfl) ?_
      | refine AL.build (qs := [(_, _), (_, _)]) tyOk (by rfl) (by rfl) (by rfl) (by rfl) (by rfl) (by exact PartsOk.cons (by rfl) (by rfl) (PartsOk.cons (by rfl) (by rfl) PartsOk.nil)) (by rfl) ?_
      | refine AL.nilCheck (by rfl) (by rfl) (by rfl) (by rfl) ?_) | (first
          | refine AC.region ?_
          | refine AC.seq ?_
          | refine AC.block ?_
          | refine AC.ret ?_
          | refine AC.exit ?_
          | refine AC.skip ?_))
    refine And.intro (by first | exact .inr rfl | exact .inl rfl) (And.intro (by repeat (first | exact trivial | exact Nat.le_of_ble_eq_true rfl | rfl | exact ⟨_, rfl, rfl, Nat.le_refl _, rfl⟩ | refine And.intro ?_ ?_)) (And.intro (by rfl) (And.intro (by rfl) (And.intro (by repeat (first | exact trivial | exact Nat.le_of_ble_eq_true rfl | rfl | exact ⟨_, rfl, rfl, Nat.le_refl _, rfl⟩ | refine And.intro ?_ ?_)) (And.intro (by repeat (first | exact trivial | exact Nat.le_of_ble_eq_true rfl | rfl | exact ⟨_, rfl, rfl, Nat.le_refl _, rfl⟩ | refine And.intro ?_ ?_)) ?_)))))
    exact ⟨_, rfl, (by simp at h1 ⊢; omega), rfl⟩
  · repeat (first | (first
      | refine AL.nil ?_
      | refine AL.move (.inl (by rfl)) (by rfl) (by rfl) ?_
      | refine AL.move (.inr (by rfl)) (by rfl) (by rfl) ?_
      | refine AL.fieldAddr tyOk (by rfl) (by rfl) (by rfl) (by rfl) (by rfl) (by rfl) ?_
      | refine AL.load1 tyOk (by rfl) (by rfl) (by rfl) (by rfl) (by rfl) (by rfl) (by rfl) (by first | exact Nat.le_of_ble_eq_true rfl | (dsimp only; omega) | omega | assumption) (by first | exact Nat.le_of_ble_eq_true rfl | (dsimp only; omega) | omega | assumption) (by rfl) ?_
      | refine AL.loadAggE tyOk (by rfl) (by rfl) (by rfl) (by rfl) (by rfl) (by rfl) (by rfl) (by first | exact Nat.le_of_ble_eq_true rfl | (dsimp only; omega) | omega | assumption) (by first | exact Nat.le_of_ble_eq_true rfl | (dsimp only; omega) | omega | assumption) (by rfl) ?_
      | refine AL.stor tyOk (by rfl) (by rfl) (by rfl) (by rfl) (by rfl) (by rfl) (by rfl) (by rfl) (by rfl) (by first | exact Nat.le_of_ble_eq_true rfl | (dsimp only; omega) | omega | assumption) (by first | exact Nat.le_of_ble_eq_true rfl | (dsimp only; omega) | omega | assumption) ?_
      | refine AL.len (ty := 0) tyOk (by rfl) (by rfl) (by rfl) (by rfl) (by rfl) ?_
      | refine AL.add (by rfl) (by rfl) (by rfl) (by rfl) (by rfl) (by constructor <;> omega) ?_
      | refine AL.sub (by rfl) (by rfl) (by rfl) (by rfl) (by rfl) (by constructor <;> omega) ?_
      | refine AL.mul (by rfl) (by rfl) (by rfl) (by rfl) (by rfl) (by constructor <;> omega) ?_
      | refine AL.int2 (by rfl) (by rfl) (by rfl) (by rfl) (by rfl) (by rfl) (by first | trivial | decide | omega) ?_
      | refine AL.bEq (by rfl) (by rfl) (by rfl) (by rfl) (by rfl) Try.underlying4 ?_
      | refine AL.bNe (by rfl) (by rfl) (by rfl) (by rfl) (by rfl) Try.underlying4 ?_
      | refine AL.not (by rfl) (by rfl) (by rfl) (by rfl) ?_
      | refine AL.gOnE (by rfl) (by rfl) (by rfl) (by rfl) (by decide) (by first | rfl | assumption) ?_
      | refine AL.gOffE (by rfl) (by rfl) (by rfl) (by rfl) (by rfl) (by decide) (by first | rfl | assumption) ?_
      | refine AL.pickE (b' := true) (by rfl) (by rfl) (by rfl) (by rfl) (by first | rfl | assumption) ?_
      | refine AL.pickE (b' := false) (by rfl) (by rfl) (by rfl) (by rfl) (by first | rfl | assumption) ?_
      | refine AL.extract (by rfl) (by rfl) (by rfl) (by rfl) (by rfl) ?_
      | refine AL.boxD tyOk (by rfl) (by rfl) (by rfl) (Nat.le_of_ble_eq_true rfl) (by rfl) (by rfl) (by rfl) (by decide) (by rfl) ?_
      | refine AL.allocD tyOk (by rfl) (by rfl) (by rfl) (Nat.le_of_ble_eq_true rfl) (by rfl) (by rfl) (by decide) (by rfl) ?_
      | refine AL.indexN tyOk (by rfl) (by rfl) (by rfl) (by rfl) (by rfl) (by rfl) (by rfl) (by rfl) (by first | rfl | exact (Int.toNat_of_nonneg (by omega)).symm) (by omega) ?_
      | refine AL.indexSl tyOk (by rfl) (by rfl) (by rfl) (by rfl) (by rfl) (by rfl) (by rfl) (by rfl) (by constructor <;> omega) ?_
      | refine AL.indexArr tyOk (by rfl) (by rfl) (by rfl) (by rfl) (by rfl) (by rfl) (by constructor <;> omega) ?_
      | refine AL.makeD tyOk _ (by rfl) (by rfl) (by rfl) (Nat.le_of_ble_eq_true rfl) (by rfl) (by rfl) (by rfl) (by rfl) (by rfl) (by rfl) (by rfl) (by omega) (by omega) (by decide) (by rfl) ?_
      | refine AL.build (qs := []) tyOk (by rfl) (by rfl) (by rfl) (by rfl) (by rfl) (by exact PartsOk.nil) (by rfl) ?_
      | refine AL.build (qs := [(_, _)]) tyOk (by rfl) (by rfl) (by rfl) (by rfl) (by rfl) (by exact PartsOk.cons (by rfl) (by rfl) PartsOk.nil) (by rfl) ?_
      | refine AL.build (qs := [(_, _), (_, _)]) tyOk (by rfl) (by rfl) (by rfl) (by rfl) (by rfl) (by exact PartsOk.cons (by rfl) (by rfl) (PartsOk.cons (by rfl) (by rfl) PartsOk.nil)) (by rfl) ?_
      | refine AL.nilCheck (by rfl) (by rfl) (by rfl) (by rfl) ?_) | (first
          | refine AC.region ?_
          | refine AC.seq ?_
          | refine AC.block ?_
          | refine AC.ret ?_
          | refine AC.exit ?_
          | refine AC.skip ?_))
    refine And.intro (by first | exact .inr rfl | exact .inl rfl) (And.intro (by repeat (first | exact trivial | exact Nat.le_of_ble_eq_true rfl | rfl | exact ⟨_, rfl, rfl, Nat.le_refl _, rfl⟩ | refine And.intro ?_ ?_)) (And.intro (by rfl) (And.intro (by rfl) (And.intro (by repeat (first | exact trivial | exact Nat.le_of_ble_eq_true rfl | rfl | exact ⟨_, rfl, rfl, Nat.le_refl _, rfl⟩ | refine And.intro ?_ ?_)) (And.intro (by repeat (first | exact trivial | exact Nat.le_of_ble_eq_true rfl | rfl | exact ⟨_, rfl, rfl, Nat.le_refl _, rfl⟩ | refine And.intro ?_ ?_)) ?_)))))
    exact ⟨_, rfl, (by simp at h1 ⊢; omega), rfl⟩
theorem epochOk_run (x : Int) : Run Try.prog 58 [.one (.c (.lit (.int .i64 x)))] [] fun outs ext => ∃ z : Bool, outs = [.one (.lit (.bool z))] ∧ (z = true ↔ 0 ≤ x ∧ x ≤ 100000) ∧ ext = [] := by
  refine Run.of_body tyOk Try.func58 (by rfl) (Nat.le_of_ble_eq_true rfl) (by simp [argsOk, aasOk, aaOk]) [] rfl (fun F hF => ?_)
  repeat (first | (first
      | refine AL.nil ?_
      | refine AL.move (.inl (by rfl)) (by rfl) (by rfl) ?_
      | refine AL.move (.inr (by rfl)) (by rfl) (by rfl) ?_
      | refine AL.fieldAddr tyOk (by rfl) (by rfl) (by rfl) (by rfl) (by rfl) (by rfl) ?_
      | refine AL.load1 tyOk (by rfl) (by rfl) (by rfl) (by rfl) (by rfl) (by rfl) (by rfl) (by first | exact Nat.le_of_ble_eq_true rfl | (dsimp only; omega) | omega | assumption) (by first | exact Nat.le_of_ble_eq_true rfl | (dsimp only; omega) | omega | assumption) (by rfl) ?_
      | refine AL.loadAggE tyOk (by rfl) (by rfl) (by rfl) (by rfl) (by rfl) (by rfl) (by rfl) (by first | exact Nat.le_of_ble_eq_true rfl | (dsimp only; omega) | omega | assumption) (by first | exact Nat.le_of_ble_eq_true rfl | (dsimp only; omega) | omega | assumption) (by rfl) ?_
      | refine AL.stor tyOk (by rfl) (by rfl) (by rfl) (by rfl) (by rfl) (by rfl) (by rfl) (by rfl) (by rfl) (by first | exact Nat.le_of_ble_eq_true rfl | (dsimp only; omega) | omega | assumption) (by first | exact Nat.le_of_ble_eq_true rfl | (dsimp only; omega) | omega | assumption) ?_
      | refine AL.len (ty := 0) tyOk (by rfl) (by rfl) (by rfl) (by rfl) (by rfl) ?_
      | refine AL.add (by rfl) (by rfl) (by rfl) (by rfl) (by rfl) (by constructor <;> omega) ?_
      | refine AL.sub (by rfl) (by rfl) (by rfl) (by rfl) (by rfl) (by constructor <;> omega) ?_
      | refine AL.mul (by rfl) (by rfl) (by rfl) (by rfl) (by rfl) (by constructor <;> omega) ?_
      | refine AL.int2 (by rfl) (by rfl) (by rfl) (by rfl) (by rfl) (by rfl) (by first | trivial | decide | omega) ?_
      | refine AL.bEq (by rfl) (by rfl) (by rfl) (by rfl) (by rfl) Try.underlying4 ?_
      | refine AL.bNe (by rfl) (by rfl) (by rfl) (by rfl) (by rfl) Try.underlying4 ?_
      | refine AL.not (by rfl) (by rfl) (by rfl) (by rfl) ?_
      | refine AL.gOnE (by rfl) (by rfl) (by rfl) (by rfl) (by decide) (by first | rfl | assumption) ?_
      | refine AL.gOffE (by rfl) (by rfl) (by rfl) (by rfl) (by rfl) (by decide) (by first | rfl | assumption) ?_
      | refine AL.pickE (b' := true) (by rfl) (by rfl) (by rfl) (by rfl) (by first | rfl | assumption) ?_
      | refine AL.pickE (b' := false) (by rfl) (by rfl) (by rfl) (by rfl) (by first | rfl | assumption) ?_
      | refine AL.extract (by rfl) (by rfl) (by rfl) (by rfl) (by rfl) ?_
      | refine AL.boxD tyOk (by rfl) (by rfl) (by rfl) (Nat.le_of_ble_eq_true rfl) (by rfl) (by rfl) (by rfl) (by decide) (by rfl) ?_
      | refine AL.allocD tyOk (by rfl) (by rfl) (by rfl) (Nat.le_of_ble_eq_true rfl) (by rfl) (by rfl) (by decide) (by rfl) ?_
      | refine AL.indexN tyOk (by rfl) (by rfl) (by rfl) (by rfl) (by rfl) (by rfl) (by rfl) (by rfl) (by first | rfl | exact (Int.toNat_of_nonneg (by omega)).symm) (by omega) ?_
      | refine AL.indexSl tyOk (by rfl) (by rfl) (by rfl) (by rfl) (by rfl) (by rfl) (by rfl) (by rfl) (by constructor <;> omega) ?_
      | refine AL.indexArr tyOk (by rfl) (by rfl) (by rfl) (by rfl) (by rfl) (by rfl) (by constructor <;> omega) ?_
      | refine AL.makeD tyOk _ (by rfl) (by rfl) (by rfl) (Nat.le_of_ble_eq_true rfl) (by rfl) (by rfl) (by rfl) (by rfl) (by rfl) (by rfl) (by rfl) (by omega) (by omega) (by decide) (by rfl) ?_
      | refine AL.build (qs := []) tyOk (by rfl) (by rfl) (by rfl) (by rfl) (by rfl) (by exact PartsOk.nil) (by rfl) ?_
      | refine AL.build (qs := [(_, _)]) tyOk (by rfl) (by rfl) (by rfl) (by rfl) (by rfl) (by exact PartsOk.cons (by rfl) (by rfl) PartsOk.nil) (by rfl) ?_
      | refine AL.build (qs := [(_, _), (_, _)]) tyOk (by rfl) (by rfl) (by rfl) (by rfl) (by rfl) (by exact PartsOk.cons (by rfl) (by rfl) (PartsOk.cons (by rfl) (by rfl) PartsOk.nil)) (by rfl) ?_
      | refine AL.nilCheck (by rfl) (by rfl) (by rfl) (by rfl) ?_) | (first
          | refine AC.region ?_
          | refine AC.seq ?_
          | refine AC.block ?_
          | refine AC.ret ?_
          | refine AC.exit ?_
          | refine AC.skip ?_))
  refine AL.gSplit (by rfl) (by rfl) (by rfl) (by rfl) (by rfl) (Nat.le_of_ble_eq_true rfl) (fun h1 => ?_) (fun h1 => ?_)
  · repeat (first | (first
      | refine AL.nil ?_
      | refine AL.move (.inl (by rfl)) (by rfl) (by rfl) ?_
      | refine AL.move (.inr (by rfl)) (by rfl) (by rfl) ?_
      | refine AL.fieldAddr tyOk (by rfl) (by rfl) (by rfl) (by rfl) (by rfl) (by rfl) ?_
      | refine AL.load1 tyOk (by rfl) (by rfl) (by rfl) (by rfl) (by rfl) (by rfl) (by rfl) (by first | exact Nat.le_of_ble_eq_true rfl | (dsimp only; omega) | omega | assumption) (by first | exact Nat.le_of_ble_eq_true rfl | (dsimp only; omega) | omega | assumption) (by rfl) ?_
      | refine AL.loadAggE tyOk (by rfl) (by rfl) (by rfl) (by rfl) (by rfl) (by rfl) (by rfl) (by first | exact Nat.le_of_ble_eq_true rfl | (dsimp only; omega) | omega | assumption) (by first | exact Nat.le_of_ble_eq_true rfl | (dsimp only; omega) | omega | assumption) (by rfl) ?_
      | refine AL.stor tyOk (by rfl) (by rfl) (by rfl) (by rfl) (by rfl) (by rfl) (by rfl) (by rfl) (by rfl) (by first | exact Nat.le_of_ble_eq_true rfl | (dsimp only; omega) | omega | assumption) (by first | exact Nat.le_of_ble_eq_true rfl | (dsimp only; omega) | omega | assumption) ?_
      | refine AL.len (ty := 0) tyOk (by rfl) (by rfl) (by rfl) (by rfl) (by rfl) ?_
      | refine AL.add (by rfl) (by rfl) (by rfl) (by rfl) (by rfl) (by constructor <;> omega) ?_
      | refine AL.sub (by rfl) (by rfl) (by rfl) (by rfl) (by rfl) (by constructor <;> omega) ?_
      | refine AL.mul (by rfl) (by rfl) (by rfl) (by rfl) (by rfl) (by constructor <;> omega) ?_
      | refine AL.int2 (by rfl) (by rfl) (by rfl) (by rfl) (by rfl) (by rfl) (by first | trivial | decide | omega) ?_
      | refine AL.bEq (by rfl) (by rfl) (by rfl) (by rfl) (by rfl) Try.underlying4 ?_
      | refine AL.bNe (by rfl) (by rfl) (by rfl) (by rfl) (by rfl) Try.underlying4 ?_
      | refine AL.not (by rfl) (by rfl) (by rfl) (by rfl) ?_
      | refine AL.gOnE (by rfl) (by rfl) (by rfl) (by rfl) (by decide) (by first | rfl | assumption) ?_
      | refine AL.gOffE (by rfl) (by rfl) (by rfl) (by rfl) (by rfl) (by decide) (by first | rfl | assumption) ?_
      | refine AL.pickE (b' := true) (by rfl) (by rfl) (by rfl) (by rfl) (by first | rfl | assumption) ?_
      | refine AL.pickE (b' := false) (by rfl) (by rfl) (by rfl) (by rfl) (by first | rfl | assumption) ?_
      | refine AL.extract (by rfl) (by rfl) (by rfl) (by rfl) (by rfl) ?_
      | refine AL.boxD tyOk (by rfl) (by rfl) (by rfl) (Nat.le_of_ble_eq_true rfl) (by rfl) (by rfl) (by rfl) (by decide) (by rfl) ?_
      | refine AL.allocD tyOk (by rfl) (by rfl) (by rfl) (Nat.le_of_ble_eq_true rfl) (by rfl) (by rfl) (by decide) (by rfl) ?_
      | refine AL.indexN tyOk (by rfl) (by rfl) (by rfl) (by rfl) (by rfl) (by rfl) (by rfl) (by rfl) (by first | rfl | exact (Int.toNat_of_nonneg (by omega)).symm) (by omega) ?_
      | refine AL.indexSl tyOk (by rfl) (by rfl) (by rfl) (by rfl) (by rfl) (by rfl) (by rfl) (by rfl) (by constructor <;> omega) ?_
      | refine AL.indexArr tyOk (by rfl) (by rfl) (by rfl) (by rfl) (by rfl) (by rfl) (by constructor <;> omega) ?_
      | refine AL.makeD tyOk _ (by rfl) (by rfl) (by rfl) (Nat.le_of_ble_eq_true rfl) (by rfl) (by rfl) (by rfl) (by rfl) (by rfl) (by rfl) (by rfl) (by omega) (by omega) (by decide) (by rfl) ?_
      | refine AL.build (qs := []) tyOk (by rfl) (by rfl) (by rfl) (by rfl) (by rfl) (by exact PartsOk.nil) (by rfl) ?_
      | refine AL.build (qs := [(_, _)]) tyOk (by rfl) (by rfl) (by rfl) (by rfl) (by rfl) (by exact PartsOk.cons (by rfl) (by rfl) PartsOk.nil) (by rfl) ?_
      | refine AL.build (qs := [(_, _), (_, _)]) tyOk (by rfl) (by rfl) (by rfl) (by rfl) (by rfl) (by exact PartsOk.cons (by rfl) (by rfl) (PartsOk.cons (by rfl) (by rfl) PartsOk.nil)) (by rfl) ?_
      | refine AL.nilCheck (by rfl) (by rfl) (by rfl) (by rfl) ?_) | (first
          | refine AC.region ?_
          | refine AC.seq ?_
          | refine AC.block ?_
          | refine AC.ret ?_
          | refine AC.exit ?_
          | refine AC.skip ?_))
    refine And.intro (by first | exact .inr rfl | exact .inl rfl) (And.intro (by repeat (first | exact trivial | exact Nat.le_of_ble_eq_true rfl | rfl | exact ⟨_, rfl, rfl, Nat.le_refl _, rfl⟩ | refine And.intro ?_ ?_)) (And.intro (by rfl) (And.intro (by rfl) (And.intro (by repeat (first | exact trivial | exact Nat.le_of_ble_eq_true rfl | rfl | exact ⟨_, rfl, rfl, Nat.le_refl _, rfl⟩ | refine And.intro ?_ ?_)) (And.intro (by repeat (first | exact trivial | exact Nat.le_of_ble_eq_true rfl | rfl | exact ⟨_, rfl, rfl, Nat.le_refl _, rfl⟩ | refine And.intro ?_ ?_)) ?_)))))
    exact ⟨_, rfl, (by simp at h1 ⊢; omega), rfl⟩
  · repeat (first | (first
      | refine AL.nil ?_
      | refine AL.move (.inl (by rfl)) (by rfl) (by rfl) ?_
      | refine AL.move (.inr (by rfl)) (by rfl) (by rfl) ?_
      | refine AL.fieldAddr tyOk (by rfl) (by rfl) (by rfl) (by rfl) (by rfl) (by rfl) ?_
      | refine AL.load1 tyOk (by rfl) (by rfl) (by rfl) (by rfl) (by rfl) (by rfl) (by rfl) (by first | exact Nat.le_of_ble_eq_true rfl | (dsimp only; omega) | omega | assumption) (by first | exact Nat.le_of_ble_eq_true rfl | (dsimp only; omega) | omega | assumption) (by rfl) ?_
      | refine AL.loadAggE tyOk (by rfl) (by rfl) (by rfl) (by rfl) (by rfl) (by rfl) (by rfl) (by first | exact Nat.le_of_ble_eq_true rfl | (dsimp only; omega) | omega | assumption) (by first | exact Nat.le_of_ble_eq_true rfl | (dsimp only; omega) | omega | assumption) (by rfl) ?_
      | refine AL.stor tyOk (by rfl) (by rfl) (by rfl) (by rfl) (by rfl) (by rfl) (by rfl) (by rfl) (by rfl) (by first | exact Nat.le_of_ble_eq_true rfl | (dsimp only; omega) | omega | assumption) (by first | exact Nat.le_of_ble_eq_true rfl | (dsimp only; omega) | omega | assumption) ?_
      | refine AL.len (ty := 0) tyOk (by rfl) (by rfl) (by rfl) (by rfl) (by rfl) ?_
      | refine AL.add (by rfl) (by rfl) (by rfl) (by rfl) (by rfl) (by constructor <;> omega) ?_
      | refine AL.sub (by rfl) (by rfl) (by rfl) (by rfl) (by rfl) (by constructor <;> omega) ?_
      | refine AL.mul (by rfl) (by rfl) (by rfl) (by rfl) (by rfl) (by constructor <;> omega) ?_
      | refine AL.int2 (by rfl) (by rfl) (by rfl) (by rfl) (by rfl) (by rfl) (by first | trivial | decide | omega) ?_
      | refine AL.bEq (by rfl) (by rfl) (by rfl) (by rfl) (by rfl) Try.underlying4 ?_
      | refine AL.bNe (by rfl) (by rfl) (by rfl) (by rfl) (by rfl) Try.underlying4 ?_
      | refine AL.not (by rfl) (by rfl) (by rfl) (by rfl) ?_
      | refine AL.gOnE (by rfl) (by rfl) (by rfl) (by rfl) (by decide) (by first | rfl | assumption) ?_
      | refine AL.gOffE (by rfl) (by rfl) (by rfl) (by rfl) (by rfl) (by decide) (by first | rfl | assumption) ?_
      | refine AL.pickE (b' := true) (by rfl) (by rfl) (by rfl) (by rfl) (by first | rfl | assumption) ?_
      | refine AL.pickE (b' := false) (by rfl) (by rfl) (by rfl) (by rfl) (by first | rfl | assumption) ?_
      | refine AL.extract (by rfl) (by rfl) (by rfl) (by rfl) (by rfl) ?_
      | refine AL.boxD tyOk (by rfl) (by rfl) (by rfl) (Nat.le_of_ble_eq_true rfl) (by rfl) (by rfl) (by rfl) (by decide) (by rfl) ?_
      | refine AL.allocD tyOk (by rfl) (by rfl) (by rfl) (Nat.le_of_ble_eq_true rfl) (by rfl) (by rfl) (by decide) (by rfl) ?_
      | refine AL.indexN tyOk (by rfl) (by rfl) (by rfl) (by rfl) (by rfl) (by rfl) (by rfl) (by rfl) (by first | rfl | exact (Int.toNat_of_nonneg (by omega)).symm) (by omega) ?_
      | refine AL.indexSl tyOk (by rfl) (by rfl) (by rfl) (by rfl) (by rfl) (by rfl) (by rfl) (by rfl) (by constructor <;> omega) ?_
      | refine AL.indexArr tyOk (by rfl) (by rfl) (by rfl) (by rfl) (by rfl) (by rfl) (by constructor <;> omega) ?_
      | refine AL.makeD tyOk _ (by rfl) (by rfl) (by rfl) (Nat.le_of_ble_eq_true rfl) (by rfl) (by rfl) (by rfl) (by rfl) (by rfl) (by rfl) (by rfl) (by omega) (by omega) (by decide) (by rfl) ?_
      | refine AL.build (qs := []) tyOk (by rfl) (by rfl) (by rfl) (by rfl) (by rfl) (by exact PartsOk.nil) (by rfl) ?_
      | refine AL.build (qs := [(_, _)]) tyOk (by rfl) (by rfl) (by rfl) (by rfl) (by rfl) (by exact PartsOk.cons (by rfl) (by rfl) PartsOk.nil) (by rfl) ?_
      | refine AL.build (qs := [(_, _), (_, _)]) tyOk (by rfl) (by rfl) (by rfl) (by rfl) (by rfl) (by exact PartsOk.cons (by rfl) (by rfl) (PartsOk.cons (by rfl) (by rfl) PartsOk.nil)) (by rfl) ?_
      | refine AL.nilCheck (by rfl) (by rfl) (by rfl) (by rfl) ?_) | (first
          | refine AC.region ?_
          | refine AC.seq ?_
          | refine AC.block ?_
          | refine AC.ret ?_
          | refine AC.exit ?_
          | refine AC.skip ?_))
    refine And.intro (by first | exact .inr rfl | exact .inl rfl) (And.intro (by repeat (first | exact trivial | exact Nat.le_of_ble_eq_true rfl | rfl | exact ⟨_, rfl, rfl, Nat.le_refl _, rfl⟩ | refine And.intro ?_ ?_)) (And.intro (by rfl) (And.intro (by rfl) (And.intro (by repeat (first | exact trivial | exact Nat.le_of_ble_eq_true rfl | rfl | exact ⟨_, rfl, rfl, Nat.le_refl _, rfl⟩ | refine And.intro ?_ ?_)) (And.intro (by repeat (first | exact trivial | exact Nat.le_of_ble_eq_true rfl | rfl | exact ⟨_, rfl, rfl, Nat.le_refl _, rfl⟩ | refine And.intro ?_ ?_)) ?_)))))
    exact ⟨_, rfl, (by simp at h1 ⊢; omega), rfl⟩
theorem effective_run (p : Pn) : Run Try.prog 63 [.agg [.c (pinC p 0), .c (pinC p 1), .c (pinC p 2), .c (pinC p 3)]] [] fun outs ext => ∃ z : Bool, outs = [.one (.lit (.bool z))] ∧ (z = true ↔ p.1 = true ∧ p.2.2.1 = false) ∧ ext = [] := by
  refine Run.of_body tyOk Try.func63 (by rfl) (Nat.le_of_ble_eq_true rfl) (by simp [argsOk, aasOk, aaOk]) [] rfl (fun F hF => ?_)
  repeat (first | (first
      | refine AL.nil ?_
      | refine AL.move (.inl (by rfl)) (by rfl) (by rfl) ?_
      | refine AL.move (.inr (by rfl)) (by rfl) (by rfl) ?_
      | refine AL.fieldAddr tyOk (by rfl) (by rfl) (by rfl) (by rfl) (by rfl) (by rfl) ?_
      | refine AL.load1 tyOk (by rfl) (by rfl) (by rfl) (by rfl) (by rfl) (by rfl) (by rfl) (by first | exact Nat.le_of_ble_eq_true rfl | (dsimp only; omega) | omega | assumption) (by first | exact Nat.le_of_ble_eq_true rfl | (dsimp only; omega) | omega | assumption) (by rfl) ?_
      | refine AL.loadAggE tyOk (by rfl) (by rfl) (by rfl) (by rfl) (by rfl) (by rfl) (by rfl) (by first | exact Nat.le_of_ble_eq_true rfl | (dsimp only; omega) | omega | assumption) (by first | exact Nat.le_of_ble_eq_true rfl | (dsimp only; omega) | omega | assumption) (by rfl) ?_
      | refine AL.stor tyOk (by rfl) (by rfl) (by rfl) (by rfl) (by rfl) (by rfl) (by rfl) (by rfl) (by rfl) (by first | exact Nat.le_of_ble_eq_true rfl | (dsimp only; omega) | omega | assumption) (by first | exact Nat.le_of_ble_eq_true rfl | (dsimp only; omega) | omega | assumption) ?_
      | refine AL.len (ty := 0) tyOk (by rfl) (by rfl) (by rfl) (by rfl) (by rfl) ?_
      | refine AL.add (by rfl) (by rfl) (by rfl) (by rfl) (by rfl) (by constructor <;> omega) ?_
      | refine AL.sub (by rfl) (by rfl) (by rfl) (by rfl) (by rfl) (by constructor <;> omega) ?_
      | refine AL.mul (by rfl) (by rfl) (by rfl) (by rfl) (by rfl) (by constructor <;> omega) ?_
      | refine AL.int2 (by rfl) (by rfl) (by rfl) (by rfl) (by rfl) (by rfl) (by first | trivial | decide | omega) ?_
      | refine AL.bEq (by rfl) (by rfl) (by rfl) (by rfl) (by rfl) Try.underlying4 ?_
      | refine AL.bNe (by rfl) (by rfl) (by rfl) (by rfl) (by rfl) Try.underlying4 ?_
      | refine AL.not (by rfl) (by rfl) (by rfl) (by rfl) ?_
      | refine AL.gOnE (by rfl) (by rfl) (by rfl) (by rfl) (by decide) (by first | rfl | assumption) ?_
      | refine AL.gOffE (by rfl) (by rfl) (by rfl) (by rfl) (by rfl) (by decide) (by first | rfl | assumption) ?_
      | refine AL.pickE (b' := true) (by rfl) (by rfl) (by rfl) (by rfl) (by first | rfl | assumption) ?_
      | refine AL.pickE (b' := false) (by rfl) (by rfl) (by rfl) (by rfl) (by first | rfl | assumption) ?_
      | refine AL.extract (by rfl) (by rfl) (by rfl) (by rfl) (by rfl) ?_
      | refine AL.boxD tyOk (by rfl) (by rfl) (by rfl) (Nat.le_of_ble_eq_true rfl) (by rfl) (by rfl) (by rfl) (by decide) (by rfl) ?_
      | refine AL.allocD tyOk (by rfl) (by rfl) (by rfl) (Nat.le_of_ble_eq_true rfl) (by rfl) (by rfl) (by decide) (by rfl) ?_
      | refine AL.indexN tyOk (by rfl) (by rfl) (by rfl) (by rfl) (by rfl) (by rfl) (by rfl) (by rfl) (by first | rfl | exact (Int.toNat_of_nonneg (by omega)).symm) (by omega) ?_
      | refine AL.indexSl tyOk (by rfl) (by rfl) (by rfl) (by rfl) (by rfl) (by rfl) (by rfl) (by rfl) (by constructor <;> omega) ?_
      | refine AL.indexArr tyOk (by rfl) (by rfl) (by rfl) (by rfl) (by rfl) (by rfl) (by constructor <;> omega) ?_
      | refine AL.makeD tyOk _ (by rfl) (by rfl) (by rfl) (Nat.le_of_ble_eq_true rfl) (by rfl) (by rfl) (by rfl) (by rfl) (by rfl) (by rfl) (by rfl) (by omega) (by omega) (by decide) (by rfl) ?_
      | refine AL.build (qs := []) tyOk (by rfl) (by rfl) (by rfl) (by rfl) (by rfl) (by exact PartsOk.nil) (by rfl) ?_
      | refine AL.build (qs := [(_, _)]) tyOk (by rfl) (by rfl) (by rfl) (by rfl) (by rfl) (by exact PartsOk.cons (by rfl) (by rfl) PartsOk.nil) (by rfl) ?_
      | refine AL.build (qs := [(_, _), (_, _)]) tyOk (by rfl) (by rfl) (by rfl) (by rfl) (by rfl) (by exact PartsOk.cons (by rfl) (by rfl) (PartsOk.cons (by rfl) (by rfl) PartsOk.nil)) (by rfl) ?_
      | refine AL.nilCheck (by rfl) (by rfl) (by rfl) (by rfl) ?_) | (first
          | refine AC.region ?_
          | refine AC.seq ?_
          | refine AC.block ?_
          | refine AC.ret ?_
          | refine AC.exit ?_
          | refine AC.skip ?_))
  refine AL.gSplit (by rfl) (by rfl) (by rfl) (by rfl) (by rfl) (Nat.le_of_ble_eq_true rfl) (fun h1 => ?_) (fun h1 => ?_)
  · repeat (first | (first
      | refine AL.nil ?_
      | refine AL.move (.inl (by rfl)) (by rfl) (by rfl) ?_
      | refine AL.move (.inr (by rfl)) (by rfl) (by rfl) ?_
      | refine AL.fieldAddr tyOk (by rfl) (by rfl) (by rfl) (by rfl) (by rfl) (by rfl) ?_
      | refine AL.load1 tyOk (by rfl) (by rfl) (by rfl) (by rfl) (by rfl) (by rfl) (by rfl) (by first | exact Nat.le_of_ble_eq_true rfl | (dsimp only; omega) | omega | assumption) (by first | exact Nat.le_of_ble_eq_true rfl | (dsimp only; omega) | omega | assumption) (by rfl) ?_
      | refine AL.loadAggE tyOk (by rfl) (by rfl) (by rfl) (by rfl) (by rfl) (by rfl) (by rfl) (by first | exact Nat.le_of_ble_eq_true rfl | (dsimp only; omega) | omega | assumption) (by first | exact Nat.le_of_ble_eq_true rfl | (dsimp only; omega) | omega | assumption) (by rfl) ?_
      | refine AL.stor tyOk (by rfl) (by rfl) (by rfl) (by rfl) (by rfl) (by rfl) (by rfl) (by rfl) (by rfl) (by first | exact Nat.le_of_ble_eq_true rfl | (dsimp only; omega) | omega | assumption) (by first | exact Nat.le_of_ble_eq_true rfl | (dsimp only; omega) | omega | assumption) ?_
      | refine AL.len (ty := 0) tyOk (by rfl) (by rfl) (by rfl) (by rfl) (by rfl) ?_
      | refine AL.add (by rfl) (by rfl) (by rfl) (by rfl) (by rfl) (by constructor <;> omega) ?_
      | refine AL.sub (by rfl) (by rfl) (by rfl) (by rfl) (by rfl) (by constructor <;> omega) ?_
      | refine AL.mul (by rfl) (by rfl) (by rfl) (by rfl) (by rfl) (by constructor <;> omega) ?_
      | refine AL.int2 (by rfl) (by rfl) (by rfl) (by rfl) (by rfl) (by rfl) (by first | trivial | decide | omega) ?_
      | refine AL.bEq (by rfl) (by rfl) (by rfl) (by rfl) (by rfl) Try.underlying4 ?_
      | refine AL.bNe (by rfl) (by rfl) (by rfl) (by rfl) (by rfl) Try.underlying4 ?_
      | refine AL.not (by rfl) (by rfl) (by rfl) (by rfl) ?_
      | refine AL.gOnE (by rfl) (by rfl) (by rfl) (by rfl) (by decide) (by first | rfl | assumption) ?_
      | refine AL.gOffE (by rfl) (by rfl) (by rfl) (by rfl) (by rfl) (by decide) (by first | rfl | assumption) ?_
      | refine AL.pickE (b' := true) (by rfl) (by rfl) (by rfl) (by rfl) (by first | rfl | assumption) ?_
      | refine AL.pickE (b' := false) (by rfl) (by rfl) (by rfl) (by rfl) (by first | rfl | assumption) ?_
      | refine AL.extract (by rfl) (by rfl) (by rfl) (by rfl) (by rfl) ?_
      | refine AL.boxD tyOk (by rfl) (by rfl) (by rfl) (Nat.le_of_ble_eq_true rfl) (by rfl) (by rfl) (by rfl) (by decide) (by rfl) ?_
      | refine AL.allocD tyOk (by rfl) (by rfl) (by rfl) (Nat.le_of_ble_eq_true rfl) (by rfl) (by rfl) (by decide) (by rfl) ?_
      | refine AL.indexN tyOk (by rfl) (by rfl) (by rfl) (by rfl) (by rfl) (by rfl) (by rfl) (by rfl) (by first | rfl | exact (Int.toNat_of_nonneg (by omega)).symm) (by omega) ?_
      | refine AL.indexSl tyOk (by rfl) (by rfl) (by rfl) (by rfl) (by rfl) (by rfl) (by rfl) (by rfl) (by constructor <;> omega) ?_
      | refine AL.indexArr tyOk (by rfl) (by rfl) (by rfl) (by rfl) (by rfl) (by rfl) (by constructor <;> omega) ?_
      | refine AL.makeD tyOk _ (by rfl) (by rfl) (by rfl) (Nat.le_of_ble_eq_true rfl) (by rfl) (by rfl) (by rfl) (by rfl) (by rfl) (by rfl) (by rfl) (by omega) (by omega) (by decide) (by rfl) ?_
      | refine AL.build (qs := []) tyOk (by rfl) (by rfl) (by rfl) (by rfl) (by rfl) (by exact PartsOk.nil) (by rfl) ?_
      | refine AL.build (qs := [(_, _)]) tyOk (by rfl) (by rfl) (by rfl) (by rfl) (by rfl) (by exact PartsOk.cons (by rfl) (by rfl) PartsOk.nil) (by rfl) ?_
      | refine AL.build (qs := [(_, _), (_, _)]) tyOk (by rfl) (by rfl) (by rfl) (by rfl) (by rfl) (by exact PartsOk.cons (by rfl) (by rfl) (PartsOk.cons (by rfl) (by rfl) PartsOk.nil)) (by rfl) ?_
      | refine AL.nilCheck (by rfl) (by rfl) (by rfl) (by rfl) ?_) | (first
          | refine AC.region ?_
          | refine AC.seq ?_
          | refine AC.block ?_
          | refine AC.ret ?_
          | refine AC.exit ?_
          | refine AC.skip ?_))
    refine And.intro (by first | exact .inr rfl | exact .inl rfl) (And.intro (by repeat (first | exact trivial | exact Nat.le_of_ble_eq_true rfl | rfl | exact ⟨_, rfl, rfl, Nat.le_refl _, rfl⟩ | refine And.intro ?_ ?_)) (And.intro (by rfl) (And.intro (by rfl) (And.intro (by repeat (first | exact trivial | exact Nat.le_of_ble_eq_true rfl | rfl | exact ⟨_, rfl, rfl, Nat.le_refl _, rfl⟩ | refine And.intro ?_ ?_)) (And.intro (by repeat (first | exact trivial | exact Nat.le_of_ble_eq_true rfl | rfl | exact ⟨_, rfl, rfl, Nat.le_refl _, rfl⟩ | refine And.intro ?_ ?_)) ?_)))))
    exact ⟨_, rfl, (by simp at h1 ⊢; simp [h1]), rfl⟩
  · repeat (first | (first
      | refine AL.nil ?_
      | refine AL.move (.inl (by rfl)) (by rfl) (by rfl) ?_
      | refine AL.move (.inr (by rfl)) (by rfl) (by rfl) ?_
      | refine AL.fieldAddr tyOk (by rfl) (by rfl) (by rfl) (by rfl) (by rfl) (by rfl) ?_
      | refine AL.load1 tyOk (by rfl) (by rfl) (by rfl) (by rfl) (by rfl) (by rfl) (by rfl) (by first | exact Nat.le_of_ble_eq_true rfl | (dsimp only; omega) | omega | assumption) (by first | exact Nat.le_of_ble_eq_true rfl | (dsimp only; omega) | omega | assumption) (by rfl) ?_
      | refine AL.loadAggE tyOk (by rfl) (by rfl) (by rfl) (by rfl) (by rfl) (by rfl) (by rfl) (by first | exact Nat.le_of_ble_eq_true rfl | (dsimp only; omega) | omega | assumption) (by first | exact Nat.le_of_ble_eq_true rfl | (dsimp only; omega) | omega | assumption) (by rfl) ?_
      | refine AL.stor tyOk (by rfl) (by rfl) (by rfl) (by rfl) (by rfl) (by rfl) (by rfl) (by rfl) (by rfl) (by first | exact Nat.le_of_ble_eq_true rfl | (dsimp only; omega) | omega | assumption) (by first | exact Nat.le_of_ble_eq_true rfl | (dsimp only; omega) | omega | assumption) ?_
      | refine AL.len (ty := 0) tyOk (by rfl) (by rfl) (by rfl) (by rfl) (by rfl) ?_
      | refine AL.add (by rfl) (by rfl) (by rfl) (by rfl) (by rfl) (by constructor <;> omega) ?_
      | refine AL.sub (by rfl) (by rfl) (by rfl) (by rfl) (by rfl) (by constructor <;> omega) ?_
      | refine AL.mul (by rfl) (by rfl) (by rfl) (by rfl) (by rfl) (by constructor <;> omega) ?_
      | refine AL.int2 (by rfl) (by rfl) (by rfl) (by rfl) (by rfl) (by rfl) (by first | trivial | decide | omega) ?_
      | refine AL.bEq (by rfl) (by rfl) (by rfl) (by rfl) (by rfl) Try.underlying4 ?_
      | refine AL.bNe (by rfl) (by rfl) (by rfl) (by rfl) (by rfl) Try.underlying4 ?_
      | refine AL.not (by rfl) (by rfl) (by rfl) (by rfl) ?_
      | refine AL.gOnE (by rfl) (by rfl) (by rfl) (by rfl) (by decide) (by first | rfl | assumption) ?_
      | refine AL.gOffE (by rfl) (by rfl) (by rfl) (by rfl) (by rfl) (by decide) (by first | rfl | assumption) ?_
      | refine AL.pickE (b' := true) (by rfl) (by rfl) (by rfl) (by rfl) (by first | rfl | assumption) ?_
      | refine AL.pickE (b' := false) (by rfl) (by rfl) (by rfl) (by rfl) (by first | rfl | assumption) ?_
      | refine AL.extract (by rfl) (by rfl) (by rfl) (by rfl) (by rfl) ?_
      | refine AL.boxD tyOk (by rfl) (by rfl) (by rfl) (Nat.le_of_ble_eq_true rfl) (by rfl) (by rfl) (by rfl) (by decide) (by rfl) ?_
      | refine AL.allocD tyOk (by rfl) (by rfl) (by rfl) (Nat.le_of_ble_eq_true rfl) (by rfl) (by rfl) (by decide) (by rfl) ?_
      | refine AL.indexN tyOk (by rfl) (by rfl) (by rfl) (by rfl) (by rfl) (by rfl) (by rfl) (by rfl) (by first | rfl | exact (Int.toNat_of_nonneg (by omega)).symm) (by omega) ?_
      | refine AL.indexSl tyOk (by rfl) (by rfl) (by rfl) (by rfl) (by rfl) (by rfl) (by rfl) (by rfl) (by constructor <;> omega) ?_
      | refine AL.indexArr tyOk (by rfl) (by rfl) (by rfl) (by rfl) (by rfl) (by rfl) (by constructor <;> omega) ?_
      | refine AL.makeD tyOk _ (by rfl) (by rfl) (by rfl) (Nat.le_of_ble_eq_true rfl) (by rfl) (by rfl) (by rfl) (by rfl) (by rfl) (by rfl) (by rfl) (by omega) (by omega) (by decide) (by rfl) ?_
      | refine AL.build (qs := []) tyOk (by rfl) (by rfl) (by rfl) (by rfl) (by rfl) (by exact PartsOk.nil) (by rfl) ?_
      | refine AL.build (qs := [(_, _)]) tyOk (by rfl) (by rfl) (by rfl) (by rfl) (by rfl) (by exact PartsOk.cons (by rfl) (by rfl) PartsOk.nil) (by rfl) ?_
      | refine AL.build (qs := [(_, _), (_, _)]) tyOk (by rfl) (by rfl) (by rfl) (by rfl) (by rfl) (by exact PartsOk.cons (by rfl) (by rfl) (PartsOk.cons (by rfl) (by rfl) PartsOk.nil)) (by rfl) ?_
      | refine AL.nilCheck (by rfl) (by rfl) (by rfl) (by rfl) ?_) | (first
          | refine AC.region ?_
          | refine AC.seq ?_
          | refine AC.block ?_
          | refine AC.ret ?_
          | refine AC.exit ?_
          | refine AC.skip ?_))
    refine And.intro (by first | exact .inr rfl | exact .inl rfl) (And.intro (by repeat (first | exact trivial | exact Nat.le_of_ble_eq_true rfl | rfl | exact ⟨_, rfl, rfl, Nat.le_refl _, rfl⟩ | refine And.intro ?_ ?_)) (And.intro (by rfl) (And.intro (by rfl) (And.intro (by repeat (first | exact trivial | exact Nat.le_of_ble_eq_true rfl | rfl | exact ⟨_, rfl, rfl, Nat.le_refl _, rfl⟩ | refine And.intro ?_ ?_)) (And.intro (by repeat (first | exact trivial | exact Nat.le_of_ble_eq_true rfl | rfl | exact ⟨_, rfl, rfl, Nat.le_refl _, rfl⟩ | refine And.intro ?_ ?_)) ?_)))))
    exact ⟨_, rfl, (by simp at h1 ⊢; simp [h1]), rfl⟩

/-- A pin that a clock of epoch E may have. -/
def pOk (E : Int) (p : Pn) : Prop := (p.1 = true ∧ 0 ≤ p.2.1 ∧ p.2.1 ≤ E ∧ 0 ≤ p.2.2.2 ∧ p.2.2.2 ≤ 2) ∨ p = (false, 0, false, 0)
theorem pinOk_run (p : Pn) (E : Int) : Run Try.prog 59 [.agg [.c (pinC p 0), .c (pinC p 1), .c (pinC p 2), .c (pinC p 3)], .one (.c (.lit (.int .i64 E)))] [] fun outs ext => ∃ z : Bool, outs = [.one (.lit (.bool z))] ∧ (z = true ↔ pOk E p) ∧ ext = [] := by
  refine Run.of_body tyOk Try.func59 (by rfl) (Nat.le_of_ble_eq_true rfl) (by simp [argsOk, aasOk, aaOk]) [] rfl (fun F hF => ?_)
  repeat (first | (first
      | refine AL.nil ?_
      | refine AL.move (.inl (by rfl)) (by rfl) (by rfl) ?_
      | refine AL.move (.inr (by rfl)) (by rfl) (by rfl) ?_
      | refine AL.fieldAddr tyOk (by rfl) (by rfl) (by rfl) (by rfl) (by rfl) (by rfl) ?_
      | refine AL.load1 tyOk (by rfl) (by rfl) (by rfl) (by rfl) (by rfl) (by rfl) (by rfl) (by first | exact Nat.le_of_ble_eq_true rfl | (dsimp only; omega) | omega | assumption) (by first | exact Nat.le_of_ble_eq_true rfl | (dsimp only; omega) | omega | assumption) (by rfl) ?_
      | refine AL.loadAggE tyOk (by rfl) (by rfl) (by rfl) (by rfl) (by rfl) (by rfl) (by rfl) (by first | exact Nat.le_of_ble_eq_true rfl | (dsimp only; omega) | omega | assumption) (by first | exact Nat.le_of_ble_eq_true rfl | (dsimp only; omega) | omega | assumption) (by rfl) ?_
      | refine AL.stor tyOk (by rfl) (by rfl) (by rfl) (by rfl) (by rfl) (by rfl) (by rfl) (by rfl) (by rfl) (by first | exact Nat.le_of_ble_eq_true rfl | (dsimp only; omega) | omega | assumption) (by first | exact Nat.le_of_ble_eq_true rfl | (dsimp only; omega) | omega | assumption) ?_
      | refine AL.len (ty := 0) tyOk (by rfl) (by rfl) (by rfl) (by rfl) (by rfl) ?_
      | refine AL.add (by rfl) (by rfl) (by rfl) (by rfl) (by rfl) (by constructor <;> omega) ?_
      | refine AL.sub (by rfl) (by rfl) (by rfl) (by rfl) (by rfl) (by constructor <;> omega) ?_
      | refine AL.mul (by rfl) (by rfl) (by rfl) (by rfl) (by rfl) (by constructor <;> omega) ?_
      | refine AL.int2 (by rfl) (by rfl) (by rfl) (by rfl) (by rfl) (by rfl) (by first | trivial | decide | omega) ?_
      | refine AL.bEq (by rfl) (by rfl) (by rfl) (by rfl) (by rfl) Try.underlying4 ?_
      | refine AL.bNe (by rfl) (by rfl) (by rfl) (by rfl) (by rfl) Try.underlying4 ?_
      | refine AL.not (by rfl) (by rfl) (by rfl) (by rfl) ?_
      | refine AL.gOnE (by rfl) (by rfl) (by rfl) (by rfl) (by decide) (by first | rfl | assumption) ?_
      | refine AL.gOffE (by rfl) (by rfl) (by rfl) (by rfl) (by rfl) (by decide) (by first | rfl | assumption) ?_
      | refine AL.pickE (b' := true) (by rfl) (by rfl) (by rfl) (by rfl) (by first | rfl | assumption) ?_
      | refine AL.pickE (b' := false) (by rfl) (by rfl) (by rfl) (by rfl) (by first | rfl | assumption) ?_
      | refine AL.extract (by rfl) (by rfl) (by rfl) (by rfl) (by rfl) ?_
      | refine AL.boxD tyOk (by rfl) (by rfl) (by rfl) (Nat.le_of_ble_eq_true rfl) (by rfl) (by rfl) (by rfl) (by decide) (by rfl) ?_
      | refine AL.allocD tyOk (by rfl) (by rfl) (by rfl) (Nat.le_of_ble_eq_true rfl) (by rfl) (by rfl) (by decide) (by rfl) ?_
      | refine AL.indexN tyOk (by rfl) (by rfl) (by rfl) (by rfl) (by rfl) (by rfl) (by rfl) (by rfl) (by first | rfl | exact (Int.toNat_of_nonneg (by omega)).symm) (by omega) ?_
      | refine AL.indexSl tyOk (by rfl) (by rfl) (by rfl) (by rfl) (by rfl) (by rfl) (by rfl) (by rfl) (by constructor <;> omega) ?_
      | refine AL.indexArr tyOk (by rfl) (by rfl) (by rfl) (by rfl) (by rfl) (by rfl) (by constructor <;> omega) ?_
      | refine AL.makeD tyOk _ (by rfl) (by rfl) (by rfl) (Nat.le_of_ble_eq_true rfl) (by rfl) (by rfl) (by rfl) (by rfl) (by rfl) (by rfl) (by rfl) (by omega) (by omega) (by decide) (by rfl) ?_
      | refine AL.build (qs := []) tyOk (by rfl) (by rfl) (by rfl) (by rfl) (by rfl) (by exact PartsOk.nil) (by rfl) ?_
      | refine AL.build (qs := [(_, _)]) tyOk (by rfl) (by rfl) (by rfl) (by rfl) (by rfl) (by exact PartsOk.cons (by rfl) (by rfl) PartsOk.nil) (by rfl) ?_
      | refine AL.build (qs := [(_, _), (_, _)]) tyOk (by rfl) (by rfl) (by rfl) (by rfl) (by rfl) (by exact PartsOk.cons (by rfl) (by rfl) (PartsOk.cons (by rfl) (by rfl) PartsOk.nil)) (by rfl) ?_
      | refine AL.nilCheck (by rfl) (by rfl) (by rfl) (by rfl) ?_) | (first
          | refine AC.region ?_
          | refine AC.seq ?_
          | refine AC.block ?_
          | refine AC.ret ?_
          | refine AC.exit ?_
          | refine AC.skip ?_))
  refine AC.cond (by rfl) (fun h1 => ?_) (fun h1 => ?_)
  · have h1 : p.1 = false := by simpa using h1
    repeat (first | (first
        | refine AL.nil ?_
        | refine AL.move (.inl (by rfl)) (by rfl) (by rfl) ?_
        | refine AL.move (.inr (by rfl)) (by rfl) (by rfl) ?_
        | refine AL.fieldAddr tyOk (by rfl) (by rfl) (by rfl) (by rfl) (by rfl) (by rfl) ?_
        | refine AL.load1 tyOk (by rfl) (by rfl) (by rfl) (by rfl) (by rfl) (by rfl) (by rfl) (by first | exact Nat.le_of_ble_eq_true rfl | (dsimp only; omega) | omega | assumption) (by first | exact Nat.le_of_ble_eq_true rfl | (dsimp only; omega) | omega | assumption) (by rfl) ?_
        | refine AL.loadAggE tyOk (by rfl) (by rfl) (by rfl) (by rfl) (by rfl) (by rfl) (by rfl) (by first | exact Nat.le_of_ble_eq_true rfl | (dsimp only; omega) | omega | assumption) (by first | exact Nat.le_of_ble_eq_true rfl | (dsimp only; omega) | omega | assumption) (by rfl) ?_
        | refine AL.stor tyOk (by rfl) (by rfl) (by rfl) (by rfl) (by rfl) (by rfl) (by rfl) (by rfl) (by rfl) (by first | exact Nat.le_of_ble_eq_true rfl | (dsimp only; omega) | omega | assumption) (by first | exact Nat.le_of_ble_eq_true rfl | (dsimp only; omega) | omega | assumption) ?_
        | refine AL.len (ty := 0) tyOk (by rfl) (by rfl) (by rfl) (by rfl) (by rfl) ?_
        | refine AL.add (by rfl) (by rfl) (by rfl) (by rfl) (by rfl) (by constructor <;> omega) ?_
        | refine AL.sub (by rfl) (by rfl) (by rfl) (by rfl) (by rfl) (by constructor <;> omega) ?_
        | refine AL.mul (by rfl) (by rfl) (by rfl) (by rfl) (by rfl) (by constructor <;> omega) ?_
        | refine AL.int2 (by rfl) (by rfl) (by rfl) (by rfl) (by rfl) (by rfl) (by first | trivial | decide | omega) ?_
        | refine AL.bEq (by rfl) (by rfl) (by rfl) (by rfl) (by rfl) Try.underlying4 ?_
        | refine AL.bNe (by rfl) (by rfl) (by rfl) (by rfl) (by rfl) Try.underlying4 ?_
        | refine AL.not (by rfl) (by rfl) (by rfl) (by rfl) ?_
        | refine AL.gOnE (by rfl) (by rfl) (by rfl) (by rfl) (by decide) (by first | rfl | assumption) ?_
        | refine AL.gOffE (by rfl) (by rfl) (by rfl) (by rfl) (by rfl) (by decide) (by first | rfl | assumption) ?_
        | refine AL.pickE (b' := true) (by rfl) (by rfl) (by rfl) (by rfl) (by first | rfl | assumption) ?_
        | refine AL.pickE (b' := false) (by rfl) (by rfl) (by rfl) (by rfl) (by first | rfl | assumption) ?_
        | refine AL.extract (by rfl) (by rfl) (by rfl) (by rfl) (by rfl) ?_
        | refine AL.boxD tyOk (by rfl) (by rfl) (by rfl) (Nat.le_of_ble_eq_true rfl) (by rfl) (by rfl) (by rfl) (by decide) (by rfl) ?_
        | refine AL.allocD tyOk (by rfl) (by rfl) (by rfl) (Nat.le_of_ble_eq_true rfl) (by rfl) (by rfl) (by decide) (by rfl) ?_
        | refine AL.indexN tyOk (by rfl) (by rfl) (by rfl) (by rfl) (by rfl) (by rfl) (by rfl) (by rfl) (by first | rfl | exact (Int.toNat_of_nonneg (by omega)).symm) (by omega) ?_
        | refine AL.indexSl tyOk (by rfl) (by rfl) (by rfl) (by rfl) (by rfl) (by rfl) (by rfl) (by rfl) (by constructor <;> omega) ?_
        | refine AL.indexArr tyOk (by rfl) (by rfl) (by rfl) (by rfl) (by rfl) (by rfl) (by constructor <;> omega) ?_
        | refine AL.makeD tyOk _ (by rfl) (by rfl) (by rfl) (Nat.le_of_ble_eq_true rfl) (by rfl) (by rfl) (by rfl) (by rfl) (by rfl) (by rfl) (by rfl) (by omega) (by omega) (by decide) (by rfl) ?_
        | refine AL.build (qs := []) tyOk (by rfl) (by rfl) (by rfl) (by rfl) (by rfl) (by exact PartsOk.nil) (by rfl) ?_
        | refine AL.build (qs := [(_, _)]) tyOk (by rfl) (by rfl) (by rfl) (by rfl) (by rfl) (by exact PartsOk.cons (by rfl) (by rfl) PartsOk.nil) (by rfl) ?_
        | refine AL.build (qs := [(_, _), (_, _)]) tyOk (by rfl) (by rfl) (by rfl) (by rfl) (by rfl) (by exact PartsOk.cons (by rfl) (by rfl) (PartsOk.cons (by rfl) (by rfl) PartsOk.nil)) (by rfl) ?_
        | refine AL.nilCheck (by rfl) (by rfl) (by rfl) (by rfl) ?_) | (first
            | refine AC.region ?_
            | refine AC.seq ?_
            | refine AC.block ?_
            | refine AC.ret ?_
            | refine AC.exit ?_
            | refine AC.skip ?_))
    refine AL.eqA [Value.bool p.1, .int .i64 p.2.1, .bool p.2.2.1, .int .i64 p.2.2.2] [.bool false, .int .i64 0, .bool false, .int .i64 0] (by rfl) (by rfl) (by rfl) (by rfl) (by rfl) (by rfl) (by rfl) (by kernel_rfl) (pin_eq p (false, 0, false, 0)) ?_
    repeat (first | (first
        | refine AL.nil ?_
        | refine AL.move (.inl (by rfl)) (by rfl) (by rfl) ?_
        | refine AL.move (.inr (by rfl)) (by rfl) (by rfl) ?_
        | refine AL.fieldAddr tyOk (by rfl) (by rfl) (by rfl) (by rfl) (by rfl) (by rfl) ?_
        | refine AL.load1 tyOk (by rfl) (by rfl) (by rfl) (by rfl) (by rfl) (by rfl) (by rfl) (by first | exact Nat.le_of_ble_eq_true rfl | (dsimp only; omega) | omega | assumption) (by first | exact Nat.le_of_ble_eq_true rfl | (dsimp only; omega) | omega | assumption) (by rfl) ?_
        | refine AL.loadAggE tyOk (by rfl) (by rfl) (by rfl) (by rfl) (by rfl) (by rfl) (by rfl) (by first | exact Nat.le_of_ble_eq_true rfl | (dsimp only; omega) | omega | assumption) (by first | exact Nat.le_of_ble_eq_true rfl | (dsimp only; omega) | omega | assumption) (by rfl) ?_
        | refine AL.stor tyOk (by rfl) (by rfl) (by rfl) (by rfl) (by rfl) (by rfl) (by rfl) (by rfl) (by rfl) (by first | exact Nat.le_of_ble_eq_true rfl | (dsimp only; omega) | omega | assumption) (by first | exact Nat.le_of_ble_eq_true rfl | (dsimp only; omega) | omega | assumption) ?_
        | refine AL.len (ty := 0) tyOk (by rfl) (by rfl) (by rfl) (by rfl) (by rfl) ?_
        | refine AL.add (by rfl) (by rfl) (by rfl) (by rfl) (by rfl) (by constructor <;> omega) ?_
        | refine AL.sub (by rfl) (by rfl) (by rfl) (by rfl) (by rfl) (by constructor <;> omega) ?_
        | refine AL.mul (by rfl) (by rfl) (by rfl) (by rfl) (by rfl) (by constructor <;> omega) ?_
        | refine AL.int2 (by rfl) (by rfl) (by rfl) (by rfl) (by rfl) (by rfl) (by first | trivial | decide | omega) ?_
        | refine AL.bEq (by rfl) (by rfl) (by rfl) (by rfl) (by rfl) Try.underlying4 ?_
        | refine AL.bNe (by rfl) (by rfl) (by rfl) (by rfl) (by rfl) Try.underlying4 ?_
        | refine AL.not (by rfl) (by rfl) (by rfl) (by rfl) ?_
        | refine AL.gOnE (by rfl) (by rfl) (by rfl) (by rfl) (by decide) (by first | rfl | assumption) ?_
        | refine AL.gOffE (by rfl) (by rfl) (by rfl) (by rfl) (by rfl) (by decide) (by first | rfl | assumption) ?_
        | refine AL.pickE (b' := true) (by rfl) (by rfl) (by rfl) (by rfl) (by first | rfl | assumption) ?_
        | refine AL.pickE (b' := false) (by rfl) (by rfl) (by rfl) (by rfl) (by first | rfl | assumption) ?_
        | refine AL.extract (by rfl) (by rfl) (by rfl) (by rfl) (by rfl) ?_
        | refine AL.boxD tyOk (by rfl) (by rfl) (by rfl) (Nat.le_of_ble_eq_true rfl) (by rfl) (by rfl) (by rfl) (by decide) (by rfl) ?_
        | refine AL.allocD tyOk (by rfl) (by rfl) (by rfl) (Nat.le_of_ble_eq_true rfl) (by rfl) (by rfl) (by decide) (by rfl) ?_
        | refine AL.indexN tyOk (by rfl) (by rfl) (by rfl) (by rfl) (by rfl) (by rfl) (by rfl) (by rfl) (by first | rfl | exact (Int.toNat_of_nonneg (by omega)).symm) (by omega) ?_
        | refine AL.indexSl tyOk (by rfl) (by rfl) (by rfl) (by rfl) (by rfl) (by rfl) (by rfl) (by rfl) (by constructor <;> omega) ?_
        | refine AL.indexArr tyOk (by rfl) (by rfl) (by rfl) (by rfl) (by rfl) (by rfl) (by constructor <;> omega) ?_
        | refine AL.makeD tyOk _ (by rfl) (by rfl) (by rfl) (Nat.le_of_ble_eq_true rfl) (by rfl) (by rfl) (by rfl) (by rfl) (by rfl) (by rfl) (by rfl) (by omega) (by omega) (by decide) (by rfl) ?_
        | refine AL.build (qs := []) tyOk (by rfl) (by rfl) (by rfl) (by rfl) (by rfl) (by exact PartsOk.nil) (by rfl) ?_
        | refine AL.build (qs := [(_, _)]) tyOk (by rfl) (by rfl) (by rfl) (by rfl) (by rfl) (by exact PartsOk.cons (by rfl) (by rfl) PartsOk.nil) (by rfl) ?_
        | refine AL.build (qs := [(_, _), (_, _)]) tyOk (by rfl) (by rfl) (by rfl) (by rfl) (by rfl) (by exact PartsOk.cons (by rfl) (by rfl) (PartsOk.cons (by rfl) (by rfl) PartsOk.nil)) (by rfl) ?_
        | refine AL.nilCheck (by rfl) (by rfl) (by rfl) (by rfl) ?_) | (first
            | refine AC.region ?_
            | refine AC.seq ?_
            | refine AC.block ?_
            | refine AC.ret ?_
            | refine AC.exit ?_
            | refine AC.skip ?_))
    refine And.intro (by first | exact .inr rfl | exact .inl rfl) (And.intro (by repeat (first | exact trivial | exact Nat.le_of_ble_eq_true rfl | rfl | exact ⟨_, rfl, rfl, Nat.le_refl _, rfl⟩ | refine And.intro ?_ ?_)) (And.intro (by rfl) (And.intro (by rfl) (And.intro (by repeat (first | exact trivial | exact Nat.le_of_ble_eq_true rfl | rfl | exact ⟨_, rfl, rfl, Nat.le_refl _, rfl⟩ | refine And.intro ?_ ?_)) (And.intro (by repeat (first | exact trivial | exact Nat.le_of_ble_eq_true rfl | rfl | exact ⟨_, rfl, rfl, Nat.le_refl _, rfl⟩ | refine And.intro ?_ ?_)) ?_)))))
    exact ⟨_, rfl, (by unfold pOk; simp [h1]), rfl⟩
  · have h1 : p.1 = true := by simpa using h1
    have hz : p ≠ (false, 0, false, 0) := by rintro rfl; simp at h1
    repeat (first | (first
        | refine AL.nil ?_
        | refine AL.move (.inl (by rfl)) (by rfl) (by rfl) ?_
        | refine AL.move (.inr (by rfl)) (by rfl) (by rfl) ?_
        | refine AL.fieldAddr tyOk (by rfl) (by rfl) (by rfl) (by rfl) (by rfl) (by rfl) ?_
        | refine AL.load1 tyOk (by rfl) (by rfl) (by rfl) (by rfl) (by rfl) (by rfl) (by rfl) (by first | exact Nat.le_of_ble_eq_true rfl | (dsimp only; omega) | omega | assumption) (by first | exact Nat.le_of_ble_eq_true rfl | (dsimp only; omega) | omega | assumption) (by rfl) ?_
        | refine AL.loadAggE tyOk (by rfl) (by rfl) (by rfl) (by rfl) (by rfl) (by rfl) (by rfl) (by first | exact Nat.le_of_ble_eq_true rfl | (dsimp only; omega) | omega | assumption) (by first | exact Nat.le_of_ble_eq_true rfl | (dsimp only; omega) | omega | assumption) (by rfl) ?_
        | refine AL.stor tyOk (by rfl) (by rfl) (by rfl) (by rfl) (by rfl) (by rfl) (by rfl) (by rfl) (by rfl) (by first | exact Nat.le_of_ble_eq_true rfl | (dsimp only; omega) | omega | assumption) (by first | exact Nat.le_of_ble_eq_true rfl | (dsimp only; omega) | omega | assumption) ?_
        | refine AL.len (ty := 0) tyOk (by rfl) (by rfl) (by rfl) (by rfl) (by rfl) ?_
        | refine AL.add (by rfl) (by rfl) (by rfl) (by rfl) (by rfl) (by constructor <;> omega) ?_
        | refine AL.sub (by rfl) (by rfl) (by rfl) (by rfl) (by rfl) (by constructor <;> omega) ?_
        | refine AL.mul (by rfl) (by rfl) (by rfl) (by rfl) (by rfl) (by constructor <;> omega) ?_
        | refine AL.int2 (by rfl) (by rfl) (by rfl) (by rfl) (by rfl) (by rfl) (by first | trivial | decide | omega) ?_
        | refine AL.bEq (by rfl) (by rfl) (by rfl) (by rfl) (by rfl) Try.underlying4 ?_
        | refine AL.bNe (by rfl) (by rfl) (by rfl) (by rfl) (by rfl) Try.underlying4 ?_
        | refine AL.not (by rfl) (by rfl) (by rfl) (by rfl) ?_
        | refine AL.gOnE (by rfl) (by rfl) (by rfl) (by rfl) (by decide) (by first | rfl | assumption) ?_
        | refine AL.gOffE (by rfl) (by rfl) (by rfl) (by rfl) (by rfl) (by decide) (by first | rfl | assumption) ?_
        | refine AL.pickE (b' := true) (by rfl) (by rfl) (by rfl) (by rfl) (by first | rfl | assumption) ?_
        | refine AL.pickE (b' := false) (by rfl) (by rfl) (by rfl) (by rfl) (by first | rfl | assumption) ?_
        | refine AL.extract (by rfl) (by rfl) (by rfl) (by rfl) (by rfl) ?_
        | refine AL.boxD tyOk (by rfl) (by rfl) (by rfl) (Nat.le_of_ble_eq_true rfl) (by rfl) (by rfl) (by rfl) (by decide) (by rfl) ?_
        | refine AL.allocD tyOk (by rfl) (by rfl) (by rfl) (Nat.le_of_ble_eq_true rfl) (by rfl) (by rfl) (by decide) (by rfl) ?_
        | refine AL.indexN tyOk (by rfl) (by rfl) (by rfl) (by rfl) (by rfl) (by rfl) (by rfl) (by rfl) (by first | rfl | exact (Int.toNat_of_nonneg (by omega)).symm) (by omega) ?_
        | refine AL.indexSl tyOk (by rfl) (by rfl) (by rfl) (by rfl) (by rfl) (by rfl) (by rfl) (by rfl) (by constructor <;> omega) ?_
        | refine AL.indexArr tyOk (by rfl) (by rfl) (by rfl) (by rfl) (by rfl) (by rfl) (by constructor <;> omega) ?_
        | refine AL.makeD tyOk _ (by rfl) (by rfl) (by rfl) (Nat.le_of_ble_eq_true rfl) (by rfl) (by rfl) (by rfl) (by rfl) (by rfl) (by rfl) (by rfl) (by omega) (by omega) (by decide) (by rfl) ?_
        | refine AL.build (qs := []) tyOk (by rfl) (by rfl) (by rfl) (by rfl) (by rfl) (by exact PartsOk.nil) (by rfl) ?_
        | refine AL.build (qs := [(_, _)]) tyOk (by rfl) (by rfl) (by rfl) (by rfl) (by rfl) (by exact PartsOk.cons (by rfl) (by rfl) PartsOk.nil) (by rfl) ?_
        | refine AL.build (qs := [(_, _), (_, _)]) tyOk (by rfl) (by rfl) (by rfl) (by rfl) (by rfl) (by exact PartsOk.cons (by rfl) (by rfl) (PartsOk.cons (by rfl) (by rfl) PartsOk.nil)) (by rfl) ?_
        | refine AL.nilCheck (by rfl) (by rfl) (by rfl) (by rfl) ?_) | (first
            | refine AC.region ?_
            | refine AC.seq ?_
            | refine AC.block ?_
            | refine AC.ret ?_
            | refine AC.exit ?_
            | refine AC.skip ?_))
    refine AL.gSplit (by rfl) (by rfl) (by rfl) (by rfl) (by rfl) (Nat.le_of_ble_eq_true rfl) (fun h2 => ?_) (fun h2 => ?_)
    · repeat (first | (first
        | refine AL.nil ?_
        | refine AL.move (.inl (by rfl)) (by rfl) (by rfl) ?_
        | refine AL.move (.inr (by rfl)) (by rfl) (by rfl) ?_
        | refine AL.fieldAddr tyOk (by rfl) (by rfl) (by rfl) (by rfl) (by rfl) (by rfl) ?_
        | refine AL.load1 tyOk (by rfl) (by rfl) (by rfl) (by rfl) (by rfl) (by rfl) (by rfl) (by first | exact Nat.le_of_ble_eq_true rfl | (dsimp only; omega) | omega | assumption) (by first | exact Nat.le_of_ble_eq_true rfl | (dsimp only; omega) | omega | assumption) (by rfl) ?_
        | refine AL.loadAggE tyOk (by rfl) (by rfl) (by rfl) (by rfl) (by rfl) (by rfl) (by rfl) (by first | exact Nat.le_of_ble_eq_true rfl | (dsimp only; omega) | omega | assumption) (by first | exact Nat.le_of_ble_eq_true rfl | (dsimp only; omega) | omega | assumption) (by rfl) ?_
        | refine AL.stor tyOk (by rfl) (by rfl) (by rfl) (by rfl) (by rfl) (by rfl) (by rfl) (by rfl) (by rfl) (by first | exact Nat.le_of_ble_eq_true rfl | (dsimp only; omega) | omega | assumption) (by first | exact Nat.le_of_ble_eq_true rfl | (dsimp only; omega) | omega | assumption) ?_
        | refine AL.len (ty := 0) tyOk (by rfl) (by rfl) (by rfl) (by rfl) (by rfl) ?_
        | refine AL.add (by rfl) (by rfl) (by rfl) (by rfl) (by rfl) (by constructor <;> omega) ?_
        | refine AL.sub (by rfl) (by rfl) (by rfl) (by rfl) (by rfl) (by constructor <;> omega) ?_
        | refine AL.mul (by rfl) (by rfl) (by rfl) (by rfl) (by rfl) (by constructor <;> omega) ?_
        | refine AL.int2 (by rfl) (by rfl) (by rfl) (by rfl) (by rfl) (by rfl) (by first | trivial | decide | omega) ?_
        | refine AL.bEq (by rfl) (by rfl) (by rfl) (by rfl) (by rfl) Try.underlying4 ?_
        | refine AL.bNe (by rfl) (by rfl) (by rfl) (by rfl) (by rfl) Try.underlying4 ?_
        | refine AL.not (by rfl) (by rfl) (by rfl) (by rfl) ?_
        | refine AL.gOnE (by rfl) (by rfl) (by rfl) (by rfl) (by decide) (by first | rfl | assumption) ?_
        | refine AL.gOffE (by rfl) (by rfl) (by rfl) (by rfl) (by rfl) (by decide) (by first | rfl | assumption) ?_
        | refine AL.pickE (b' := true) (by rfl) (by rfl) (by rfl) (by rfl) (by first | rfl | assumption) ?_
        | refine AL.pickE (b' := false) (by rfl) (by rfl) (by rfl) (by rfl) (by first | rfl | assumption) ?_
        | refine AL.extract (by rfl) (by rfl) (by rfl) (by rfl) (by rfl) ?_
        | refine AL.boxD tyOk (by rfl) (by rfl) (by rfl) (Nat.le_of_ble_eq_true rfl) (by rfl) (by rfl) (by rfl) (by decide) (by rfl) ?_
        | refine AL.allocD tyOk (by rfl) (by rfl) (by rfl) (Nat.le_of_ble_eq_true rfl) (by rfl) (by rfl) (by decide) (by rfl) ?_
        | refine AL.indexN tyOk (by rfl) (by rfl) (by rfl) (by rfl) (by rfl) (by rfl) (by rfl) (by rfl) (by first | rfl | exact (Int.toNat_of_nonneg (by omega)).symm) (by omega) ?_
        | refine AL.indexSl tyOk (by rfl) (by rfl) (by rfl) (by rfl) (by rfl) (by rfl) (by rfl) (by rfl) (by constructor <;> omega) ?_
        | refine AL.indexArr tyOk (by rfl) (by rfl) (by rfl) (by rfl) (by rfl) (by rfl) (by constructor <;> omega) ?_
        | refine AL.makeD tyOk _ (by rfl) (by rfl) (by rfl) (Nat.le_of_ble_eq_true rfl) (by rfl) (by rfl) (by rfl) (by rfl) (by rfl) (by rfl) (by rfl) (by omega) (by omega) (by decide) (by rfl) ?_
        | refine AL.build (qs := []) tyOk (by rfl) (by rfl) (by rfl) (by rfl) (by rfl) (by exact PartsOk.nil) (by rfl) ?_
        | refine AL.build (qs := [(_, _)]) tyOk (by rfl) (by rfl) (by rfl) (by rfl) (by rfl) (by exact PartsOk.cons (by rfl) (by rfl) PartsOk.nil) (by rfl) ?_
        | refine AL.build (qs := [(_, _), (_, _)]) tyOk (by rfl) (by rfl) (by rfl) (by rfl) (by rfl) (by exact PartsOk.cons (by rfl) (by rfl) (PartsOk.cons (by rfl) (by rfl) PartsOk.nil)) (by rfl) ?_
        | refine AL.nilCheck (by rfl) (by rfl) (by rfl) (by rfl) ?_) | (first
            | refine AC.region ?_
            | refine AC.seq ?_
            | refine AC.block ?_
            | refine AC.ret ?_
            | refine AC.exit ?_
            | refine AC.skip ?_))
      refine AL.gSplit (by rfl) (by rfl) (by rfl) (by rfl) (by rfl) (Nat.le_of_ble_eq_true rfl) (fun h3 => ?_) (fun h3 => ?_)
      · repeat (first | (first
          | refine AL.nil ?_
          | refine AL.move (.inl (by rfl)) (by rfl) (by rfl) ?_
          | refine AL.move (.inr (by rfl)) (by rfl) (by rfl) ?_
          | refine AL.fieldAddr tyOk (by rfl) (by rfl) (by rfl) (by rfl) (by rfl) (by rfl) ?_
          | refine AL.load1 tyOk (by rfl) (by rfl) (by rfl) (by rfl) (by rfl) (by rfl) (by rfl) (by first | exact Nat.le_of_ble_eq_true rfl | (dsimp only; omega) | omega | assumption) (by first | exact Nat.le_of_ble_eq_true rfl | (dsimp only; omega) | omega | assumption) (by rfl) ?_
          | refine AL.loadAggE tyOk (by rfl) (by rfl) (by rfl) (by rfl) (by rfl) (by rfl) (by rfl) (by first | exact Nat.le_of_ble_eq_true rfl | (dsimp only; omega) | omega | assumption) (by first | exact Nat.le_of_ble_eq_true rfl | (dsimp only; omega) | omega | assumption) (by rfl) ?_
          | refine AL.stor tyOk (by rfl) (by rfl) (by rfl) (by rfl) (by rfl) (by rfl) (by rfl) (by rfl) (by rfl) (by first | exact Nat.le_of_ble_eq_true rfl | (dsimp only; omega) | omega | assumption) (by first | exact Nat.le_of_ble_eq_true rfl | (dsimp only; omega) | omega | assumption) ?_
          | refine AL.len (ty := 0) tyOk (by rfl) (by rfl) (by rfl) (by rfl) (by rfl) ?_
          | refine AL.add (by rfl) (by rfl) (by rfl) (by rfl) (by rfl) (by constructor <;> omega) ?_
          | refine AL.sub (by rfl) (by rfl) (by rfl) (by rfl) (by rfl) (by constructor <;> omega) ?_
          | refine AL.mul (by rfl) (by rfl) (by rfl) (by rfl) (by rfl) (by constructor <;> omega) ?_
          | refine AL.int2 (by rfl) (by rfl) (by rfl) (by rfl) (by rfl) (by rfl) (by first | trivial | decide | omega) ?_
          | refine AL.bEq (by rfl) (by rfl) (by rfl) (by rfl) (by rfl) Try.underlying4 ?_
          | refine AL.bNe (by rfl) (by rfl) (by rfl) (by rfl) (by rfl) Try.underlying4 ?_
          | refine AL.not (by rfl) (by rfl) (by rfl) (by rfl) ?_
          | refine AL.gOnE (by rfl) (by rfl) (by rfl) (by rfl) (by decide) (by first | rfl | assumption) ?_
          | refine AL.gOffE (by rfl) (by rfl) (by rfl) (by rfl) (by rfl) (by decide) (by first | rfl | assumption) ?_
          | refine AL.pickE (b' := true) (by rfl) (by rfl) (by rfl) (by rfl) (by first | rfl | assumption) ?_
          | refine AL.pickE (b' := false) (by rfl) (by rfl) (by rfl) (by rfl) (by first | rfl | assumption) ?_
          | refine AL.extract (by rfl) (by rfl) (by rfl) (by rfl) (by rfl) ?_
          | refine AL.boxD tyOk (by rfl) (by rfl) (by rfl) (Nat.le_of_ble_eq_true rfl) (by rfl) (by rfl) (by rfl) (by decide) (by rfl) ?_
          | refine AL.allocD tyOk (by rfl) (by rfl) (by rfl) (Nat.le_of_ble_eq_true rfl) (by rfl) (by rfl) (by decide) (by rfl) ?_
          | refine AL.indexN tyOk (by rfl) (by rfl) (by rfl) (by rfl) (by rfl) (by rfl) (by rfl) (by rfl) (by first | rfl | exact (Int.toNat_of_nonneg (by omega)).symm) (by omega) ?_
          | refine AL.indexSl tyOk (by rfl) (by rfl) (by rfl) (by rfl) (by rfl) (by rfl) (by rfl) (by rfl) (by constructor <;> omega) ?_
          | refine AL.indexArr tyOk (by rfl) (by rfl) (by rfl) (by rfl) (by rfl) (by rfl) (by constructor <;> omega) ?_
          | refine AL.makeD tyOk _ (by rfl) (by rfl) (by rfl) (Nat.le_of_ble_eq_true rfl) (by rfl) (by rfl) (by rfl) (by rfl) (by rfl) (by rfl) (by rfl) (by omega) (by omega) (by decide) (by rfl) ?_
          | refine AL.build (qs := []) tyOk (by rfl) (by rfl) (by rfl) (by rfl) (by rfl) (by exact PartsOk.nil) (by rfl) ?_
          | refine AL.build (qs := [(_, _)]) tyOk (by rfl) (by rfl) (by rfl) (by rfl) (by rfl) (by exact PartsOk.cons (by rfl) (by rfl) PartsOk.nil) (by rfl) ?_
          | refine AL.build (qs := [(_, _), (_, _)]) tyOk (by rfl) (by rfl) (by rfl) (by rfl) (by rfl) (by exact PartsOk.cons (by rfl) (by rfl) (PartsOk.cons (by rfl) (by rfl) PartsOk.nil)) (by rfl) ?_
          | refine AL.nilCheck (by rfl) (by rfl) (by rfl) (by rfl) ?_) | (first
              | refine AC.region ?_
              | refine AC.seq ?_
              | refine AC.block ?_
              | refine AC.ret ?_
              | refine AC.exit ?_
              | refine AC.skip ?_))
        refine AL.gSplit (by rfl) (by rfl) (by rfl) (by rfl) (by rfl) (Nat.le_of_ble_eq_true rfl) (fun h4 => ?_) (fun h4 => ?_)
        · repeat (first | (first
            | refine AL.nil ?_
            | refine AL.move (.inl (by rfl)) (by rfl) (by rfl) ?_
            | refine AL.move (.inr (by rfl)) (by rfl) (by rfl) ?_
            | refine AL.fieldAddr tyOk (by rfl) (by rfl) (by rfl) (by rfl) (by rfl) (by rfl) ?_
            | refine AL.load1 tyOk (by rfl) (by rfl) (by rfl) (by rfl) (by rfl) (by rfl) (by rfl) (by first | exact Nat.le_of_ble_eq_true rfl | (dsimp only; omega) | omega | assumption) (by first | exact Nat.le_of_ble_eq_true rfl | (dsimp only; omega) | omega | assumption) (by rfl) ?_
            | refine AL.loadAggE tyOk (by rfl) (by rfl) (by rfl) (by rfl) (by rfl) (by rfl) (by rfl) (by first | exact Nat.le_of_ble_eq_true rfl | (dsimp only; omega) | omega | assumption) (by first | exact Nat.le_of_ble_eq_true rfl | (dsimp only; omega) | omega | assumption) (by rfl) ?_
            | refine AL.stor tyOk (by rfl) (by rfl) (by rfl) (by rfl) (by rfl) (by rfl) (by rfl) (by rfl) (by rfl) (by first | exact Nat.le_of_ble_eq_true rfl | (dsimp only; omega) | omega | assumption) (by first | exact Nat.le_of_ble_eq_true rfl | (dsimp only; omega) | omega | assumption) ?_
            | refine AL.len (ty := 0) tyOk (by rfl) (by rfl) (by rfl) (by rfl) (by rfl) ?_
            | refine AL.add (by rfl) (by rfl) (by rfl) (by rfl) (by rfl) (by constructor <;> omega) ?_
            | refine AL.sub (by rfl) (by rfl) (by rfl) (by rfl) (by rfl) (by constructor <;> omega) ?_
            | refine AL.mul (by rfl) (by rfl) (by rfl) (by rfl) (by rfl) (by constructor <;> omega) ?_
            | refine AL.int2 (by rfl) (by rfl) (by rfl) (by rfl) (by rfl) (by rfl) (by first | trivial | decide | omega) ?_
            | refine AL.bEq (by rfl) (by rfl) (by rfl) (by rfl) (by rfl) Try.underlying4 ?_
            | refine AL.bNe (by rfl) (by rfl) (by rfl) (by rfl) (by rfl) Try.underlying4 ?_
            | refine AL.not (by rfl) (by rfl) (by rfl) (by rfl) ?_
            | refine AL.gOnE (by rfl) (by rfl) (by rfl) (by rfl) (by decide) (by first | rfl | assumption) ?_
            | refine AL.gOffE (by rfl) (by rfl) (by rfl) (by rfl) (by rfl) (by decide) (by first | rfl | assumption) ?_
            | refine AL.pickE (b' := true) (by rfl) (by rfl) (by rfl) (by rfl) (by first | rfl | assumption) ?_
            | refine AL.pickE (b' := false) (by rfl) (by rfl) (by rfl) (by rfl) (by first | rfl | assumption) ?_
            | refine AL.extract (by rfl) (by rfl) (by rfl) (by rfl) (by rfl) ?_
            | refine AL.boxD tyOk (by rfl) (by rfl) (by rfl) (Nat.le_of_ble_eq_true rfl) (by rfl) (by rfl) (by rfl) (by decide) (by rfl) ?_
            | refine AL.allocD tyOk (by rfl) (by rfl) (by rfl) (Nat.le_of_ble_eq_true rfl) (by rfl) (by rfl) (by decide) (by rfl) ?_
            | refine AL.indexN tyOk (by rfl) (by rfl) (by rfl) (by rfl) (by rfl) (by rfl) (by rfl) (by rfl) (by first | rfl | exact (Int.toNat_of_nonneg (by omega)).symm) (by omega) ?_
            | refine AL.indexSl tyOk (by rfl) (by rfl) (by rfl) (by rfl) (by rfl) (by rfl) (by rfl) (by rfl) (by constructor <;> omega) ?_
            | refine AL.indexArr tyOk (by rfl) (by rfl) (by rfl) (by rfl) (by rfl) (by rfl) (by constructor <;> omega) ?_
            | refine AL.makeD tyOk _ (by rfl) (by rfl) (by rfl) (Nat.le_of_ble_eq_true rfl) (by rfl) (by rfl) (by rfl) (by rfl) (by rfl) (by rfl) (by rfl) (by omega) (by omega) (by decide) (by rfl) ?_
            | refine AL.build (qs := []) tyOk (by rfl) (by rfl) (by rfl) (by rfl) (by rfl) (by exact PartsOk.nil) (by rfl) ?_
            | refine AL.build (qs := [(_, _)]) tyOk (by rfl) (by rfl) (by rfl) (by rfl) (by rfl) (by exact PartsOk.cons (by rfl) (by rfl) PartsOk.nil) (by rfl) ?_
            | refine AL.build (qs := [(_, _), (_, _)]) tyOk (by rfl) (by rfl) (by rfl) (by rfl) (by rfl) (by exact PartsOk.cons (by rfl) (by rfl) (PartsOk.cons (by rfl) (by rfl) PartsOk.nil)) (by rfl) ?_
            | refine AL.nilCheck (by rfl) (by rfl) (by rfl) (by rfl) ?_) | (first
                | refine AC.region ?_
                | refine AC.seq ?_
                | refine AC.block ?_
                | refine AC.ret ?_
                | refine AC.exit ?_
                | refine AC.skip ?_))
          refine And.intro (by first | exact .inr rfl | exact .inl rfl) (And.intro (by repeat (first | exact trivial | exact Nat.le_of_ble_eq_true rfl | rfl | exact ⟨_, rfl, rfl, Nat.le_refl _, rfl⟩ | refine And.intro ?_ ?_)) (And.intro (by rfl) (And.intro (by rfl) (And.intro (by repeat (first | exact trivial | exact Nat.le_of_ble_eq_true rfl | rfl | exact ⟨_, rfl, rfl, Nat.le_refl _, rfl⟩ | refine And.intro ?_ ?_)) (And.intro (by repeat (first | exact trivial | exact Nat.le_of_ble_eq_true rfl | rfl | exact ⟨_, rfl, rfl, Nat.le_refl _, rfl⟩ | refine And.intro ?_ ?_)) ?_)))))
          exact ⟨_, rfl, (by unfold pOk; simp [h1, hz] at h2 h3 h4 ⊢; omega), rfl⟩
        · repeat (first | (first
            | refine AL.nil ?_
            | refine AL.move (.inl (by rfl)) (by rfl) (by rfl) ?_
            | refine AL.move (.inr (by rfl)) (by rfl) (by rfl) ?_
            | refine AL.fieldAddr tyOk (by rfl) (by rfl) (by rfl) (by rfl) (by rfl) (by rfl) ?_
            | refine AL.load1 tyOk (by rfl) (by rfl) (by rfl) (by rfl) (by rfl) (by rfl) (by rfl) (by first | exact Nat.le_of_ble_eq_true rfl | (dsimp only; omega) | omega | assumption) (by first | exact Nat.le_of_ble_eq_true rfl | (dsimp only; omega) | omega | assumption) (by rfl) ?_
            | refine AL.loadAggE tyOk (by rfl) (by rfl) (by rfl) (by rfl) (by rfl) (by rfl) (by rfl) (by first | exact Nat.le_of_ble_eq_true rfl | (dsimp only; omega) | omega | assumption) (by first | exact Nat.le_of_ble_eq_true rfl | (dsimp only; omega) | omega | assumption) (by rfl) ?_
            | refine AL.stor tyOk (by rfl) (by rfl) (by rfl) (by rfl) (by rfl) (by rfl) (by rfl) (by rfl) (by rfl) (by first | exact Nat.le_of_ble_eq_true rfl | (dsimp only; omega) | omega | assumption) (by first | exact Nat.le_of_ble_eq_true rfl | (dsimp only; omega) | omega | assumption) ?_
            | refine AL.len (ty := 0) tyOk (by rfl) (by rfl) (by rfl) (by rfl) (by rfl) ?_
            | refine AL.add (by rfl) (by rfl) (by rfl) (by rfl) (by rfl) (by constructor <;> omega) ?_
            | refine AL.sub (by rfl) (by rfl) (by rfl) (by rfl) (by rfl) (by constructor <;> omega) ?_
            | refine AL.mul (by rfl) (by rfl) (by rfl) (by rfl) (by rfl) (by constructor <;> omega) ?_
            | refine AL.int2 (by rfl) (by rfl) (by rfl) (by rfl) (by rfl) (by rfl) (by first | trivial | decide | omega) ?_
            | refine AL.bEq (by rfl) (by rfl) (by rfl) (by rfl) (by rfl) Try.underlying4 ?_
            | refine AL.bNe (by rfl) (by rfl) (by rfl) (by rfl) (by rfl) Try.underlying4 ?_
            | refine AL.not (by rfl) (by rfl) (by rfl) (by rfl) ?_
            | refine AL.gOnE (by rfl) (by rfl) (by rfl) (by rfl) (by decide) (by first | rfl | assumption) ?_
            | refine AL.gOffE (by rfl) (by rfl) (by rfl) (by rfl) (by rfl) (by decide) (by first | rfl | assumption) ?_
            | refine AL.pickE (b' := true) (by rfl) (by rfl) (by rfl) (by rfl) (by first | rfl | assumption) ?_
            | refine AL.pickE (b' := false) (by rfl) (by rfl) (by rfl) (by rfl) (by first | rfl | assumption) ?_
            | refine AL.extract (by rfl) (by rfl) (by rfl) (by rfl) (by rfl) ?_
            | refine AL.boxD tyOk (by rfl) (by rfl) (by rfl) (Nat.le_of_ble_eq_true rfl) (by rfl) (by rfl) (by rfl) (by decide) (by rfl) ?_
            | refine AL.allocD tyOk (by rfl) (by rfl) (by rfl) (Nat.le_of_ble_eq_true rfl) (by rfl) (by rfl) (by decide) (by rfl) ?_
            | refine AL.indexN tyOk (by rfl) (by rfl) (by rfl) (by rfl) (by rfl) (by rfl) (by rfl) (by rfl) (by first | rfl | exact (Int.toNat_of_nonneg (by omega)).symm) (by omega) ?_
            | refine AL.indexSl tyOk (by rfl) (by rfl) (by rfl) (by rfl) (by rfl) (by rfl) (by rfl) (by rfl) (by constructor <;> omega) ?_
            | refine AL.indexArr tyOk (by rfl) (by rfl) (by rfl) (by rfl) (by rfl) (by rfl) (by constructor <;> omega) ?_
            | refine AL.makeD tyOk _ (by rfl) (by rfl) (by rfl) (Nat.le_of_ble_eq_true rfl) (by rfl) (by rfl) (by rfl) (by rfl) (by rfl) (by rfl) (by rfl) (by omega) (by omega) (by decide) (by rfl) ?_
            | refine AL.build (qs := []) tyOk (by rfl) (by rfl) (by rfl) (by rfl) (by rfl) (by exact PartsOk.nil) (by rfl) ?_
            | refine AL.build (qs := [(_, _)]) tyOk (by rfl) (by rfl) (by rfl) (by rfl) (by rfl) (by exact PartsOk.cons (by rfl) (by rfl) PartsOk.nil) (by rfl) ?_
            | refine AL.build (qs := [(_, _), (_, _)]) tyOk (by rfl) (by rfl) (by rfl) (by rfl) (by rfl) (by exact PartsOk.cons (by rfl) (by rfl) (PartsOk.cons (by rfl) (by rfl) PartsOk.nil)) (by rfl) ?_
            | refine AL.nilCheck (by rfl) (by rfl) (by rfl) (by rfl) ?_) | (first
                | refine AC.region ?_
                | refine AC.seq ?_
                | refine AC.block ?_
                | refine AC.ret ?_
                | refine AC.exit ?_
                | refine AC.skip ?_))
          refine And.intro (by first | exact .inr rfl | exact .inl rfl) (And.intro (by repeat (first | exact trivial | exact Nat.le_of_ble_eq_true rfl | rfl | exact ⟨_, rfl, rfl, Nat.le_refl _, rfl⟩ | refine And.intro ?_ ?_)) (And.intro (by rfl) (And.intro (by rfl) (And.intro (by repeat (first | exact trivial | exact Nat.le_of_ble_eq_true rfl | rfl | exact ⟨_, rfl, rfl, Nat.le_refl _, rfl⟩ | refine And.intro ?_ ?_)) (And.intro (by repeat (first | exact trivial | exact Nat.le_of_ble_eq_true rfl | rfl | exact ⟨_, rfl, rfl, Nat.le_refl _, rfl⟩ | refine And.intro ?_ ?_)) ?_)))))
          exact ⟨_, rfl, (by unfold pOk; simp [h1, hz] at h2 h3 h4 ⊢; omega), rfl⟩
      · repeat (first | (first
          | refine AL.nil ?_
          | refine AL.move (.inl (by rfl)) (by rfl) (by rfl) ?_
          | refine AL.move (.inr (by rfl)) (by rfl) (by rfl) ?_
          | refine AL.fieldAddr tyOk (by rfl) (by rfl) (by rfl) (by rfl) (by rfl) (by rfl) ?_
          | refine AL.load1 tyOk (by rfl) (by rfl) (by rfl) (by rfl) (by rfl) (by rfl) (by rfl) (by first | exact Nat.le_of_ble_eq_true rfl | (dsimp only; omega) | omega | assumption) (by first | exact Nat.le_of_ble_eq_true rfl | (dsimp only; omega) | omega | assumption) (by rfl) ?_
          | refine AL.loadAggE tyOk (by rfl) (by rfl) (by rfl) (by rfl) (by rfl) (by rfl) (by rfl) (by first | exact Nat.le_of_ble_eq_true rfl | (dsimp only; omega) | omega | assumption) (by first | exact Nat.le_of_ble_eq_true rfl | (dsimp only; omega) | omega | assumption) (by rfl) ?_
          | refine AL.stor tyOk (by rfl) (by rfl) (by rfl) (by rfl) (by rfl) (by rfl) (by rfl) (by rfl) (by rfl) (by first | exact Nat.le_of_ble_eq_true rfl | (dsimp only; omega) | omega | assumption) (by first | exact Nat.le_of_ble_eq_true rfl | (dsimp only; omega) | omega | assumption) ?_
          | refine AL.len (ty := 0) tyOk (by rfl) (by rfl) (by rfl) (by rfl) (by rfl) ?_
          | refine AL.add (by rfl) (by rfl) (by rfl) (by rfl) (by rfl) (by constructor <;> omega) ?_
          | refine AL.sub (by rfl) (by rfl) (by rfl) (by rfl) (by rfl) (by constructor <;> omega) ?_
          | refine AL.mul (by rfl) (by rfl) (by rfl) (by rfl) (by rfl) (by constructor <;> omega) ?_
          | refine AL.int2 (by rfl) (by rfl) (by rfl) (by rfl) (by rfl) (by rfl) (by first | trivial | decide | omega) ?_
          | refine AL.bEq (by rfl) (by rfl) (by rfl) (by rfl) (by rfl) Try.underlying4 ?_
          | refine AL.bNe (by rfl) (by rfl) (by rfl) (by rfl) (by rfl) Try.underlying4 ?_
          | refine AL.not (by rfl) (by rfl) (by rfl) (by rfl) ?_
          | refine AL.gOnE (by rfl) (by rfl) (by rfl) (by rfl) (by decide) (by first | rfl | assumption) ?_
          | refine AL.gOffE (by rfl) (by rfl) (by rfl) (by rfl) (by rfl) (by decide) (by first | rfl | assumption) ?_
          | refine AL.pickE (b' := true) (by rfl) (by rfl) (by rfl) (by rfl) (by first | rfl | assumption) ?_
          | refine AL.pickE (b' := false) (by rfl) (by rfl) (by rfl) (by rfl) (by first | rfl | assumption) ?_
          | refine AL.extract (by rfl) (by rfl) (by rfl) (by rfl) (by rfl) ?_
          | refine AL.boxD tyOk (by rfl) (by rfl) (by rfl) (Nat.le_of_ble_eq_true rfl) (by rfl) (by rfl) (by rfl) (by decide) (by rfl) ?_
          | refine AL.allocD tyOk (by rfl) (by rfl) (by rfl) (Nat.le_of_ble_eq_true rfl) (by rfl) (by rfl) (by decide) (by rfl) ?_
          | refine AL.indexN tyOk (by rfl) (by rfl) (by rfl) (by rfl) (by rfl) (by rfl) (by rfl) (by rfl) (by first | rfl | exact (Int.toNat_of_nonneg (by omega)).symm) (by omega) ?_
          | refine AL.indexSl tyOk (by rfl) (by rfl) (by rfl) (by rfl) (by rfl) (by rfl) (by rfl) (by rfl) (by constructor <;> omega) ?_
          | refine AL.indexArr tyOk (by rfl) (by rfl) (by rfl) (by rfl) (by rfl) (by rfl) (by constructor <;> omega) ?_
          | refine AL.makeD tyOk _ (by rfl) (by rfl) (by rfl) (Nat.le_of_ble_eq_true rfl) (by rfl) (by rfl) (by rfl) (by rfl) (by rfl) (by rfl) (by rfl) (by omega) (by omega) (by decide) (by rfl) ?_
          | refine AL.build (qs := []) tyOk (by rfl) (by rfl) (by rfl) (by rfl) (by rfl) (by exact PartsOk.nil) (by rfl) ?_
          | refine AL.build (qs := [(_, _)]) tyOk (by rfl) (by rfl) (by rfl) (by rfl) (by rfl) (by exact PartsOk.cons (by rfl) (by rfl) PartsOk.nil) (by rfl) ?_
          | refine AL.build (qs := [(_, _), (_, _)]) tyOk (by rfl) (by rfl) (by rfl) (by rfl) (by rfl) (by exact PartsOk.cons (by rfl) (by rfl) (PartsOk.cons (by rfl) (by rfl) PartsOk.nil)) (by rfl) ?_
          | refine AL.nilCheck (by rfl) (by rfl) (by rfl) (by rfl) ?_) | (first
              | refine AC.region ?_
              | refine AC.seq ?_
              | refine AC.block ?_
              | refine AC.ret ?_
              | refine AC.exit ?_
              | refine AC.skip ?_))
        refine And.intro (by first | exact .inr rfl | exact .inl rfl) (And.intro (by repeat (first | exact trivial | exact Nat.le_of_ble_eq_true rfl | rfl | exact ⟨_, rfl, rfl, Nat.le_refl _, rfl⟩ | refine And.intro ?_ ?_)) (And.intro (by rfl) (And.intro (by rfl) (And.intro (by repeat (first | exact trivial | exact Nat.le_of_ble_eq_true rfl | rfl | exact ⟨_, rfl, rfl, Nat.le_refl _, rfl⟩ | refine And.intro ?_ ?_)) (And.intro (by repeat (first | exact trivial | exact Nat.le_of_ble_eq_true rfl | rfl | exact ⟨_, rfl, rfl, Nat.le_refl _, rfl⟩ | refine And.intro ?_ ?_)) ?_)))))
        exact ⟨_, rfl, (by unfold pOk; simp [h1, hz] at h2 h3 ⊢; omega), rfl⟩
    · repeat (first | (first
        | refine AL.nil ?_
        | refine AL.move (.inl (by rfl)) (by rfl) (by rfl) ?_
        | refine AL.move (.inr (by rfl)) (by rfl) (by rfl) ?_
        | refine AL.fieldAddr tyOk (by rfl) (by rfl) (by rfl) (by rfl) (by rfl) (by rfl) ?_
        | refine AL.load1 tyOk (by rfl) (by rfl) (by rfl) (by rfl) (by rfl) (by rfl) (by rfl) (by first | exact Nat.le_of_ble_eq_true rfl | (dsimp only; omega) | omega | assumption) (by first | exact Nat.le_of_ble_eq_true rfl | (dsimp only; omega) | omega | assumption) (by rfl) ?_
        | refine AL.loadAggE tyOk (by rfl) (by rfl) (by rfl) (by rfl) (by rfl) (by rfl) (by rfl) (by first | exact Nat.le_of_ble_eq_true rfl | (dsimp only; omega) | omega | assumption) (by first | exact Nat.le_of_ble_eq_true rfl | (dsimp only; omega) | omega | assumption) (by rfl) ?_
        | refine AL.stor tyOk (by rfl) (by rfl) (by rfl) (by rfl) (by rfl) (by rfl) (by rfl) (by rfl) (by rfl) (by first | exact Nat.le_of_ble_eq_true rfl | (dsimp only; omega) | omega | assumption) (by first | exact Nat.le_of_ble_eq_true rfl | (dsimp only; omega) | omega | assumption) ?_
        | refine AL.len (ty := 0) tyOk (by rfl) (by rfl) (by rfl) (by rfl) (by rfl) ?_
        | refine AL.add (by rfl) (by rfl) (by rfl) (by rfl) (by rfl) (by constructor <;> omega) ?_
        | refine AL.sub (by rfl) (by rfl) (by rfl) (by rfl) (by rfl) (by constructor <;> omega) ?_
        | refine AL.mul (by rfl) (by rfl) (by rfl) (by rfl) (by rfl) (by constructor <;> omega) ?_
        | refine AL.int2 (by rfl) (by rfl) (by rfl) (by rfl) (by rfl) (by rfl) (by first | trivial | decide | omega) ?_
        | refine AL.bEq (by rfl) (by rfl) (by rfl) (by rfl) (by rfl) Try.underlying4 ?_
        | refine AL.bNe (by rfl) (by rfl) (by rfl) (by rfl) (by rfl) Try.underlying4 ?_
        | refine AL.not (by rfl) (by rfl) (by rfl) (by rfl) ?_
        | refine AL.gOnE (by rfl) (by rfl) (by rfl) (by rfl) (by decide) (by first | rfl | assumption) ?_
        | refine AL.gOffE (by rfl) (by rfl) (by rfl) (by rfl) (by rfl) (by decide) (by first | rfl | assumption) ?_
        | refine AL.pickE (b' := true) (by rfl) (by rfl) (by rfl) (by rfl) (by first | rfl | assumption) ?_
        | refine AL.pickE (b' := false) (by rfl) (by rfl) (by rfl) (by rfl) (by first | rfl | assumption) ?_
        | refine AL.extract (by rfl) (by rfl) (by rfl) (by rfl) (by rfl) ?_
        | refine AL.boxD tyOk (by rfl) (by rfl) (by rfl) (Nat.le_of_ble_eq_true rfl) (by rfl) (by rfl) (by rfl) (by decide) (by rfl) ?_
        | refine AL.allocD tyOk (by rfl) (by rfl) (by rfl) (Nat.le_of_ble_eq_true rfl) (by rfl) (by rfl) (by decide) (by rfl) ?_
        | refine AL.indexN tyOk (by rfl) (by rfl) (by rfl) (by rfl) (by rfl) (by rfl) (by rfl) (by rfl) (by first | rfl | exact (Int.toNat_of_nonneg (by omega)).symm) (by omega) ?_
        | refine AL.indexSl tyOk (by rfl) (by rfl) (by rfl) (by rfl) (by rfl) (by rfl) (by rfl) (by rfl) (by constructor <;> omega) ?_
        | refine AL.indexArr tyOk (by rfl) (by rfl) (by rfl) (by rfl) (by rfl) (by rfl) (by constructor <;> omega) ?_
        | refine AL.makeD tyOk _ (by rfl) (by rfl) (by rfl) (Nat.le_of_ble_eq_true rfl) (by rfl) (by rfl) (by rfl) (by rfl) (by rfl) (by rfl) (by rfl) (by omega) (by omega) (by decide) (by rfl) ?_
        | refine AL.build (qs := []) tyOk (by rfl) (by rfl) (by rfl) (by rfl) (by rfl) (by exact PartsOk.nil) (by rfl) ?_
        | refine AL.build (qs := [(_, _)]) tyOk (by rfl) (by rfl) (by rfl) (by rfl) (by rfl) (by exact PartsOk.cons (by rfl) (by rfl) PartsOk.nil) (by rfl) ?_
        | refine AL.build (qs := [(_, _), (_, _)]) tyOk (by rfl) (by rfl) (by rfl) (by rfl) (by rfl) (by exact PartsOk.cons (by rfl) (by rfl) (PartsOk.cons (by rfl) (by rfl) PartsOk.nil)) (by rfl) ?_
        | refine AL.nilCheck (by rfl) (by rfl) (by rfl) (by rfl) ?_) | (first
            | refine AC.region ?_
            | refine AC.seq ?_
            | refine AC.block ?_
            | refine AC.ret ?_
            | refine AC.exit ?_
            | refine AC.skip ?_))
      refine And.intro (by first | exact .inr rfl | exact .inl rfl) (And.intro (by repeat (first | exact trivial | exact Nat.le_of_ble_eq_true rfl | rfl | exact ⟨_, rfl, rfl, Nat.le_refl _, rfl⟩ | refine And.intro ?_ ?_)) (And.intro (by rfl) (And.intro (by rfl) (And.intro (by repeat (first | exact trivial | exact Nat.le_of_ble_eq_true rfl | rfl | exact ⟨_, rfl, rfl, Nat.le_refl _, rfl⟩ | refine And.intro ?_ ?_)) (And.intro (by repeat (first | exact trivial | exact Nat.le_of_ble_eq_true rfl | rfl | exact ⟨_, rfl, rfl, Nat.le_refl _, rfl⟩ | refine And.intro ?_ ?_)) ?_)))))
      exact ⟨_, rfl, (by unfold pOk; simp [h1, hz] at h2 ⊢; omega), rfl⟩
end Go.Proofs.Ytbdegnamlmabbab
