import Derived.Test.YtlmmmeknilgdhaaZGL
import Derived.Test.YtlmmmeknilgdhaaVU
import Derived.Test.YtlmmmeknilgdhaaUP
section
/- slices.Clone of rows; a limbo is copied. -/
namespace Go.Proofs.Ytlmmmeknilgdhaa
open Go Go.Tr
set_option maxRecDepth 100000
set_option maxHeartbeats 4000000
set_option linter.unusedVariables false
set_option linter.unusedSimpArgs false
theorem CloneR_base (e n : Nat) (row : Nat → Nat → C) (hn : n ≤ 1048576) (hfl : ∀ i r, r < 2 → ∃ v, row i r = .lit v) :
    Run Try.prog 157 [.one (.c (.sl .fro e 2 n row))] [] fun outs ext => outs = [.one (.sl .own 177 2 n row)] ∧ ext = [] := by
  refine Run.of_body tyOk Try.func157 (by rfl) (Nat.le_of_ble_eq_true rfl) (by simp [argsOk, aasOk, aaOk]) [] rfl (fun F hF => ?_)
  repeat (first | (first | refine AL.nil ?_ | refine AL.move (.inl (by rfl)) (by rfl) (by rfl) ?_ | refine AL.move (.inr (by rfl)) (by rfl) (by rfl) ?_ | refine AL.fieldAddr tyOk (by rfl) (by rfl) (by rfl) (by rfl) (by rfl) (by rfl) ?_ | refine AL.load1 tyOk (by rfl) (by rfl) (by rfl) (by rfl) (by rfl) (by rfl) (by rfl) (by first | exact Nat.le_of_ble_eq_true rfl | (dsimp only; omega) | omega | assumption | (simp only [openR]; omega) | exact Nat.lt_of_lt_of_le (m := 3) (by omega) (Nat.le_of_ble_eq_true rfl)) (by first | exact Nat.le_of_ble_eq_true rfl | (dsimp only; omega) | omega | assumption | (simp only [openR]; omega) | exact Nat.lt_of_lt_of_le (m := 3) (by omega) (Nat.le_of_ble_eq_true rfl)) (by rfl) ?_ | refine AL.loadAggE tyOk (by rfl) (by rfl) (by rfl) (by rfl) (by rfl) (by rfl) (by rfl) (by first | exact Nat.le_of_ble_eq_true rfl | (dsimp only; omega) | omega | assumption | (simp only [openR]; omega) | exact Nat.lt_of_lt_of_le (m := 3) (by omega) (Nat.le_of_ble_eq_true rfl)) (by first | exact Nat.le_of_ble_eq_true rfl | (dsimp only; omega) | omega | assumption | (simp only [openR]; omega) | exact Nat.lt_of_lt_of_le (m := 3) (by omega) (Nat.le_of_ble_eq_true rfl)) (by rfl) ?_ | refine AL.stor tyOk (by rfl) (by rfl) (by rfl) (by rfl) (by rfl) (by rfl) (by rfl) (by rfl) (by rfl) (by first | exact Nat.le_of_ble_eq_true rfl | (dsimp only; omega) | omega | assumption | (simp only [openR]; omega) | exact Nat.lt_of_lt_of_le (m := 3) (by omega) (Nat.le_of_ble_eq_true rfl)) (by first | exact Nat.le_of_ble_eq_true rfl | (dsimp only; omega) | omega | assumption | (simp only [openR]; omega) | exact Nat.lt_of_lt_of_le (m := 3) (by omega) (Nat.le_of_ble_eq_true rfl)) ?_ | refine AL.len (ty := 0) tyOk (by rfl) (by rfl) (by rfl) (by rfl) (by rfl) ?_ | refine AL.add (by rfl) (by rfl) (by rfl) (by rfl) (by rfl) (by constructor <;> omega) ?_ | refine AL.sub (by rfl) (by rfl) (by rfl) (by rfl) (by rfl) (by constructor <;> omega) ?_ | refine AL.mul (by rfl) (by rfl) (by rfl) (by rfl) (by rfl) (by constructor <;> omega) ?_ | refine AL.int2 (by rfl) (by rfl) (by rfl) (by rfl) (by rfl) (by rfl) (by first | trivial | decide | omega) ?_ | refine AL.bEq (by rfl) (by rfl) (by rfl) (by rfl) (by rfl) Try.underlying4 ?_ | refine AL.bNe (by rfl) (by rfl) (by rfl) (by rfl) (by rfl) Try.underlying4 ?_ | refine AL.not (by rfl) (by rfl) (by rfl) (by rfl) ?_ | refine AL.gOnE (by rfl) (by rfl) (by rfl) (by rfl) (by decide) (by first | rfl | assumption) ?_ | refine AL.gOffE (by rfl) (by rfl) (by rfl) (by rfl) (by rfl) (by decide) (by first | rfl | assumption) ?_ | refine AL.pickE (b' := true) (by rfl) (by rfl) (by rfl) (by rfl) (by first | rfl | assumption) ?_ | refine AL.pickE (b' := false) (by rfl) (by rfl) (by rfl) (by rfl) (by first | rfl | assumption) ?_ | refine AL.extract (by rfl) (by rfl) (by rfl) (by rfl) (by rfl) ?_ | refine AL.boxD tyOk (by rfl) (by rfl) (by rfl) (Nat.le_of_ble_eq_true rfl) (by rfl) (by rfl) (by rfl) (by decide) (by rfl) ?_ | refine AL.allocD tyOk (by rfl) (by rfl) (by rfl) (Nat.le_of_ble_eq_true rfl) (by rfl) (by rfl) (by decide) (by rfl) ?_ | refine AL.indexN tyOk (by rfl) (by rfl) (by rfl) (by rfl) (by rfl) (by rfl) (by rfl) (by rfl) (by first | rfl | exact (Int.toNat_of_nonneg (by omega)).symm) (by omega) ?_ | refine AL.indexSl tyOk (by rfl) (by rfl) (by rfl) (by rfl) (by rfl) (by rfl) (by rfl) (by rfl) (by constructor <;> omega) ?_ | refine AL.indexArr tyOk (by rfl) (by rfl) (by rfl) (by rfl) (by rfl) (by rfl) (by constructor <;> omega) ?_ | refine AL.makeD tyOk _ (by rfl) (by rfl) (by rfl) (Nat.le_of_ble_eq_true rfl) (by rfl) (by rfl) (by rfl) (by rfl) (by rfl) (by rfl) (by rfl) (by omega) (by omega) (by decide) (by rfl) ?_ | refine AL.build (qs := []) tyOk (by rfl) (by rfl) (by rfl) (by rfl) (by rfl) (by exact PartsOk.nil) (by rfl) ?_ | refine AL.build (qs := [(_, _)]) tyOk (by rfl) (by rfl) (by rfl) (by rfl) (by rfl) (by exact PartsOk.cons (by rfl) (by rfl) PartsOk.nil) (by rfl) ?_ | refine AL.build (qs := [(_, _), (_, _)]) tyOk (by rfl) (by rfl) (by rfl) (by rfl) (by rfl) (by exact PartsOk.cons (by rfl) (by rfl) (PartsOk.cons (by rfl) (by rfl) PartsOk.nil)) (by rfl) ?_ | refine AL.nilCheck (by rfl) (by rfl) (by rfl) (by rfl) ?_) | (first | refine AC.region ?_ | refine AC.seq ?_ | refine AC.block ?_ | refine AC.ret ?_ | refine AC.exit ?_ | refine AC.skip ?_))
  refine AL.isNil (by rfl) (by rfl) (by rfl) (by rfl) (by rfl) Try.underlying173 (fun b hb => ?_)
  repeat (first | (first | refine AL.nil ?_ | refine AL.move (.inl (by rfl)) (by rfl) (by rfl) ?_ | refine AL.move (.inr (by rfl)) (by rfl) (by rfl) ?_ | refine AL.fieldAddr tyOk (by rfl) (by rfl) (by rfl) (by rfl) (by rfl) (by rfl) ?_ | refine AL.load1 tyOk (by rfl) (by rfl) (by rfl) (by rfl) (by rfl) (by rfl) (by rfl) (by first | exact Nat.le_of_ble_eq_true rfl | (dsimp only; omega) | omega | assumption | (simp only [openR]; omega) | exact Nat.lt_of_lt_of_le (m := 3) (by omega) (Nat.le_of_ble_eq_true rfl)) (by first | exact Nat.le_of_ble_eq_true rfl | (dsimp only; omega) | omega | assumption | (simp only [openR]; omega) | exact Nat.lt_of_lt_of_le (m := 3) (by omega) (Nat.le_of_ble_eq_true rfl)) (by rfl) ?_ | refine AL.loadAggE tyOk (by rfl) (by rfl) (by rfl) (by rfl) (by rfl) (by rfl) (by rfl) (by first | exact Nat.le_of_ble_eq_true rfl | (dsimp only; omega) | omega | assumption | (simp only [openR]; omega) | exact Nat.lt_of_lt_of_le (m := 3) (by omega) (Nat.le_of_ble_eq_true rfl)) (by first | exact Nat.le_of_ble_eq_true rfl | (dsimp only; omega) | omega | assumption | (simp only [openR]; omega) | exact Nat.lt_of_lt_of_le (m := 3) (by omega) (Nat.le_of_ble_eq_true rfl)) (by rfl) ?_ | refine AL.stor tyOk (by rfl) (by rfl) (by rfl) (by rfl) (by rfl) (by rfl) (by rfl) (by rfl) (by rfl) (by first | exact Nat.le_of_ble_eq_true rfl | (dsimp only; omega) | omega | assumption | (simp only [openR]; omega) | exact Nat.lt_of_lt_of_le (m := 3) (by omega) (Nat.le_of_ble_eq_true rfl)) (by first | exact Nat.le_of_ble_eq_true rfl | (dsimp only; omega) | omega | assumption | (simp only [openR]; omega) | exact Nat.lt_of_lt_of_le (m := 3) (by omega) (Nat.le_of_ble_eq_true rfl)) ?_ | refine AL.len (ty := 0) tyOk (by rfl) (by rfl) (by rfl) (by rfl) (by rfl) ?_ | refine AL.add (by rfl) (by rfl) (by rfl) (by rfl) (by rfl) (by constructor <;> omega) ?_ | refine AL.sub (by rfl) (by rfl) (by rfl) (by rfl) (by rfl) (by constructor <;> omega) ?_ | refine AL.mul (by rfl) (by rfl) (by rfl) (by rfl) (by rfl) (by constructor <;> omega) ?_ | refine AL.int2 (by rfl) (by rfl) (by rfl) (by rfl) (by rfl) (by rfl) (by first | trivial | decide | omega) ?_ | refine AL.bEq (by rfl) (by rfl) (by rfl) (by rfl) (by rfl) Try.underlying4 ?_ | refine AL.bNe (by rfl) (by rfl) (by rfl) (by rfl) (by rfl) Try.underlying4 ?_ | refine AL.not (by rfl) (by rfl) (by rfl) (by rfl) ?_ | refine AL.gOnE (by rfl) (by rfl) (by rfl) (by rfl) (by decide) (by first | rfl | assumption) ?_ | refine AL.gOffE (by rfl) (by rfl) (by rfl) (by rfl) (by rfl) (by decide) (by first | rfl | assumption) ?_ | refine AL.pickE (b' := true) (by rfl) (by rfl) (by rfl) (by rfl) (by first | rfl | assumption) ?_ | refine AL.pickE (b' := false) (by rfl) (by rfl) (by rfl) (by rfl) (by first | rfl | assumption) ?_ | refine AL.extract (by rfl) (by rfl) (by rfl) (by rfl) (by rfl) ?_ | refine AL.boxD tyOk (by rfl) (by rfl) (by rfl) (Nat.le_of_ble_eq_true rfl) (by rfl) (by rfl) (by rfl) (by decide) (by rfl) ?_ | refine AL.allocD tyOk (by rfl) (by rfl) (by rfl) (Nat.le_of_ble_eq_true rfl) (by rfl) (by rfl) (by decide) (by rfl) ?_ | refine AL.indexN tyOk (by rfl) (by rfl) (by rfl) (by rfl) (by rfl) (by rfl) (by rfl) (by rfl) (by first | rfl | exact (Int.toNat_of_nonneg (by omega)).symm) (by omega) ?_ | refine AL.indexSl tyOk (by rfl) (by rfl) (by rfl) (by rfl) (by rfl) (by rfl) (by rfl) (by rfl) (by constructor <;> omega) ?_ | refine AL.indexArr tyOk (by rfl) (by rfl) (by rfl) (by rfl) (by rfl) (by rfl) (by constructor <;> omega) ?_ | refine AL.makeD tyOk _ (by rfl) (by rfl) (by rfl) (Nat.le_of_ble_eq_true rfl) (by rfl) (by rfl) (by rfl) (by rfl) (by rfl) (by rfl) (by rfl) (by omega) (by omega) (by decide) (by rfl) ?_ | refine AL.build (qs := []) tyOk (by rfl) (by rfl) (by rfl) (by rfl) (by rfl) (by exact PartsOk.nil) (by rfl) ?_ | refine AL.build (qs := [(_, _)]) tyOk (by rfl) (by rfl) (by rfl) (by rfl) (by rfl) (by exact PartsOk.cons (by rfl) (by rfl) PartsOk.nil) (by rfl) ?_ | refine AL.build (qs := [(_, _), (_, _)]) tyOk (by rfl) (by rfl) (by rfl) (by rfl) (by rfl) (by exact PartsOk.cons (by rfl) (by rfl) (PartsOk.cons (by rfl) (by rfl) PartsOk.nil)) (by rfl) ?_ | refine AL.nilCheck (by rfl) (by rfl) (by rfl) (by rfl) ?_) | (first | refine AC.region ?_ | refine AC.seq ?_ | refine AC.block ?_ | refine AC.ret ?_ | refine AC.exit ?_ | refine AC.skip ?_))
  refine AC.cond (by rfl) (fun h => ?_) (fun h => ?_)
  · have h0 : n = 0 := hb (by simpa using h)
    subst h0
    repeat (first | (first | (first | refine AL.nil ?_ | refine AL.move (.inl (by rfl)) (by rfl) (by rfl) ?_ | refine AL.move (.inr (by rfl)) (by rfl) (by rfl) ?_ | refine AL.fieldAddr tyOk (by rfl) (by rfl) (by rfl) (by rfl) (by rfl) (by rfl) ?_ | refine AL.load1 tyOk (by rfl) (by rfl) (by rfl) (by rfl) (by rfl) (by rfl) (by rfl) (by first | exact Nat.le_of_ble_eq_true rfl | (dsimp only; omega) | omega | assumption | (simp only [openR]; omega) | exact Nat.lt_of_lt_of_le (m := 3) (by omega) (Nat.le_of_ble_eq_true rfl)) (by first | exact Nat.le_of_ble_eq_true rfl | (dsimp only; omega) | omega | assumption | (simp only [openR]; omega) | exact Nat.lt_of_lt_of_le (m := 3) (by omega) (Nat.le_of_ble_eq_true rfl)) (by rfl) ?_ | refine AL.loadAggE tyOk (by rfl) (by rfl) (by rfl) (by rfl) (by rfl) (by rfl) (by rfl) (by first | exact Nat.le_of_ble_eq_true rfl | (dsimp only; omega) | omega | assumption | (simp only [openR]; omega) | exact Nat.lt_of_lt_of_le (m := 3) (by omega) (Nat.le_of_ble_eq_true rfl)) (by first | exact Nat.le_of_ble_eq_true rfl | (dsimp only; omega) | omega | assumption | (simp only [openR]; omega) | exact Nat.lt_of_lt_of_le (m := 3) (by omega) (Nat.le_of_ble_eq_true rfl)) (by rfl) ?_ | refine AL.stor tyOk (by rfl) (by rfl) (by rfl) (by rfl) (by rfl) (by rfl) (by rfl) (by rfl) (by rfl) (by first | exact Nat.le_of_ble_eq_true rfl | (dsimp only; omega) | omega | assumption | (simp only [openR]; omega) | exact Nat.lt_of_lt_of_le (m := 3) (by omega) (Nat.le_of_ble_eq_true rfl)) (by first | exact Nat.le_of_ble_eq_true rfl | (dsimp only; omega) | omega | assumption | (simp only [openR]; omega) | exact Nat.lt_of_lt_of_le (m := 3) (by omega) (Nat.le_of_ble_eq_true rfl)) ?_ | refine AL.len (ty := 0) tyOk (by rfl) (by rfl) (by rfl) (by rfl) (by rfl) ?_ | refine AL.add (by rfl) (by rfl) (by rfl) (by rfl) (by rfl) (by constructor <;> omega) ?_ | refine AL.sub (by rfl) (by rfl) (by rfl) (by rfl) (by rfl) (by constructor <;> omega) ?_ | refine AL.mul (by rfl) (by rfl) (by rfl) (by rfl) (by rfl) (by constructor <;> omega) ?_ | refine AL.int2 (by rfl) (by rfl) (by rfl) (by rfl) (by rfl) (by rfl) (by first | trivial | decide | omega) ?_ | refine AL.bEq (by rfl) (by rfl) (by rfl) (by rfl) (by rfl) Try.underlying4 ?_ | refine AL.bNe (by rfl) (by rfl) (by rfl) (by rfl) (by rfl) Try.underlying4 ?_ | refine AL.not (by rfl) (by rfl) (by rfl) (by rfl) ?_ | refine AL.gOnE (by rfl) (by rfl) (by rfl) (by rfl) (by decide) (by first | rfl | assumption) ?_ | refine AL.gOffE (by rfl) (by rfl) (by rfl) (by rfl) (by rfl) (by decide) (by first | rfl | assumption) ?_ | refine AL.pickE (b' := true) (by rfl) (by rfl) (by rfl) (by rfl) (by first | rfl | assumption) ?_ | refine AL.pickE (b' := false) (by rfl) (by rfl) (by rfl) (by rfl) (by first | rfl | assumption) ?_ | refine AL.extract (by rfl) (by rfl) (by rfl) (by rfl) (by rfl) ?_ | refine AL.boxD tyOk (by rfl) (by rfl) (by rfl) (Nat.le_of_ble_eq_true rfl) (by rfl) (by rfl) (by rfl) (by decide) (by rfl) ?_ | refine AL.allocD tyOk (by rfl) (by rfl) (by rfl) (Nat.le_of_ble_eq_true rfl) (by rfl) (by rfl) (by decide) (by rfl) ?_ | refine AL.indexN tyOk (by rfl) (by rfl) (by rfl) (by rfl) (by rfl) (by rfl) (by rfl) (by rfl) (by first | rfl | exact (Int.toNat_of_nonneg (by omega)).symm) (by omega) ?_ | refine AL.indexSl tyOk (by rfl) (by rfl) (by rfl) (by rfl) (by rfl) (by rfl) (by rfl) (by rfl) (by constructor <;> omega) ?_ | refine AL.indexArr tyOk (by rfl) (by rfl) (by rfl) (by rfl) (by rfl) (by rfl) (by constructor <;> omega) ?_ | refine AL.makeD tyOk _ (by rfl) (by rfl) (by rfl) (Nat.le_of_ble_eq_true rfl) (by rfl) (by rfl) (by rfl) (by rfl) (by rfl) (by rfl) (by rfl) (by omega) (by omega) (by decide) (by rfl) ?_ | refine AL.build (qs := []) tyOk (by rfl) (by rfl) (by rfl) (by rfl) (by rfl) (by exact PartsOk.nil) (by rfl) ?_ | refine AL.build (qs := [(_, _)]) tyOk (by rfl) (by rfl) (by rfl) (by rfl) (by rfl) (by exact PartsOk.cons (by rfl) (by rfl) PartsOk.nil) (by rfl) ?_ | refine AL.build (qs := [(_, _), (_, _)]) tyOk (by rfl) (by rfl) (by rfl) (by rfl) (by rfl) (by exact PartsOk.cons (by rfl) (by rfl) (PartsOk.cons (by rfl) (by rfl) PartsOk.nil)) (by rfl) ?_ | refine AL.nilCheck (by rfl) (by rfl) (by rfl) (by rfl) ?_) | refine AL.buildSl0D tyOk (by rfl) (by rfl) (by rfl) (by rfl) (Nat.le_of_ble_eq_true rfl) (by rfl) (by decide) (by rfl) ?_ | refine AL.copyN tyOk (by rfl) (by rfl) (by rfl) (by rfl) (by rfl) (by rfl) (by rfl) (by rfl) (by rfl) (by rfl) (by rfl) (by rfl) (by rfl) ?_ | refine AL.append0 tyOk (by rfl) (by rfl) (by rfl) (by rfl) (by rfl) (by rfl) (by rfl) (by rfl) (by rfl) (by rfl) (by rfl) (by rfl) (by rfl) (by rfl) (by rfl) (okK_lt (by decide)) (by first | omega | (dsimp only; omega) | (unfold maxLen; dsimp only; omega)) (by first | omega | (dsimp only; omega) | (unfold maxLen; dsimp only; omega)) ?_ | refine AL.appendL tyOk (by rfl) (by rfl) (by rfl) (by rfl) (by rfl) (by rfl) (by rfl) (by rfl) (by rfl) (by rfl) (by rfl) (by rfl) (by rfl) (by rfl) (by rfl) (fun _ _ _ _ => rfl) (okK_lt (by decide)) (by first | omega | (dsimp only; omega) | (unfold maxLen; dsimp only; omega)) (by first | omega | (dsimp only; omega) | (unfold maxLen; dsimp only; omega)) ?_) | (first | refine AC.region ?_ | refine AC.seq ?_ | refine AC.block ?_ | refine AC.exit ?_ | refine AC.skip ?_))
    refine AC.nilRoot (t := 2) (d := 3) 177 2 (by rfl) (Nat.le_of_ble_eq_true rfl) (by rfl) ?_
    refine AC.le (St.le.sub (σ' := ⟨[(2, .a (.ref 3 0 0))], [(3, ⟨.own, true, 177, 2, 0, row, []⟩)]⟩) (And.intro rfl trivial) (And.intro ⟨_, rfl, ⟨rfl, (fun _ => And.intro rfl rfl), rfl, rfl, fun i r hi hr => absurd hi (Nat.not_lt_zero _)⟩⟩ trivial) (by rfl) (by rfl)) ?_
    refine AC.ret ?_
    refine And.intro (by first | exact .inr rfl | exact .inl rfl) (And.intro (by repeat (first | exact trivial | exact Nat.le_of_ble_eq_true rfl | rfl | exact ⟨_, rfl, rfl, Nat.le_refl _, rfl⟩ | refine And.intro ?_ ?_)) (And.intro (by rfl) (And.intro (by rfl) (And.intro (by repeat (first | exact trivial | exact Nat.le_of_ble_eq_true rfl | rfl | exact ⟨_, rfl, rfl, Nat.le_refl _, rfl⟩ | refine And.intro ?_ ?_)) (And.intro (by repeat (first | exact trivial | exact Nat.le_of_ble_eq_true rfl | rfl | exact ⟨_, rfl, rfl, Nat.le_refl _, rfl⟩ | refine And.intro ?_ ?_)) ?_)))))
    exact And.intro rfl rfl
  · repeat (first | (first | (first | refine AL.nil ?_ | refine AL.move (.inl (by rfl)) (by rfl) (by rfl) ?_ | refine AL.move (.inr (by rfl)) (by rfl) (by rfl) ?_ | refine AL.fieldAddr tyOk (by rfl) (by rfl) (by rfl) (by rfl) (by rfl) (by rfl) ?_ | refine AL.load1 tyOk (by rfl) (by rfl) (by rfl) (by rfl) (by rfl) (by rfl) (by rfl) (by first | exact Nat.le_of_ble_eq_true rfl | (dsimp only; omega) | omega | assumption | (simp only [openR]; omega) | exact Nat.lt_of_lt_of_le (m := 3) (by omega) (Nat.le_of_ble_eq_true rfl)) (by first | exact Nat.le_of_ble_eq_true rfl | (dsimp only; omega) | omega | assumption | (simp only [openR]; omega) | exact Nat.lt_of_lt_of_le (m := 3) (by omega) (Nat.le_of_ble_eq_true rfl)) (by rfl) ?_ | refine AL.loadAggE tyOk (by rfl) (by rfl) (by rfl) (by rfl) (by rfl) (by rfl) (by rfl) (by first | exact Nat.le_of_ble_eq_true rfl | (dsimp only; omega) | omega | assumption | (simp only [openR]; omega) | exact Nat.lt_of_lt_of_le (m := 3) (by omega) (Nat.le_of_ble_eq_true rfl)) (by first | exact Nat.le_of_ble_eq_true rfl | (dsimp only; omega) | omega | assumption | (simp only [openR]; omega) | exact Nat.lt_of_lt_of_le (m := 3) (by omega) (Nat.le_of_ble_eq_true rfl)) (by rfl) ?_ | refine AL.stor tyOk (by rfl) (by rfl) (by rfl) (by rfl) (by rfl) (by rfl) (by rfl) (by rfl) (by rfl) (by first | exact Nat.le_of_ble_eq_true rfl | (dsimp only; omega) | omega | assumption | (simp only [openR]; omega) | exact Nat.lt_of_lt_of_le (m := 3) (by omega) (Nat.le_of_ble_eq_true rfl)) (by first | exact Nat.le_of_ble_eq_true rfl | (dsimp only; omega) | omega | assumption | (simp only [openR]; omega) | exact Nat.lt_of_lt_of_le (m := 3) (by omega) (Nat.le_of_ble_eq_true rfl)) ?_ | refine AL.len (ty := 0) tyOk (by rfl) (by rfl) (by rfl) (by rfl) (by rfl) ?_ | refine AL.add (by rfl) (by rfl) (by rfl) (by rfl) (by rfl) (by constructor <;> omega) ?_ | refine AL.sub (by rfl) (by rfl) (by rfl) (by rfl) (by rfl) (by constructor <;> omega) ?_ | refine AL.mul (by rfl) (by rfl) (by rfl) (by rfl) (by rfl) (by constructor <;> omega) ?_ | refine AL.int2 (by rfl) (by rfl) (by rfl) (by rfl) (by rfl) (by rfl) (by first | trivial | decide | omega) ?_ | refine AL.bEq (by rfl) (by rfl) (by rfl) (by rfl) (by rfl) Try.underlying4 ?_ | refine AL.bNe (by rfl) (by rfl) (by rfl) (by rfl) (by rfl) Try.underlying4 ?_ | refine AL.not (by rfl) (by rfl) (by rfl) (by rfl) ?_ | refine AL.gOnE (by rfl) (by rfl) (by rfl) (by rfl) (by decide) (by first | rfl | assumption) ?_ | refine AL.gOffE (by rfl) (by rfl) (by rfl) (by rfl) (by rfl) (by decide) (by first | rfl | assumption) ?_ | refine AL.pickE (b' := true) (by rfl) (by rfl) (by rfl) (by rfl) (by first | rfl | assumption) ?_ | refine AL.pickE (b' := false) (by rfl) (by rfl) (by rfl) (by rfl) (by first | rfl | assumption) ?_ | refine AL.extract (by rfl) (by rfl) (by rfl) (by rfl) (by rfl) ?_ | refine AL.boxD tyOk (by rfl) (by rfl) (by rfl) (Nat.le_of_ble_eq_true rfl) (by rfl) (by rfl) (by rfl) (by decide) (by rfl) ?_ | refine AL.allocD tyOk (by rfl) (by rfl) (by rfl) (Nat.le_of_ble_eq_true rfl) (by rfl) (by rfl) (by decide) (by rfl) ?_ | refine AL.indexN tyOk (by rfl) (by rfl) (by rfl) (by rfl) (by rfl) (by rfl) (by rfl) (by rfl) (by first | rfl | exact (Int.toNat_of_nonneg (by omega)).symm) (by omega) ?_ | refine AL.indexSl tyOk (by rfl) (by rfl) (by rfl) (by rfl) (by rfl) (by rfl) (by rfl) (by rfl) (by constructor <;> omega) ?_ | refine AL.indexArr tyOk (by rfl) (by rfl) (by rfl) (by rfl) (by rfl) (by rfl) (by constructor <;> omega) ?_ | refine AL.makeD tyOk _ (by rfl) (by rfl) (by rfl) (Nat.le_of_ble_eq_true rfl) (by rfl) (by rfl) (by rfl) (by rfl) (by rfl) (by rfl) (by rfl) (by omega) (by omega) (by decide) (by rfl) ?_ | refine AL.build (qs := []) tyOk (by rfl) (by rfl) (by rfl) (by rfl) (by rfl) (by exact PartsOk.nil) (by rfl) ?_ | refine AL.build (qs := [(_, _)]) tyOk (by rfl) (by rfl) (by rfl) (by rfl) (by rfl) (by exact PartsOk.cons (by rfl) (by rfl) PartsOk.nil) (by rfl) ?_ | refine AL.build (qs := [(_, _), (_, _)]) tyOk (by rfl) (by rfl) (by rfl) (by rfl) (by rfl) (by exact PartsOk.cons (by rfl) (by rfl) (PartsOk.cons (by rfl) (by rfl) PartsOk.nil)) (by rfl) ?_ | refine AL.nilCheck (by rfl) (by rfl) (by rfl) (by rfl) ?_) | refine AL.buildSl0D tyOk (by rfl) (by rfl) (by rfl) (by rfl) (Nat.le_of_ble_eq_true rfl) (by rfl) (by decide) (by rfl) ?_ | refine AL.copyN tyOk (by rfl) (by rfl) (by rfl) (by rfl) (by rfl) (by rfl) (by rfl) (by rfl) (by rfl) (by rfl) (by rfl) (by rfl) (by rfl) ?_ | refine AL.append0 tyOk (by rfl) (by rfl) (by rfl) (by rfl) (by rfl) (by rfl) (by rfl) (by rfl) (by rfl) (by rfl) (by rfl) (by rfl) (by rfl) (by rfl) (by rfl) (okK_lt (by decide)) (by first | omega | (dsimp only; omega) | (unfold maxLen; dsimp only; omega)) (by first | omega | (dsimp only; omega) | (unfold maxLen; dsimp only; omega)) ?_ | refine AL.appendL tyOk (by rfl) (by rfl) (by rfl) (by rfl) (by rfl) (by rfl) (by rfl) (by rfl) (by rfl) (by rfl) (by rfl) (by rfl) (by rfl) (by rfl) (by rfl) (fun _ _ _ _ => rfl) (okK_lt (by decide)) (by first | omega | (dsimp only; omega) | (unfold maxLen; dsimp only; omega)) (by first | omega | (dsimp only; omega) | (unfold maxLen; dsimp only; omega)) ?_) | (first | refine AC.region ?_ | refine AC.seq ?_ | refine AC.block ?_ | refine AC.exit ?_ | refine AC.skip ?_))
    refine AC.le (St.le.sub (σ' := ⟨[(2, .a (.ref 5 0 n))], [(5, ⟨.own, true, 177, 2, n, row, []⟩)]⟩) (And.intro rfl trivial) (And.intro ⟨_, rfl, ⟨rfl, (fun _ => And.intro rfl rfl), rfl, rfl, fun i r hi hr => (by obtain ⟨v, hv⟩ := hfl i r hr; show Cl.cl (row i r) = Cl.cl (flat (row (0 + i) r)); rw [Nat.zero_add, hv]; rfl)⟩⟩ trivial) (by rfl) (by rfl)) ?_
    refine AC.ret ?_
    refine And.intro (by first | exact .inr rfl | exact .inl rfl) (And.intro (by repeat (first | exact trivial | exact Nat.le_of_ble_eq_true rfl | rfl | exact ⟨_, rfl, rfl, Nat.le_refl _, rfl⟩ | refine And.intro ?_ ?_)) (And.intro (by rfl) (And.intro (by rfl) (And.intro (by repeat (first | exact trivial | exact Nat.le_of_ble_eq_true rfl | rfl | exact ⟨_, rfl, rfl, Nat.le_refl _, rfl⟩ | refine And.intro ?_ ?_)) (And.intro (by repeat (first | exact trivial | exact Nat.le_of_ble_eq_true rfl | rfl | exact ⟨_, rfl, rfl, Nat.le_refl _, rfl⟩ | refine And.intro ?_ ?_)) ?_)))))
    exact And.intro rfl rfl
theorem encR_flat (x : Row) (r : Nat) : ∃ v, encR x r = .lit v := by rcases r with _ | _; all_goals exact ⟨_, rfl⟩
theorem CloneR_run (e : Nat) (xs : List Row) (hn : xs.length ≤ 1048576) : RunT Try.prog 157 [.one (.c (tR e xs))] [] [.one (tR 177 xs)] [] := by
  refine ⟨⟨_, Try.func157, rfl, rfl⟩, fun w q A args he => ?_⟩
  refine (CloneR_base e xs.length (fun i r => (encR (xs.getD i (0, 0)) r).er .fro) hn (fun i r _ => by obtain ⟨v, hv⟩ := encR_flat (xs.getD i (0, 0)) r; exact ⟨v, by rw [hv]; rfl⟩) w q A args he).mono fun e w' hx => ?_
  obtain ⟨us, outs, ext, q', h1, ⟨rfl, rfl⟩, h2⟩ := hx
  have hr : (fun i r => (encR (xs.getD i (0, 0)) r).er .fro) = fun i r => (encR (xs.getD i (0, 0)) r).er .own := by
    funext i r; obtain ⟨v, hv⟩ := encR_flat (xs.getD i (0, 0)) r; rw [hv]; rfl
  rw [hr] at h2
  exact ⟨us, _, _, q', h1, ⟨rfl, rfl⟩, h2⟩
theorem copyLimbo_run (e' e : Nat) (xs : List (List Row)) (hn : xs.length ≤ 1048576) (hx : ∀ i, (xs.getD i []).length ≤ 1048576) : RunT Try.prog 112 [.one (.c (tLL e' e xs))] [] [.one (tLL 177 175 xs)] [] := by
  refine RunT.of_vc gOk Try.func112 rfl rfl (Nat.le_of_ble_eq_true rfl) (by repeat' (first | exact trivial | exact ⟨_, rfl, Nat.le_refl _⟩ | exact Nat.le_of_ble_eq_true rfl | refine And.intro ?_ ?_)) (Nat.le_of_ble_eq_true rfl) rfl (fun F hE => ?_)
  repeat' (first | exact trivial | refine BS.d (fun h => ?_) (fun h => ?_) | refine BS.e (fun h => ?_) (fun h => ?_) | refine BS.ne (fun h => ?_) (fun h => ?_) | refine BS.n ?_ | refine BS.s (fun h => ?_) (fun h => ?_) | refine And.intro ?_ ?_ | (refine Need.mk ?_; first | with_reducible rfl | (show @Eq TC _ _; rfl) | omega | (simp only [adN_zero]; omega)) | exact OutS.whole rfl rfl | refine ListO.go gOk hE ?_)
  refine CodeK.loop gOk hE (fun i : Nat => ⟨[(3, vr 8 xs.length), (9, vr 1000000 xs.length), (10, vi xs.length), (11, vi i)], [(8, rLL .own true 177 175 (fl [] xs i)), (1000000, rLL .fro false e' e xs)]⟩) (fun i => i ≤ xs.length) (fun i => xs.length - i) 0 (by refine leT.of ?_ ?_ rfl <;> repeat' (first | exact trivial | refine And.intro rfl ?_ | refine And.intro (by simp [fl_zero] <;> rfl) ?_)) (Nat.zero_le _) ?_
  rintro i hi
  have hl := fl_len [] xs i hi
  have c1 := CloneR_run e' (xs.getD i []) (hx i)
  by_cases hi2 : i < xs.length
  · have hfs := fl_set [] xs i hi2
    repeat' (first | exact trivial | refine BS.d (fun h => ?_) (fun h => ?_) | refine BS.e (fun h => ?_) (fun h => ?_) | refine BS.ne (fun h => ?_) (fun h => ?_) | refine BS.n ?_ | refine BS.s (fun h => ?_) (fun h => ?_) | refine And.intro ?_ ?_ | (refine Need.mk ?_; first | with_reducible rfl | (show @Eq TC _ _; rfl) | omega | (simp only [adN_zero]; omega)) | exact OutS.whole rfl rfl | (refine OpK.call c1 rfl rfl rfl rfl hE ?_ rfl rfl ?_; focus ((repeat' (first | exact PsA.lit _ | exact PsA.ref rfl rfl | constructor)); all_goals (fail "ps"))) | (refine OpK.stN gOk (xs.getD i []) rfl rfl rfl rfl rfl rfl rfl rfl rfl (by (try simp only [adN_zero]); omega) (StN.ref rfl rfl rfl rfl rfl StN.nil) ?_) | refine ListO.go gOk hE ?_)
    all_goals (try simp only [adN_zero] at *)
    all_goals first
      | (exfalso; omega)
      | (refine Need.mk ?_; omega)
      | (refine ⟨i + 1, (by refine leT.of ?_ ?_ rfl <;> repeat' (first | exact trivial | refine And.intro rfl ?_ | refine And.intro (by first | rfl | (rw [← hfs]; rfl) | (simp <;> rfl)) ?_)), by omega, by first | omega | (dsimp only; omega)⟩)
      | trace_state
  · repeat' (first | exact trivial | refine BS.d (fun h => ?_) (fun h => ?_) | refine BS.e (fun h => ?_) (fun h => ?_) | refine BS.ne (fun h => ?_) (fun h => ?_) | refine BS.n ?_ | refine BS.s (fun h => ?_) (fun h => ?_) | refine And.intro ?_ ?_ | (refine Need.mk ?_; first | with_reducible rfl | (show @Eq TC _ _; rfl) | omega | (simp only [adN_zero]; omega)) | exact OutS.whole rfl rfl | refine ListO.go gOk hE ?_)
    all_goals first
      | (exfalso; omega)
      | exact OutS.whole hl.symm (by rw [fl_full _ _ _ (by omega) hi]; rfl)
      | trace_state
theorem l11Copy_run (e' e : Nat) (xs : List (List Row)) (hn : xs.length ≤ 1048576) (hx : ∀ i, (xs.getD i []).length ≤ 1048576) : RunT Try.prog 108 [.one (.c (tLL e' e xs))] [] [.one (tLL 177 175 xs)] [] := by
  refine RunT.of_vc gOk Try.func108 rfl rfl (Nat.le_of_ble_eq_true rfl) (by repeat' (first | exact trivial | exact ⟨_, rfl, Nat.le_refl _⟩ | exact Nat.le_of_ble_eq_true rfl | refine And.intro ?_ ?_)) (Nat.le_of_ble_eq_true rfl) rfl (fun F hE => ?_)
  repeat' (first | exact trivial | refine BS.d (fun h => ?_) (fun h => ?_) | refine BS.e (fun h => ?_) (fun h => ?_) | refine BS.ne (fun h => ?_) (fun h => ?_) | refine BS.n ?_ | refine BS.s (fun h => ?_) (fun h => ?_) | refine And.intro ?_ ?_ | (refine Need.mk ?_; first | with_reducible rfl | (show @Eq TC _ _; rfl) | omega | (simp only [adN_zero]; omega)) | exact OutS.whole rfl rfl | refine ListO.go gOk hE ?_)
  refine CodeK.loop gOk hE (fun i : Nat => ⟨[(0, vr 1000000 xs.length), (3, vr 5 (xs.take i).length), (4, vi i)], [(5, rLL .own true 177 175 (xs.take i)), (1000000, rLL .fro false e' e xs)]⟩) (fun i => i ≤ xs.length) (fun i => xs.length - i) 0 (by refine leT.of ?_ ?_ rfl <;> repeat' (first | exact trivial | refine And.intro rfl ?_ | refine And.intro (by first | rfl | (simp <;> rfl)) ?_)) (Nat.zero_le _) ?_
  rintro i hi
  have hxi := hx i
  by_cases hi2 : i < xs.length
  · have htk : xs.take (i + 1) = xs.take i ++ [xs.getD i []] := by
      rw [List.take_succ_eq_append_getElem hi2]; simp [List.getD, hi2]
    have hlt : (xs.take i).length ≤ 1048576 := by rw [List.length_take]; omega
    repeat' (first | exact trivial | refine BS.d (fun h => ?_) (fun h => ?_) | refine BS.e (fun h => ?_) (fun h => ?_) | refine BS.ne (fun h => ?_) (fun h => ?_) | refine BS.n ?_ | refine BS.s (fun h => ?_) (fun h => ?_) | refine And.intro ?_ ?_ | (refine Need.mk ?_; first | with_reducible rfl | (show @Eq TC _ _; rfl) | omega | (simp only [adN_zero]; omega)) | exact OutS.whole rfl rfl | (refine OpK.apps gOk rfl rfl rfl rfl rfl rfl rfl rfl rfl rfl (by first | rfl | simp) rowFlat rfl (by refine ⟨?_, ?_⟩ <;> (try unfold maxLen) <;> (try simp only [adN_zero]) <;> simp only [List.length_nil] <;> omega) ?_) | (refine OpK.app1N (l := [.ref 13 0 (xs.getD i []).length]) gOk (xs.getD i []) (by rfl) (by rfl) (by rfl) (by rfl) (by rfl) (by rfl) (by rfl) (by rfl) (by rfl) (by rfl) (by rfl) (by refine ⟨?_, ?_⟩ <;> (try unfold maxLen) <;> omega) (by rfl) (by rfl) (StN.ref (by rfl) (by rfl) (by rfl) (by rfl) (by rfl) StN.nil) ?_) | refine ListO.go gOk hE ?_)
    all_goals (try simp only [adN_zero] at *)
    all_goals first
      | (exfalso; omega)
      | (refine Need.mk ?_; omega)
      | (refine ⟨i + 1, (by refine leT.of ?_ ?_ rfl <;> repeat' (first | exact trivial | refine And.intro rfl ?_ | refine And.intro (by first | rfl | (rw [htk]; first | rfl | (simp; done)) | (simp [htk] <;> rfl)) ?_)), by omega, by first | omega | (dsimp only; omega)⟩)
      | trace_state
  · repeat' (first | exact trivial | refine BS.d (fun h => ?_) (fun h => ?_) | refine BS.e (fun h => ?_) (fun h => ?_) | refine BS.ne (fun h => ?_) (fun h => ?_) | refine BS.n ?_ | refine BS.s (fun h => ?_) (fun h => ?_) | refine And.intro ?_ ?_ | (refine Need.mk ?_; first | with_reducible rfl | (show @Eq TC _ _; rfl) | omega | (simp only [adN_zero]; omega)) | exact OutS.whole rfl rfl | refine ListO.go gOk hE ?_)
    all_goals first
      | (exfalso; omega)
      | exact OutS.whole rfl (by rw [List.take_of_length_le (by omega)]; rfl)
      | trace_state
end Go.Proofs.Ytlmmmeknilgdhaa
end

section
/- A row is retired. -/
namespace Go.Proofs.Ytlmmmeknilgdhaa
open Go Go.Tr
set_option maxRecDepth 100000
set_option maxHeartbeats 4000000
set_option linter.unusedVariables false
set_option linter.unusedSimpArgs false
theorem workerOkB_run (x : Int) : RunT Try.prog 114 [ti x] [] [ob (decide (0 ≤ x ∧ x ≤ 2))] [] := by
  refine RunT.of_vc gOk Try.func114 rfl rfl (Nat.le_of_ble_eq_true rfl) (by repeat' (first | exact trivial | exact ⟨_, rfl, Nat.le_refl _⟩ | exact Nat.le_of_ble_eq_true rfl | refine And.intro ?_ ?_)) (Nat.le_of_ble_eq_true rfl) rfl (fun F hE => ?_)
  repeat' (first | exact trivial | refine BS.d (fun h => ?_) (fun h => ?_) | refine BS.e (fun h => ?_) (fun h => ?_) | refine BS.ne (fun h => ?_) (fun h => ?_) | refine BS.n ?_ | refine BS.s (fun h => ?_) (fun h => ?_) | refine And.intro ?_ ?_ | (refine Need.mk ?_; first | with_reducible rfl | (show @Eq TC _ _; rfl) | omega | (simp only [adN_zero]; omega)) | exact OutS.whole rfl rfl | refine ListO.go gOk hE ?_)
  all_goals (refine Need.mk ?_; first | rfl | (symm; apply decide_eq_true; omega) | (symm; apply decide_eq_false; omega) | (apply decide_eq_decide.2; omega) | (simp only [beq_iff_eq, Bool.beq_eq_decide_eq] at *; apply decide_eq_decide.2; omega) | (simp; omega))
theorem lOk_three {xs : List (List Row)} (h : lOk xs = true) : xs.length = 3 := by
  unfold lOk at h
  split at h
  · rename_i h2; exact h2.1
  · cases h
def rtL (xs : List (List Row)) (m : Nat) (h9 ep : Int) : List (List Row) := xs.set m (xs.getD m [] ++ [(h9, ep)])
def rtX (xs : List (List Row)) (w h9 ep : Int) : List (List Row) × Bool := if lOk xs = true ∧ 0 ≤ w ∧ w ≤ 2 then (if lOk (rtL xs w.toNat h9 ep) = true then (rtL xs w.toNat h9 ep, true) else (xs, false)) else (xs, false)
theorem cnt_set : ∀ (xs : List (List Row)) (m : Nat) (ys : List Row), m < xs.length → cnt (xs.set m ys) + (xs.getD m []).length = cnt xs + ys.length
  | [], m, ys, h => by simp at h
  | x :: l, 0, ys, h => by simp [cnt]; omega
  | x :: l, m + 1, ys, h => by
    have := cnt_set l m ys (by simpa using h)
    simp only [List.set_cons_succ, cnt, List.getD_cons_succ]; omega
theorem rtL_cnt (xs : List (List Row)) (m : Nat) (h9 ep : Int) (h : m < xs.length) : cnt (rtL xs m h9 ep) = cnt xs + 1 := by
  have := cnt_set xs m (xs.getD m [] ++ [(h9, ep)]) h
  unfold rtL
  rw [List.length_append] at this
  simp only [List.length_cons, List.length_nil] at this
  omega
theorem mem_flat_mx {xs : List (List Row)} (h : ∀ i, (xs.flatten.getD i (0, 0)).1 ≤ 9223372036854775807) : ∀ r ∈ xs.flatten, r.1 ≤ 9223372036854775807 := by
  intro r hr
  obtain ⟨i, hi, he⟩ := List.mem_iff_getElem.1 hr
  have := h i
  simp only [List.getD, List.getElem?_eq_getElem hi, Option.getD_some, he] at this
  exact this
theorem mx_of_mem {xs : List (List Row)} (h : ∀ r ∈ xs.flatten, r.1 ≤ 9223372036854775807) (i : Nat) : (xs.flatten.getD i (0, 0)).1 ≤ 9223372036854775807 := by
  by_cases hi : i < xs.flatten.length
  · have e : xs.flatten.getD i (0, 0) = xs.flatten[i] := by simp only [List.getD, List.getElem?_eq_getElem hi, Option.getD_some]
    rw [e]; exact h _ (List.getElem_mem hi)
  · have e : xs.flatten.getD i (0, 0) = (0, 0) := by simp only [List.getD]; rw [List.getElem?_eq_none (by omega)]; rfl
    rw [e]; decide
theorem rtL_mx (xs : List (List Row)) (m : Nat) (h9 ep : Int) (hm : m < xs.length) (h : ∀ i, (xs.flatten.getD i (0, 0)).1 ≤ 9223372036854775807) (hh : h9 ≤ 9223372036854775807) : ∀ i, ((rtL xs m h9 ep).flatten.getD i (0, 0)).1 ≤ 9223372036854775807 := by
  refine mx_of_mem (fun r hr => ?_)
  obtain ⟨l, hl, hrl⟩ := List.mem_flatten.1 hr
  rcases List.mem_or_eq_of_mem_set hl with h1 | h1
  · exact mem_flat_mx h r (List.mem_flatten.2 ⟨l, h1, hrl⟩)
  · subst h1
    rcases List.mem_append.1 hrl with h2 | h2
    · refine mem_flat_mx h r (List.mem_flatten.2 ⟨xs.getD m [], ?_, h2⟩)
      have e : xs.getD m [] = xs[m] := by simp [List.getD, hm]
      rw [e]; exact List.getElem_mem hm
    · rw [List.mem_singleton.1 h2]; exact hh
theorem RetireToI_run (e' e : Nat) (xs : List (List Row)) (w h9 ep : Int) (hn : xs.length ≤ 1048576) (hcn : cnt xs ≤ 1048575) (hx : ∀ i, (xs.getD i []).length ≤ 1048576) (hmx : ∀ i, (xs.flatten.getD i (0, 0)).1 ≤ 9223372036854775807) (hh : h9 ≤ 9223372036854775807) : RunT Try.prog 58 [.one (.c (tLL e' e xs)), ti w, ti h9, ti ep] [] [.one (tLL 177 175 (rtX xs w h9 ep).1), ob (rtX xs w h9 ep).2] [] := by
  have c1 := copyLimbo_run e' e xs hn hx
  have c2 := LimboOkI_run e' e xs hn (by omega) hmx
  have c3 := workerOkB_run w
  by_cases hw : lOk xs = true ∧ 0 ≤ w ∧ w ≤ 2
  · obtain ⟨m, rfl⟩ := Int.eq_ofNat_of_zero_le hw.2.1
    have h3 := lOk_three hw.1
    rw [hw.1] at c2
    rw [decide_eq_true hw.2] at c3
    have hml : m < xs.length := by omega
    have hyl : (rtL xs m h9 ep).length ≤ 1048576 := by unfold rtL; rw [List.length_set]; omega
    have hyc := rtL_cnt xs m h9 ep hml
    have hxm := hx m
    have c4 := LimboOkI_run 177 175 (rtL xs m h9 ep) hyl (by omega) (rtL_mx xs m h9 ep hml hmx hh)
    have hr : rtX xs m h9 ep = if lOk (rtL xs m h9 ep) = true then (rtL xs m h9 ep, true) else (xs, false) := by unfold rtX; rw [if_pos hw, Int.toNat_natCast]
    have hys : xs.set m (xs.getD m [] ++ [(h9, ep)]) = rtL xs m h9 ep := rfl
    rw [hr]
    cases hq : lOk (rtL xs m h9 ep) with
    | true =>
      rw [hq] at c4
      rw [if_pos rfl]
      refine RunT.of_vc gOk Try.func58 rfl rfl (Nat.le_of_ble_eq_true rfl) (by repeat' (first | exact trivial | exact ⟨_, rfl, Nat.le_refl _⟩ | exact Nat.le_of_ble_eq_true rfl | refine And.intro ?_ ?_)) (Nat.le_of_ble_eq_true rfl) rfl (fun F hE => ?_)
      repeat' (first | exact trivial | refine BS.d (fun h => ?_) (fun h => ?_) | refine BS.e (fun h => ?_) (fun h => ?_) | refine BS.ne (fun h => ?_) (fun h => ?_) | refine BS.n ?_ | refine BS.s (fun h => ?_) (fun h => ?_) | refine And.intro ?_ ?_ | (refine Need.mk ?_; first | with_reducible rfl | (show @Eq TC _ _; rfl) | omega | (simp only [adN_zero]; omega)) | exact OutS.whole rfl rfl | (refine ListO.open_ gOk hE 5000 rfl rfl rfl rfl rfl rfl rfl rfl (by (try simp only [adN_zero]); omega) (by decide) rfl rfl rfl rfl ?_) | (refine OpK.stNR gOk (xs.getD m [] ++ [(h9, ep)]) rfl rfl rfl rfl rfl rfl rfl rfl rfl (by (try simp only [adN_zero]); omega) (StN.ref rfl rfl rfl rfl rfl StN.nil) ?_) | (refine OpK.call c1 rfl rfl rfl rfl hE ?_ rfl rfl ?_; focus ((repeat' (first | exact PsA.lit _ | exact PsA.ref rfl rfl | constructor)); all_goals (fail "ps"))) | (refine OpK.call c2 rfl rfl rfl rfl hE ?_ rfl rfl ?_; focus ((repeat' (first | exact PsA.lit _ | exact PsA.ref rfl rfl | constructor)); all_goals (fail "ps"))) | (refine OpK.call c3 rfl rfl rfl rfl hE ?_ rfl rfl ?_; focus ((repeat' (first | exact PsA.lit _ | exact PsA.ref rfl rfl | constructor)); all_goals (fail "ps"))) | (refine OpK.call c4 rfl rfl rfl rfl hE ?_ rfl rfl ?_; focus ((repeat' (first | exact PsA.lit _ | exact PsA.ref rfl rfl | exact PsA.ref rfl (List.length_set).symm | constructor)); all_goals (fail "ps"))) | refine ListO.go gOk hE ?_)
      all_goals (try simp only [adN_zero] at *)
      all_goals first
        | (exfalso; omega)
        | (refine Need.mk ?_; first | omega | (refine ⟨?_, ?_⟩ <;> (try unfold maxLen) <;> omega))
        | exact Need.mk rfl
        | exact OutS.whole rfl rfl
        | exact OutS.whole (by simp [rtL]) rfl
        | trace_state
    | false =>
      rw [hq] at c4
      rw [if_neg (by decide)]
      refine RunT.of_vc gOk Try.func58 rfl rfl (Nat.le_of_ble_eq_true rfl) (by repeat' (first | exact trivial | exact ⟨_, rfl, Nat.le_refl _⟩ | exact Nat.le_of_ble_eq_true rfl | refine And.intro ?_ ?_)) (Nat.le_of_ble_eq_true rfl) rfl (fun F hE => ?_)
      repeat' (first | exact trivial | refine BS.d (fun h => ?_) (fun h => ?_) | refine BS.e (fun h => ?_) (fun h => ?_) | refine BS.ne (fun h => ?_) (fun h => ?_) | refine BS.n ?_ | refine BS.s (fun h => ?_) (fun h => ?_) | refine And.intro ?_ ?_ | (refine Need.mk ?_; first | with_reducible rfl | (show @Eq TC _ _; rfl) | omega | (simp only [adN_zero]; omega)) | exact OutS.whole rfl rfl | (refine ListO.open_ gOk hE 5000 rfl rfl rfl rfl rfl rfl rfl rfl (by (try simp only [adN_zero]); omega) (by decide) rfl rfl rfl rfl ?_) | (refine OpK.stNR gOk (xs.getD m [] ++ [(h9, ep)]) rfl rfl rfl rfl rfl rfl rfl rfl rfl (by (try simp only [adN_zero]); omega) (StN.ref rfl rfl rfl rfl rfl StN.nil) ?_) | (refine OpK.call c1 rfl rfl rfl rfl hE ?_ rfl rfl ?_; focus ((repeat' (first | exact PsA.lit _ | exact PsA.ref rfl rfl | constructor)); all_goals (fail "ps"))) | (refine OpK.call c2 rfl rfl rfl rfl hE ?_ rfl rfl ?_; focus ((repeat' (first | exact PsA.lit _ | exact PsA.ref rfl rfl | constructor)); all_goals (fail "ps"))) | (refine OpK.call c3 rfl rfl rfl rfl hE ?_ rfl rfl ?_; focus ((repeat' (first | exact PsA.lit _ | exact PsA.ref rfl rfl | constructor)); all_goals (fail "ps"))) | (refine OpK.call c4 rfl rfl rfl rfl hE ?_ rfl rfl ?_; focus ((repeat' (first | exact PsA.lit _ | exact PsA.ref rfl rfl | exact PsA.ref rfl (List.length_set).symm | constructor)); all_goals (fail "ps"))) | refine ListO.go gOk hE ?_)
      all_goals (try simp only [adN_zero] at *)
      all_goals first
        | (exfalso; omega)
        | (refine Need.mk ?_; first | omega | (refine ⟨?_, ?_⟩ <;> (try unfold maxLen) <;> omega))
        | exact Need.mk rfl
        | exact OutS.whole rfl rfl
        | trace_state
  · have hr : rtX xs w h9 ep = (xs, false) := by unfold rtX; rw [if_neg hw]
    rw [hr]
    refine RunT.of_vc gOk Try.func58 rfl rfl (Nat.le_of_ble_eq_true rfl) (by repeat' (first | exact trivial | exact ⟨_, rfl, Nat.le_refl _⟩ | exact Nat.le_of_ble_eq_true rfl | refine And.intro ?_ ?_)) (Nat.le_of_ble_eq_true rfl) rfl (fun F hE => ?_)
    repeat' (first | exact trivial | refine BS.d (fun h => ?_) (fun h => ?_) | refine BS.e (fun h => ?_) (fun h => ?_) | refine BS.ne (fun h => ?_) (fun h => ?_) | refine BS.n ?_ | refine BS.s (fun h => ?_) (fun h => ?_) | refine And.intro ?_ ?_ | (refine Need.mk ?_; first | with_reducible rfl | (show @Eq TC _ _; rfl) | omega | (simp only [adN_zero]; omega)) | exact OutS.whole rfl rfl | (refine OpK.call c1 rfl rfl rfl rfl hE ?_ rfl rfl ?_; focus ((repeat' (first | exact PsA.lit _ | exact PsA.ref rfl rfl | constructor)); all_goals (fail "ps"))) | (refine OpK.call c2 rfl rfl rfl rfl hE ?_ rfl rfl ?_; focus ((repeat' (first | exact PsA.lit _ | exact PsA.ref rfl rfl | constructor)); all_goals (fail "ps"))) | (refine OpK.call c3 rfl rfl rfl rfl hE ?_ rfl rfl ?_; focus ((repeat' (first | exact PsA.lit _ | exact PsA.ref rfl rfl | constructor)); all_goals (fail "ps"))) | refine ListO.go gOk hE ?_)
    all_goals first | exact Need.mk rfl | exact OutS.whole rfl rfl | (exfalso; exact hw ⟨‹_›, ‹_›⟩) | (exfalso; simp_all; done) | trace_state
theorem RetireToS_run (e' e : Nat) (xs : List (List Row)) (w h9 ep : Int) (hn : xs.length ≤ 1048576) (hcn : cnt xs ≤ 1048575) (hx : ∀ i, (xs.getD i []).length ≤ 1048576) (hmx : ∀ i, (xs.flatten.getD i (0, 0)).1 ≤ 9223372036854775807) (hh : h9 ≤ 9223372036854775807) : RunT Try.prog 56 [.one (.c (tLL e' e xs)), ti w, ti h9, ti ep] [] [.one (tLL 177 175 (rtX xs w h9 ep).1), ob (rtX xs w h9 ep).2] [] := by
  have c1 := l11Copy_run e' e xs hn hx
  have c2 := LimboOkS_run e' e xs hn (by omega)
  have c3 := l1InB_run w 0 2
  by_cases hw : lOk xs = true ∧ 0 ≤ w ∧ w ≤ 2
  · obtain ⟨m, rfl⟩ := Int.eq_ofNat_of_zero_le hw.2.1
    have h3 := lOk_three hw.1
    rw [hw.1] at c2
    rw [decide_eq_true hw.2] at c3
    have hml : m < xs.length := by omega
    have hyl : (rtL xs m h9 ep).length ≤ 1048576 := by unfold rtL; rw [List.length_set]; omega
    have hyc := rtL_cnt xs m h9 ep hml
    have hxm := hx m
    have c4 := LimboOkS_run 177 175 (rtL xs m h9 ep) hyl (by omega)
    have hr : rtX xs m h9 ep = if lOk (rtL xs m h9 ep) = true then (rtL xs m h9 ep, true) else (xs, false) := by unfold rtX; rw [if_pos hw, Int.toNat_natCast]
    have hys : xs.set m (xs.getD m [] ++ [(h9, ep)]) = rtL xs m h9 ep := rfl
    rw [hr]
    cases hq : lOk (rtL xs m h9 ep) with
    | true =>
      rw [hq] at c4
      rw [if_pos rfl]
      refine RunT.of_vc gOk Try.func56 rfl rfl (Nat.le_of_ble_eq_true rfl) (by repeat' (first | exact trivial | exact ⟨_, rfl, Nat.le_refl _⟩ | exact Nat.le_of_ble_eq_true rfl | refine And.intro ?_ ?_)) (Nat.le_of_ble_eq_true rfl) rfl (fun F hE => ?_)
      repeat' (first | exact trivial | refine BS.d (fun h => ?_) (fun h => ?_) | refine BS.e (fun h => ?_) (fun h => ?_) | refine BS.ne (fun h => ?_) (fun h => ?_) | refine BS.n ?_ | refine BS.s (fun h => ?_) (fun h => ?_) | refine And.intro ?_ ?_ | (refine Need.mk ?_; first | with_reducible rfl | (show @Eq TC _ _; rfl) | omega | (simp only [adN_zero]; omega)) | exact OutS.whole rfl rfl | (refine ListO.open_ gOk hE 5000 rfl rfl rfl rfl rfl rfl rfl rfl (by (try simp only [adN_zero]); omega) (by decide) rfl rfl rfl rfl ?_) | (refine OpK.stNR gOk (xs.getD m [] ++ [(h9, ep)]) rfl rfl rfl rfl rfl rfl rfl rfl rfl (by (try simp only [adN_zero]); omega) (StN.ref rfl rfl rfl rfl rfl StN.nil) ?_) | (refine OpK.call c1 rfl rfl rfl rfl hE ?_ rfl rfl ?_; focus ((repeat' (first | exact PsA.lit _ | exact PsA.ref rfl rfl | constructor)); all_goals (fail "ps"))) | (refine OpK.call c2 rfl rfl rfl rfl hE ?_ rfl rfl ?_; focus ((repeat' (first | exact PsA.lit _ | exact PsA.ref rfl rfl | constructor)); all_goals (fail "ps"))) | (refine OpK.call c3 rfl rfl rfl rfl hE ?_ rfl rfl ?_; focus ((repeat' (first | exact PsA.lit _ | exact PsA.ref rfl rfl | constructor)); all_goals (fail "ps"))) | (refine OpK.call c4 rfl rfl rfl rfl hE ?_ rfl rfl ?_; focus ((repeat' (first | exact PsA.lit _ | exact PsA.ref rfl rfl | exact PsA.ref rfl (List.length_set).symm | constructor)); all_goals (fail "ps"))) | refine ListO.go gOk hE ?_)
      all_goals (try simp only [adN_zero] at *)
      all_goals first
        | (exfalso; omega)
        | (refine Need.mk ?_; first | omega | (refine ⟨?_, ?_⟩ <;> (try unfold maxLen) <;> omega))
        | exact Need.mk rfl
        | exact OutS.whole rfl rfl
        | exact OutS.whole (by simp [rtL]) rfl
        | trace_state
    | false =>
      rw [hq] at c4
      rw [if_neg (by decide)]
      refine RunT.of_vc gOk Try.func56 rfl rfl (Nat.le_of_ble_eq_true rfl) (by repeat' (first | exact trivial | exact ⟨_, rfl, Nat.le_refl _⟩ | exact Nat.le_of_ble_eq_true rfl | refine And.intro ?_ ?_)) (Nat.le_of_ble_eq_true rfl) rfl (fun F hE => ?_)
      repeat' (first | exact trivial | refine BS.d (fun h => ?_) (fun h => ?_) | refine BS.e (fun h => ?_) (fun h => ?_) | refine BS.ne (fun h => ?_) (fun h => ?_) | refine BS.n ?_ | refine BS.s (fun h => ?_) (fun h => ?_) | refine And.intro ?_ ?_ | (refine Need.mk ?_; first | with_reducible rfl | (show @Eq TC _ _; rfl) | omega | (simp only [adN_zero]; omega)) | exact OutS.whole rfl rfl | (refine ListO.open_ gOk hE 5000 rfl rfl rfl rfl rfl rfl rfl rfl (by (try simp only [adN_zero]); omega) (by decide) rfl rfl rfl rfl ?_) | (refine OpK.stNR gOk (xs.getD m [] ++ [(h9, ep)]) rfl rfl rfl rfl rfl rfl rfl rfl rfl (by (try simp only [adN_zero]); omega) (StN.ref rfl rfl rfl rfl rfl StN.nil) ?_) | (refine OpK.call c1 rfl rfl rfl rfl hE ?_ rfl rfl ?_; focus ((repeat' (first | exact PsA.lit _ | exact PsA.ref rfl rfl | constructor)); all_goals (fail "ps"))) | (refine OpK.call c2 rfl rfl rfl rfl hE ?_ rfl rfl ?_; focus ((repeat' (first | exact PsA.lit _ | exact PsA.ref rfl rfl | constructor)); all_goals (fail "ps"))) | (refine OpK.call c3 rfl rfl rfl rfl hE ?_ rfl rfl ?_; focus ((repeat' (first | exact PsA.lit _ | exact PsA.ref rfl rfl | constructor)); all_goals (fail "ps"))) | (refine OpK.call c4 rfl rfl rfl rfl hE ?_ rfl rfl ?_; focus ((repeat' (first | exact PsA.lit _ | exact PsA.ref rfl rfl | exact PsA.ref rfl (List.length_set).symm | constructor)); all_goals (fail "ps"))) | refine ListO.go gOk hE ?_)
      all_goals (try simp only [adN_zero] at *)
      all_goals first
        | (exfalso; omega)
        | (refine Need.mk ?_; first | omega | (refine ⟨?_, ?_⟩ <;> (try unfold maxLen) <;> omega))
        | exact Need.mk rfl
        | exact OutS.whole rfl rfl
        | trace_state
  · have hr : rtX xs w h9 ep = (xs, false) := by unfold rtX; rw [if_neg hw]
    rw [hr]
    refine RunT.of_vc gOk Try.func56 rfl rfl (Nat.le_of_ble_eq_true rfl) (by repeat' (first | exact trivial | exact ⟨_, rfl, Nat.le_refl _⟩ | exact Nat.le_of_ble_eq_true rfl | refine And.intro ?_ ?_)) (Nat.le_of_ble_eq_true rfl) rfl (fun F hE => ?_)
    repeat' (first | exact trivial | refine BS.d (fun h => ?_) (fun h => ?_) | refine BS.e (fun h => ?_) (fun h => ?_) | refine BS.ne (fun h => ?_) (fun h => ?_) | refine BS.n ?_ | refine BS.s (fun h => ?_) (fun h => ?_) | refine And.intro ?_ ?_ | (refine Need.mk ?_; first | with_reducible rfl | (show @Eq TC _ _; rfl) | omega | (simp only [adN_zero]; omega)) | exact OutS.whole rfl rfl | (refine OpK.call c1 rfl rfl rfl rfl hE ?_ rfl rfl ?_; focus ((repeat' (first | exact PsA.lit _ | exact PsA.ref rfl rfl | constructor)); all_goals (fail "ps"))) | (refine OpK.call c2 rfl rfl rfl rfl hE ?_ rfl rfl ?_; focus ((repeat' (first | exact PsA.lit _ | exact PsA.ref rfl rfl | constructor)); all_goals (fail "ps"))) | (refine OpK.call c3 rfl rfl rfl rfl hE ?_ rfl rfl ?_; focus ((repeat' (first | exact PsA.lit _ | exact PsA.ref rfl rfl | constructor)); all_goals (fail "ps"))) | refine ListO.go gOk hE ?_)
    all_goals first | exact Need.mk rfl | exact OutS.whole rfl rfl | (exfalso; exact hw ⟨‹_›, ‹_›⟩) | (exfalso; simp_all; done) | trace_state
end Go.Proofs.Ytlmmmeknilgdhaa
end
