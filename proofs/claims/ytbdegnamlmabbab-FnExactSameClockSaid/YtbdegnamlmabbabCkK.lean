/- Contracts over clocks: two clocks alike. -/
import Derived.Test.YtbdegnamlmabbabCkA
namespace Go.Proofs.Ytbdegnamlmabbab
open Go Go.Tr
set_option linter.unusedVariables false
set_option linter.unusedSimpArgs false
set_option maxRecDepth 100000
set_option maxHeartbeats 4000000

noncomputable def sameB (E E' : Int) (n m : Nat) (ps qs : Nat → Pn) : Bool := @decide (E = E' ∧ n = m ∧ ∀ i, i < n → ps i = qs i) (Classical.propDecidable _)
theorem sameB_iff {E E' : Int} {n m : Nat} {ps qs : Nat → Pn} : sameB E E' n m ps qs = true ↔ E = E' ∧ n = m ∧ ∀ i, i < n → ps i = qs i := by unfold sameB; simp
theorem sameB_no {E E' : Int} {n m : Nat} {ps qs : Nat → Pn} (h : ¬ (E = E' ∧ n = m ∧ ∀ i, i < n → ps i = qs i)) : sameB E E' n m ps qs = false := by
  cases hb : sameB E E' n m ps qs
  · rfl
  · exact absurd (sameB_iff.1 hb) h

theorem sSame_run (E E' : Int) (n m e e' : Nat) (ps qs : Nat → Pn) (row row' : Nat → Nat → C) (hrow : ∀ i r, i < n → r < 4 → row i r = pinC (ps i) r) (hrow' : ∀ i r, i < m → r < 4 → row' i r = pinC (qs i) r) (hn : n ≤ 1048576) (hm : m ≤ 1048576) :
    Run Try.prog 39 [.agg [.c (.lit (.int .i64 E)), .c (.sl .fro e 4 n row)], .agg [.c (.lit (.int .i64 E')), .c (.sl .fro e' 4 m row')]] [] fun outs ext => outs = [.one (.lit (.bool (sameB E E' n m ps qs)))] ∧ ext = [] := by
  refine Run.of_body tyOk Try.func39 (by rfl) (Nat.le_of_ble_eq_true rfl) (by simp [argsOk, aasOk, aaOk]) [] rfl (fun F hF => ?_)
  repeat (first | (first
      | refine AL.nil ?_
      | refine AL.move (.inl (by rfl)) (by rfl) (by rfl) ?_
      | refine AL.move (.inr (by rfl)) (by rfl) (by rfl) ?_
      | refine AL.fieldAddr tyOk (by rfl) (by rfl) (by rfl) (by rfl) (by rfl) (by rfl) ?_
      | refine AL.load1 tyOk (by rfl) (by rfl) (by rfl) (by rfl) (by rfl) (by rfl) (by rfl) (by first | exact Nat.le_of_ble_eq_true rfl | (dsimp only; omega) | omega | assumption | (simp only [openR]; omega) | exact Nat.lt_of_lt_of_le (m := 3) (by omega) (Nat.le_of_ble_eq_true rfl)) (by first | exact Nat.le_of_ble_eq_true rfl | (dsimp only; omega) | omega | assumption | (simp only [openR]; omega) | exact Nat.lt_of_lt_of_le (m := 3) (by omega) (Nat.le_of_ble_eq_true rfl)) (by rfl) ?_
      | refine AL.loadAggE tyOk (by rfl) (by rfl) (by rfl) (by rfl) (by rfl) (by rfl) (by rfl) (by first | exact Nat.le_of_ble_eq_true rfl | (dsimp only; omega) | omega | assumption | (simp only [openR]; omega) | exact Nat.lt_of_lt_of_le (m := 3) (by omega) (Nat.le_of_ble_eq_true rfl)) (by first | exact Nat.le_of_ble_eq_true rfl | (dsimp only; omega) | omega | assumption | (simp only [openR]; omega) | exact Nat.lt_of_lt_of_le (m := 3) (by omega) (Nat.le_of_ble_eq_true rfl)) (by rfl) ?_
      | refine AL.stor tyOk (by rfl) (by rfl) (by rfl) (by rfl) (by rfl) (by rfl) (by rfl) (by rfl) (by rfl) (by first | exact Nat.le_of_ble_eq_true rfl | (dsimp only; omega) | omega | assumption | (simp only [openR]; omega) | exact Nat.lt_of_lt_of_le (m := 3) (by omega) (Nat.le_of_ble_eq_true rfl)) (by first | exact Nat.le_of_ble_eq_true rfl | (dsimp only; omega) | omega | assumption | (simp only [openR]; omega) | exact Nat.lt_of_lt_of_le (m := 3) (by omega) (Nat.le_of_ble_eq_true rfl)) ?_
      | refine AL.len (ty := 0) tyOk (by rfl) (by rfl) (by rfl) (by rfl) (by rfl) ?_
      | refine AL.add (by rfl) (by rfl) (by rfl) (by rfl) (by rfl) (by constructor <;> omega) ?_
      | refine AL.sub (by rfl) (by rfl) (by rfl) (by rfl) (by rfl) (by constructor <;> omega) ?_
      | refine AL.mul (by rfl) (by rfl) (by rfl) (by rfl) (by rfl) (by constructor <;> omega) ?_
      | refine AL.int2 (by rfl) (by rfl) (by rfl) (by rfl) (by rfl) (by rfl) (by first | trivial | decide | omega) ?_
      | refine AL.bEq (by rfl) (by rfl) (by rfl) (by rfl) (by rfl) Try.underlying4 ?_
      | refine AL.bNe (by rfl) (by rfl) (by rfl) (by rfl) (by rfl) Try.underlying4 ?_
      | refine AL.not (by rfl) (by rfl) (by rfl) (by rfl) ?_
      | refine AL.gOnE (by rfl) (by rfl) (by rfl) (by rfl) (by decide) (by first | rfl | assumption) ?_
      | refine AL.gOffE (by rfl) (by rfl) (by rfl) (by rfl) (by rfl) (by decide) (by first | rfl | assumption) ?_
      | refine AL.pickE (b' := true) (by rfl) (by rfl) (by rfl) (by rfl) (by first | rfl | assumption) ?_
      | refine AL.pickE (b' := false) (by rfl) (by rfl) (by rfl) (by rfl) (by first | rfl | assumption) ?_
      | refine AL.extract (by rfl) (by rfl) (by rfl) (by rfl) (by rfl) ?_
      | refine AL.boxD tyOk (by rfl) (by rfl) (by rfl) (Nat.le_of_ble_eq_true rfl) (by rfl) (by rfl) (by rfl) (by decide) (by rfl) ?_
      | refine AL.allocD tyOk (by rfl) (by rfl) (by rfl) (Nat.le_of_ble_eq_true rfl) (by rfl) (by rfl) (by decide) (by rfl) ?_
      | refine AL.indexN tyOk (by rfl) (by rfl) (by rfl) (by rfl) (by rfl) (by rfl) (by rfl) (by rfl) (by first | rfl | exact (Int.toNat_of_nonneg (by omega)).symm) (by omega) ?_
      | refine AL.indexSl tyOk (by rfl) (by rfl) (by rfl) (by rfl) (by rfl) (by rfl) (by rfl) (by rfl) (by constructor <;> omega) ?_
      | refine AL.indexArr tyOk (by rfl) (by rfl) (by rfl) (by rfl) (by rfl) (by rfl) (by constructor <;> omega) ?_
      | refine AL.makeD tyOk _ (by rfl) (by rfl) (by rfl) (Nat.le_of_ble_eq_true rfl) (by rfl) (by rfl) (by rfl) (by rfl) (by rfl) (by rfl) (by rfl) (by omega) (by omega) (by decide) (by rfl) ?_
      | refine AL.build (qs := []) tyOk (by rfl) (by rfl) (by rfl) (by rfl) (by rfl) (by exact PartsOk.nil) (by rfl) ?_
      | refine AL.build (qs := [(_, _)]) tyOk (by rfl) (by rfl) (by rfl) (by rfl) (by rfl) (by exact PartsOk.cons (by rfl) (by rfl) PartsOk.nil) (by rfl) ?_
      | refine AL.build (qs := [(_, _), (_, _)]) tyOk (by rfl) (by rfl) (by rfl) (by rfl) (by rfl) (by exact PartsOk.cons (by rfl) (by rfl) (PartsOk.cons (by rfl) (by rfl) PartsOk.nil)) (by rfl) ?_
      | refine AL.nilCheck (by rfl) (by rfl) (by rfl) (by rfl) ?_) | (first
          | refine AC.region ?_
          | refine AC.seq ?_
          | refine AC.block ?_
          | refine AC.ret ?_
          | refine AC.exit ?_
          | refine AC.skip ?_))
  refine AL.gSplit (by rfl) (by rfl) (by rfl) (by rfl) (by rfl) (Nat.le_of_ble_eq_true rfl) (fun h1 => ?_) (fun h1 => ?_)
  rotate_left
  · have h1 : E ≠ E' := by simpa using h1
    repeat (first | (first
        | refine AL.nil ?_
        | refine AL.move (.inl (by rfl)) (by rfl) (by rfl) ?_
        | refine AL.move (.inr (by rfl)) (by rfl) (by rfl) ?_
        | refine AL.fieldAddr tyOk (by rfl) (by rfl) (by rfl) (by rfl) (by rfl) (by rfl) ?_
        | refine AL.load1 tyOk (by rfl) (by rfl) (by rfl) (by rfl) (by rfl) (by rfl) (by rfl) (by first | exact Nat.le_of_ble_eq_true rfl | (dsimp only; omega) | omega | assumption | (simp only [openR]; omega) | exact Nat.lt_of_lt_of_le (m := 3) (by omega) (Nat.le_of_ble_eq_true rfl)) (by first | exact Nat.le_of_ble_eq_true rfl | (dsimp only; omega) | omega | assumption | (simp only [openR]; omega) | exact Nat.lt_of_lt_of_le (m := 3) (by omega) (Nat.le_of_ble_eq_true rfl)) (by rfl) ?_
        | refine AL.loadAggE tyOk (by rfl) (by rfl) (by rfl) (by rfl) (by rfl) (by rfl) (by rfl) (by first | exact Nat.le_of_ble_eq_true rfl | (dsimp only; omega) | omega | assumption | (simp only [openR]; omega) | exact Nat.lt_of_lt_of_le (m := 3) (by omega) (Nat.le_of_ble_eq_true rfl)) (by first | exact Nat.le_of_ble_eq_true rfl | (dsimp only; omega) | omega | assumption | (simp only [openR]; omega) | exact Nat.lt_of_lt_of_le (m := 3) (by omega) (Nat.le_of_ble_eq_true rfl)) (by rfl) ?_
        | refine AL.stor tyOk (by rfl) (by rfl) (by rfl) (by rfl) (by rfl) (by rfl) (by rfl) (by rfl) (by rfl) (by first | exact Nat.le_of_ble_eq_true rfl | (dsimp only; omega) | omega | assumption | (simp only [openR]; omega) | exact Nat.lt_of_lt_of_le (m := 3) (by omega) (Nat.le_of_ble_eq_true rfl)) (by first | exact Nat.le_of_ble_eq_true rfl | (dsimp only; omega) | omega | assumption | (simp only [openR]; omega) | exact Nat.lt_of_lt_of_le (m := 3) (by omega) (Nat.le_of_ble_eq_true rfl)) ?_
        | refine AL.len (ty := 0) tyOk (by rfl) (by rfl) (by rfl) (by rfl) (by rfl) ?_
        | refine AL.add (by rfl) (by rfl) (by rfl) (by rfl) (by rfl) (by constructor <;> omega) ?_
        | refine AL.sub (by rfl) (by rfl) (by rfl) (by rfl) (by rfl) (by constructor <;> omega) ?_
        | refine AL.mul (by rfl) (by rfl) (by rfl) (by rfl) (by rfl) (by constructor <;> omega) ?_
        | refine AL.int2 (by rfl) (by rfl) (by rfl) (by rfl) (by rfl) (by rfl) (by first | trivial | decide | omega) ?_
        | refine AL.bEq (by rfl) (by rfl) (by rfl) (by rfl) (by rfl) Try.underlying4 ?_
        | refine AL.bNe (by rfl) (by rfl) (by rfl) (by rfl) (by rfl) Try.underlying4 ?_
        | refine AL.not (by rfl) (by rfl) (by rfl) (by rfl) ?_
        | refine AL.gOnE (by rfl) (by rfl) (by rfl) (by rfl) (by decide) (by first | rfl | assumption) ?_
        | refine AL.gOffE (by rfl) (by rfl) (by rfl) (by rfl) (by rfl) (by decide) (by first | rfl | assumption) ?_
        | refine AL.pickE (b' := true) (by rfl) (by rfl) (by rfl) (by rfl) (by first | rfl | assumption) ?_
        | refine AL.pickE (b' := false) (by rfl) (by rfl) (by rfl) (by rfl) (by first | rfl | assumption) ?_
        | refine AL.extract (by rfl) (by rfl) (by rfl) (by rfl) (by rfl) ?_
        | refine AL.boxD tyOk (by rfl) (by rfl) (by rfl) (Nat.le_of_ble_eq_true rfl) (by rfl) (by rfl) (by rfl) (by decide) (by rfl) ?_
        | refine AL.allocD tyOk (by rfl) (by rfl) (by rfl) (Nat.le_of_ble_eq_true rfl) (by rfl) (by rfl) (by decide) (by rfl) ?_
        | refine AL.indexN tyOk (by rfl) (by rfl) (by rfl) (by rfl) (by rfl) (by rfl) (by rfl) (by rfl) (by first | rfl | exact (Int.toNat_of_nonneg (by omega)).symm) (by omega) ?_
        | refine AL.indexSl tyOk (by rfl) (by rfl) (by rfl) (by rfl) (by rfl) (by rfl) (by rfl) (by rfl) (by constructor <;> omega) ?_
        | refine AL.indexArr tyOk (by rfl) (by rfl) (by rfl) (by rfl) (by rfl) (by rfl) (by constructor <;> omega) ?_
        | refine AL.makeD tyOk _ (by rfl) (by rfl) (by rfl) (Nat.le_of_ble_eq_true rfl) (by rfl) (by rfl) (by rfl) (by rfl) (by rfl) (by rfl) (by rfl) (by omega) (by omega) (by decide) (by rfl) ?_
        | refine AL.build (qs := []) tyOk (by rfl) (by rfl) (by rfl) (by rfl) (by rfl) (by exact PartsOk.nil) (by rfl) ?_
        | refine AL.build (qs := [(_, _)]) tyOk (by rfl) (by rfl) (by rfl) (by rfl) (by rfl) (by exact PartsOk.cons (by rfl) (by rfl) PartsOk.nil) (by rfl) ?_
        | refine AL.build (qs := [(_, _), (_, _)]) tyOk (by rfl) (by rfl) (by rfl) (by rfl) (by rfl) (by exact PartsOk.cons (by rfl) (by rfl) (PartsOk.cons (by rfl) (by rfl) PartsOk.nil)) (by rfl) ?_
        | refine AL.nilCheck (by rfl) (by rfl) (by rfl) (by rfl) ?_) | (first
            | refine AC.region ?_
            | refine AC.seq ?_
            | refine AC.block ?_
            | refine AC.ret ?_
            | refine AC.exit ?_
            | refine AC.skip ?_))
    refine AC.cond (by rfl) (fun h9 => ?_) (fun h9 => ?_)
    · repeat (first | (first
        | refine AL.nil ?_
        | refine AL.move (.inl (by rfl)) (by rfl) (by rfl) ?_
        | refine AL.move (.inr (by rfl)) (by rfl) (by rfl) ?_
        | refine AL.fieldAddr tyOk (by rfl) (by rfl) (by rfl) (by rfl) (by rfl) (by rfl) ?_
        | refine AL.load1 tyOk (by rfl) (by rfl) (by rfl) (by rfl) (by rfl) (by rfl) (by rfl) (by first | exact Nat.le_of_ble_eq_true rfl | (dsimp only; omega) | omega | assumption | (simp only [openR]; omega) | exact Nat.lt_of_lt_of_le (m := 3) (by omega) (Nat.le_of_ble_eq_true rfl)) (by first | exact Nat.le_of_ble_eq_true rfl | (dsimp only; omega) | omega | assumption | (simp only [openR]; omega) | exact Nat.lt_of_lt_of_le (m := 3) (by omega) (Nat.le_of_ble_eq_true rfl)) (by rfl) ?_
        | refine AL.loadAggE tyOk (by rfl) (by rfl) (by rfl) (by rfl) (by rfl) (by rfl) (by rfl) (by first | exact Nat.le_of_ble_eq_true rfl | (dsimp only; omega) | omega | assumption | (simp only [openR]; omega) | exact Nat.lt_of_lt_of_le (m := 3) (by omega) (Nat.le_of_ble_eq_true rfl)) (by first | exact Nat.le_of_ble_eq_true rfl | (dsimp only; omega) | omega | assumption | (simp only [openR]; omega) | exact Nat.lt_of_lt_of_le (m := 3) (by omega) (Nat.le_of_ble_eq_true rfl)) (by rfl) ?_
        | refine AL.stor tyOk (by rfl) (by rfl) (by rfl) (by rfl) (by rfl) (by rfl) (by rfl) (by rfl) (by rfl) (by first | exact Nat.le_of_ble_eq_true rfl | (dsimp only; omega) | omega | assumption | (simp only [openR]; omega) | exact Nat.lt_of_lt_of_le (m := 3) (by omega) (Nat.le_of_ble_eq_true rfl)) (by first | exact Nat.le_of_ble_eq_true rfl | (dsimp only; omega) | omega | assumption | (simp only [openR]; omega) | exact Nat.lt_of_lt_of_le (m := 3) (by omega) (Nat.le_of_ble_eq_true rfl)) ?_
        | refine AL.len (ty := 0) tyOk (by rfl) (by rfl) (by rfl) (by rfl) (by rfl) ?_
        | refine AL.add (by rfl) (by rfl) (by rfl) (by rfl) (by rfl) (by constructor <;> omega) ?_
        | refine AL.sub (by rfl) (by rfl) (by rfl) (by rfl) (by rfl) (by constructor <;> omega) ?_
        | refine AL.mul (by rfl) (by rfl) (by rfl) (by rfl) (by rfl) (by constructor <;> omega) ?_
        | refine AL.int2 (by rfl) (by rfl) (by rfl) (by rfl) (by rfl) (by rfl) (by first | trivial | decide | omega) ?_
        | refine AL.bEq (by rfl) (by rfl) (by rfl) (by rfl) (by rfl) Try.underlying4 ?_
        | refine AL.bNe (by rfl) (by rfl) (by rfl) (by rfl) (by rfl) Try.underlying4 ?_
        | refine AL.not (by rfl) (by rfl) (by rfl) (by rfl) ?_
        | refine AL.gOnE (by rfl) (by rfl) (by rfl) (by rfl) (by decide) (by first | rfl | assumption) ?_
        | refine AL.gOffE (by rfl) (by rfl) (by rfl) (by rfl) (by rfl) (by decide) (by first | rfl | assumption) ?_
        | refine AL.pickE (b' := true) (by rfl) (by rfl) (by rfl) (by rfl) (by first | rfl | assumption) ?_
        | refine AL.pickE (b' := false) (by rfl) (by rfl) (by rfl) (by rfl) (by first | rfl | assumption) ?_
        | refine AL.extract (by rfl) (by rfl) (by rfl) (by rfl) (by rfl) ?_
        | refine AL.boxD tyOk (by rfl) (by rfl) (by rfl) (Nat.le_of_ble_eq_true rfl) (by rfl) (by rfl) (by rfl) (by decide) (by rfl) ?_
        | refine AL.allocD tyOk (by rfl) (by rfl) (by rfl) (Nat.le_of_ble_eq_true rfl) (by rfl) (by rfl) (by decide) (by rfl) ?_
        | refine AL.indexN tyOk (by rfl) (by rfl) (by rfl) (by rfl) (by rfl) (by rfl) (by rfl) (by rfl) (by first | rfl | exact (Int.toNat_of_nonneg (by omega)).symm) (by omega) ?_
        | refine AL.indexSl tyOk (by rfl) (by rfl) (by rfl) (by rfl) (by rfl) (by rfl) (by rfl) (by rfl) (by constructor <;> omega) ?_
        | refine AL.indexArr tyOk (by rfl) (by rfl) (by rfl) (by rfl) (by rfl) (by rfl) (by constructor <;> omega) ?_
        | refine AL.makeD tyOk _ (by rfl) (by rfl) (by rfl) (Nat.le_of_ble_eq_true rfl) (by rfl) (by rfl) (by rfl) (by rfl) (by rfl) (by rfl) (by rfl) (by omega) (by omega) (by decide) (by rfl) ?_
        | refine AL.build (qs := []) tyOk (by rfl) (by rfl) (by rfl) (by rfl) (by rfl) (by exact PartsOk.nil) (by rfl) ?_
        | refine AL.build (qs := [(_, _)]) tyOk (by rfl) (by rfl) (by rfl) (by rfl) (by rfl) (by exact PartsOk.cons (by rfl) (by rfl) PartsOk.nil) (by rfl) ?_
        | refine AL.build (qs := [(_, _), (_, _)]) tyOk (by rfl) (by rfl) (by rfl) (by rfl) (by rfl) (by exact PartsOk.cons (by rfl) (by rfl) (PartsOk.cons (by rfl) (by rfl) PartsOk.nil)) (by rfl) ?_
        | refine AL.nilCheck (by rfl) (by rfl) (by rfl) (by rfl) ?_) | (first
            | refine AC.region ?_
            | refine AC.seq ?_
            | refine AC.block ?_
            | refine AC.ret ?_
            | refine AC.exit ?_
            | refine AC.skip ?_))
      refine And.intro (by first | exact .inr rfl | exact .inl rfl) (And.intro (by repeat (first | exact trivial | exact Nat.le_of_ble_eq_true rfl | rfl | exact ⟨_, rfl, rfl, Nat.le_refl _, rfl⟩ | refine And.intro ?_ ?_)) (And.intro (by rfl) (And.intro (by rfl) (And.intro (by repeat (first | exact trivial | exact Nat.le_of_ble_eq_true rfl | rfl | exact ⟨_, rfl, rfl, Nat.le_refl _, rfl⟩ | refine And.intro ?_ ?_)) (And.intro (by repeat (first | exact trivial | exact Nat.le_of_ble_eq_true rfl | rfl | exact ⟨_, rfl, rfl, Nat.le_refl _, rfl⟩ | refine And.intro ?_ ?_)) ?_)))))
      rw [sameB_no (fun h => h1 h.1)]; exact And.intro rfl rfl
    · cases h9
  have h1 : E = E' := by simpa using h1
  repeat (first | (first
      | refine AL.nil ?_
      | refine AL.move (.inl (by rfl)) (by rfl) (by rfl) ?_
      | refine AL.move (.inr (by rfl)) (by rfl) (by rfl) ?_
      | refine AL.fieldAddr tyOk (by rfl) (by rfl) (by rfl) (by rfl) (by rfl) (by rfl) ?_
      | refine AL.load1 tyOk (by rfl) (by rfl) (by rfl) (by rfl) (by rfl) (by rfl) (by rfl) (by first | exact Nat.le_of_ble_eq_true rfl | (dsimp only; omega) | omega | assumption | (simp only [openR]; omega) | exact Nat.lt_of_lt_of_le (m := 3) (by omega) (Nat.le_of_ble_eq_true rfl)) (by first | exact Nat.le_of_ble_eq_true rfl | (dsimp only; omega) | omega | assumption | (simp only [openR]; omega) | exact Nat.lt_of_lt_of_le (m := 3) (by omega) (Nat.le_of_ble_eq_true rfl)) (by rfl) ?_
      | refine AL.loadAggE tyOk (by rfl) (by rfl) (by rfl) (by rfl) (by rfl) (by rfl) (by rfl) (by first | exact Nat.le_of_ble_eq_true rfl | (dsimp only; omega) | omega | assumption | (simp only [openR]; omega) | exact Nat.lt_of_lt_of_le (m := 3) (by omega) (Nat.le_of_ble_eq_true rfl)) (by first | exact Nat.le_of_ble_eq_true rfl | (dsimp only; omega) | omega | assumption | (simp only [openR]; omega) | exact Nat.lt_of_lt_of_le (m := 3) (by omega) (Nat.le_of_ble_eq_true rfl)) (by rfl) ?_
      | refine AL.stor tyOk (by rfl) (by rfl) (by rfl) (by rfl) (by rfl) (by rfl) (by rfl) (by rfl) (by rfl) (by first | exact Nat.le_of_ble_eq_true rfl | (dsimp only; omega) | omega | assumption | (simp only [openR]; omega) | exact Nat.lt_of_lt_of_le (m := 3) (by omega) (Nat.le_of_ble_eq_true rfl)) (by first | exact Nat.le_of_ble_eq_true rfl | (dsimp only; omega) | omega | assumption | (simp only [openR]; omega) | exact Nat.lt_of_lt_of_le (m := 3) (by omega) (Nat.le_of_ble_eq_true rfl)) ?_
      | refine AL.len (ty := 0) tyOk (by rfl) (by rfl) (by rfl) (by rfl) (by rfl) ?_
      | refine AL.add (by rfl) (by rfl) (by rfl) (by rfl) (by rfl) (by constructor <;> omega) ?_
      | refine AL.sub (by rfl) (by rfl) (by rfl) (by rfl) (by rfl) (by constructor <;> omega) ?_
      | refine AL.mul (by rfl) (by rfl) (by rfl) (by rfl) (by rfl) (by constructor <;> omega) ?_
      | refine AL.int2 (by rfl) (by rfl) (by rfl) (by rfl) (by rfl) (by rfl) (by first | trivial | decide | omega) ?_
      | refine AL.bEq (by rfl) (by rfl) (by rfl) (by rfl) (by rfl) Try.underlying4 ?_
      | refine AL.bNe (by rfl) (by rfl) (by rfl) (by rfl) (by rfl) Try.underlying4 ?_
      | refine AL.not (by rfl) (by rfl) (by rfl) (by rfl) ?_
      | refine AL.gOnE (by rfl) (by rfl) (by rfl) (by rfl) (by decide) (by first | rfl | assumption) ?_
      | refine AL.gOffE (by rfl) (by rfl) (by rfl) (by rfl) (by rfl) (by decide) (by first | rfl | assumption) ?_
      | refine AL.pickE (b' := true) (by rfl) (by rfl) (by rfl) (by rfl) (by first | rfl | assumption) ?_
      | refine AL.pickE (b' := false) (by rfl) (by rfl) (by rfl) (by rfl) (by first | rfl | assumption) ?_
      | refine AL.extract (by rfl) (by rfl) (by rfl) (by rfl) (by rfl) ?_
      | refine AL.boxD tyOk (by rfl) (by rfl) (by rfl) (Nat.le_of_ble_eq_true rfl) (by rfl) (by rfl) (by rfl) (by decide) (by rfl) ?_
      | refine AL.allocD tyOk (by rfl) (by rfl) (by rfl) (Nat.le_of_ble_eq_true rfl) (by rfl) (by rfl) (by decide) (by rfl) ?_
      | refine AL.indexN tyOk (by rfl) (by rfl) (by rfl) (by rfl) (by rfl) (by rfl) (by rfl) (by rfl) (by first | rfl | exact (Int.toNat_of_nonneg (by omega)).symm) (by omega) ?_
      | refine AL.indexSl tyOk (by rfl) (by rfl) (by rfl) (by rfl) (by rfl) (by rfl) (by rfl) (by rfl) (by constructor <;> omega) ?_
      | refine AL.indexArr tyOk (by rfl) (by rfl) (by rfl) (by rfl) (by rfl) (by rfl) (by constructor <;> omega) ?_
      | refine AL.makeD tyOk _ (by rfl) (by rfl) (by rfl) (Nat.le_of_ble_eq_true rfl) (by rfl) (by rfl) (by rfl) (by rfl) (by rfl) (by rfl) (by rfl) (by omega) (by omega) (by decide) (by rfl) ?_
      | refine AL.build (qs := []) tyOk (by rfl) (by rfl) (by rfl) (by rfl) (by rfl) (by exact PartsOk.nil) (by rfl) ?_
      | refine AL.build (qs := [(_, _)]) tyOk (by rfl) (by rfl) (by rfl) (by rfl) (by rfl) (by exact PartsOk.cons (by rfl) (by rfl) PartsOk.nil) (by rfl) ?_
      | refine AL.build (qs := [(_, _), (_, _)]) tyOk (by rfl) (by rfl) (by rfl) (by rfl) (by rfl) (by exact PartsOk.cons (by rfl) (by rfl) (PartsOk.cons (by rfl) (by rfl) PartsOk.nil)) (by rfl) ?_
      | refine AL.nilCheck (by rfl) (by rfl) (by rfl) (by rfl) ?_) | (first
          | refine AC.region ?_
          | refine AC.seq ?_
          | refine AC.block ?_
          | refine AC.ret ?_
          | refine AC.exit ?_
          | refine AC.skip ?_))
  refine AC.cond (by rfl) (fun h2 => ?_) (fun h2 => ?_)
  · have h2 : n ≠ m := by simp at h2; omega
    repeat (first | (first
        | refine AL.nil ?_
        | refine AL.move (.inl (by rfl)) (by rfl) (by rfl) ?_
        | refine AL.move (.inr (by rfl)) (by rfl) (by rfl) ?_
        | refine AL.fieldAddr tyOk (by rfl) (by rfl) (by rfl) (by rfl) (by rfl) (by rfl) ?_
        | refine AL.load1 tyOk (by rfl) (by rfl) (by rfl) (by rfl) (by rfl) (by rfl) (by rfl) (by first | exact Nat.le_of_ble_eq_true rfl | (dsimp only; omega) | omega | assumption | (simp only [openR]; omega) | exact Nat.lt_of_lt_of_le (m := 3) (by omega) (Nat.le_of_ble_eq_true rfl)) (by first | exact Nat.le_of_ble_eq_true rfl | (dsimp only; omega) | omega | assumption | (simp only [openR]; omega) | exact Nat.lt_of_lt_of_le (m := 3) (by omega) (Nat.le_of_ble_eq_true rfl)) (by rfl) ?_
        | refine AL.loadAggE tyOk (by rfl) (by rfl) (by rfl) (by rfl) (by rfl) (by rfl) (by rfl) (by first | exact Nat.le_of_ble_eq_true rfl | (dsimp only; omega) | omega | assumption | (simp only [openR]; omega) | exact Nat.lt_of_lt_of_le (m := 3) (by omega) (Nat.le_of_ble_eq_true rfl)) (by first | exact Nat.le_of_ble_eq_true rfl | (dsimp only; omega) | omega | assumption | (simp only [openR]; omega) | exact Nat.lt_of_lt_of_le (m := 3) (by omega) (Nat.le_of_ble_eq_true rfl)) (by rfl) ?_
        | refine AL.stor tyOk (by rfl) (by rfl) (by rfl) (by rfl) (by rfl) (by rfl) (by rfl) (by rfl) (by rfl) (by first | exact Nat.le_of_ble_eq_true rfl | (dsimp only; omega) | omega | assumption | (simp only [openR]; omega) | exact Nat.lt_of_lt_of_le (m := 3) (by omega) (Nat.le_of_ble_eq_true rfl)) (by first | exact Nat.le_of_ble_eq_true rfl | (dsimp only; omega) | omega | assumption | (simp only [openR]; omega) | exact Nat.lt_of_lt_of_le (m := 3) (by omega) (Nat.le_of_ble_eq_true rfl)) ?_
        | refine AL.len (ty := 0) tyOk (by rfl) (by rfl) (by rfl) (by rfl) (by rfl) ?_
        | refine AL.add (by rfl) (by rfl) (by rfl) (by rfl) (by rfl) (by constructor <;> omega) ?_
        | refine AL.sub (by rfl) (by rfl) (by rfl) (by rfl) (by rfl) (by constructor <;> omega) ?_
        | refine AL.mul (by rfl) (by rfl) (by rfl) (by rfl) (by rfl) (by constructor <;> omega) ?_
        | refine AL.int2 (by rfl) (by rfl) (by rfl) (by rfl) (by rfl) (by rfl) (by first | trivial | decide | omega) ?_
        | refine AL.bEq (by rfl) (by rfl) (by rfl) (by rfl) (by rfl) Try.underlying4 ?_
        | refine AL.bNe (by rfl) (by rfl) (by rfl) (by rfl) (by rfl) Try.underlying4 ?_
        | refine AL.not (by rfl) (by rfl) (by rfl) (by rfl) ?_
        | refine AL.gOnE (by rfl) (by rfl) (by rfl) (by rfl) (by decide) (by first | rfl | assumption) ?_
        | refine AL.gOffE (by rfl) (by rfl) (by rfl) (by rfl) (by rfl) (by decide) (by first | rfl | assumption) ?_
        | refine AL.pickE (b' := true) (by rfl) (by rfl) (by rfl) (by rfl) (by first | rfl | assumption) ?_
        | refine AL.pickE (b' := false) (by rfl) (by rfl) (by rfl) (by rfl) (by first | rfl | assumption) ?_
        | refine AL.extract (by rfl) (by rfl) (by rfl) (by rfl) (by rfl) ?_
        | refine AL.boxD tyOk (by rfl) (by rfl) (by rfl) (Nat.le_of_ble_eq_true rfl) (by rfl) (by rfl) (by rfl) (by decide) (by rfl) ?_
        | refine AL.allocD tyOk (by rfl) (by rfl) (by rfl) (Nat.le_of_ble_eq_true rfl) (by rfl) (by rfl) (by decide) (by rfl) ?_
        | refine AL.indexN tyOk (by rfl) (by rfl) (by rfl) (by rfl) (by rfl) (by rfl) (by rfl) (by rfl) (by first | rfl | exact (Int.toNat_of_nonneg (by omega)).symm) (by omega) ?_
        | refine AL.indexSl tyOk (by rfl) (by rfl) (by rfl) (by rfl) (by rfl) (by rfl) (by rfl) (by rfl) (by constructor <;> omega) ?_
        | refine AL.indexArr tyOk (by rfl) (by rfl) (by rfl) (by rfl) (by rfl) (by rfl) (by constructor <;> omega) ?_
        | refine AL.makeD tyOk _ (by rfl) (by rfl) (by rfl) (Nat.le_of_ble_eq_true rfl) (by rfl) (by rfl) (by rfl) (by rfl) (by rfl) (by rfl) (by rfl) (by omega) (by omega) (by decide) (by rfl) ?_
        | refine AL.build (qs := []) tyOk (by rfl) (by rfl) (by rfl) (by rfl) (by rfl) (by exact PartsOk.nil) (by rfl) ?_
        | refine AL.build (qs := [(_, _)]) tyOk (by rfl) (by rfl) (by rfl) (by rfl) (by rfl) (by exact PartsOk.cons (by rfl) (by rfl) PartsOk.nil) (by rfl) ?_
        | refine AL.build (qs := [(_, _), (_, _)]) tyOk (by rfl) (by rfl) (by rfl) (by rfl) (by rfl) (by exact PartsOk.cons (by rfl) (by rfl) (PartsOk.cons (by rfl) (by rfl) PartsOk.nil)) (by rfl) ?_
        | refine AL.nilCheck (by rfl) (by rfl) (by rfl) (by rfl) ?_) | (first
            | refine AC.region ?_
            | refine AC.seq ?_
            | refine AC.block ?_
            | refine AC.ret ?_
            | refine AC.exit ?_
            | refine AC.skip ?_))
    refine And.intro (by first | exact .inr rfl | exact .inl rfl) (And.intro (by repeat (first | exact trivial | exact Nat.le_of_ble_eq_true rfl | rfl | exact ⟨_, rfl, rfl, Nat.le_refl _, rfl⟩ | refine And.intro ?_ ?_)) (And.intro (by rfl) (And.intro (by rfl) (And.intro (by repeat (first | exact trivial | exact Nat.le_of_ble_eq_true rfl | rfl | exact ⟨_, rfl, rfl, Nat.le_refl _, rfl⟩ | refine And.intro ?_ ?_)) (And.intro (by repeat (first | exact trivial | exact Nat.le_of_ble_eq_true rfl | rfl | exact ⟨_, rfl, rfl, Nat.le_refl _, rfl⟩ | refine And.intro ?_ ?_)) ?_)))))
    rw [sameB_no (fun h => h2 h.2.1)]; exact And.intro rfl rfl
  have h2 : n = m := by simp at h2; omega
  subst h2
  repeat (first | (first
      | refine AL.nil ?_
      | refine AL.move (.inl (by rfl)) (by rfl) (by rfl) ?_
      | refine AL.move (.inr (by rfl)) (by rfl) (by rfl) ?_
      | refine AL.fieldAddr tyOk (by rfl) (by rfl) (by rfl) (by rfl) (by rfl) (by rfl) ?_
      | refine AL.load1 tyOk (by rfl) (by rfl) (by rfl) (by rfl) (by rfl) (by rfl) (by rfl) (by first | exact Nat.le_of_ble_eq_true rfl | (dsimp only; omega) | omega | assumption | (simp only [openR]; omega) | exact Nat.lt_of_lt_of_le (m := 3) (by omega) (Nat.le_of_ble_eq_true rfl)) (by first | exact Nat.le_of_ble_eq_true rfl | (dsimp only; omega) | omega | assumption | (simp only [openR]; omega) | exact Nat.lt_of_lt_of_le (m := 3) (by omega) (Nat.le_of_ble_eq_true rfl)) (by rfl) ?_
      | refine AL.loadAggE tyOk (by rfl) (by rfl) (by rfl) (by rfl) (by rfl) (by rfl) (by rfl) (by first | exact Nat.le_of_ble_eq_true rfl | (dsimp only; omega) | omega | assumption | (simp only [openR]; omega) | exact Nat.lt_of_lt_of_le (m := 3) (by omega) (Nat.le_of_ble_eq_true rfl)) (by first | exact Nat.le_of_ble_eq_true rfl | (dsimp only; omega) | omega | assumption | (simp only [openR]; omega) | exact Nat.lt_of_lt_of_le (m := 3) (by omega) (Nat.le_of_ble_eq_true rfl)) (by rfl) ?_
      | refine AL.stor tyOk (by rfl) (by rfl) (by rfl) (by rfl) (by rfl) (by rfl) (by rfl) (by rfl) (by rfl) (by first | exact Nat.le_of_ble_eq_true rfl | (dsimp only; omega) | omega | assumption | (simp only [openR]; omega) | exact Nat.lt_of_lt_of_le (m := 3) (by omega) (Nat.le_of_ble_eq_true rfl)) (by first | exact Nat.le_of_ble_eq_true rfl | (dsimp only; omega) | omega | assumption | (simp only [openR]; omega) | exact Nat.lt_of_lt_of_le (m := 3) (by omega) (Nat.le_of_ble_eq_true rfl)) ?_
      | refine AL.len (ty := 0) tyOk (by rfl) (by rfl) (by rfl) (by rfl) (by rfl) ?_
      | refine AL.add (by rfl) (by rfl) (by rfl) (by rfl) (by rfl) (by constructor <;> omega) ?_
      | refine AL.sub (by rfl) (by rfl) (by rfl) (by rfl) (by rfl) (by constructor <;> omega) ?_
      | refine AL.mul (by rfl) (by rfl) (by rfl) (by rfl) (by rfl) (by constructor <;> omega) ?_
      | refine AL.int2 (by rfl) (by rfl) (by rfl) (by rfl) (by rfl) (by rfl) (by first | trivial | decide | omega) ?_
      | refine AL.bEq (by rfl) (by rfl) (by rfl) (by rfl) (by rfl) Try.underlying4 ?_
      | refine AL.bNe (by rfl) (by rfl) (by rfl) (by rfl) (by rfl) Try.underlying4 ?_
      | refine AL.not (by rfl) (by rfl) (by rfl) (by rfl) ?_
      | refine AL.gOnE (by rfl) (by rfl) (by rfl) (by rfl) (by decide) (by first | rfl | assumption) ?_
      | refine AL.gOffE (by rfl) (by rfl) (by rfl) (by rfl) (by rfl) (by decide) (by first | rfl | assumption) ?_
      | refine AL.pickE (b' := true) (by rfl) (by rfl) (by rfl) (by rfl) (by first | rfl | assumption) ?_
      | refine AL.pickE (b' := false) (by rfl) (by rfl) (by rfl) (by rfl) (by first | rfl | assumption) ?_
      | refine AL.extract (by rfl) (by rfl) (by rfl) (by rfl) (by rfl) ?_
      | refine AL.boxD tyOk (by rfl) (by rfl) (by rfl) (Nat.le_of_ble_eq_true rfl) (by rfl) (by rfl) (by rfl) (by decide) (by rfl) ?_
      | refine AL.allocD tyOk (by rfl) (by rfl) (by rfl) (Nat.le_of_ble_eq_true rfl) (by rfl) (by rfl) (by decide) (by rfl) ?_
      | refine AL.indexN tyOk (by rfl) (by rfl) (by rfl) (by rfl) (by rfl) (by rfl) (by rfl) (by rfl) (by first | rfl | exact (Int.toNat_of_nonneg (by omega)).symm) (by omega) ?_
      | refine AL.indexSl tyOk (by rfl) (by rfl) (by rfl) (by rfl) (by rfl) (by rfl) (by rfl) (by rfl) (by constructor <;> omega) ?_
      | refine AL.indexArr tyOk (by rfl) (by rfl) (by rfl) (by rfl) (by rfl) (by rfl) (by constructor <;> omega) ?_
      | refine AL.makeD tyOk _ (by rfl) (by rfl) (by rfl) (Nat.le_of_ble_eq_true rfl) (by rfl) (by rfl) (by rfl) (by rfl) (by rfl) (by rfl) (by rfl) (by omega) (by omega) (by decide) (by rfl) ?_
      | refine AL.build (qs := []) tyOk (by rfl) (by rfl) (by rfl) (by rfl) (by rfl) (by exact PartsOk.nil) (by rfl) ?_
      | refine AL.build (qs := [(_, _)]) tyOk (by rfl) (by rfl) (by rfl) (by rfl) (by rfl) (by exact PartsOk.cons (by rfl) (by rfl) PartsOk.nil) (by rfl) ?_
      | refine AL.build (qs := [(_, _), (_, _)]) tyOk (by rfl) (by rfl) (by rfl) (by rfl) (by rfl) (by exact PartsOk.cons (by rfl) (by rfl) (PartsOk.cons (by rfl) (by rfl) PartsOk.nil)) (by rfl) ?_
      | refine AL.nilCheck (by rfl) (by rfl) (by rfl) (by rfl) ?_) | (first
          | refine AC.region ?_
          | refine AC.seq ?_
          | refine AC.block ?_
          | refine AC.ret ?_
          | refine AC.exit ?_
          | refine AC.skip ?_))
  refine AC.loopN (fun i => ⟨[(2, .ptr 2 0 0), (3, .ptr 3 0 0), (5, .a (.lit (.int .i64 (i : Nat))))], [(2, boxR 24 2 [.lit (.int .i64 E), .ref 1000000 0 n]), (3, boxR 24 2 [.lit (.int .i64 E'), .ref 1000001 0 n]), (1000000, ⟨.fro, false, e, 4, n, fun i r => pinC (ps i) r, []⟩), (1000001, ⟨.fro, false, e', 4, n, fun i r => pinC (qs i) r, []⟩)]⟩) (fun i => i ≤ n ∧ ∀ j, j < i → ps j = qs j) (fun i => n - i) 0 ⟨Nat.zero_le _, fun j hj => by omega⟩ (St.le.sub ?_ ?_ (by rfl) (by rfl)) (fun i ⟨hi, heq⟩ => ?_)
  · exact And.intro rfl (And.intro rfl (And.intro rfl trivial))
  · exact (And.intro ⟨_, rfl, ⟨rfl, (fun h => by cases h), rfl, rfl, fun i r hi hr => (by obtain rfl : i = 0 := Nat.lt_one_iff.1 hi; rcases r with _ | _ | r; rfl; rfl; exact absurd hr (by show ¬ r + 1 + 1 < 2; omega))⟩⟩ (And.intro ⟨_, rfl, ⟨rfl, (fun h => by cases h), rfl, rfl, fun i r hi hr => (by obtain rfl : i = 0 := Nat.lt_one_iff.1 hi; rcases r with _ | _ | r; rfl; rfl; exact absurd hr (by show ¬ r + 1 + 1 < 2; omega))⟩⟩ (And.intro ⟨_, rfl, ⟨rfl, (fun h => by cases h), rfl, rfl, fun i r hi hr => congrArg Cl.cl (hrow i r hi hr).symm⟩⟩ (And.intro ⟨_, rfl, ⟨rfl, (fun h => by cases h), rfl, rfl, fun i r hi hr => congrArg Cl.cl (hrow' i r hi hr).symm⟩⟩ trivial))))
  repeat (first | (first
      | refine AL.nil ?_
      | refine AL.move (.inl (by rfl)) (by rfl) (by rfl) ?_
      | refine AL.move (.inr (by rfl)) (by rfl) (by rfl) ?_
      | refine AL.fieldAddr tyOk (by rfl) (by rfl) (by rfl) (by rfl) (by rfl) (by rfl) ?_
      | refine AL.load1 tyOk (by rfl) (by rfl) (by rfl) (by rfl) (by rfl) (by rfl) (by rfl) (by first | exact Nat.le_of_ble_eq_true rfl | (dsimp only; omega) | omega | assumption | (simp only [openR]; omega) | exact Nat.lt_of_lt_of_le (m := 3) (by omega) (Nat.le_of_ble_eq_true rfl)) (by first | exact Nat.le_of_ble_eq_true rfl | (dsimp only; omega) | omega | assumption | (simp only [openR]; omega) | exact Nat.lt_of_lt_of_le (m := 3) (by omega) (Nat.le_of_ble_eq_true rfl)) (by rfl) ?_
      | refine AL.loadAggE tyOk (by rfl) (by rfl) (by rfl) (by rfl) (by rfl) (by rfl) (by rfl) (by first | exact Nat.le_of_ble_eq_true rfl | (dsimp only; omega) | omega | assumption | (simp only [openR]; omega) | exact Nat.lt_of_lt_of_le (m := 3) (by omega) (Nat.le_of_ble_eq_true rfl)) (by first | exact Nat.le_of_ble_eq_true rfl | (dsimp only; omega) | omega | assumption | (simp only [openR]; omega) | exact Nat.lt_of_lt_of_le (m := 3) (by omega) (Nat.le_of_ble_eq_true rfl)) (by rfl) ?_
      | refine AL.stor tyOk (by rfl) (by rfl) (by rfl) (by rfl) (by rfl) (by rfl) (by rfl) (by rfl) (by rfl) (by first | exact Nat.le_of_ble_eq_true rfl | (dsimp only; omega) | omega | assumption | (simp only [openR]; omega) | exact Nat.lt_of_lt_of_le (m := 3) (by omega) (Nat.le_of_ble_eq_true rfl)) (by first | exact Nat.le_of_ble_eq_true rfl | (dsimp only; omega) | omega | assumption | (simp only [openR]; omega) | exact Nat.lt_of_lt_of_le (m := 3) (by omega) (Nat.le_of_ble_eq_true rfl)) ?_
      | refine AL.len (ty := 0) tyOk (by rfl) (by rfl) (by rfl) (by rfl) (by rfl) ?_
      | refine AL.add (by rfl) (by rfl) (by rfl) (by rfl) (by rfl) (by constructor <;> omega) ?_
      | refine AL.sub (by rfl) (by rfl) (by rfl) (by rfl) (by rfl) (by constructor <;> omega) ?_
      | refine AL.mul (by rfl) (by rfl) (by rfl) (by rfl) (by rfl) (by constructor <;> omega) ?_
      | refine AL.int2 (by rfl) (by rfl) (by rfl) (by rfl) (by rfl) (by rfl) (by first | trivial | decide | omega) ?_
      | refine AL.bEq (by rfl) (by rfl) (by rfl) (by rfl) (by rfl) Try.underlying4 ?_
      | refine AL.bNe (by rfl) (by rfl) (by rfl) (by rfl) (by rfl) Try.underlying4 ?_
      | refine AL.not (by rfl) (by rfl) (by rfl) (by rfl) ?_
      | refine AL.gOnE (by rfl) (by rfl) (by rfl) (by rfl) (by decide) (by first | rfl | assumption) ?_
      | refine AL.gOffE (by rfl) (by rfl) (by rfl) (by rfl) (by rfl) (by decide) (by first | rfl | assumption) ?_
      | refine AL.pickE (b' := true) (by rfl) (by rfl) (by rfl) (by rfl) (by first | rfl | assumption) ?_
      | refine AL.pickE (b' := false) (by rfl) (by rfl) (by rfl) (by rfl) (by first | rfl | assumption) ?_
      | refine AL.extract (by rfl) (by rfl) (by rfl) (by rfl) (by rfl) ?_
      | refine AL.boxD tyOk (by rfl) (by rfl) (by rfl) (Nat.le_of_ble_eq_true rfl) (by rfl) (by rfl) (by rfl) (by decide) (by rfl) ?_
      | refine AL.allocD tyOk (by rfl) (by rfl) (by rfl) (Nat.le_of_ble_eq_true rfl) (by rfl) (by rfl) (by decide) (by rfl) ?_
      | refine AL.indexN tyOk (by rfl) (by rfl) (by rfl) (by rfl) (by rfl) (by rfl) (by rfl) (by rfl) (by first | rfl | exact (Int.toNat_of_nonneg (by omega)).symm) (by omega) ?_
      | refine AL.indexSl tyOk (by rfl) (by rfl) (by rfl) (by rfl) (by rfl) (by rfl) (by rfl) (by rfl) (by constructor <;> omega) ?_
      | refine AL.indexArr tyOk (by rfl) (by rfl) (by rfl) (by rfl) (by rfl) (by rfl) (by constructor <;> omega) ?_
      | refine AL.makeD tyOk _ (by rfl) (by rfl) (by rfl) (Nat.le_of_ble_eq_true rfl) (by rfl) (by rfl) (by rfl) (by rfl) (by rfl) (by rfl) (by rfl) (by omega) (by omega) (by decide) (by rfl) ?_
      | refine AL.build (qs := []) tyOk (by rfl) (by rfl) (by rfl) (by rfl) (by rfl) (by exact PartsOk.nil) (by rfl) ?_
      | refine AL.build (qs := [(_, _)]) tyOk (by rfl) (by rfl) (by rfl) (by rfl) (by rfl) (by exact PartsOk.cons (by rfl) (by rfl) PartsOk.nil) (by rfl) ?_
      | refine AL.build (qs := [(_, _), (_, _)]) tyOk (by rfl) (by rfl) (by rfl) (by rfl) (by rfl) (by exact PartsOk.cons (by rfl) (by rfl) (PartsOk.cons (by rfl) (by rfl) PartsOk.nil)) (by rfl) ?_
      | refine AL.nilCheck (by rfl) (by rfl) (by rfl) (by rfl) ?_) | (first
          | refine AC.region ?_
          | refine AC.seq ?_
          | refine AC.block ?_
          | refine AC.ret ?_
          | refine AC.exit ?_
          | refine AC.skip ?_))
  refine AC.cond (by rfl) (fun h => ?_) (fun h => ?_)
  rotate_left
  · have h : ¬ i < n := by simpa using h
    repeat (first | (first
        | refine AL.nil ?_
        | refine AL.move (.inl (by rfl)) (by rfl) (by rfl) ?_
        | refine AL.move (.inr (by rfl)) (by rfl) (by rfl) ?_
        | refine AL.fieldAddr tyOk (by rfl) (by rfl) (by rfl) (by rfl) (by rfl) (by rfl) ?_
        | refine AL.load1 tyOk (by rfl) (by rfl) (by rfl) (by rfl) (by rfl) (by rfl) (by rfl) (by first | exact Nat.le_of_ble_eq_true rfl | (dsimp only; omega) | omega | assumption | (simp only [openR]; omega) | exact Nat.lt_of_lt_of_le (m := 3) (by omega) (Nat.le_of_ble_eq_true rfl)) (by first | exact Nat.le_of_ble_eq_true rfl | (dsimp only; omega) | omega | assumption | (simp only [openR]; omega) | exact Nat.lt_of_lt_of_le (m := 3) (by omega) (Nat.le_of_ble_eq_true rfl)) (by rfl) ?_
        | refine AL.loadAggE tyOk (by rfl) (by rfl) (by rfl) (by rfl) (by rfl) (by rfl) (by rfl) (by first | exact Nat.le_of_ble_eq_true rfl | (dsimp only; omega) | omega | assumption | (simp only [openR]; omega) | exact Nat.lt_of_lt_of_le (m := 3) (by omega) (Nat.le_of_ble_eq_true rfl)) (by first | exact Nat.le_of_ble_eq_true rfl | (dsimp only; omega) | omega | assumption | (simp only [openR]; omega) | exact Nat.lt_of_lt_of_le (m := 3) (by omega) (Nat.le_of_ble_eq_true rfl)) (by rfl) ?_
        | refine AL.stor tyOk (by rfl) (by rfl) (by rfl) (by rfl) (by rfl) (by rfl) (by rfl) (by rfl) (by rfl) (by first | exact Nat.le_of_ble_eq_true rfl | (dsimp only; omega) | omega | assumption | (simp only [openR]; omega) | exact Nat.lt_of_lt_of_le (m := 3) (by omega) (Nat.le_of_ble_eq_true rfl)) (by first | exact Nat.le_of_ble_eq_true rfl | (dsimp only; omega) | omega | assumption | (simp only [openR]; omega) | exact Nat.lt_of_lt_of_le (m := 3) (by omega) (Nat.le_of_ble_eq_true rfl)) ?_
        | refine AL.len (ty := 0) tyOk (by rfl) (by rfl) (by rfl) (by rfl) (by rfl) ?_
        | refine AL.add (by rfl) (by rfl) (by rfl) (by rfl) (by rfl) (by constructor <;> omega) ?_
        | refine AL.sub (by rfl) (by rfl) (by rfl) (by rfl) (by rfl) (by constructor <;> omega) ?_
        | refine AL.mul (by rfl) (by rfl) (by rfl) (by rfl) (by rfl) (by constructor <;> omega) ?_
        | refine AL.int2 (by rfl) (by rfl) (by rfl) (by rfl) (by rfl) (by rfl) (by first | trivial | decide | omega) ?_
        | refine AL.bEq (by rfl) (by rfl) (by rfl) (by rfl) (by rfl) Try.underlying4 ?_
        | refine AL.bNe (by rfl) (by rfl) (by rfl) (by rfl) (by rfl) Try.underlying4 ?_
        | refine AL.not (by rfl) (by rfl) (by rfl) (by rfl) ?_
        | refine AL.gOnE (by rfl) (by rfl) (by rfl) (by rfl) (by decide) (by first | rfl | assumption) ?_
        | refine AL.gOffE (by rfl) (by rfl) (by rfl) (by rfl) (by rfl) (by decide) (by first | rfl | assumption) ?_
        | refine AL.pickE (b' := true) (by rfl) (by rfl) (by rfl) (by rfl) (by first | rfl | assumption) ?_
        | refine AL.pickE (b' := false) (by rfl) (by rfl) (by rfl) (by rfl) (by first | rfl | assumption) ?_
        | refine AL.extract (by rfl) (by rfl) (by rfl) (by rfl) (by rfl) ?_
        | refine AL.boxD tyOk (by rfl) (by rfl) (by rfl) (Nat.le_of_ble_eq_true rfl) (by rfl) (by rfl) (by rfl) (by decide) (by rfl) ?_
        | refine AL.allocD tyOk (by rfl) (by rfl) (by rfl) (Nat.le_of_ble_eq_true rfl) (by rfl) (by rfl) (by decide) (by rfl) ?_
        | refine AL.indexN tyOk (by rfl) (by rfl) (by rfl) (by rfl) (by rfl) (by rfl) (by rfl) (by rfl) (by first | rfl | exact (Int.toNat_of_nonneg (by omega)).symm) (by omega) ?_
        | refine AL.indexSl tyOk (by rfl) (by rfl) (by rfl) (by rfl) (by rfl) (by rfl) (by rfl) (by rfl) (by constructor <;> omega) ?_
        | refine AL.indexArr tyOk (by rfl) (by rfl) (by rfl) (by rfl) (by rfl) (by rfl) (by constructor <;> omega) ?_
        | refine AL.makeD tyOk _ (by rfl) (by rfl) (by rfl) (Nat.le_of_ble_eq_true rfl) (by rfl) (by rfl) (by rfl) (by rfl) (by rfl) (by rfl) (by rfl) (by omega) (by omega) (by decide) (by rfl) ?_
        | refine AL.build (qs := []) tyOk (by rfl) (by rfl) (by rfl) (by rfl) (by rfl) (by exact PartsOk.nil) (by rfl) ?_
        | refine AL.build (qs := [(_, _)]) tyOk (by rfl) (by rfl) (by rfl) (by rfl) (by rfl) (by exact PartsOk.cons (by rfl) (by rfl) PartsOk.nil) (by rfl) ?_
        | refine AL.build (qs := [(_, _), (_, _)]) tyOk (by rfl) (by rfl) (by rfl) (by rfl) (by rfl) (by exact PartsOk.cons (by rfl) (by rfl) (PartsOk.cons (by rfl) (by rfl) PartsOk.nil)) (by rfl) ?_
        | refine AL.nilCheck (by rfl) (by rfl) (by rfl) (by rfl) ?_) | (first
            | refine AC.region ?_
            | refine AC.seq ?_
            | refine AC.block ?_
            | refine AC.ret ?_
            | refine AC.exit ?_
            | refine AC.skip ?_))
    refine And.intro (by first | exact .inr rfl | exact .inl rfl) (And.intro (by repeat (first | exact trivial | exact Nat.le_of_ble_eq_true rfl | rfl | exact ⟨_, rfl, rfl, Nat.le_refl _, rfl⟩ | refine And.intro ?_ ?_)) (And.intro (by rfl) (And.intro (by rfl) (And.intro (by repeat (first | exact trivial | exact Nat.le_of_ble_eq_true rfl | rfl | exact ⟨_, rfl, rfl, Nat.le_refl _, rfl⟩ | refine And.intro ?_ ?_)) (And.intro (by repeat (first | exact trivial | exact Nat.le_of_ble_eq_true rfl | rfl | exact ⟨_, rfl, rfl, Nat.le_refl _, rfl⟩ | refine And.intro ?_ ?_)) ?_)))))
    rw [sameB_iff.2 ⟨h1, rfl, fun j hj => heq j (by omega)⟩]; exact And.intro rfl rfl
  have h : i < n := by simpa using h
  repeat (first | (first
      | refine AL.nil ?_
      | refine AL.move (.inl (by rfl)) (by rfl) (by rfl) ?_
      | refine AL.move (.inr (by rfl)) (by rfl) (by rfl) ?_
      | refine AL.fieldAddr tyOk (by rfl) (by rfl) (by rfl) (by rfl) (by rfl) (by rfl) ?_
      | refine AL.load1 tyOk (by rfl) (by rfl) (by rfl) (by rfl) (by rfl) (by rfl) (by rfl) (by first | exact Nat.le_of_ble_eq_true rfl | (dsimp only; omega) | omega | assumption | (simp only [openR]; omega) | exact Nat.lt_of_lt_of_le (m := 3) (by omega) (Nat.le_of_ble_eq_true rfl)) (by first | exact Nat.le_of_ble_eq_true rfl | (dsimp only; omega) | omega | assumption | (simp only [openR]; omega) | exact Nat.lt_of_lt_of_le (m := 3) (by omega) (Nat.le_of_ble_eq_true rfl)) (by rfl) ?_
      | refine AL.loadAggE tyOk (by rfl) (by rfl) (by rfl) (by rfl) (by rfl) (by rfl) (by rfl) (by first | exact Nat.le_of_ble_eq_true rfl | (dsimp only; omega) | omega | assumption | (simp only [openR]; omega) | exact Nat.lt_of_lt_of_le (m := 3) (by omega) (Nat.le_of_ble_eq_true rfl)) (by first | exact Nat.le_of_ble_eq_true rfl | (dsimp only; omega) | omega | assumption | (simp only [openR]; omega) | exact Nat.lt_of_lt_of_le (m := 3) (by omega) (Nat.le_of_ble_eq_true rfl)) (by rfl) ?_
      | refine AL.stor tyOk (by rfl) (by rfl) (by rfl) (by rfl) (by rfl) (by rfl) (by rfl) (by rfl) (by rfl) (by first | exact Nat.le_of_ble_eq_true rfl | (dsimp only; omega) | omega | assumption | (simp only [openR]; omega) | exact Nat.lt_of_lt_of_le (m := 3) (by omega) (Nat.le_of_ble_eq_true rfl)) (by first | exact Nat.le_of_ble_eq_true rfl | (dsimp only; omega) | omega | assumption | (simp only [openR]; omega) | exact Nat.lt_of_lt_of_le (m := 3) (by omega) (Nat.le_of_ble_eq_true rfl)) ?_
      | refine AL.len (ty := 0) tyOk (by rfl) (by rfl) (by rfl) (by rfl) (by rfl) ?_
      | refine AL.add (by rfl) (by rfl) (by rfl) (by rfl) (by rfl) (by constructor <;> omega) ?_
      | refine AL.sub (by rfl) (by rfl) (by rfl) (by rfl) (by rfl) (by constructor <;> omega) ?_
      | refine AL.mul (by rfl) (by rfl) (by rfl) (by rfl) (by rfl) (by constructor <;> omega) ?_
      | refine AL.int2 (by rfl) (by rfl) (by rfl) (by rfl) (by rfl) (by rfl) (by first | trivial | decide | omega) ?_
      | refine AL.bEq (by rfl) (by rfl) (by rfl) (by rfl) (by rfl) Try.underlying4 ?_
      | refine AL.bNe (by rfl) (by rfl) (by rfl) (by rfl) (by rfl) Try.underlying4 ?_
      | refine AL.not (by rfl) (by rfl) (by rfl) (by rfl) ?_
      | refine AL.gOnE (by rfl) (by rfl) (by rfl) (by rfl) (by decide) (by first | rfl | assumption) ?_
      | refine AL.gOffE (by rfl) (by rfl) (by rfl) (by rfl) (by rfl) (by decide) (by first | rfl | assumption) ?_
      | refine AL.pickE (b' := true) (by rfl) (by rfl) (by rfl) (by rfl) (by first | rfl | assumption) ?_
      | refine AL.pickE (b' := false) (by rfl) (by rfl) (by rfl) (by rfl) (by first | rfl | assumption) ?_
      | refine AL.extract (by rfl) (by rfl) (by rfl) (by rfl) (by rfl) ?_
      | refine AL.boxD tyOk (by rfl) (by rfl) (by rfl) (Nat.le_of_ble_eq_true rfl) (by rfl) (by rfl) (by rfl) (by decide) (by rfl) ?_
      | refine AL.allocD tyOk (by rfl) (by rfl) (by rfl) (Nat.le_of_ble_eq_true rfl) (by rfl) (by rfl) (by decide) (by rfl) ?_
      | refine AL.indexN tyOk (by rfl) (by rfl) (by rfl) (by rfl) (by rfl) (by rfl) (by rfl) (by rfl) (by first | rfl | exact (Int.toNat_of_nonneg (by omega)).symm) (by omega) ?_
      | refine AL.indexSl tyOk (by rfl) (by rfl) (by rfl) (by rfl) (by rfl) (by rfl) (by rfl) (by rfl) (by constructor <;> omega) ?_
      | refine AL.indexArr tyOk (by rfl) (by rfl) (by rfl) (by rfl) (by rfl) (by rfl) (by constructor <;> omega) ?_
      | refine AL.makeD tyOk _ (by rfl) (by rfl) (by rfl) (Nat.le_of_ble_eq_true rfl) (by rfl) (by rfl) (by rfl) (by rfl) (by rfl) (by rfl) (by rfl) (by omega) (by omega) (by decide) (by rfl) ?_
      | refine AL.build (qs := []) tyOk (by rfl) (by rfl) (by rfl) (by rfl) (by rfl) (by exact PartsOk.nil) (by rfl) ?_
      | refine AL.build (qs := [(_, _)]) tyOk (by rfl) (by rfl) (by rfl) (by rfl) (by rfl) (by exact PartsOk.cons (by rfl) (by rfl) PartsOk.nil) (by rfl) ?_
      | refine AL.build (qs := [(_, _), (_, _)]) tyOk (by rfl) (by rfl) (by rfl) (by rfl) (by rfl) (by exact PartsOk.cons (by rfl) (by rfl) (PartsOk.cons (by rfl) (by rfl) PartsOk.nil)) (by rfl) ?_
      | refine AL.nilCheck (by rfl) (by rfl) (by rfl) (by rfl) ?_) | (first
          | refine AC.region ?_
          | refine AC.seq ?_
          | refine AC.block ?_
          | refine AC.ret ?_
          | refine AC.exit ?_
          | refine AC.skip ?_))
  refine AC.join ⟨[(2, .ptr 2 0 0), (3, .ptr 3 0 0), (5, .a (.lit (.int .i64 (i : Nat)))), (37, .a (.lit (.bool (!decide (ps i = qs i)))))], [(2, boxR 24 2 [.lit (.int .i64 E), .ref 1000000 0 n]), (3, boxR 24 2 [.lit (.int .i64 E'), .ref 1000001 0 n]), (1000000, ⟨.fro, false, e, 4, n, fun i r => pinC (ps i) r, []⟩), (1000001, ⟨.fro, false, e', 4, n, fun i r => pinC (qs i) r, []⟩)]⟩ ?_ ?_
  · refine AC.draw (by kernel_rfl) ?_
    refine AY.take 0 (by rfl) (by rfl) (by kernel_rfl) (by kernel_rfl) (by kernel_rfl) (fun c s h => by rcases h.1 with h | h <;> cases h) (by rfl) (by (first
        | exact Pure1.move (.inl (by rfl))
        | exact Pure1.move (.inr (by rfl))
        | exact Pure1.indexN tyOk (by rfl) (by rfl) (by rfl) (by rfl) (by rfl) (by rfl) (by first | rfl | exact (Int.toNat_of_nonneg (by omega)).symm) (by omega)
        | exact Pure1.fieldAddr tyOk (by rfl) (by rfl) (by rfl) (by rfl)
        | exact Pure1.len tyOk (by rfl) (by rfl) (by rfl)
        | exact Pure1.add (by rfl) (by rfl) (by rfl) (by constructor <;> omega)
        | exact Pure1.int2 (by rfl) (by rfl) (by rfl) (by rfl) (by first | trivial | decide | omega)
        | exact Pure1.not (by rfl) (by rfl))) ?_
    refine AY.take 2 (by rfl) (by rfl) (by kernel_rfl) (by kernel_rfl) (by kernel_rfl) (fun c s h => by rcases h.1 with h | h <;> cases h) (by rfl) (by (first
        | exact Pure1.move (.inl (by rfl))
        | exact Pure1.move (.inr (by rfl))
        | exact Pure1.indexN tyOk (by rfl) (by rfl) (by rfl) (by rfl) (by rfl) (by rfl) (by first | rfl | exact (Int.toNat_of_nonneg (by omega)).symm) (by omega)
        | exact Pure1.fieldAddr tyOk (by rfl) (by rfl) (by rfl) (by rfl)
        | exact Pure1.len tyOk (by rfl) (by rfl) (by rfl)
        | exact Pure1.add (by rfl) (by rfl) (by rfl) (by constructor <;> omega)
        | exact Pure1.int2 (by rfl) (by rfl) (by rfl) (by rfl) (by first | trivial | decide | omega)
        | exact Pure1.not (by rfl) (by rfl))) ?_
    refine AY.take 5 (by rfl) (by rfl) (by kernel_rfl) (by kernel_rfl) (by kernel_rfl) (fun c s h => by rcases h.1 with h | h <;> cases h) (by rfl) (by (first
        | exact Pure1.move (.inl (by rfl))
        | exact Pure1.move (.inr (by rfl))
        | exact Pure1.indexN tyOk (by rfl) (by rfl) (by rfl) (by rfl) (by rfl) (by rfl) (by first | rfl | exact (Int.toNat_of_nonneg (by omega)).symm) (by omega)
        | exact Pure1.fieldAddr tyOk (by rfl) (by rfl) (by rfl) (by rfl)
        | exact Pure1.len tyOk (by rfl) (by rfl) (by rfl)
        | exact Pure1.add (by rfl) (by rfl) (by rfl) (by constructor <;> omega)
        | exact Pure1.int2 (by rfl) (by rfl) (by rfl) (by rfl) (by first | trivial | decide | omega)
        | exact Pure1.not (by rfl) (by rfl))) ?_
    refine AY.take 7 (by rfl) (by rfl) (by kernel_rfl) (by kernel_rfl) (by kernel_rfl) (fun c s h => by rcases h.1 with h | h <;> cases h) (by rfl) (by (first
        | exact Pure1.move (.inl (by rfl))
        | exact Pure1.move (.inr (by rfl))
        | exact Pure1.indexN tyOk (by rfl) (by rfl) (by rfl) (by rfl) (by rfl) (by rfl) (by first | rfl | exact (Int.toNat_of_nonneg (by omega)).symm) (by omega)
        | exact Pure1.fieldAddr tyOk (by rfl) (by rfl) (by rfl) (by rfl)
        | exact Pure1.len tyOk (by rfl) (by rfl) (by rfl)
        | exact Pure1.add (by rfl) (by rfl) (by rfl) (by constructor <;> omega)
        | exact Pure1.int2 (by rfl) (by rfl) (by rfl) (by rfl) (by first | trivial | decide | omega)
        | exact Pure1.not (by rfl) (by rfl))) ?_
    repeat' (first
          | exact AYq.nil
          | refine AYq.skip (by decide +kernel) ?_
          | refine AYq.cons (by rfl) ?_ ?_
          | refine AY.take 3 (by rfl) (by rfl) (by kernel_rfl) (by decide +kernel) (by decide +kernel) (fun c s h => by rcases h.1 with h | h <;> cases h) (by rfl) (by (first
              | exact Pure1.move (.inl (by rfl))
              | exact Pure1.move (.inr (by rfl))
              | exact Pure1.indexN tyOk (by rfl) (by rfl) (by rfl) (by rfl) (by rfl) (by rfl) (by first | rfl | exact (Int.toNat_of_nonneg (by omega)).symm) (by omega)
              | exact Pure1.fieldAddr tyOk (by rfl) (by rfl) (by rfl) (by rfl)
              | exact Pure1.len tyOk (by rfl) (by rfl) (by rfl)
              | exact Pure1.add (by rfl) (by rfl) (by rfl) (by constructor <;> omega)
              | exact Pure1.int2 (by rfl) (by rfl) (by rfl) (by rfl) (by first | trivial | decide | omega)
              | exact Pure1.not (by rfl) (by rfl))) ?_
          | refine AY.take 8 (by rfl) (by rfl) (by kernel_rfl) (by decide +kernel) (by decide +kernel) (fun c s h => by rcases h.1 with h | h <;> cases h) (by rfl) (by (first
              | exact Pure1.move (.inl (by rfl))
              | exact Pure1.move (.inr (by rfl))
              | exact Pure1.indexN tyOk (by rfl) (by rfl) (by rfl) (by rfl) (by rfl) (by rfl) (by first | rfl | exact (Int.toNat_of_nonneg (by omega)).symm) (by omega)
              | exact Pure1.fieldAddr tyOk (by rfl) (by rfl) (by rfl) (by rfl)
              | exact Pure1.len tyOk (by rfl) (by rfl) (by rfl)
              | exact Pure1.add (by rfl) (by rfl) (by rfl) (by constructor <;> omega)
              | exact Pure1.int2 (by rfl) (by rfl) (by rfl) (by rfl) (by first | trivial | decide | omega)
              | exact Pure1.not (by rfl) (by rfl))) ?_
          | refine AL.neA [Value.bool (ps i).1, .int .i64 (ps i).2.1, .bool (ps i).2.2.1, .int .i64 (ps i).2.2.2] [Value.bool (qs i).1, .int .i64 (qs i).2.1, .bool (qs i).2.2.1, .int .i64 (qs i).2.2.2] (by rfl) (by rfl) (by rfl) (by rfl) (by rfl) (by rfl) (by rfl) (by kernel_rfl) (pin_eq (ps i) (qs i)) ?_
          | refine AY.stepA [0, 1, 2, 3, 4, 5, 6, 7, 8, 9, 10] (by kernel_rfl) (by decide +kernel) ?_
          | refine AY.done (by kernel_rfl) ?_
          | (first
              | (first
                  | refine AL.nil ?_
                  | refine AL.move (.inl (by rfl)) (by rfl) (by rfl) ?_
                  | refine AL.move (.inr (by rfl)) (by rfl) (by rfl) ?_
                  | refine AL.fieldAddr tyOk (by rfl) (by rfl) (by rfl) (by rfl) (by rfl) (by rfl) ?_
                  | refine AL.load1 tyOk (by rfl) (by rfl) (by rfl) (by rfl) (by rfl) (by rfl) (by rfl) (by first | exact Nat.le_of_ble_eq_true rfl | (dsimp only; omega) | omega | assumption | (simp only [openR]; omega) | exact Nat.lt_of_lt_of_le (m := 3) (by omega) (Nat.le_of_ble_eq_true rfl)) (by first | exact Nat.le_of_ble_eq_true rfl | (dsimp only; omega) | omega | assumption | (simp only [openR]; omega) | exact Nat.lt_of_lt_of_le (m := 3) (by omega) (Nat.le_of_ble_eq_true rfl)) (by rfl) ?_
                  | refine AL.loadAggE tyOk (by rfl) (by rfl) (by rfl) (by rfl) (by rfl) (by rfl) (by rfl) (by first | exact Nat.le_of_ble_eq_true rfl | (dsimp only; omega) | omega | assumption | (simp only [openR]; omega) | exact Nat.lt_of_lt_of_le (m := 3) (by omega) (Nat.le_of_ble_eq_true rfl)) (by first | exact Nat.le_of_ble_eq_true rfl | (dsimp only; omega) | omega | assumption | (simp only [openR]; omega) | exact Nat.lt_of_lt_of_le (m := 3) (by omega) (Nat.le_of_ble_eq_true rfl)) (by rfl) ?_
                  | refine AL.stor tyOk (by rfl) (by rfl) (by rfl) (by rfl) (by rfl) (by rfl) (by rfl) (by rfl) (by rfl) (by first | exact Nat.le_of_ble_eq_true rfl | (dsimp only; omega) | omega | assumption | (simp only [openR]; omega) | exact Nat.lt_of_lt_of_le (m := 3) (by omega) (Nat.le_of_ble_eq_true rfl)) (by first | exact Nat.le_of_ble_eq_true rfl | (dsimp only; omega) | omega | assumption | (simp only [openR]; omega) | exact Nat.lt_of_lt_of_le (m := 3) (by omega) (Nat.le_of_ble_eq_true rfl)) ?_
                  | refine AL.len (ty := 0) tyOk (by rfl) (by rfl) (by rfl) (by rfl) (by rfl) ?_
                  | refine AL.add (by rfl) (by rfl) (by rfl) (by rfl) (by rfl) (by constructor <;> omega) ?_
                  | refine AL.sub (by rfl) (by rfl) (by rfl) (by rfl) (by rfl) (by constructor <;> omega) ?_
                  | refine AL.mul (by rfl) (by rfl) (by rfl) (by rfl) (by rfl) (by constructor <;> omega) ?_
                  | refine AL.int2 (by rfl) (by rfl) (by rfl) (by rfl) (by rfl) (by rfl) (by first | trivial | decide | omega) ?_
                  | refine AL.bEq (by rfl) (by rfl) (by rfl) (by rfl) (by rfl) Try.underlying4 ?_
                  | refine AL.bNe (by rfl) (by rfl) (by rfl) (by rfl) (by rfl) Try.underlying4 ?_
                  | refine AL.not (by rfl) (by rfl) (by rfl) (by rfl) ?_
                  | refine AL.gOnE (by rfl) (by rfl) (by rfl) (by rfl) (by decide) (by first | rfl | assumption) ?_
                  | refine AL.gOffE (by rfl) (by rfl) (by rfl) (by rfl) (by rfl) (by decide) (by first | rfl | assumption) ?_
                  | refine AL.pickE (b' := true) (by rfl) (by rfl) (by rfl) (by rfl) (by first | rfl | assumption) ?_
                  | refine AL.pickE (b' := false) (by rfl) (by rfl) (by rfl) (by rfl) (by first | rfl | assumption) ?_
                  | refine AL.extract (by rfl) (by rfl) (by rfl) (by rfl) (by rfl) ?_
                  | refine AL.boxD tyOk (by rfl) (by rfl) (by rfl) (Nat.le_of_ble_eq_true rfl) (by rfl) (by rfl) (by rfl) (by decide) (by rfl) ?_
                  | refine AL.allocD tyOk (by rfl) (by rfl) (by rfl) (Nat.le_of_ble_eq_true rfl) (by rfl) (by rfl) (by decide) (by rfl) ?_
                  | refine AL.indexN tyOk (by rfl) (by rfl) (by rfl) (by rfl) (by rfl) (by rfl) (by rfl) (by rfl) (by first | rfl | exact (Int.toNat_of_nonneg (by omega)).symm) (by omega) ?_
                  | refine AL.indexSl tyOk (by rfl) (by rfl) (by rfl) (by rfl) (by rfl) (by rfl) (by rfl) (by rfl) (by constructor <;> omega) ?_
                  | refine AL.indexArr tyOk (by rfl) (by rfl) (by rfl) (by rfl) (by rfl) (by rfl) (by constructor <;> omega) ?_
                  | refine AL.makeD tyOk _ (by rfl) (by rfl) (by rfl) (Nat.le_of_ble_eq_true rfl) (by rfl) (by rfl) (by rfl) (by rfl) (by rfl) (by rfl) (by rfl) (by omega) (by omega) (by decide) (by rfl) ?_
                  | refine AL.build (qs := []) tyOk (by rfl) (by rfl) (by rfl) (by rfl) (by rfl) (by exact PartsOk.nil) (by rfl) ?_
                  | refine AL.build (qs := [(_, _)]) tyOk (by rfl) (by rfl) (by rfl) (by rfl) (by rfl) (by exact PartsOk.cons (by rfl) (by rfl) PartsOk.nil) (by rfl) ?_
                  | refine AL.build (qs := [(_, _), (_, _)]) tyOk (by rfl) (by rfl) (by rfl) (by rfl) (by rfl) (by exact PartsOk.cons (by rfl) (by rfl) (PartsOk.cons (by rfl) (by rfl) PartsOk.nil)) (by rfl) ?_
                  | refine AL.nilCheck (by rfl) (by rfl) (by rfl) (by rfl) ?_)
              | refine AL.buildSl0D tyOk (by rfl) (by rfl) (by rfl) (by rfl) (Nat.le_of_ble_eq_true rfl) (by rfl) (by decide) (by rfl) ?_
              | refine AL.copyN tyOk (by rfl) (by rfl) (by rfl) (by rfl) (by rfl) (by rfl) (by rfl) (by rfl) (by rfl) (by rfl) (by rfl) (by rfl) (by rfl) ?_
              | refine AL.append0 tyOk (by rfl) (by rfl) (by rfl) (by rfl) (by rfl) (by rfl) (by rfl) (by rfl) (by rfl) (by rfl) (by rfl) (by rfl) (by rfl) (by rfl) (by rfl) (okK_lt (by decide)) (by first | omega | (dsimp only; omega) | (unfold maxLen; dsimp only; omega)) (by first | omega | (dsimp only; omega) | (unfold maxLen; dsimp only; omega)) ?_
              | refine AL.appendL tyOk (by rfl) (by rfl) (by rfl) (by rfl) (by rfl) (by rfl) (by rfl) (by rfl) (by rfl) (by rfl) (by rfl) (by rfl) (by rfl) (by rfl) (by rfl) (fun _ _ _ _ => rfl) (okK_lt (by decide)) (by first | omega | (dsimp only; omega) | (unfold maxLen; dsimp only; omega)) (by first | omega | (dsimp only; omega) | (unfold maxLen; dsimp only; omega)) ?_))
    all_goals refine St.le.sub ?_ ?_ (by rfl) (by rfl)
    all_goals first | exact And.intro rfl (And.intro rfl (And.intro rfl (And.intro rfl trivial))) | exact (And.intro ⟨_, rfl, ⟨rfl, (fun h => by cases h), rfl, rfl, fun i r hi hr => (by obtain rfl : i = 0 := Nat.lt_one_iff.1 hi; rcases r with _ | _ | r; rfl; rfl; exact absurd hr (by show ¬ r + 1 + 1 < 2; omega))⟩⟩ (And.intro ⟨_, rfl, ⟨rfl, (fun h => by cases h), rfl, rfl, fun i r hi hr => (by obtain rfl : i = 0 := Nat.lt_one_iff.1 hi; rcases r with _ | _ | r; rfl; rfl; exact absurd hr (by show ¬ r + 1 + 1 < 2; omega))⟩⟩ (And.intro ⟨_, rfl, RSame.rfl _⟩ (And.intro ⟨_, rfl, RSame.rfl _⟩ trivial))))
  refine AC.cond (by rfl) (fun h3 => ?_) (fun h3 => ?_)
  · have h3 : ps i ≠ qs i := by simpa using h3
    repeat (first | (first
        | refine AL.nil ?_
        | refine AL.move (.inl (by rfl)) (by rfl) (by rfl) ?_
        | refine AL.move (.inr (by rfl)) (by rfl) (by rfl) ?_
        | refine AL.fieldAddr tyOk (by rfl) (by rfl) (by rfl) (by rfl) (by rfl) (by rfl) ?_
        | refine AL.load1 tyOk (by rfl) (by rfl) (by rfl) (by rfl) (by rfl) (by rfl) (by rfl) (by first | exact Nat.le_of_ble_eq_true rfl | (dsimp only; omega) | omega | assumption | (simp only [openR]; omega) | exact Nat.lt_of_lt_of_le (m := 3) (by omega) (Nat.le_of_ble_eq_true rfl)) (by first | exact Nat.le_of_ble_eq_true rfl | (dsimp only; omega) | omega | assumption | (simp only [openR]; omega) | exact Nat.lt_of_lt_of_le (m := 3) (by omega) (Nat.le_of_ble_eq_true rfl)) (by rfl) ?_
        | refine AL.loadAggE tyOk (by rfl) (by rfl) (by rfl) (by rfl) (by rfl) (by rfl) (by rfl) (by first | exact Nat.le_of_ble_eq_true rfl | (dsimp only; omega) | omega | assumption | (simp only [openR]; omega) | exact Nat.lt_of_lt_of_le (m := 3) (by omega) (Nat.le_of_ble_eq_true rfl)) (by first | exact Nat.le_of_ble_eq_true rfl | (dsimp only; omega) | omega | assumption | (simp only [openR]; omega) | exact Nat.lt_of_lt_of_le (m := 3) (by omega) (Nat.le_of_ble_eq_true rfl)) (by rfl) ?_
        | refine AL.stor tyOk (by rfl) (by rfl) (by rfl) (by rfl) (by rfl) (by rfl) (by rfl) (by rfl) (by rfl) (by first | exact Nat.le_of_ble_eq_true rfl | (dsimp only; omega) | omega | assumption | (simp only [openR]; omega) | exact Nat.lt_of_lt_of_le (m := 3) (by omega) (Nat.le_of_ble_eq_true rfl)) (by first | exact Nat.le_of_ble_eq_true rfl | (dsimp only; omega) | omega | assumption | (simp only [openR]; omega) | exact Nat.lt_of_lt_of_le (m := 3) (by omega) (Nat.le_of_ble_eq_true rfl)) ?_
        | refine AL.len (ty := 0) tyOk (by rfl) (by rfl) (by rfl) (by rfl) (by rfl) ?_
        | refine AL.add (by rfl) (by rfl) (by rfl) (by rfl) (by rfl) (by constructor <;> omega) ?_
        | refine AL.sub (by rfl) (by rfl) (by rfl) (by rfl) (by rfl) (by constructor <;> omega) ?_
        | refine AL.mul (by rfl) (by rfl) (by rfl) (by rfl) (by rfl) (by constructor <;> omega) ?_
        | refine AL.int2 (by rfl) (by rfl) (by rfl) (by rfl) (by rfl) (by rfl) (by first | trivial | decide | omega) ?_
        | refine AL.bEq (by rfl) (by rfl) (by rfl) (by rfl) (by rfl) Try.underlying4 ?_
        | refine AL.bNe (by rfl) (by rfl) (by rfl) (by rfl) (by rfl) Try.underlying4 ?_
        | refine AL.not (by rfl) (by rfl) (by rfl) (by rfl) ?_
        | refine AL.gOnE (by rfl) (by rfl) (by rfl) (by rfl) (by decide) (by first | rfl | assumption) ?_
        | refine AL.gOffE (by rfl) (by rfl) (by rfl) (by rfl) (by rfl) (by decide) (by first | rfl | assumption) ?_
        | refine AL.pickE (b' := true) (by rfl) (by rfl) (by rfl) (by rfl) (by first | rfl | assumption) ?_
        | refine AL.pickE (b' := false) (by rfl) (by rfl) (by rfl) (by rfl) (by first | rfl | assumption) ?_
        | refine AL.extract (by rfl) (by rfl) (by rfl) (by rfl) (by rfl) ?_
        | refine AL.boxD tyOk (by rfl) (by rfl) (by rfl) (Nat.le_of_ble_eq_true rfl) (by rfl) (by rfl) (by rfl) (by decide) (by rfl) ?_
        | refine AL.allocD tyOk (by rfl) (by rfl) (by rfl) (Nat.le_of_ble_eq_true rfl) (by rfl) (by rfl) (by decide) (by rfl) ?_
        | refine AL.indexN tyOk (by rfl) (by rfl) (by rfl) (by rfl) (by rfl) (by rfl) (by rfl) (by rfl) (by first | rfl | exact (Int.toNat_of_nonneg (by omega)).symm) (by omega) ?_
        | refine AL.indexSl tyOk (by rfl) (by rfl) (by rfl) (by rfl) (by rfl) (by rfl) (by rfl) (by rfl) (by constructor <;> omega) ?_
        | refine AL.indexArr tyOk (by rfl) (by rfl) (by rfl) (by rfl) (by rfl) (by rfl) (by constructor <;> omega) ?_
        | refine AL.makeD tyOk _ (by rfl) (by rfl) (by rfl) (Nat.le_of_ble_eq_true rfl) (by rfl) (by rfl) (by rfl) (by rfl) (by rfl) (by rfl) (by rfl) (by omega) (by omega) (by decide) (by rfl) ?_
        | refine AL.build (qs := []) tyOk (by rfl) (by rfl) (by rfl) (by rfl) (by rfl) (by exact PartsOk.nil) (by rfl) ?_
        | refine AL.build (qs := [(_, _)]) tyOk (by rfl) (by rfl) (by rfl) (by rfl) (by rfl) (by exact PartsOk.cons (by rfl) (by rfl) PartsOk.nil) (by rfl) ?_
        | refine AL.build (qs := [(_, _), (_, _)]) tyOk (by rfl) (by rfl) (by rfl) (by rfl) (by rfl) (by exact PartsOk.cons (by rfl) (by rfl) (PartsOk.cons (by rfl) (by rfl) PartsOk.nil)) (by rfl) ?_
        | refine AL.nilCheck (by rfl) (by rfl) (by rfl) (by rfl) ?_) | (first
            | refine AC.region ?_
            | refine AC.seq ?_
            | refine AC.block ?_
            | refine AC.ret ?_
            | refine AC.exit ?_
            | refine AC.skip ?_))
    refine And.intro (by first | exact .inr rfl | exact .inl rfl) (And.intro (by repeat (first | exact trivial | exact Nat.le_of_ble_eq_true rfl | rfl | exact ⟨_, rfl, rfl, Nat.le_refl _, rfl⟩ | refine And.intro ?_ ?_)) (And.intro (by rfl) (And.intro (by rfl) (And.intro (by repeat (first | exact trivial | exact Nat.le_of_ble_eq_true rfl | rfl | exact ⟨_, rfl, rfl, Nat.le_refl _, rfl⟩ | refine And.intro ?_ ?_)) (And.intro (by repeat (first | exact trivial | exact Nat.le_of_ble_eq_true rfl | rfl | exact ⟨_, rfl, rfl, Nat.le_refl _, rfl⟩ | refine And.intro ?_ ?_)) ?_)))))
    rw [sameB_no (fun hh => h3 (hh.2.2 i h))]; exact And.intro rfl rfl
  have h3 : ps i = qs i := by simpa using h3
  repeat (first | (first
      | refine AL.nil ?_
      | refine AL.move (.inl (by rfl)) (by rfl) (by rfl) ?_
      | refine AL.move (.inr (by rfl)) (by rfl) (by rfl) ?_
      | refine AL.fieldAddr tyOk (by rfl) (by rfl) (by rfl) (by rfl) (by rfl) (by rfl) ?_
      | refine AL.load1 tyOk (by rfl) (by rfl) (by rfl) (by rfl) (by rfl) (by rfl) (by rfl) (by first | exact Nat.le_of_ble_eq_true rfl | (dsimp only; omega) | omega | assumption | (simp only [openR]; omega) | exact Nat.lt_of_lt_of_le (m := 3) (by omega) (Nat.le_of_ble_eq_true rfl)) (by first | exact Nat.le_of_ble_eq_true rfl | (dsimp only; omega) | omega | assumption | (simp only [openR]; omega) | exact Nat.lt_of_lt_of_le (m := 3) (by omega) (Nat.le_of_ble_eq_true rfl)) (by rfl) ?_
      | refine AL.loadAggE tyOk (by rfl) (by rfl) (by rfl) (by rfl) (by rfl) (by rfl) (by rfl) (by first | exact Nat.le_of_ble_eq_true rfl | (dsimp only; omega) | omega | assumption | (simp only [openR]; omega) | exact Nat.lt_of_lt_of_le (m := 3) (by omega) (Nat.le_of_ble_eq_true rfl)) (by first | exact Nat.le_of_ble_eq_true rfl | (dsimp only; omega) | omega | assumption | (simp only [openR]; omega) | exact Nat.lt_of_lt_of_le (m := 3) (by omega) (Nat.le_of_ble_eq_true rfl)) (by rfl) ?_
      | refine AL.stor tyOk (by rfl) (by rfl) (by rfl) (by rfl) (by rfl) (by rfl) (by rfl) (by rfl) (by rfl) (by first | exact Nat.le_of_ble_eq_true rfl | (dsimp only; omega) | omega | assumption | (simp only [openR]; omega) | exact Nat.lt_of_lt_of_le (m := 3) (by omega) (Nat.le_of_ble_eq_true rfl)) (by first | exact Nat.le_of_ble_eq_true rfl | (dsimp only; omega) | omega | assumption | (simp only [openR]; omega) | exact Nat.lt_of_lt_of_le (m := 3) (by omega) (Nat.le_of_ble_eq_true rfl)) ?_
      | refine AL.len (ty := 0) tyOk (by rfl) (by rfl) (by rfl) (by rfl) (by rfl) ?_
      | refine AL.add (by rfl) (by rfl) (by rfl) (by rfl) (by rfl) (by constructor <;> omega) ?_
      | refine AL.sub (by rfl) (by rfl) (by rfl) (by rfl) (by rfl) (by constructor <;> omega) ?_
      | refine AL.mul (by rfl) (by rfl) (by rfl) (by rfl) (by rfl) (by constructor <;> omega) ?_
      | refine AL.int2 (by rfl) (by rfl) (by rfl) (by rfl) (by rfl) (by rfl) (by first | trivial | decide | omega) ?_
      | refine AL.bEq (by rfl) (by rfl) (by rfl) (by rfl) (by rfl) Try.underlying4 ?_
      | refine AL.bNe (by rfl) (by rfl) (by rfl) (by rfl) (by rfl) Try.underlying4 ?_
      | refine AL.not (by rfl) (by rfl) (by rfl) (by rfl) ?_
      | refine AL.gOnE (by rfl) (by rfl) (by rfl) (by rfl) (by decide) (by first | rfl | assumption) ?_
      | refine AL.gOffE (by rfl) (by rfl) (by rfl) (by rfl) (by rfl) (by decide) (by first | rfl | assumption) ?_
      | refine AL.pickE (b' := true) (by rfl) (by rfl) (by rfl) (by rfl) (by first | rfl | assumption) ?_
      | refine AL.pickE (b' := false) (by rfl) (by rfl) (by rfl) (by rfl) (by first | rfl | assumption) ?_
      | refine AL.extract (by rfl) (by rfl) (by rfl) (by rfl) (by rfl) ?_
      | refine AL.boxD tyOk (by rfl) (by rfl) (by rfl) (Nat.le_of_ble_eq_true rfl) (by rfl) (by rfl) (by rfl) (by decide) (by rfl) ?_
      | refine AL.allocD tyOk (by rfl) (by rfl) (by rfl) (Nat.le_of_ble_eq_true rfl) (by rfl) (by rfl) (by decide) (by rfl) ?_
      | refine AL.indexN tyOk (by rfl) (by rfl) (by rfl) (by rfl) (by rfl) (by rfl) (by rfl) (by rfl) (by first | rfl | exact (Int.toNat_of_nonneg (by omega)).symm) (by omega) ?_
      | refine AL.indexSl tyOk (by rfl) (by rfl) (by rfl) (by rfl) (by rfl) (by rfl) (by rfl) (by rfl) (by constructor <;> omega) ?_
      | refine AL.indexArr tyOk (by rfl) (by rfl) (by rfl) (by rfl) (by rfl) (by rfl) (by constructor <;> omega) ?_
      | refine AL.makeD tyOk _ (by rfl) (by rfl) (by rfl) (Nat.le_of_ble_eq_true rfl) (by rfl) (by rfl) (by rfl) (by rfl) (by rfl) (by rfl) (by rfl) (by omega) (by omega) (by decide) (by rfl) ?_
      | refine AL.build (qs := []) tyOk (by rfl) (by rfl) (by rfl) (by rfl) (by rfl) (by exact PartsOk.nil) (by rfl) ?_
      | refine AL.build (qs := [(_, _)]) tyOk (by rfl) (by rfl) (by rfl) (by rfl) (by rfl) (by exact PartsOk.cons (by rfl) (by rfl) PartsOk.nil) (by rfl) ?_
      | refine AL.build (qs := [(_, _), (_, _)]) tyOk (by rfl) (by rfl) (by rfl) (by rfl) (by rfl) (by exact PartsOk.cons (by rfl) (by rfl) (PartsOk.cons (by rfl) (by rfl) PartsOk.nil)) (by rfl) ?_
      | refine AL.nilCheck (by rfl) (by rfl) (by rfl) (by rfl) ?_) | (first
          | refine AC.region ?_
          | refine AC.seq ?_
          | refine AC.block ?_
          | refine AC.ret ?_
          | refine AC.exit ?_
          | refine AC.skip ?_))
  refine ⟨i + 1, ⟨h, fun j hj => ?_⟩, by omega, St.le.sub ?_ ?_ (by rfl) (by rfl)⟩
  · by_cases hji : j = i
    · rw [hji]; exact h3
    · exact heq j (by omega)
  · exact And.intro rfl (And.intro rfl (And.intro rfl trivial))
  · exact (And.intro ⟨_, rfl, ⟨rfl, (fun h => by cases h), rfl, rfl, fun i r hi hr => (by obtain rfl : i = 0 := Nat.lt_one_iff.1 hi; rcases r with _ | _ | r; rfl; rfl; exact absurd hr (by show ¬ r + 1 + 1 < 2; omega))⟩⟩ (And.intro ⟨_, rfl, ⟨rfl, (fun h => by cases h), rfl, rfl, fun i r hi hr => (by obtain rfl : i = 0 := Nat.lt_one_iff.1 hi; rcases r with _ | _ | r; rfl; rfl; exact absurd hr (by show ¬ r + 1 + 1 < 2; omega))⟩⟩ (And.intro ⟨_, rfl, RSame.rfl _⟩ (And.intro ⟨_, rfl, RSame.rfl _⟩ trivial))))
end Go.Proofs.Ytbdegnamlmabbab
