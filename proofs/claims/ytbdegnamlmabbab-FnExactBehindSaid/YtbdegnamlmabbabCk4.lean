/- Contracts over clocks: rows of pins alike. -/
import Derived.Test.YtbdegnamlmabbabCk3
namespace Go.Proofs.Ytbdegnamlmabbab
open Go Go.Tr
set_option linter.unusedVariables false
set_option linter.unusedSimpArgs false
set_option maxRecDepth 100000

theorem eqPinS_run (n m e e' : Nat) (ps qs : Nat → Pn) (row row' : Nat → Nat → C) (hrow : ∀ i r, i < n → r < 4 → row i r = pinC (ps i) r) (hrow' : ∀ i r, i < m → r < 4 → row' i r = pinC (qs i) r) (hn : n ≤ 1048576) (hm : m ≤ 1048576) :
    Run Try.prog 52 [.one (.c (.sl .fro e 4 n row)), .one (.c (.sl .fro e' 4 m row'))] [] fun outs ext => ∃ b : Bool, outs = [.one (.lit (.bool b))] ∧ (b = true ↔ n = m ∧ ∀ i, i < n → ps i = qs i) ∧ ext = [] := by
  refine Run.of_body tyOk Try.func52 (by rfl) (Nat.le_of_ble_eq_true rfl) (by simp [argsOk, aasOk, aaOk]) [] rfl (fun F hF => ?_)
  refine AC.le (St.le.sub (σ' := ⟨[(0, .a (.ref 1000000 0 n)), (1, .a (.ref 1000001 0 m))], [(1000000, ⟨.fro, false, e, 4, n, fun i r => pinC (ps i) r, []⟩), (1000001, ⟨.fro, false, e', 4, m, fun i r => pinC (qs i) r, []⟩)]⟩) ?_ ?_ (by rfl) (by rfl)) ?_
  · exact And.intro rfl (And.intro rfl trivial)
  · exact And.intro ⟨_, rfl, ⟨rfl, (fun h => by cases h), rfl, rfl, fun i r hi hr => congrArg Cl.cl (hrow i r hi hr).symm⟩⟩ (And.intro ⟨_, rfl, ⟨rfl, (fun h => by cases h), rfl, rfl, fun i r hi hr => congrArg Cl.cl (hrow' i r hi hr).symm⟩⟩ trivial)
  repeat (first | (first
      | refine AL.nil ?_
      | refine AL.move (.inl (by rfl)) (by rfl) (by rfl) ?_
      | refine AL.move (.inr (by rfl)) (by rfl) (by rfl) ?_
      | refine AL.fieldAddr tyOk (by rfl) (by rfl) (by rfl) (by rfl) (by rfl) (by rfl) ?_
      | refine AL.load1 tyOk (by rfl) (by rfl) (by rfl) (by rfl) (by rfl) (by rfl) (by rfl) (by first | exact Nat.le_of_ble_eq_true rfl | (dsimp only; omega) | omega | assumption) (by first | exact Nat.le_of_ble_eq_true rfl | (dsimp only; omega) | omega | assumption) (by rfl) ?_
      | refine AL.loadAggE tyOk (by rfl) (by rfl) (by rfl) (by rfl) (by rfl) (by rfl) (by rfl) (by first | exact Nat.le_of_ble_eq_true rfl | (dsimp only; omega) | omega | assumption) (by first | exact Nat.le_of_ble_eq_true rfl | (dsimp only; omega) | omega | assumption) (by rfl) ?_
      | refine AL.stor tyOk (by rfl) (by rfl) (by rfl) (by rfl) (by rfl) (by rfl) (by rfl) (by rfl) (by rfl) (by first | exact Nat.le_of_ble_eq_true rfl | (dsimp only; omega) | omega | assumption) (by first | exact Nat.le_of_ble_eq_true rfl | (dsimp only; omega) | omega | assumption) ?_
      | refine AL.len (ty := 0) tyOk (by rfl) (by rfl) (by rfl) (by rfl) (by rfl) ?_
      | refine AL.add (by rfl) (by rfl) (by rfl) (by rfl) (by rfl) (by constructor <;> omega) ?_
      | refine AL.sub (by rfl) (by rfl) (by rfl) (by rfl) (by rfl) (by constructor <;> omega) ?_
      | refine AL.mul (by rfl) (by rfl) (by rfl) (by rfl) (by rfl) (by constructor <;> omega) ?_
      | refine AL.int2 (by rfl) (by rfl) (by rfl) (by rfl) (by rfl) (by rfl) (by first | trivial | decide | omega) ?_
      | refine AL.bEq (by rfl) (by rfl) (by rfl) (by rfl) (by rfl) Try.underlying4 ?_
      | refine AL.bNe (by rfl) (by rfl) (by rfl) (by rfl) (by rfl) Try.underlying4 ?_
      | refine AL.not (by rfl) (by rfl) (by rfl) (by rfl) ?_
      | refine AL.gOnE (by rfl) (by rfl) (by rfl) (by rfl) (by decide) (by first | rfl | assumption) ?_
      | refine AL.gOffE (by rfl) (by rfl) (by rfl) (by rfl) (by rfl) (by decide) (by first | rfl | assumption) ?_
      | refine AL.pickE (b' := true) (by rfl) (by rfl) (by rfl) (by rfl) (by first | rfl | assumption) ?_
      | refine AL.pickE (b' := false) (by rfl) (by rfl) (by rfl) (by rfl) (by first | rfl | assumption) ?_
      | refine AL.extract (by rfl) (by rfl) (by rfl) (by rfl) (by rfl) ?_
      | refine AL.boxD tyOk (by rfl) (by rfl) (by rfl) (Nat.le_of_ble_eq_true rfl) (by rfl) (by rfl) (by rfl) (by decide) (by rfl) ?_
      | refine AL.allocD tyOk (by rfl) (by rfl) (by rfl) (Nat.le_of_ble_eq_true rfl) (by rfl) (by rfl) (by decide) (by rfl) ?_
      | refine AL.indexN tyOk (by rfl) (by rfl) (by rfl) (by rfl) (by rfl) (by rfl) (by rfl) (by rfl) (by first | rfl | exact (Int.toNat_of_nonneg (by omega)).symm) (by omega) ?_
      | refine AL.indexSl tyOk (by rfl) (by rfl) (by rfl) (by rfl) (by rfl) (by rfl) (by rfl) (by rfl) (by constructor <;> omega) ?_
      | refine AL.indexArr tyOk (by rfl) (by rfl) (by rfl) (by rfl) (by rfl) (by rfl) (by constructor <;> omega) ?_
      | refine AL.makeD tyOk _ (by rfl) (by rfl) (by rfl) (Nat.le_of_ble_eq_true rfl) (by rfl) (by rfl) (by rfl) (by rfl) (by rfl) (by rfl) (by rfl) (by omega) (by omega) (by decide) (by rfl) ?_
      | refine AL.build (qs := []) tyOk (by rfl) (by rfl) (by rfl) (by rfl) (by rfl) (by exact PartsOk.nil) (by rfl) ?_
      | refine AL.build (qs := [(_, _)]) tyOk (by rfl) (by rfl) (by rfl) (by rfl) (by rfl) (by exact PartsOk.cons (by rfl) (by rfl) PartsOk.nil) (by rfl) ?_
      | refine AL.build (qs := [(_, _), (_, _)]) tyOk (by rfl) (by rfl) (by rfl) (by rfl) (by rfl) (by exact PartsOk.cons (by rfl) (by rfl) (PartsOk.cons (by rfl) (by rfl) PartsOk.nil)) (by rfl) ?_
      | refine AL.nilCheck (by rfl) (by rfl) (by rfl) (by rfl) ?_) | (first
          | refine AC.region ?_
          | refine AC.seq ?_
          | refine AC.block ?_
          | refine AC.ret ?_
          | refine AC.exit ?_
          | refine AC.skip ?_))
  refine AC.cond (by rfl) (fun h => ?_) (fun h => ?_)
  · have h : n ≠ m := by simp at h; omega
    repeat (first | (first
        | refine AL.nil ?_
        | refine AL.move (.inl (by rfl)) (by rfl) (by rfl) ?_
        | refine AL.move (.inr (by rfl)) (by rfl) (by rfl) ?_
        | refine AL.fieldAddr tyOk (by rfl) (by rfl) (by rfl) (by rfl) (by rfl) (by rfl) ?_
        | refine AL.load1 tyOk (by rfl) (by rfl) (by rfl) (by rfl) (by rfl) (by rfl) (by rfl) (by first | exact Nat.le_of_ble_eq_true rfl | (dsimp only; omega) | omega | assumption) (by first | exact Nat.le_of_ble_eq_true rfl | (dsimp only; omega) | omega | assumption) (by rfl) ?_
        | refine AL.loadAggE tyOk (by rfl) (by rfl) (by rfl) (by rfl) (by rfl) (by rfl) (by rfl) (by first | exact Nat.le_of_ble_eq_true rfl | (dsimp only; omega) | omega | assumption) (by first | exact Nat.le_of_ble_eq_true rfl | (dsimp only; omega) | omega | assumption) (by rfl) ?_
        | refine AL.stor tyOk (by rfl) (by rfl) (by rfl) (by rfl) (by rfl) (by rfl) (by rfl) (by rfl) (by rfl) (by first | exact Nat.le_of_ble_eq_true rfl | (dsimp only; omega) | omega | assumption) (by first | exact Nat.le_of_ble_eq_true rfl | (dsimp only; omega) | omega | assumption) ?_
        | refine AL.len (ty := 0) tyOk (by rfl) (by rfl) (by rfl) (by rfl) (by rfl) ?_
        | refine AL.add (by rfl) (by rfl) (by rfl) (by rfl) (by rfl) (by constructor <;> omega) ?_
        | refine AL.sub (by rfl) (by rfl) (by rfl) (by rfl) (by rfl) (by constructor <;> omega) ?_
        | refine AL.mul (by rfl) (by rfl) (by rfl) (by rfl) (by rfl) (by constructor <;> omega) ?_
        | refine AL.int2 (by rfl) (by rfl) (by rfl) (by rfl) (by rfl) (by rfl) (by first | trivial | decide | omega) ?_
        | refine AL.bEq (by rfl) (by rfl) (by rfl) (by rfl) (by rfl) Try.underlying4 ?_
        | refine AL.bNe (by rfl) (by rfl) (by rfl) (by rfl) (by rfl) Try.underlying4 ?_
        | refine AL.not (by rfl) (by rfl) (by rfl) (by rfl) ?_
        | refine AL.gOnE (by rfl) (by rfl) (by rfl) (by rfl) (by decide) (by first | rfl | assumption) ?_
        | refine AL.gOffE (by rfl) (by rfl) (by rfl) (by rfl) (by rfl) (by decide) (by first | rfl | assumption) ?_
        | refine AL.pickE (b' := true) (by rfl) (by rfl) (by rfl) (by rfl) (by first | rfl | assumption) ?_
        | refine AL.pickE (b' := false) (by rfl) (by rfl) (by rfl) (by rfl) (by first | rfl | assumption) ?_
        | refine AL.extract (by rfl) (by rfl) (by rfl) (by rfl) (by rfl) ?_
        | refine AL.boxD tyOk (by rfl) (by rfl) (by rfl) (Nat.le_of_ble_eq_true rfl) (by rfl) (by rfl) (by rfl) (by decide) (by rfl) ?_
        | refine AL.allocD tyOk (by rfl) (by rfl) (by rfl) (Nat.le_of_ble_eq_true rfl) (by rfl) (by rfl) (by decide) (by rfl) ?_
        | refine AL.indexN tyOk (by rfl) (by rfl) (by rfl) (by rfl) (by rfl) (by rfl) (by rfl) (by rfl) (by first | rfl | exact (Int.toNat_of_nonneg (by omega)).symm) (by omega) ?_
        | refine AL.indexSl tyOk (by rfl) (by rfl) (by rfl) (by rfl) (by rfl) (by rfl) (by rfl) (by rfl) (by constructor <;> omega) ?_
        | refine AL.indexArr tyOk (by rfl) (by rfl) (by rfl) (by rfl) (by rfl) (by rfl) (by constructor <;> omega) ?_
        | refine AL.makeD tyOk _ (by rfl) (by rfl) (by rfl) (Nat.le_of_ble_eq_true rfl) (by rfl) (by rfl) (by rfl) (by rfl) (by rfl) (by rfl) (by rfl) (by omega) (by omega) (by decide) (by rfl) ?_
        | refine AL.build (qs := []) tyOk (by rfl) (by rfl) (by rfl) (by rfl) (by rfl) (by exact PartsOk.nil) (by rfl) ?_
        | refine AL.build (qs := [(_, _)]) tyOk (by rfl) (by rfl) (by rfl) (by rfl) (by rfl) (by exact PartsOk.cons (by rfl) (by rfl) PartsOk.nil) (by rfl) ?_
        | refine AL.build (qs := [(_, _), (_, _)]) tyOk (by rfl) (by rfl) (by rfl) (by rfl) (by rfl) (by exact PartsOk.cons (by rfl) (by rfl) (PartsOk.cons (by rfl) (by rfl) PartsOk.nil)) (by rfl) ?_
        | refine AL.nilCheck (by rfl) (by rfl) (by rfl) (by rfl) ?_) | (first
            | refine AC.region ?_
            | refine AC.seq ?_
            | refine AC.block ?_
            | refine AC.ret ?_
            | refine AC.exit ?_
            | refine AC.skip ?_))
    refine And.intro (by first | exact .inr rfl | exact .inl rfl) (And.intro (by repeat (first | exact trivial | exact Nat.le_of_ble_eq_true rfl | rfl | exact ⟨_, rfl, rfl, Nat.le_refl _, rfl⟩ | refine And.intro ?_ ?_)) (And.intro (by rfl) (And.intro (by rfl) (And.intro (by repeat (first | exact trivial | exact Nat.le_of_ble_eq_true rfl | rfl | exact ⟨_, rfl, rfl, Nat.le_refl _, rfl⟩ | refine And.intro ?_ ?_)) (And.intro (by repeat (first | exact trivial | exact Nat.le_of_ble_eq_true rfl | rfl | exact ⟨_, rfl, rfl, Nat.le_refl _, rfl⟩ | refine And.intro ?_ ?_)) ?_)))))
    exact ⟨false, rfl, ⟨(fun e => by cases e), (fun e => absurd e.1 h)⟩, rfl⟩
  have h : n = m := by simp at h; omega
  subst h
  repeat (first | (first
      | refine AL.nil ?_
      | refine AL.move (.inl (by rfl)) (by rfl) (by rfl) ?_
      | refine AL.move (.inr (by rfl)) (by rfl) (by rfl) ?_
      | refine AL.fieldAddr tyOk (by rfl) (by rfl) (by rfl) (by rfl) (by rfl) (by rfl) ?_
      | refine AL.load1 tyOk (by rfl) (by rfl) (by rfl) (by rfl) (by rfl) (by rfl) (by rfl) (by first | exact Nat.le_of_ble_eq_true rfl | (dsimp only; omega) | omega | assumption) (by first | exact Nat.le_of_ble_eq_true rfl | (dsimp only; omega) | omega | assumption) (by rfl) ?_
      | refine AL.loadAggE tyOk (by rfl) (by rfl) (by rfl) (by rfl) (by rfl) (by rfl) (by rfl) (by first | exact Nat.le_of_ble_eq_true rfl | (dsimp only; omega) | omega | assumption) (by first | exact Nat.le_of_ble_eq_true rfl | (dsimp only; omega) | omega | assumption) (by rfl) ?_
      | refine AL.stor tyOk (by rfl) (by rfl) (by rfl) (by rfl) (by rfl) (by rfl) (by rfl) (by rfl) (by rfl) (by first | exact Nat.le_of_ble_eq_true rfl | (dsimp only; omega) | omega | assumption) (by first | exact Nat.le_of_ble_eq_true rfl | (dsimp only; omega) | omega | assumption) ?_
      | refine AL.len (ty := 0) tyOk (by rfl) (by rfl) (by rfl) (by rfl) (by rfl) ?_
      | refine AL.add (by rfl) (by rfl) (by rfl) (by rfl) (by rfl) (by constructor <;> omega) ?_
      | refine AL.sub (by rfl) (by rfl) (by rfl) (by rfl) (by rfl) (by constructor <;> omega) ?_
      | refine AL.mul (by rfl) (by rfl) (by rfl) (by rfl) (by rfl) (by constructor <;> omega) ?_
      | refine AL.int2 (by rfl) (by rfl) (by rfl) (by rfl) (by rfl) (by rfl) (by first | trivial | decide | omega) ?_
      | refine AL.bEq (by rfl) (by rfl) (by rfl) (by rfl) (by rfl) Try.underlying4 ?_
      | refine AL.bNe (by rfl) (by rfl) (by rfl) (by rfl) (by rfl) Try.underlying4 ?_
      | refine AL.not (by rfl) (by rfl) (by rfl) (by rfl) ?_
      | refine AL.gOnE (by rfl) (by rfl) (by rfl) (by rfl) (by decide) (by first | rfl | assumption) ?_
      | refine AL.gOffE (by rfl) (by rfl) (by rfl) (by rfl) (by rfl) (by decide) (by first | rfl | assumption) ?_
      | refine AL.pickE (b' := true) (by rfl) (by rfl) (by rfl) (by rfl) (by first | rfl | assumption) ?_
      | refine AL.pickE (b' := false) (by rfl) (by rfl) (by rfl) (by rfl) (by first | rfl | assumption) ?_
      | refine AL.extract (by rfl) (by rfl) (by rfl) (by rfl) (by rfl) ?_
      | refine AL.boxD tyOk (by rfl) (by rfl) (by rfl) (Nat.le_of_ble_eq_true rfl) (by rfl) (by rfl) (by rfl) (by decide) (by rfl) ?_
      | refine AL.allocD tyOk (by rfl) (by rfl) (by rfl) (Nat.le_of_ble_eq_true rfl) (by rfl) (by rfl) (by decide) (by rfl) ?_
      | refine AL.indexN tyOk (by rfl) (by rfl) (by rfl) (by rfl) (by rfl) (by rfl) (by rfl) (by rfl) (by first | rfl | exact (Int.toNat_of_nonneg (by omega)).symm) (by omega) ?_
      | refine AL.indexSl tyOk (by rfl) (by rfl) (by rfl) (by rfl) (by rfl) (by rfl) (by rfl) (by rfl) (by constructor <;> omega) ?_
      | refine AL.indexArr tyOk (by rfl) (by rfl) (by rfl) (by rfl) (by rfl) (by rfl) (by constructor <;> omega) ?_
      | refine AL.makeD tyOk _ (by rfl) (by rfl) (by rfl) (Nat.le_of_ble_eq_true rfl) (by rfl) (by rfl) (by rfl) (by rfl) (by rfl) (by rfl) (by rfl) (by omega) (by omega) (by decide) (by rfl) ?_
      | refine AL.build (qs := []) tyOk (by rfl) (by rfl) (by rfl) (by rfl) (by rfl) (by exact PartsOk.nil) (by rfl) ?_
      | refine AL.build (qs := [(_, _)]) tyOk (by rfl) (by rfl) (by rfl) (by rfl) (by rfl) (by exact PartsOk.cons (by rfl) (by rfl) PartsOk.nil) (by rfl) ?_
      | refine AL.build (qs := [(_, _), (_, _)]) tyOk (by rfl) (by rfl) (by rfl) (by rfl) (by rfl) (by exact PartsOk.cons (by rfl) (by rfl) (PartsOk.cons (by rfl) (by rfl) PartsOk.nil)) (by rfl) ?_
      | refine AL.nilCheck (by rfl) (by rfl) (by rfl) (by rfl) ?_) | (first
          | refine AC.region ?_
          | refine AC.seq ?_
          | refine AC.block ?_
          | refine AC.ret ?_
          | refine AC.exit ?_
          | refine AC.skip ?_))
  refine AC.loopN (fun i => ⟨[(0, .a (.ref 1000000 0 n)), (1, .a (.ref 1000001 0 n)), (5, .a (.lit (.int .i64 (i : Nat))))], [(1000000, ⟨.fro, false, e, 4, n, fun i r => pinC (ps i) r, []⟩), (1000001, ⟨.fro, false, e', 4, n, fun i r => pinC (qs i) r, []⟩)]⟩) (fun i => i ≤ n ∧ ∀ j, j < i → ps j = qs j) (fun i => n - i) 0 ⟨Nat.zero_le _, fun j hj => by omega⟩ (St.le.sub ?_ ?_ (by rfl) (by rfl)) (fun i ⟨hi, heq⟩ => ?_)
  · exact And.intro rfl (And.intro rfl (And.intro rfl trivial))
  · exact And.intro ⟨_, rfl, RSame.rfl _⟩ (And.intro ⟨_, rfl, RSame.rfl _⟩ trivial)
  repeat (first | (first
      | refine AL.nil ?_
      | refine AL.move (.inl (by rfl)) (by rfl) (by rfl) ?_
      | refine AL.move (.inr (by rfl)) (by rfl) (by rfl) ?_
      | refine AL.fieldAddr tyOk (by rfl) (by rfl) (by rfl) (by rfl) (by rfl) (by rfl) ?_
      | refine AL.load1 tyOk (by rfl) (by rfl) (by rfl) (by rfl) (by rfl) (by rfl) (by rfl) (by first | exact Nat.le_of_ble_eq_true rfl | (dsimp only; omega) | omega | assumption) (by first | exact Nat.le_of_ble_eq_true rfl | (dsimp only; omega) | omega | assumption) (by rfl) ?_
      | refine AL.loadAggE tyOk (by rfl) (by rfl) (by rfl) (by rfl) (by rfl) (by rfl) (by rfl) (by first | exact Nat.le_of_ble_eq_true rfl | (dsimp only; omega) | omega | assumption) (by first | exact Nat.le_of_ble_eq_true rfl | (dsimp only; omega) | omega | assumption) (by rfl) ?_
      | refine AL.stor tyOk (by rfl) (by rfl) (by rfl) (by rfl) (by rfl) (by rfl) (by rfl) (by rfl) (by rfl) (by first | exact Nat.le_of_ble_eq_true rfl | (dsimp only; omega) | omega | assumption) (by first | exact Nat.le_of_ble_eq_true rfl | (dsimp only; omega) | omega | assumption) ?_
      | refine AL.len (ty := 0) tyOk (by rfl) (by rfl) (by rfl) (by rfl) (by rfl) ?_
      | refine AL.add (by rfl) (by rfl) (by rfl) (by rfl) (by rfl) (by constructor <;> omega) ?_
      | refine AL.sub (by rfl) (by rfl) (by rfl) (by rfl) (by rfl) (by constructor <;> omega) ?_
      | refine AL.mul (by rfl) (by rfl) (by rfl) (by rfl) (by rfl) (by constructor <;> omega) ?_
      | refine AL.int2 (by rfl) (by rfl) (by rfl) (by rfl) (by rfl) (by rfl) (by first | trivial | decide | omega) ?_
      | refine AL.bEq (by rfl) (by rfl) (by rfl) (by rfl) (by rfl) Try.underlying4 ?_
      | refine AL.bNe (by rfl) (by rfl) (by rfl) (by rfl) (by rfl) Try.underlying4 ?_
      | refine AL.not (by rfl) (by rfl) (by rfl) (by rfl) ?_
      | refine AL.gOnE (by rfl) (by rfl) (by rfl) (by rfl) (by decide) (by first | rfl | assumption) ?_
      | refine AL.gOffE (by rfl) (by rfl) (by rfl) (by rfl) (by rfl) (by decide) (by first | rfl | assumption) ?_
      | refine AL.pickE (b' := true) (by rfl) (by rfl) (by rfl) (by rfl) (by first | rfl | assumption) ?_
      | refine AL.pickE (b' := false) (by rfl) (by rfl) (by rfl) (by rfl) (by first | rfl | assumption) ?_
      | refine AL.extract (by rfl) (by rfl) (by rfl) (by rfl) (by rfl) ?_
      | refine AL.boxD tyOk (by rfl) (by rfl) (by rfl) (Nat.le_of_ble_eq_true rfl) (by rfl) (by rfl) (by rfl) (by decide) (by rfl) ?_
      | refine AL.allocD tyOk (by rfl) (by rfl) (by rfl) (Nat.le_of_ble_eq_true rfl) (by rfl) (by rfl) (by decide) (by rfl) ?_
      | refine AL.indexN tyOk (by rfl) (by rfl) (by rfl) (by rfl) (by rfl) (by rfl) (by rfl) (by rfl) (by first | rfl | exact (Int.toNat_of_nonneg (by omega)).symm) (by omega) ?_
      | refine AL.indexSl tyOk (by rfl) (by rfl) (by rfl) (by rfl) (by rfl) (by rfl) (by rfl) (by rfl) (by constructor <;> omega) ?_
      | refine AL.indexArr tyOk (by rfl) (by rfl) (by rfl) (by rfl) (by rfl) (by rfl) (by constructor <;> omega) ?_
      | refine AL.makeD tyOk _ (by rfl) (by rfl) (by rfl) (Nat.le_of_ble_eq_true rfl) (by rfl) (by rfl) (by rfl) (by rfl) (by rfl) (by rfl) (by rfl) (by omega) (by omega) (by decide) (by rfl) ?_
      | refine AL.build (qs := []) tyOk (by rfl) (by rfl) (by rfl) (by rfl) (by rfl) (by exact PartsOk.nil) (by rfl) ?_
      | refine AL.build (qs := [(_, _)]) tyOk (by rfl) (by rfl) (by rfl) (by rfl) (by rfl) (by exact PartsOk.cons (by rfl) (by rfl) PartsOk.nil) (by rfl) ?_
      | refine AL.build (qs := [(_, _), (_, _)]) tyOk (by rfl) (by rfl) (by rfl) (by rfl) (by rfl) (by exact PartsOk.cons (by rfl) (by rfl) (PartsOk.cons (by rfl) (by rfl) PartsOk.nil)) (by rfl) ?_
      | refine AL.nilCheck (by rfl) (by rfl) (by rfl) (by rfl) ?_) | (first
          | refine AC.region ?_
          | refine AC.seq ?_
          | refine AC.block ?_
          | refine AC.ret ?_
          | refine AC.exit ?_
          | refine AC.skip ?_))
  refine AC.cond (by rfl) (fun h => ?_) (fun h => ?_)
  · have h : i < n := by simpa using h
    repeat (first | (first
        | refine AL.nil ?_
        | refine AL.move (.inl (by rfl)) (by rfl) (by rfl) ?_
        | refine AL.move (.inr (by rfl)) (by rfl) (by rfl) ?_
        | refine AL.fieldAddr tyOk (by rfl) (by rfl) (by rfl) (by rfl) (by rfl) (by rfl) ?_
        | refine AL.load1 tyOk (by rfl) (by rfl) (by rfl) (by rfl) (by rfl) (by rfl) (by rfl) (by first | exact Nat.le_of_ble_eq_true rfl | (dsimp only; omega) | omega | assumption) (by first | exact Nat.le_of_ble_eq_true rfl | (dsimp only; omega) | omega | assumption) (by rfl) ?_
        | refine AL.loadAggE tyOk (by rfl) (by rfl) (by rfl) (by rfl) (by rfl) (by rfl) (by rfl) (by first | exact Nat.le_of_ble_eq_true rfl | (dsimp only; omega) | omega | assumption) (by first | exact Nat.le_of_ble_eq_true rfl | (dsimp only; omega) | omega | assumption) (by rfl) ?_
        | refine AL.stor tyOk (by rfl) (by rfl) (by rfl) (by rfl) (by rfl) (by rfl) (by rfl) (by rfl) (by rfl) (by first | exact Nat.le_of_ble_eq_true rfl | (dsimp only; omega) | omega | assumption) (by first | exact Nat.le_of_ble_eq_true rfl | (dsimp only; omega) | omega | assumption) ?_
        | refine AL.len (ty := 0) tyOk (by rfl) (by rfl) (by rfl) (by rfl) (by rfl) ?_
        | refine AL.add (by rfl) (by rfl) (by rfl) (by rfl) (by rfl) (by constructor <;> omega) ?_
        | refine AL.sub (by rfl) (by rfl) (by rfl) (by rfl) (by rfl) (by constructor <;> omega) ?_
        | refine AL.mul (by rfl) (by rfl) (by rfl) (by rfl) (by rfl) (by constructor <;> omega) ?_
        | refine AL.int2 (by rfl) (by rfl) (by rfl) (by rfl) (by rfl) (by rfl) (by first | trivial | decide | omega) ?_
        | refine AL.bEq (by rfl) (by rfl) (by rfl) (by rfl) (by rfl) Try.underlying4 ?_
        | refine AL.bNe (by rfl) (by rfl) (by rfl) (by rfl) (by rfl) Try.underlying4 ?_
        | refine AL.not (by rfl) (by rfl) (by rfl) (by rfl) ?_
        | refine AL.gOnE (by rfl) (by rfl) (by rfl) (by rfl) (by decide) (by first | rfl | assumption) ?_
        | refine AL.gOffE (by rfl) (by rfl) (by rfl) (by rfl) (by rfl) (by decide) (by first | rfl | assumption) ?_
        | refine AL.pickE (b' := true) (by rfl) (by rfl) (by rfl) (by rfl) (by first | rfl | assumption) ?_
        | refine AL.pickE (b' := false) (by rfl) (by rfl) (by rfl) (by rfl) (by first | rfl | assumption) ?_
        | refine AL.extract (by rfl) (by rfl) (by rfl) (by rfl) (by rfl) ?_
        | refine AL.boxD tyOk (by rfl) (by rfl) (by rfl) (Nat.le_of_ble_eq_true rfl) (by rfl) (by rfl) (by rfl) (by decide) (by rfl) ?_
        | refine AL.allocD tyOk (by rfl) (by rfl) (by rfl) (Nat.le_of_ble_eq_true rfl) (by rfl) (by rfl) (by decide) (by rfl) ?_
        | refine AL.indexN tyOk (by rfl) (by rfl) (by rfl) (by rfl) (by rfl) (by rfl) (by rfl) (by rfl) (by first | rfl | exact (Int.toNat_of_nonneg (by omega)).symm) (by omega) ?_
        | refine AL.indexSl tyOk (by rfl) (by rfl) (by rfl) (by rfl) (by rfl) (by rfl) (by rfl) (by rfl) (by constructor <;> omega) ?_
        | refine AL.indexArr tyOk (by rfl) (by rfl) (by rfl) (by rfl) (by rfl) (by rfl) (by constructor <;> omega) ?_
        | refine AL.makeD tyOk _ (by rfl) (by rfl) (by rfl) (Nat.le_of_ble_eq_true rfl) (by rfl) (by rfl) (by rfl) (by rfl) (by rfl) (by rfl) (by rfl) (by omega) (by omega) (by decide) (by rfl) ?_
        | refine AL.build (qs := []) tyOk (by rfl) (by rfl) (by rfl) (by rfl) (by rfl) (by exact PartsOk.nil) (by rfl) ?_
        | refine AL.build (qs := [(_, _)]) tyOk (by rfl) (by rfl) (by rfl) (by rfl) (by rfl) (by exact PartsOk.cons (by rfl) (by rfl) PartsOk.nil) (by rfl) ?_
        | refine AL.build (qs := [(_, _), (_, _)]) tyOk (by rfl) (by rfl) (by rfl) (by rfl) (by rfl) (by exact PartsOk.cons (by rfl) (by rfl) (PartsOk.cons (by rfl) (by rfl) PartsOk.nil)) (by rfl) ?_
        | refine AL.nilCheck (by rfl) (by rfl) (by rfl) (by rfl) ?_) | (first
            | refine AC.region ?_
            | refine AC.seq ?_
            | refine AC.block ?_
            | refine AC.ret ?_
            | refine AC.exit ?_
            | refine AC.skip ?_))
    refine AC.join ⟨[(0, .a (.ref 1000000 0 n)), (1, .a (.ref 1000001 0 n)), (5, .a (.lit (.int .i64 (i : Nat)))), (26, .a (.lit (.bool (!decide (ps i = qs i)))))], [(1000000, ⟨.fro, false, e, 4, n, fun i r => pinC (ps i) r, []⟩), (1000001, ⟨.fro, false, e', 4, n, fun i r => pinC (qs i) r, []⟩)]⟩ ?_ ?_
    · refine AC.draw (by kernel_rfl) ?_
      refine AY.take 0 (by rfl) (by rfl) (by kernel_rfl) (by kernel_rfl) (by kernel_rfl) (fun c s h => by rcases h.1 with h | h <;> cases h) (by rfl) (by (first
          | exact Pure1.move (.inl (by rfl))
          | exact Pure1.move (.inr (by rfl))
          | exact Pure1.indexN tyOk (by rfl) (by rfl) (by rfl) (by rfl) (by rfl) (by rfl) (by first | rfl | exact (Int.toNat_of_nonneg (by omega)).symm) (by omega)
          | exact Pure1.fieldAddr tyOk (by rfl) (by rfl) (by rfl) (by rfl)
          | exact Pure1.len tyOk (by rfl) (by rfl) (by rfl)
          | exact Pure1.add (by rfl) (by rfl) (by rfl) (by constructor <;> omega)
          | exact Pure1.int2 (by rfl) (by rfl) (by rfl) (by rfl) (by first | trivial | decide | omega)
          | exact Pure1.not (by rfl) (by rfl))) ?_
      refine AY.take 1 (by rfl) (by rfl) (by kernel_rfl) (by kernel_rfl) (by kernel_rfl) (fun c s h => by rcases h.1 with h | h <;> cases h) (by rfl) (by (first
          | exact Pure1.move (.inl (by rfl))
          | exact Pure1.move (.inr (by rfl))
          | exact Pure1.indexN tyOk (by rfl) (by rfl) (by rfl) (by rfl) (by rfl) (by rfl) (by first | rfl | exact (Int.toNat_of_nonneg (by omega)).symm) (by omega)
          | exact Pure1.fieldAddr tyOk (by rfl) (by rfl) (by rfl) (by rfl)
          | exact Pure1.len tyOk (by rfl) (by rfl) (by rfl)
          | exact Pure1.add (by rfl) (by rfl) (by rfl) (by constructor <;> omega)
          | exact Pure1.int2 (by rfl) (by rfl) (by rfl) (by rfl) (by first | trivial | decide | omega)
          | exact Pure1.not (by rfl) (by rfl))) ?_
      refine AY.take 2 (by rfl) (by rfl) (by kernel_rfl) (by kernel_rfl) (by kernel_rfl) (fun c s h => by rcases h.1 with h | h <;> cases h) (by rfl) (by (first
          | exact Pure1.move (.inl (by rfl))
          | exact Pure1.move (.inr (by rfl))
          | exact Pure1.indexN tyOk (by rfl) (by rfl) (by rfl) (by rfl) (by rfl) (by rfl) (by first | rfl | exact (Int.toNat_of_nonneg (by omega)).symm) (by omega)
          | exact Pure1.fieldAddr tyOk (by rfl) (by rfl) (by rfl) (by rfl)
          | exact Pure1.len tyOk (by rfl) (by rfl) (by rfl)
          | exact Pure1.add (by rfl) (by rfl) (by rfl) (by constructor <;> omega)
          | exact Pure1.int2 (by rfl) (by rfl) (by rfl) (by rfl) (by first | trivial | decide | omega)
          | exact Pure1.not (by rfl) (by rfl))) ?_
      refine AY.take 4 (by rfl) (by rfl) (by kernel_rfl) (by kernel_rfl) (by kernel_rfl) (fun c s h => by rcases h.1 with h | h <;> cases h) (by rfl) (by (first
          | exact Pure1.move (.inl (by rfl))
          | exact Pure1.move (.inr (by rfl))
          | exact Pure1.indexN tyOk (by rfl) (by rfl) (by rfl) (by rfl) (by rfl) (by rfl) (by first | rfl | exact (Int.toNat_of_nonneg (by omega)).symm) (by omega)
          | exact Pure1.fieldAddr tyOk (by rfl) (by rfl) (by rfl) (by rfl)
          | exact Pure1.len tyOk (by rfl) (by rfl) (by rfl)
          | exact Pure1.add (by rfl) (by rfl) (by rfl) (by constructor <;> omega)
          | exact Pure1.int2 (by rfl) (by rfl) (by rfl) (by rfl) (by first | trivial | decide | omega)
          | exact Pure1.not (by rfl) (by rfl))) ?_
      refine AY.take 5 (by rfl) (by rfl) (by kernel_rfl) (by kernel_rfl) (by kernel_rfl) (fun c s h => by rcases h.1 with h | h <;> cases h) (by rfl) (by (first
          | exact Pure1.move (.inl (by rfl))
          | exact Pure1.move (.inr (by rfl))
          | exact Pure1.indexN tyOk (by rfl) (by rfl) (by rfl) (by rfl) (by rfl) (by rfl) (by first | rfl | exact (Int.toNat_of_nonneg (by omega)).symm) (by omega)
          | exact Pure1.fieldAddr tyOk (by rfl) (by rfl) (by rfl) (by rfl)
          | exact Pure1.len tyOk (by rfl) (by rfl) (by rfl)
          | exact Pure1.add (by rfl) (by rfl) (by rfl) (by constructor <;> omega)
          | exact Pure1.int2 (by rfl) (by rfl) (by rfl) (by rfl) (by first | trivial | decide | omega)
          | exact Pure1.not (by rfl) (by rfl))) ?_
      refine AY.take 6 (by rfl) (by rfl) (by kernel_rfl) (by kernel_rfl) (by kernel_rfl) (fun c s h => by rcases h.1 with h | h <;> cases h) (by rfl) (by (first
          | exact Pure1.move (.inl (by rfl))
          | exact Pure1.move (.inr (by rfl))
          | exact Pure1.indexN tyOk (by rfl) (by rfl) (by rfl) (by rfl) (by rfl) (by rfl) (by first | rfl | exact (Int.toNat_of_nonneg (by omega)).symm) (by omega)
          | exact Pure1.fieldAddr tyOk (by rfl) (by rfl) (by rfl) (by rfl)
          | exact Pure1.len tyOk (by rfl) (by rfl) (by rfl)
          | exact Pure1.add (by rfl) (by rfl) (by rfl) (by constructor <;> omega)
          | exact Pure1.int2 (by rfl) (by rfl) (by rfl) (by rfl) (by first | trivial | decide | omega)
          | exact Pure1.not (by rfl) (by rfl))) ?_
      refine AY.step [3, 7] (by kernel_rfl) (by simp) (AYs.cons (by rfl) ?_ (AYs.cons (by rfl) ?_ AYs.nil))
      · (first
          | refine AL.nil ?_
          | refine AL.move (.inl (by rfl)) (by rfl) (by rfl) ?_
          | refine AL.move (.inr (by rfl)) (by rfl) (by rfl) ?_
          | refine AL.fieldAddr tyOk (by rfl) (by rfl) (by rfl) (by rfl) (by rfl) (by rfl) ?_
          | refine AL.load1 tyOk (by rfl) (by rfl) (by rfl) (by rfl) (by rfl) (by rfl) (by rfl) (by first | exact Nat.le_of_ble_eq_true rfl | (dsimp only; omega) | omega | assumption) (by first | exact Nat.le_of_ble_eq_true rfl | (dsimp only; omega) | omega | assumption) (by rfl) ?_
          | refine AL.loadAggE tyOk (by rfl) (by rfl) (by rfl) (by rfl) (by rfl) (by rfl) (by rfl) (by first | exact Nat.le_of_ble_eq_true rfl | (dsimp only; omega) | omega | assumption) (by first | exact Nat.le_of_ble_eq_true rfl | (dsimp only; omega) | omega | assumption) (by rfl) ?_
          | refine AL.stor tyOk (by rfl) (by rfl) (by rfl) (by rfl) (by rfl) (by rfl) (by rfl) (by rfl) (by rfl) (by first | exact Nat.le_of_ble_eq_true rfl | (dsimp only; omega) | omega | assumption) (by first | exact Nat.le_of_ble_eq_true rfl | (dsimp only; omega) | omega | assumption) ?_
          | refine AL.len (ty := 0) tyOk (by rfl) (by rfl) (by rfl) (by rfl) (by rfl) ?_
          | refine AL.add (by rfl) (by rfl) (by rfl) (by rfl) (by rfl) (by constructor <;> omega) ?_
          | refine AL.sub (by rfl) (by rfl) (by rfl) (by rfl) (by rfl) (by constructor <;> omega) ?_
          | refine AL.mul (by rfl) (by rfl) (by rfl) (by rfl) (by rfl) (by constructor <;> omega) ?_
          | refine AL.int2 (by rfl) (by rfl) (by rfl) (by rfl) (by rfl) (by rfl) (by first | trivial | decide | omega) ?_
          | refine AL.bEq (by rfl) (by rfl) (by rfl) (by rfl) (by rfl) Try.underlying4 ?_
          | refine AL.bNe (by rfl) (by rfl) (by rfl) (by rfl) (by rfl) Try.underlying4 ?_
          | refine AL.not (by rfl) (by rfl) (by rfl) (by rfl) ?_
          | refine AL.gOnE (by rfl) (by rfl) (by rfl) (by rfl) (by decide) (by first | rfl | assumption) ?_
          | refine AL.gOffE (by rfl) (by rfl) (by rfl) (by rfl) (by rfl) (by decide) (by first | rfl | assumption) ?_
          | refine AL.pickE (b' := true) (by rfl) (by rfl) (by rfl) (by rfl) (by first | rfl | assumption) ?_
          | refine AL.pickE (b' := false) (by rfl) (by rfl) (by rfl) (by rfl) (by first | rfl | assumption) ?_
          | refine AL.extract (by rfl) (by rfl) (by rfl) (by rfl) (by rfl) ?_
          | refine AL.boxD tyOk (by rfl) (by rfl) (by rfl) (Nat.le_of_ble_eq_true rfl) (by rfl) (by rfl) (by rfl) (by decide) (by rfl) ?_
          | refine AL.allocD tyOk (by rfl) (by rfl) (by rfl) (Nat.le_of_ble_eq_true rfl) (by rfl) (by rfl) (by decide) (by rfl) ?_
          | refine AL.indexN tyOk (by rfl) (by rfl) (by rfl) (by rfl) (by rfl) (by rfl) (by rfl) (by rfl) (by first | rfl | exact (Int.toNat_of_nonneg (by omega)).symm) (by omega) ?_
          | refine AL.indexSl tyOk (by rfl) (by rfl) (by rfl) (by rfl) (by rfl) (by rfl) (by rfl) (by rfl) (by constructor <;> omega) ?_
          | refine AL.indexArr tyOk (by rfl) (by rfl) (by rfl) (by rfl) (by rfl) (by rfl) (by constructor <;> omega) ?_
          | refine AL.makeD tyOk _ (by rfl) (by rfl) (by rfl) (Nat.le_of_ble_eq_true rfl) (by rfl) (by rfl) (by rfl) (by rfl) (by rfl) (by rfl) (by rfl) (by omega) (by omega) (by decide) (by rfl) ?_
          | refine AL.build (qs := []) tyOk (by rfl) (by rfl) (by rfl) (by rfl) (by rfl) (by exact PartsOk.nil) (by rfl) ?_
          | refine AL.build (qs := [(_, _)]) tyOk (by rfl) (by rfl) (by rfl) (by rfl) (by rfl) (by exact PartsOk.cons (by rfl) (by rfl) PartsOk.nil) (by rfl) ?_
          | refine AL.build (qs := [(_, _), (_, _)]) tyOk (by rfl) (by rfl) (by rfl) (by rfl) (by rfl) (by exact PartsOk.cons (by rfl) (by rfl) (PartsOk.cons (by rfl) (by rfl) PartsOk.nil)) (by rfl) ?_
          | refine AL.nilCheck (by rfl) (by rfl) (by rfl) (by rfl) ?_)
        refine AL.nil ?_
        refine AY.step [7] (by kernel_rfl) (by simp) (AYs.cons (by rfl) ?_ AYs.nil)
        (first
            | refine AL.nil ?_
            | refine AL.move (.inl (by rfl)) (by rfl) (by rfl) ?_
            | refine AL.move (.inr (by rfl)) (by rfl) (by rfl) ?_
            | refine AL.fieldAddr tyOk (by rfl) (by rfl) (by rfl) (by rfl) (by rfl) (by rfl) ?_
            | refine AL.load1 tyOk (by rfl) (by rfl) (by rfl) (by rfl) (by rfl) (by rfl) (by rfl) (by first | exact Nat.le_of_ble_eq_true rfl | (dsimp only; omega) | omega | assumption) (by first | exact Nat.le_of_ble_eq_true rfl | (dsimp only; omega) | omega | assumption) (by rfl) ?_
            | refine AL.loadAggE tyOk (by rfl) (by rfl) (by rfl) (by rfl) (by rfl) (by rfl) (by rfl) (by first | exact Nat.le_of_ble_eq_true rfl | (dsimp only; omega) | omega | assumption) (by first | exact Nat.le_of_ble_eq_true rfl | (dsimp only; omega) | omega | assumption) (by rfl) ?_
            | refine AL.stor tyOk (by rfl) (by rfl) (by rfl) (by rfl) (by rfl) (by rfl) (by rfl) (by rfl) (by rfl) (by first | exact Nat.le_of_ble_eq_true rfl | (dsimp only; omega) | omega | assumption) (by first | exact Nat.le_of_ble_eq_true rfl | (dsimp only; omega) | omega | assumption) ?_
            | refine AL.len (ty := 0) tyOk (by rfl) (by rfl) (by rfl) (by rfl) (by rfl) ?_
            | refine AL.add (by rfl) (by rfl) (by rfl) (by rfl) (by rfl) (by constructor <;> omega) ?_
            | refine AL.sub (by rfl) (by rfl) (by rfl) (by rfl) (by rfl) (by constructor <;> omega) ?_
            | refine AL.mul (by rfl) (by rfl) (by rfl) (by rfl) (by rfl) (by constructor <;> omega) ?_
            | refine AL.int2 (by rfl) (by rfl) (by rfl) (by rfl) (by rfl) (by rfl) (by first | trivial | decide | omega) ?_
            | refine AL.bEq (by rfl) (by rfl) (by rfl) (by rfl) (by rfl) Try.underlying4 ?_
            | refine AL.bNe (by rfl) (by rfl) (by rfl) (by rfl) (by rfl) Try.underlying4 ?_
            | refine AL.not (by rfl) (by rfl) (by rfl) (by rfl) ?_
            | refine AL.gOnE (by rfl) (by rfl) (by rfl) (by rfl) (by decide) (by first | rfl | assumption) ?_
            | refine AL.gOffE (by rfl) (by rfl) (by rfl) (by rfl) (by rfl) (by decide) (by first | rfl | assumption) ?_
            | refine AL.pickE (b' := true) (by rfl) (by rfl) (by rfl) (by rfl) (by first | rfl | assumption) ?_
            | refine AL.pickE (b' := false) (by rfl) (by rfl) (by rfl) (by rfl) (by first | rfl | assumption) ?_
            | refine AL.extract (by rfl) (by rfl) (by rfl) (by rfl) (by rfl) ?_
            | refine AL.boxD tyOk (by rfl) (by rfl) (by rfl) (Nat.le_of_ble_eq_true rfl) (by rfl) (by rfl) (by rfl) (by decide) (by rfl) ?_
            | refine AL.allocD tyOk (by rfl) (by rfl) (by rfl) (Nat.le_of_ble_eq_true rfl) (by rfl) (by rfl) (by decide) (by rfl) ?_
            | refine AL.indexN tyOk (by rfl) (by rfl) (by rfl) (by rfl) (by rfl) (by rfl) (by rfl) (by rfl) (by first | rfl | exact (Int.toNat_of_nonneg (by omega)).symm) (by omega) ?_
            | refine AL.indexSl tyOk (by rfl) (by rfl) (by rfl) (by rfl) (by rfl) (by rfl) (by rfl) (by rfl) (by constructor <;> omega) ?_
            | refine AL.indexArr tyOk (by rfl) (by rfl) (by rfl) (by rfl) (by rfl) (by rfl) (by constructor <;> omega) ?_
            | refine AL.makeD tyOk _ (by rfl) (by rfl) (by rfl) (Nat.le_of_ble_eq_true rfl) (by rfl) (by rfl) (by rfl) (by rfl) (by rfl) (by rfl) (by rfl) (by omega) (by omega) (by decide) (by rfl) ?_
            | refine AL.build (qs := []) tyOk (by rfl) (by rfl) (by rfl) (by rfl) (by rfl) (by exact PartsOk.nil) (by rfl) ?_
            | refine AL.build (qs := [(_, _)]) tyOk (by rfl) (by rfl) (by rfl) (by rfl) (by rfl) (by exact PartsOk.cons (by rfl) (by rfl) PartsOk.nil) (by rfl) ?_
            | refine AL.build (qs := [(_, _), (_, _)]) tyOk (by rfl) (by rfl) (by rfl) (by rfl) (by rfl) (by exact PartsOk.cons (by rfl) (by rfl) (PartsOk.cons (by rfl) (by rfl) PartsOk.nil)) (by rfl) ?_
            | refine AL.nilCheck (by rfl) (by rfl) (by rfl) (by rfl) ?_)
        refine AL.nil ?_
        refine AY.step [8] (by kernel_rfl) (by simp) (AYs.cons (by rfl) ?_ AYs.nil)
        refine AL.call [] (by rfl) (by rfl) (by rfl) Try.func81 (by rfl) (by rfl) (by exact eqPin_run (ps i) (qs i)) (by repeat (first | exact trivial | exact Nat.le_of_ble_eq_true rfl | rfl | exact ⟨_, rfl, rfl, Nat.le_refl _, rfl⟩ | refine And.intro ?_ ?_)) BwOk.nil (by rw [hF]; exact Nat.le_of_ble_eq_true rfl) 2000900 (by decide) (by rfl) ?_
        rintro _ _ ⟨rfl, rfl⟩
        refine And.intro rfl (And.intro (fun ρ b x h => by cases h) (And.intro (by first | exact mine_nil | (simp [Ar.mine, C.mine, pinC_mine]; done) | (simp [Ar.mine, C.mine, pinC]; done)) (And.intro (Nat.le_of_ble_eq_true rfl) ?_)))
        refine AL.nil ?_
        refine AY.take 9 (by rfl) (by rfl) (by kernel_rfl) (by kernel_rfl) (by kernel_rfl) (fun c s h => by rcases h.1 with h | h <;> cases h) (by rfl) (by (first
            | exact Pure1.move (.inl (by rfl))
            | exact Pure1.move (.inr (by rfl))
            | exact Pure1.indexN tyOk (by rfl) (by rfl) (by rfl) (by rfl) (by rfl) (by rfl) (by first | rfl | exact (Int.toNat_of_nonneg (by omega)).symm) (by omega)
            | exact Pure1.fieldAddr tyOk (by rfl) (by rfl) (by rfl) (by rfl)
            | exact Pure1.len tyOk (by rfl) (by rfl) (by rfl)
            | exact Pure1.add (by rfl) (by rfl) (by rfl) (by constructor <;> omega)
            | exact Pure1.int2 (by rfl) (by rfl) (by rfl) (by rfl) (by first | trivial | decide | omega)
            | exact Pure1.not (by rfl) (by rfl))) ?_
        refine AY.done (by kernel_rfl) ?_
        refine St.le.sub ?_ ?_ (by rfl) (by rfl)
        · exact And.intro rfl (And.intro rfl (And.intro rfl (And.intro rfl trivial)))
        · exact And.intro ⟨_, rfl, RSame.rfl _⟩ (And.intro ⟨_, rfl, RSame.rfl _⟩ trivial)
      · (first
          | refine AL.nil ?_
          | refine AL.move (.inl (by rfl)) (by rfl) (by rfl) ?_
          | refine AL.move (.inr (by rfl)) (by rfl) (by rfl) ?_
          | refine AL.fieldAddr tyOk (by rfl) (by rfl) (by rfl) (by rfl) (by rfl) (by rfl) ?_
          | refine AL.load1 tyOk (by rfl) (by rfl) (by rfl) (by rfl) (by rfl) (by rfl) (by rfl) (by first | exact Nat.le_of_ble_eq_true rfl | (dsimp only; omega) | omega | assumption) (by first | exact Nat.le_of_ble_eq_true rfl | (dsimp only; omega) | omega | assumption) (by rfl) ?_
          | refine AL.loadAggE tyOk (by rfl) (by rfl) (by rfl) (by rfl) (by rfl) (by rfl) (by rfl) (by first | exact Nat.le_of_ble_eq_true rfl | (dsimp only; omega) | omega | assumption) (by first | exact Nat.le_of_ble_eq_true rfl | (dsimp only; omega) | omega | assumption) (by rfl) ?_
          | refine AL.stor tyOk (by rfl) (by rfl) (by rfl) (by rfl) (by rfl) (by rfl) (by rfl) (by rfl) (by rfl) (by first | exact Nat.le_of_ble_eq_true rfl | (dsimp only; omega) | omega | assumption) (by first | exact Nat.le_of_ble_eq_true rfl | (dsimp only; omega) | omega | assumption) ?_
          | refine AL.len (ty := 0) tyOk (by rfl) (by rfl) (by rfl) (by rfl) (by rfl) ?_
          | refine AL.add (by rfl) (by rfl) (by rfl) (by rfl) (by rfl) (by constructor <;> omega) ?_
          | refine AL.sub (by rfl) (by rfl) (by rfl) (by rfl) (by rfl) (by constructor <;> omega) ?_
          | refine AL.mul (by rfl) (by rfl) (by rfl) (by rfl) (by rfl) (by constructor <;> omega) ?_
          | refine AL.int2 (by rfl) (by rfl) (by rfl) (by rfl) (by rfl) (by rfl) (by first | trivial | decide | omega) ?_
          | refine AL.bEq (by rfl) (by rfl) (by rfl) (by rfl) (by rfl) Try.underlying4 ?_
          | refine AL.bNe (by rfl) (by rfl) (by rfl) (by rfl) (by rfl) Try.underlying4 ?_
          | refine AL.not (by rfl) (by rfl) (by rfl) (by rfl) ?_
          | refine AL.gOnE (by rfl) (by rfl) (by rfl) (by rfl) (by decide) (by first | rfl | assumption) ?_
          | refine AL.gOffE (by rfl) (by rfl) (by rfl) (by rfl) (by rfl) (by decide) (by first | rfl | assumption) ?_
          | refine AL.pickE (b' := true) (by rfl) (by rfl) (by rfl) (by rfl) (by first | rfl | assumption) ?_
          | refine AL.pickE (b' := false) (by rfl) (by rfl) (by rfl) (by rfl) (by first | rfl | assumption) ?_
          | refine AL.extract (by rfl) (by rfl) (by rfl) (by rfl) (by rfl) ?_
          | refine AL.boxD tyOk (by rfl) (by rfl) (by rfl) (Nat.le_of_ble_eq_true rfl) (by rfl) (by rfl) (by rfl) (by decide) (by rfl) ?_
          | refine AL.allocD tyOk (by rfl) (by rfl) (by rfl) (Nat.le_of_ble_eq_true rfl) (by rfl) (by rfl) (by decide) (by rfl) ?_
          | refine AL.indexN tyOk (by rfl) (by rfl) (by rfl) (by rfl) (by rfl) (by rfl) (by rfl) (by rfl) (by first | rfl | exact (Int.toNat_of_nonneg (by omega)).symm) (by omega) ?_
          | refine AL.indexSl tyOk (by rfl) (by rfl) (by rfl) (by rfl) (by rfl) (by rfl) (by rfl) (by rfl) (by constructor <;> omega) ?_
          | refine AL.indexArr tyOk (by rfl) (by rfl) (by rfl) (by rfl) (by rfl) (by rfl) (by constructor <;> omega) ?_
          | refine AL.makeD tyOk _ (by rfl) (by rfl) (by rfl) (Nat.le_of_ble_eq_true rfl) (by rfl) (by rfl) (by rfl) (by rfl) (by rfl) (by rfl) (by rfl) (by omega) (by omega) (by decide) (by rfl) ?_
          | refine AL.build (qs := []) tyOk (by rfl) (by rfl) (by rfl) (by rfl) (by rfl) (by exact PartsOk.nil) (by rfl) ?_
          | refine AL.build (qs := [(_, _)]) tyOk (by rfl) (by rfl) (by rfl) (by rfl) (by rfl) (by exact PartsOk.cons (by rfl) (by rfl) PartsOk.nil) (by rfl) ?_
          | refine AL.build (qs := [(_, _), (_, _)]) tyOk (by rfl) (by rfl) (by rfl) (by rfl) (by rfl) (by exact PartsOk.cons (by rfl) (by rfl) (PartsOk.cons (by rfl) (by rfl) PartsOk.nil)) (by rfl) ?_
          | refine AL.nilCheck (by rfl) (by rfl) (by rfl) (by rfl) ?_)
        refine AL.nil ?_
        refine AY.step [3] (by kernel_rfl) (by simp) (AYs.cons (by rfl) ?_ AYs.nil)
        (first
            | refine AL.nil ?_
            | refine AL.move (.inl (by rfl)) (by rfl) (by rfl) ?_
            | refine AL.move (.inr (by rfl)) (by rfl) (by rfl) ?_
            | refine AL.fieldAddr tyOk (by rfl) (by rfl) (by rfl) (by rfl) (by rfl) (by rfl) ?_
            | refine AL.load1 tyOk (by rfl) (by rfl) (by rfl) (by rfl) (by rfl) (by rfl) (by rfl) (by first | exact Nat.le_of_ble_eq_true rfl | (dsimp only; omega) | omega | assumption) (by first | exact Nat.le_of_ble_eq_true rfl | (dsimp only; omega) | omega | assumption) (by rfl) ?_
            | refine AL.loadAggE tyOk (by rfl) (by rfl) (by rfl) (by rfl) (by rfl) (by rfl) (by rfl) (by first | exact Nat.le_of_ble_eq_true rfl | (dsimp only; omega) | omega | assumption) (by first | exact Nat.le_of_ble_eq_true rfl | (dsimp only; omega) | omega | assumption) (by rfl) ?_
            | refine AL.stor tyOk (by rfl) (by rfl) (by rfl) (by rfl) (by rfl) (by rfl) (by rfl) (by rfl) (by rfl) (by first | exact Nat.le_of_ble_eq_true rfl | (dsimp only; omega) | omega | assumption) (by first | exact Nat.le_of_ble_eq_true rfl | (dsimp only; omega) | omega | assumption) ?_
            | refine AL.len (ty := 0) tyOk (by rfl) (by rfl) (by rfl) (by rfl) (by rfl) ?_
            | refine AL.add (by rfl) (by rfl) (by rfl) (by rfl) (by rfl) (by constructor <;> omega) ?_
            | refine AL.sub (by rfl) (by rfl) (by rfl) (by rfl) (by rfl) (by constructor <;> omega) ?_
            | refine AL.mul (by rfl) (by rfl) (by rfl) (by rfl) (by rfl) (by constructor <;> omega) ?_
            | refine AL.int2 (by rfl) (by rfl) (by rfl) (by rfl) (by rfl) (by rfl) (by first | trivial | decide | omega) ?_
            | refine AL.bEq (by rfl) (by rfl) (by rfl) (by rfl) (by rfl) Try.underlying4 ?_
            | refine AL.bNe (by rfl) (by rfl) (by rfl) (by rfl) (by rfl) Try.underlying4 ?_
            | refine AL.not (by rfl) (by rfl) (by rfl) (by rfl) ?_
            | refine AL.gOnE (by rfl) (by rfl) (by rfl) (by rfl) (by decide) (by first | rfl | assumption) ?_
            | refine AL.gOffE (by rfl) (by rfl) (by rfl) (by rfl) (by rfl) (by decide) (by first | rfl | assumption) ?_
            | refine AL.pickE (b' := true) (by rfl) (by rfl) (by rfl) (by rfl) (by first | rfl | assumption) ?_
            | refine AL.pickE (b' := false) (by rfl) (by rfl) (by rfl) (by rfl) (by first | rfl | assumption) ?_
            | refine AL.extract (by rfl) (by rfl) (by rfl) (by rfl) (by rfl) ?_
            | refine AL.boxD tyOk (by rfl) (by rfl) (by rfl) (Nat.le_of_ble_eq_true rfl) (by rfl) (by rfl) (by rfl) (by decide) (by rfl) ?_
            | refine AL.allocD tyOk (by rfl) (by rfl) (by rfl) (Nat.le_of_ble_eq_true rfl) (by rfl) (by rfl) (by decide) (by rfl) ?_
            | refine AL.indexN tyOk (by rfl) (by rfl) (by rfl) (by rfl) (by rfl) (by rfl) (by rfl) (by rfl) (by first | rfl | exact (Int.toNat_of_nonneg (by omega)).symm) (by omega) ?_
            | refine AL.indexSl tyOk (by rfl) (by rfl) (by rfl) (by rfl) (by rfl) (by rfl) (by rfl) (by rfl) (by constructor <;> omega) ?_
            | refine AL.indexArr tyOk (by rfl) (by rfl) (by rfl) (by rfl) (by rfl) (by rfl) (by constructor <;> omega) ?_
            | refine AL.makeD tyOk _ (by rfl) (by rfl) (by rfl) (Nat.le_of_ble_eq_true rfl) (by rfl) (by rfl) (by rfl) (by rfl) (by rfl) (by rfl) (by rfl) (by omega) (by omega) (by decide) (by rfl) ?_
            | refine AL.build (qs := []) tyOk (by rfl) (by rfl) (by rfl) (by rfl) (by rfl) (by exact PartsOk.nil) (by rfl) ?_
            | refine AL.build (qs := [(_, _)]) tyOk (by rfl) (by rfl) (by rfl) (by rfl) (by rfl) (by exact PartsOk.cons (by rfl) (by rfl) PartsOk.nil) (by rfl) ?_
            | refine AL.build (qs := [(_, _), (_, _)]) tyOk (by rfl) (by rfl) (by rfl) (by rfl) (by rfl) (by exact PartsOk.cons (by rfl) (by rfl) (PartsOk.cons (by rfl) (by rfl) PartsOk.nil)) (by rfl) ?_
            | refine AL.nilCheck (by rfl) (by rfl) (by rfl) (by rfl) ?_)
        refine AL.nil ?_
        refine AY.step [8] (by kernel_rfl) (by simp) (AYs.cons (by rfl) ?_ AYs.nil)
        refine AL.call [] (by rfl) (by rfl) (by rfl) Try.func81 (by rfl) (by rfl) (by exact eqPin_run (ps i) (qs i)) (by repeat (first | exact trivial | exact Nat.le_of_ble_eq_true rfl | rfl | exact ⟨_, rfl, rfl, Nat.le_refl _, rfl⟩ | refine And.intro ?_ ?_)) BwOk.nil (by rw [hF]; exact Nat.le_of_ble_eq_true rfl) 2000900 (by decide) (by rfl) ?_
        rintro _ _ ⟨rfl, rfl⟩
        refine And.intro rfl (And.intro (fun ρ b x h => by cases h) (And.intro (by first | exact mine_nil | (simp [Ar.mine, C.mine, pinC_mine]; done) | (simp [Ar.mine, C.mine, pinC]; done)) (And.intro (Nat.le_of_ble_eq_true rfl) ?_)))
        refine AL.nil ?_
        refine AY.take 9 (by rfl) (by rfl) (by kernel_rfl) (by kernel_rfl) (by kernel_rfl) (fun c s h => by rcases h.1 with h | h <;> cases h) (by rfl) (by (first
            | exact Pure1.move (.inl (by rfl))
            | exact Pure1.move (.inr (by rfl))
            | exact Pure1.indexN tyOk (by rfl) (by rfl) (by rfl) (by rfl) (by rfl) (by rfl) (by first | rfl | exact (Int.toNat_of_nonneg (by omega)).symm) (by omega)
            | exact Pure1.fieldAddr tyOk (by rfl) (by rfl) (by rfl) (by rfl)
            | exact Pure1.len tyOk (by rfl) (by rfl) (by rfl)
            | exact Pure1.add (by rfl) (by rfl) (by rfl) (by constructor <;> omega)
            | exact Pure1.int2 (by rfl) (by rfl) (by rfl) (by rfl) (by first | trivial | decide | omega)
            | exact Pure1.not (by rfl) (by rfl))) ?_
        refine AY.done (by kernel_rfl) ?_
        refine St.le.sub ?_ ?_ (by rfl) (by rfl)
        · exact And.intro rfl (And.intro rfl (And.intro rfl (And.intro rfl trivial)))
        · exact And.intro ⟨_, rfl, RSame.rfl _⟩ (And.intro ⟨_, rfl, RSame.rfl _⟩ trivial)
    · refine AC.cond (by rfl) (fun h2 => ?_) (fun h2 => ?_)
      · have h2 : ps i ≠ qs i := by simpa using h2
        repeat (first | (first
            | refine AL.nil ?_
            | refine AL.move (.inl (by rfl)) (by rfl) (by rfl) ?_
            | refine AL.move (.inr (by rfl)) (by rfl) (by rfl) ?_
            | refine AL.fieldAddr tyOk (by rfl) (by rfl) (by rfl) (by rfl) (by rfl) (by rfl) ?_
            | refine AL.load1 tyOk (by rfl) (by rfl) (by rfl) (by rfl) (by rfl) (by rfl) (by rfl) (by first | exact Nat.le_of_ble_eq_true rfl | (dsimp only; omega) | omega | assumption) (by first | exact Nat.le_of_ble_eq_true rfl | (dsimp only; omega) | omega | assumption) (by rfl) ?_
            | refine AL.loadAggE tyOk (by rfl) (by rfl) (by rfl) (by rfl) (by rfl) (by rfl) (by rfl) (by first | exact Nat.le_of_ble_eq_true rfl | (dsimp only; omega) | omega | assumption) (by first | exact Nat.le_of_ble_eq_true rfl | (dsimp only; omega) | omega | assumption) (by rfl) ?_
            | refine AL.stor tyOk (by rfl) (by rfl) (by rfl) (by rfl) (by rfl) (by rfl) (by rfl) (by rfl) (by rfl) (by first | exact Nat.le_of_ble_eq_true rfl | (dsimp only; omega) | omega | assumption) (by first | exact Nat.le_of_ble_eq_true rfl | (dsimp only; omega) | omega | assumption) ?_
            | refine AL.len (ty := 0) tyOk (by rfl) (by rfl) (by rfl) (by rfl) (by rfl) ?_
            | refine AL.add (by rfl) (by rfl) (by rfl) (by rfl) (by rfl) (by constructor <;> omega) ?_
            | refine AL.sub (by rfl) (by rfl) (by rfl) (by rfl) (by rfl) (by constructor <;> omega) ?_
            | refine AL.mul (by rfl) (by rfl) (by rfl) (by rfl) (by rfl) (by constructor <;> omega) ?_
            | refine AL.int2 (by rfl) (by rfl) (by rfl) (by rfl) (by rfl) (by rfl) (by first | trivial | decide | omega) ?_
            | refine AL.bEq (by rfl) (by rfl) (by rfl) (by rfl) (by rfl) Try.underlying4 ?_
            | refine AL.bNe (by rfl) (by rfl) (by rfl) (by rfl) (by rfl) Try.underlying4 ?_
            | refine AL.not (by rfl) (by rfl) (by rfl) (by rfl) ?_
            | refine AL.gOnE (by rfl) (by rfl) (by rfl) (by rfl) (by decide) (by first | rfl | assumption) ?_
            | refine AL.gOffE (by rfl) (by rfl) (by rfl) (by rfl) (by rfl) (by decide) (by first | rfl | assumption) ?_
            | refine AL.pickE (b' := true) (by rfl) (by rfl) (by rfl) (by rfl) (by first | rfl | assumption) ?_
            | refine AL.pickE (b' := false) (by rfl) (by rfl) (by rfl) (by rfl) (by first | rfl | assumption) ?_
            | refine AL.extract (by rfl) (by rfl) (by rfl) (by rfl) (by rfl) ?_
            | refine AL.boxD tyOk (by rfl) (by rfl) (by rfl) (Nat.le_of_ble_eq_true rfl) (by rfl) (by rfl) (by rfl) (by decide) (by rfl) ?_
            | refine AL.allocD tyOk (by rfl) (by rfl) (by rfl) (Nat.le_of_ble_eq_true rfl) (by rfl) (by rfl) (by decide) (by rfl) ?_
            | refine AL.indexN tyOk (by rfl) (by rfl) (by rfl) (by rfl) (by rfl) (by rfl) (by rfl) (by rfl) (by first | rfl | exact (Int.toNat_of_nonneg (by omega)).symm) (by omega) ?_
            | refine AL.indexSl tyOk (by rfl) (by rfl) (by rfl) (by rfl) (by rfl) (by rfl) (by rfl) (by rfl) (by constructor <;> omega) ?_
            | refine AL.indexArr tyOk (by rfl) (by rfl) (by rfl) (by rfl) (by rfl) (by rfl) (by constructor <;> omega) ?_
            | refine AL.makeD tyOk _ (by rfl) (by rfl) (by rfl) (Nat.le_of_ble_eq_true rfl) (by rfl) (by rfl) (by rfl) (by rfl) (by rfl) (by rfl) (by rfl) (by omega) (by omega) (by decide) (by rfl) ?_
            | refine AL.build (qs := []) tyOk (by rfl) (by rfl) (by rfl) (by rfl) (by rfl) (by exact PartsOk.nil) (by rfl) ?_
            | refine AL.build (qs := [(_, _)]) tyOk (by rfl) (by rfl) (by rfl) (by rfl) (by rfl) (by exact PartsOk.cons (by rfl) (by rfl) PartsOk.nil) (by rfl) ?_
            | refine AL.build (qs := [(_, _), (_, _)]) tyOk (by rfl) (by rfl) (by rfl) (by rfl) (by rfl) (by exact PartsOk.cons (by rfl) (by rfl) (PartsOk.cons (by rfl) (by rfl) PartsOk.nil)) (by rfl) ?_
            | refine AL.nilCheck (by rfl) (by rfl) (by rfl) (by rfl) ?_) | (first
                | refine AC.region ?_
                | refine AC.seq ?_
                | refine AC.block ?_
                | refine AC.ret ?_
                | refine AC.exit ?_
                | refine AC.skip ?_))
        refine And.intro (by first | exact .inr rfl | exact .inl rfl) (And.intro (by repeat (first | exact trivial | exact Nat.le_of_ble_eq_true rfl | rfl | exact ⟨_, rfl, rfl, Nat.le_refl _, rfl⟩ | refine And.intro ?_ ?_)) (And.intro (by rfl) (And.intro (by rfl) (And.intro (by repeat (first | exact trivial | exact Nat.le_of_ble_eq_true rfl | rfl | exact ⟨_, rfl, rfl, Nat.le_refl _, rfl⟩ | refine And.intro ?_ ?_)) (And.intro (by repeat (first | exact trivial | exact Nat.le_of_ble_eq_true rfl | rfl | exact ⟨_, rfl, rfl, Nat.le_refl _, rfl⟩ | refine And.intro ?_ ?_)) ?_)))))
        exact ⟨false, rfl, ⟨(fun e => by cases e), (fun e => absurd (e.2 i h) h2)⟩, rfl⟩
      · have h2 : ps i = qs i := by simpa using h2
        repeat (first | (first
            | refine AL.nil ?_
            | refine AL.move (.inl (by rfl)) (by rfl) (by rfl) ?_
            | refine AL.move (.inr (by rfl)) (by rfl) (by rfl) ?_
            | refine AL.fieldAddr tyOk (by rfl) (by rfl) (by rfl) (by rfl) (by rfl) (by rfl) ?_
            | refine AL.load1 tyOk (by rfl) (by rfl) (by rfl) (by rfl) (by rfl) (by rfl) (by rfl) (by first | exact Nat.le_of_ble_eq_true rfl | (dsimp only; omega) | omega | assumption) (by first | exact Nat.le_of_ble_eq_true rfl | (dsimp only; omega) | omega | assumption) (by rfl) ?_
            | refine AL.loadAggE tyOk (by rfl) (by rfl) (by rfl) (by rfl) (by rfl) (by rfl) (by rfl) (by first | exact Nat.le_of_ble_eq_true rfl | (dsimp only; omega) | omega | assumption) (by first | exact Nat.le_of_ble_eq_true rfl | (dsimp only; omega) | omega | assumption) (by rfl) ?_
            | refine AL.stor tyOk (by rfl) (by rfl) (by rfl) (by rfl) (by rfl) (by rfl) (by rfl) (by rfl) (by rfl) (by first | exact Nat.le_of_ble_eq_true rfl | (dsimp only; omega) | omega | assumption) (by first | exact Nat.le_of_ble_eq_true rfl | (dsimp only; omega) | omega | assumption) ?_
            | refine AL.len (ty := 0) tyOk (by rfl) (by rfl) (by rfl) (by rfl) (by rfl) ?_
            | refine AL.add (by rfl) (by rfl) (by rfl) (by rfl) (by rfl) (by constructor <;> omega) ?_
            | refine AL.sub (by rfl) (by rfl) (by rfl) (by rfl) (by rfl) (by constructor <;> omega) ?_
            | refine AL.mul (by rfl) (by rfl) (by rfl) (by rfl) (by rfl) (by constructor <;> omega) ?_
            | refine AL.int2 (by rfl) (by rfl) (by rfl) (by rfl) (by rfl) (by rfl) (by first | trivial | decide | omega) ?_
            | refine AL.bEq (by rfl) (by rfl) (by rfl) (by rfl) (by rfl) Try.underlying4 ?_
            | refine AL.bNe (by rfl) (by rfl) (by rfl) (by rfl) (by rfl) Try.underlying4 ?_
            | refine AL.not (by rfl) (by rfl) (by rfl) (by rfl) ?_
            | refine AL.gOnE (by rfl) (by rfl) (by rfl) (by rfl) (by decide) (by first | rfl | assumption) ?_
            | refine AL.gOffE (by rfl) (by rfl) (by rfl) (by rfl) (by rfl) (by decide) (by first | rfl | assumption) ?_
            | refine AL.pickE (b' := true) (by rfl) (by rfl) (by rfl) (by rfl) (by first | rfl | assumption) ?_
            | refine AL.pickE (b' := false) (by rfl) (by rfl) (by rfl) (by rfl) (by first | rfl | assumption) ?_
            | refine AL.extract (by rfl) (by rfl) (by rfl) (by rfl) (by rfl) ?_
            | refine AL.boxD tyOk (by rfl) (by rfl) (by rfl) (Nat.le_of_ble_eq_true rfl) (by rfl) (by rfl) (by rfl) (by decide) (by rfl) ?_
            | refine AL.allocD tyOk (by rfl) (by rfl) (by rfl) (Nat.le_of_ble_eq_true rfl) (by rfl) (by rfl) (by decide) (by rfl) ?_
            | refine AL.indexN tyOk (by rfl) (by rfl) (by rfl) (by rfl) (by rfl) (by rfl) (by rfl) (by rfl) (by first | rfl | exact (Int.toNat_of_nonneg (by omega)).symm) (by omega) ?_
            | refine AL.indexSl tyOk (by rfl) (by rfl) (by rfl) (by rfl) (by rfl) (by rfl) (by rfl) (by rfl) (by constructor <;> omega) ?_
            | refine AL.indexArr tyOk (by rfl) (by rfl) (by rfl) (by rfl) (by rfl) (by rfl) (by constructor <;> omega) ?_
            | refine AL.makeD tyOk _ (by rfl) (by rfl) (by rfl) (Nat.le_of_ble_eq_true rfl) (by rfl) (by rfl) (by rfl) (by rfl) (by rfl) (by rfl) (by rfl) (by omega) (by omega) (by decide) (by rfl) ?_
            | refine AL.build (qs := []) tyOk (by rfl) (by rfl) (by rfl) (by rfl) (by rfl) (by exact PartsOk.nil) (by rfl) ?_
            | refine AL.build (qs := [(_, _)]) tyOk (by rfl) (by rfl) (by rfl) (by rfl) (by rfl) (by exact PartsOk.cons (by rfl) (by rfl) PartsOk.nil) (by rfl) ?_
            | refine AL.build (qs := [(_, _), (_, _)]) tyOk (by rfl) (by rfl) (by rfl) (by rfl) (by rfl) (by exact PartsOk.cons (by rfl) (by rfl) (PartsOk.cons (by rfl) (by rfl) PartsOk.nil)) (by rfl) ?_
            | refine AL.nilCheck (by rfl) (by rfl) (by rfl) (by rfl) ?_) | (first
                | refine AC.region ?_
                | refine AC.seq ?_
                | refine AC.block ?_
                | refine AC.ret ?_
                | refine AC.exit ?_
                | refine AC.skip ?_))
        refine ⟨i + 1, ⟨h, fun j hj => ?_⟩, by omega, St.le.sub ?_ ?_ (by rfl) (by rfl)⟩
        · by_cases hji : j = i
          · rw [hji]; exact h2
          · exact heq j (by omega)
        · exact And.intro rfl (And.intro rfl (And.intro rfl trivial))
        · exact And.intro ⟨_, rfl, RSame.rfl _⟩ (And.intro ⟨_, rfl, RSame.rfl _⟩ trivial)
  · have h : ¬ i < n := by simpa using h
    repeat (first | (first
        | refine AL.nil ?_
        | refine AL.move (.inl (by rfl)) (by rfl) (by rfl) ?_
        | refine AL.move (.inr (by rfl)) (by rfl) (by rfl) ?_
        | refine AL.fieldAddr tyOk (by rfl) (by rfl) (by rfl) (by rfl) (by rfl) (by rfl) ?_
        | refine AL.load1 tyOk (by rfl) (by rfl) (by rfl) (by rfl) (by rfl) (by rfl) (by rfl) (by first | exact Nat.le_of_ble_eq_true rfl | (dsimp only; omega) | omega | assumption) (by first | exact Nat.le_of_ble_eq_true rfl | (dsimp only; omega) | omega | assumption) (by rfl) ?_
        | refine AL.loadAggE tyOk (by rfl) (by rfl) (by rfl) (by rfl) (by rfl) (by rfl) (by rfl) (by first | exact Nat.le_of_ble_eq_true rfl | (dsimp only; omega) | omega | assumption) (by first | exact Nat.le_of_ble_eq_true rfl | (dsimp only; omega) | omega | assumption) (by rfl) ?_
        | refine AL.stor tyOk (by rfl) (by rfl) (by rfl) (by rfl) (by rfl) (by rfl) (by rfl) (by rfl) (by rfl) (by first | exact Nat.le_of_ble_eq_true rfl | (dsimp only; omega) | omega | assumption) (by first | exact Nat.le_of_ble_eq_true rfl | (dsimp only; omega) | omega | assumption) ?_
        | refine AL.len (ty := 0) tyOk (by rfl) (by rfl) (by rfl) (by rfl) (by rfl) ?_
        | refine AL.add (by rfl) (by rfl) (by rfl) (by rfl) (by rfl) (by constructor <;> omega) ?_
        | refine AL.sub (by rfl) (by rfl) (by rfl) (by rfl) (by rfl) (by constructor <;> omega) ?_
        | refine AL.mul (by rfl) (by rfl) (by rfl) (by rfl) (by rfl) (by constructor <;> omega) ?_
        | refine AL.int2 (by rfl) (by rfl) (by rfl) (by rfl) (by rfl) (by rfl) (by first | trivial | decide | omega) ?_
        | refine AL.bEq (by rfl) (by rfl) (by rfl) (by rfl) (by rfl) Try.underlying4 ?_
        | refine AL.bNe (by rfl) (by rfl) (by rfl) (by rfl) (by rfl) Try.underlying4 ?_
        | refine AL.not (by rfl) (by rfl) (by rfl) (by rfl) ?_
        | refine AL.gOnE (by rfl) (by rfl) (by rfl) (by rfl) (by decide) (by first | rfl | assumption) ?_
        | refine AL.gOffE (by rfl) (by rfl) (by rfl) (by rfl) (by rfl) (by decide) (by first | rfl | assumption) ?_
        | refine AL.pickE (b' := true) (by rfl) (by rfl) (by rfl) (by rfl) (by first | rfl | assumption) ?_
        | refine AL.pickE (b' := false) (by rfl) (by rfl) (by rfl) (by rfl) (by first | rfl | assumption) ?_
        | refine AL.extract (by rfl) (by rfl) (by rfl) (by rfl) (by rfl) ?_
        | refine AL.boxD tyOk (by rfl) (by rfl) (by rfl) (Nat.le_of_ble_eq_true rfl) (by rfl) (by rfl) (by rfl) (by decide) (by rfl) ?_
        | refine AL.allocD tyOk (by rfl) (by rfl) (by rfl) (Nat.le_of_ble_eq_true rfl) (by rfl) (by rfl) (by decide) (by rfl) ?_
        | refine AL.indexN tyOk (by rfl) (by rfl) (by rfl) (by rfl) (by rfl) (by rfl) (by rfl) (by rfl) (by first | rfl | exact (Int.toNat_of_nonneg (by omega)).symm) (by omega) ?_
        | refine AL.indexSl tyOk (by rfl) (by rfl) (by rfl) (by rfl) (by rfl) (by rfl) (by rfl) (by rfl) (by constructor <;> omega) ?_
        | refine AL.indexArr tyOk (by rfl) (by rfl) (by rfl) (by rfl) (by rfl) (by rfl) (by constructor <;> omega) ?_
        | refine AL.makeD tyOk _ (by rfl) (by rfl) (by rfl) (Nat.le_of_ble_eq_true rfl) (by rfl) (by rfl) (by rfl) (by rfl) (by rfl) (by rfl) (by rfl) (by omega) (by omega) (by decide) (by rfl) ?_
        | refine AL.build (qs := []) tyOk (by rfl) (by rfl) (by rfl) (by rfl) (by rfl) (by exact PartsOk.nil) (by rfl) ?_
        | refine AL.build (qs := [(_, _)]) tyOk (by rfl) (by rfl) (by rfl) (by rfl) (by rfl) (by exact PartsOk.cons (by rfl) (by rfl) PartsOk.nil) (by rfl) ?_
        | refine AL.build (qs := [(_, _), (_, _)]) tyOk (by rfl) (by rfl) (by rfl) (by rfl) (by rfl) (by exact PartsOk.cons (by rfl) (by rfl) (PartsOk.cons (by rfl) (by rfl) PartsOk.nil)) (by rfl) ?_
        | refine AL.nilCheck (by rfl) (by rfl) (by rfl) (by rfl) ?_) | (first
            | refine AC.region ?_
            | refine AC.seq ?_
            | refine AC.block ?_
            | refine AC.ret ?_
            | refine AC.exit ?_
            | refine AC.skip ?_))
    refine And.intro (by first | exact .inr rfl | exact .inl rfl) (And.intro (by repeat (first | exact trivial | exact Nat.le_of_ble_eq_true rfl | rfl | exact ⟨_, rfl, rfl, Nat.le_refl _, rfl⟩ | refine And.intro ?_ ?_)) (And.intro (by rfl) (And.intro (by rfl) (And.intro (by repeat (first | exact trivial | exact Nat.le_of_ble_eq_true rfl | rfl | exact ⟨_, rfl, rfl, Nat.le_refl _, rfl⟩ | refine And.intro ?_ ?_)) (And.intro (by repeat (first | exact trivial | exact Nat.le_of_ble_eq_true rfl | rfl | exact ⟨_, rfl, rfl, Nat.le_refl _, rfl⟩ | refine And.intro ?_ ?_)) ?_)))))
    exact ⟨true, rfl, ⟨(fun _ => ⟨rfl, fun j hj => heq j (by omega)⟩), (fun _ => rfl)⟩, rfl⟩
end Go.Proofs.Ytbdegnamlmabbab
