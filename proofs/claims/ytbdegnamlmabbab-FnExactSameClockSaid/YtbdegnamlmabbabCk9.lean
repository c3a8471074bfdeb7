/- Contracts over clocks: copies. -/
import Derived.Test.YtbdegnamlmabbabCk8
import Derived.Test.YtbdegnamlmabbabTrd
namespace Go.Proofs.Ytbdegnamlmabbab
open Go Go.Tr
set_option linter.unusedVariables false
set_option linter.unusedSimpArgs false
set_option maxRecDepth 100000
set_option maxHeartbeats 4000000

theorem flat_pinC (p : Pn) (r : Nat) : flat (pinC p r) = pinC p r := by unfold pinC; split <;> rfl
theorem sCopy_run (E : Int) (n e : Nat) (ps : Nat → Pn) (row : Nat → Nat → C) (hrow : ∀ i r, i < n → r < 4 → row i r = pinC (ps i) r) (hn : n ≤ 1048576) :
    Run Try.prog 60 [.agg [.c (.lit (.int .i64 E)), .c (.sl .fro e 4 n row)]] [] fun outs ext => outs = [.agg [.lit (.int .i64 E), .sl .own 63 4 n fun i r => pinC (ps i) r]] ∧ ext = [] := by
  refine Run.of_body tyOk Try.func60 (by rfl) (Nat.le_of_ble_eq_true rfl) (by simp [argsOk, aasOk, aaOk]) [] rfl (fun F hF => ?_)
  refine AC.le (St.le.sub (σ' := ⟨[(0, .agg [.lit (.int .i64 E), .ref 1000000 0 n])], [(1000000, ⟨.fro, false, e, 4, n, fun i r => pinC (ps i) r, []⟩)]⟩) ?_ ?_ (by rfl) (by rfl)) ?_
  · exact And.intro rfl trivial
  · exact And.intro ⟨_, rfl, ⟨rfl, (fun h => by cases h), rfl, rfl, fun i r hi hr => congrArg Cl.cl (hrow i r hi hr).symm⟩⟩ trivial
  repeat (first | (first
      | refine AL.nil ?_
      | refine AL.move (.inl (by rfl)) (by rfl) (by rfl) ?_
      | refine AL.move (.inr (by rfl)) (by rfl) (by rfl) ?_
      | refine AL.fieldAddr tyOk (by rfl) (by rfl) (by rfl) (by rfl) (by rfl) (by rfl) ?_
      | refine AL.load1 tyOk (by rfl) (by rfl) (by rfl) (by rfl) (by rfl) (by rfl) (by rfl) (by first | exact Nat.le_of_ble_eq_true rfl | (dsimp only; omega) | omega | assumption) (by first | exact Nat.le_of_ble_eq_true rfl | (dsimp only; omega) | omega | assumption) (by rfl) ?_
      | refine AL.loadAggE tyOk (by rfl) (by rfl) (by rfl) (by rfl) (by rfl) (by rfl) (by rfl) (by first | exact Nat.le_of_ble_eq_true rfl | (dsimp only; omega) | omega | assumption) (by first | exact Nat.le_of_ble_eq_true rfl | (dsimp only; omega) | omega | assumption) (by rfl) ?_
      | refine AL.stor tyOk (by rfl) (by rfl) (by rfl) (by rfl) (by rfl) (by rfl) (by rfl) (by rfl) (by rfl) (by first | exact Nat.le_of_ble_eq_true rfl | (dsimp only; omega) | omega | assumption) (by first | exact Nat.le_of_ble_eq_true rfl | (dsimp only; omega) | omega | assumption) ?_
      | refine AL.len (ty := 0) tyOk (by rfl) (by rfl) (by rfl) (by rfl) (by rfl) ?_
      | refine AL.add (by rfl) (by rfl) (by rfl) (by rfl) (by rfl) (by constructor <;> omega) ?_
      | refine AL.sub (by rfl) (by rfl) (by rfl) (by rfl) (by rfl) (by constructor <;> omega) ?_
      | refine AL.mul (by rfl) (by rfl) (by rfl) (by rfl) (by rfl) (by constructor <;> omega) ?_
      | refine AL.int2 (by rfl) (by rfl) (by rfl) (by rfl) (by rfl) (by rfl) (by first | trivial | decide | omega) ?_
      | refine AL.bEq (by rfl) (by rfl) (by rfl) (by rfl) (by rfl) Try.underlying4 ?_
      | refine AL.bNe (by rfl) (by rfl) (by rfl) (by rfl) (by rfl) Try.underlying4 ?_
      | refine AL.not (by rfl) (by rfl) (by rfl) (by rfl) ?_
      | refine AL.gOnE (by rfl) (by rfl) (by rfl) (by rfl) (by decide) (by first | rfl | assumption) ?_
      | refine AL.gOffE (by rfl) (by rfl) (by rfl) (by rfl) (by rfl) (by decide) (by first | rfl | assumption) ?_
      | refine AL.pickE (b' := true) (by rfl) (by rfl) (by rfl) (by rfl) (by first | rfl | assumption) ?_
      | refine AL.pickE (b' := false) (by rfl) (by rfl) (by rfl) (by rfl) (by first | rfl | assumption) ?_
      | refine AL.extract (by rfl) (by rfl) (by rfl) (by rfl) (by rfl) ?_
      | refine AL.boxD tyOk (by rfl) (by rfl) (by rfl) (Nat.le_of_ble_eq_true rfl) (by rfl) (by rfl) (by rfl) (by decide) (by rfl) ?_
      | refine AL.allocD tyOk (by rfl) (by rfl) (by rfl) (Nat.le_of_ble_eq_true rfl) (by rfl) (by rfl) (by decide) (by rfl) ?_
      | refine AL.indexN tyOk (by rfl) (by rfl) (by rfl) (by rfl) (by rfl) (by rfl) (by rfl) (by rfl) (by first | rfl | exact (Int.toNat_of_nonneg (by omega)).symm) (by omega) ?_
      | refine AL.indexSl tyOk (by rfl) (by rfl) (by rfl) (by rfl) (by rfl) (by rfl) (by rfl) (by rfl) (by constructor <;> omega) ?_
      | refine AL.indexArr tyOk (by rfl) (by rfl) (by rfl) (by rfl) (by rfl) (by rfl) (by constructor <;> omega) ?_
      | refine AL.makeD tyOk _ (by rfl) (by rfl) (by rfl) (Nat.le_of_ble_eq_true rfl) (by rfl) (by rfl) (by rfl) (by rfl) (by rfl) (by rfl) (by rfl) (by omega) (by omega) (by decide) (by rfl) ?_
      | refine AL.build (qs := []) tyOk (by rfl) (by rfl) (by rfl) (by rfl) (by rfl) (by exact PartsOk.nil) (by rfl) ?_
      | refine AL.build (qs := [(_, _)]) tyOk (by rfl) (by rfl) (by rfl) (by rfl) (by rfl) (by exact PartsOk.cons (by rfl) (by rfl) PartsOk.nil) (by rfl) ?_
      | refine AL.build (qs := [(_, _), (_, _)]) tyOk (by rfl) (by rfl) (by rfl) (by rfl) (by rfl) (by exact PartsOk.cons (by rfl) (by rfl) (PartsOk.cons (by rfl) (by rfl) PartsOk.nil)) (by rfl) ?_
      | refine AL.nilCheck (by rfl) (by rfl) (by rfl) (by rfl) ?_) | (first
          | refine AC.region ?_
          | refine AC.seq ?_
          | refine AC.block ?_
          | refine AC.ret ?_
          | refine AC.exit ?_
          | refine AC.skip ?_))
  refine AC.join ⟨[(2, .ptr 2 0 0)], [(2, boxR 24 2 [.lit (.int .i64 E), .ref 5 0 n]), (5, ⟨.own, true, 63, 4, n, fun i r => pinC (ps i) r, []⟩)]⟩ ?_ ?_
  · refine AC.draw (by kernel_rfl) ?_
    refine AY.take 0 (by rfl) (by rfl) (by kernel_rfl) (by kernel_rfl) (by kernel_rfl) (fun c s h => by rcases h.1 with h | h <;> cases h) (by rfl) (by (first
        | exact Pure1.move (.inl (by rfl))
        | exact Pure1.move (.inr (by rfl))
        | exact Pure1.indexN tyOk (by rfl) (by rfl) (by rfl) (by rfl) (by rfl) (by rfl) (by first | rfl | exact (Int.toNat_of_nonneg (by omega)).symm) (by omega)
        | exact Pure1.fieldAddr tyOk (by rfl) (by rfl) (by rfl) (by rfl)
        | exact Pure1.len tyOk (by rfl) (by rfl) (by rfl)
        | exact Pure1.add (by rfl) (by rfl) (by rfl) (by constructor <;> omega)
        | exact Pure1.int2 (by rfl) (by rfl) (by rfl) (by rfl) (by first | trivial | decide | omega)
        | exact Pure1.not (by rfl) (by rfl))) ?_
    refine AY.take 3 (by rfl) (by rfl) (by kernel_rfl) (by kernel_rfl) (by kernel_rfl) (fun c s h => by rcases h.1 with h | h <;> cases h) (by rfl) (by (first
        | exact Pure1.move (.inl (by rfl))
        | exact Pure1.move (.inr (by rfl))
        | exact Pure1.indexN tyOk (by rfl) (by rfl) (by rfl) (by rfl) (by rfl) (by rfl) (by first | rfl | exact (Int.toNat_of_nonneg (by omega)).symm) (by omega)
        | exact Pure1.fieldAddr tyOk (by rfl) (by rfl) (by rfl) (by rfl)
        | exact Pure1.len tyOk (by rfl) (by rfl) (by rfl)
        | exact Pure1.add (by rfl) (by rfl) (by rfl) (by constructor <;> omega)
        | exact Pure1.int2 (by rfl) (by rfl) (by rfl) (by rfl) (by first | trivial | decide | omega)
        | exact Pure1.not (by rfl) (by rfl))) ?_
    repeat' (first
          | exact AYq.nil
          | refine AYq.skip (by decide +kernel) ?_
          | refine AYq.cons (by rfl) ?_ ?_
          | refine AY.stepA [0, 1, 2, 3, 4, 5, 6, 7] (by kernel_rfl) (by decide +kernel) ?_
          | refine AY.done (by kernel_rfl) ?_
          | (first
              | (first
                  | refine AL.nil ?_
                  | refine AL.move (.inl (by rfl)) (by rfl) (by rfl) ?_
                  | refine AL.move (.inr (by rfl)) (by rfl) (by rfl) ?_
                  | refine AL.fieldAddr tyOk (by rfl) (by rfl) (by rfl) (by rfl) (by rfl) (by rfl) ?_
                  | refine AL.load1 tyOk (by rfl) (by rfl) (by rfl) (by rfl) (by rfl) (by rfl) (by rfl) (by first | exact Nat.le_of_ble_eq_true rfl | (dsimp only; omega) | omega | assumption) (by first | exact Nat.le_of_ble_eq_true rfl | (dsimp only; omega) | omega | assumption) (by rfl) ?_
                  | refine AL.loadAggE tyOk (by rfl) (by rfl) (by rfl) (by rfl) (by rfl) (by rfl) (by rfl) (by first | exact Nat.le_of_ble_eq_true rfl | (dsimp only; omega) | omega | assumption) (by first | exact Nat.le_of_ble_eq_true rfl | (dsimp only; omega) | omega | assumption) (by rfl) ?_
                  | refine AL.stor tyOk (by rfl) (by rfl) (by rfl) (by rfl) (by rfl) (by rfl) (by rfl) (by rfl) (by rfl) (by first | exact Nat.le_of_ble_eq_true rfl | (dsimp only; omega) | omega | assumption) (by first | exact Nat.le_of_ble_eq_true rfl | (dsimp only; omega) | omega | assumption) ?_
                  | refine AL.len (ty := 0) tyOk (by rfl) (by rfl) (by rfl) (by rfl) (by rfl) ?_
                  | refine AL.add (by rfl) (by rfl) (by rfl) (by rfl) (by rfl) (by constructor <;> omega) ?_
                  | refine AL.sub (by rfl) (by rfl) (by rfl) (by rfl) (by rfl) (by constructor <;> omega) ?_
                  | refine AL.mul (by rfl) (by rfl) (by rfl) (by rfl) (by rfl) (by constructor <;> omega) ?_
                  | refine AL.int2 (by rfl) (by rfl) (by rfl) (by rfl) (by rfl) (by rfl) (by first | trivial | decide | omega) ?_
                  | refine AL.bEq (by rfl) (by rfl) (by rfl) (by rfl) (by rfl) Try.underlying4 ?_
                  | refine AL.bNe (by rfl) (by rfl) (by rfl) (by rfl) (by rfl) Try.underlying4 ?_
                  | refine AL.not (by rfl) (by rfl) (by rfl) (by rfl) ?_
                  | refine AL.gOnE (by rfl) (by rfl) (by rfl) (by rfl) (by decide) (by first | rfl | assumption) ?_
                  | refine AL.gOffE (by rfl) (by rfl) (by rfl) (by rfl) (by rfl) (by decide) (by first | rfl | assumption) ?_
                  | refine AL.pickE (b' := true) (by rfl) (by rfl) (by rfl) (by rfl) (by first | rfl | assumption) ?_
                  | refine AL.pickE (b' := false) (by rfl) (by rfl) (by rfl) (by rfl) (by first | rfl | assumption) ?_
                  | refine AL.extract (by rfl) (by rfl) (by rfl) (by rfl) (by rfl) ?_
                  | refine AL.boxD tyOk (by rfl) (by rfl) (by rfl) (Nat.le_of_ble_eq_true rfl) (by rfl) (by rfl) (by rfl) (by decide) (by rfl) ?_
                  | refine AL.allocD tyOk (by rfl) (by rfl) (by rfl) (Nat.le_of_ble_eq_true rfl) (by rfl) (by rfl) (by decide) (by rfl) ?_
                  | refine AL.indexN tyOk (by rfl) (by rfl) (by rfl) (by rfl) (by rfl) (by rfl) (by rfl) (by rfl) (by first | rfl | exact (Int.toNat_of_nonneg (by omega)).symm) (by omega) ?_
                  | refine AL.indexSl tyOk (by rfl) (by rfl) (by rfl) (by rfl) (by rfl) (by rfl) (by rfl) (by rfl) (by constructor <;> omega) ?_
                  | refine AL.indexArr tyOk (by rfl) (by rfl) (by rfl) (by rfl) (by rfl) (by rfl) (by constructor <;> omega) ?_
                  | refine AL.makeD tyOk _ (by rfl) (by rfl) (by rfl) (Nat.le_of_ble_eq_true rfl) (by rfl) (by rfl) (by rfl) (by rfl) (by rfl) (by rfl) (by rfl) (by omega) (by omega) (by decide) (by rfl) ?_
                  | refine AL.build (qs := []) tyOk (by rfl) (by rfl) (by rfl) (by rfl) (by rfl) (by exact PartsOk.nil) (by rfl) ?_
                  | refine AL.build (qs := [(_, _)]) tyOk (by rfl) (by rfl) (by rfl) (by rfl) (by rfl) (by exact PartsOk.cons (by rfl) (by rfl) PartsOk.nil) (by rfl) ?_
                  | refine AL.build (qs := [(_, _), (_, _)]) tyOk (by rfl) (by rfl) (by rfl) (by rfl) (by rfl) (by exact PartsOk.cons (by rfl) (by rfl) (PartsOk.cons (by rfl) (by rfl) PartsOk.nil)) (by rfl) ?_
                  | refine AL.nilCheck (by rfl) (by rfl) (by rfl) (by rfl) ?_)
              | refine AL.buildSl0D tyOk (by rfl) (by rfl) (by rfl) (by rfl) (Nat.le_of_ble_eq_true rfl) (by rfl) (by decide) (by rfl) ?_
              | refine AL.copyN tyOk (by rfl) (by rfl) (by rfl) (by rfl) (by rfl) (by rfl) (by rfl) (by rfl) (by rfl) (by rfl) (by rfl) (by rfl) (by rfl) ?_
              | refine AL.append0 tyOk (by rfl) (by rfl) (by rfl) (by rfl) (by rfl) (by rfl) (by rfl) (by rfl) (by rfl) (by rfl) (by rfl) (by rfl) (by rfl) (by rfl) (by rfl) (okK_lt (by decide)) (by first | omega | (dsimp only; omega) | (unfold maxLen; dsimp only; omega)) (by first | omega | (dsimp only; omega) | (unfold maxLen; dsimp only; omega)) ?_
              | refine AL.appendL tyOk (by rfl) (by rfl) (by rfl) (by rfl) (by rfl) (by rfl) (by rfl) (by rfl) (by rfl) (by rfl) (by rfl) (by rfl) (by rfl) (by rfl) (by rfl) (fun _ _ _ _ => rfl) (okK_lt (by decide)) (by first | omega | (dsimp only; omega) | (unfold maxLen; dsimp only; omega)) (by first | omega | (dsimp only; omega) | (unfold maxLen; dsimp only; omega)) ?_))
    all_goals refine St.le.sub ?_ ?_ (by rfl) (by rfl)
    all_goals first | exact And.intro rfl trivial | exact And.intro ⟨_, rfl, ⟨rfl, (fun h => by cases h), rfl, rfl, fun i r hi hr => (by obtain rfl : i = 0 := Nat.lt_one_iff.1 hi; rcases r with _ | _ | r; rfl; rfl; exact absurd hr (by show ¬ r + 1 + 1 < 2; omega))⟩⟩ (And.intro ⟨_, rfl, ⟨rfl, (fun _ => And.intro rfl rfl), rfl, rfl, fun i r hi hr => (by show Cl.cl (pinC (ps i) r) = Cl.cl (flat (pinC (ps (0 + i)) r)); rw [flat_pinC, Nat.zero_add])⟩⟩ trivial)
  · repeat (first | (first
      | refine AL.nil ?_
      | refine AL.move (.inl (by rfl)) (by rfl) (by rfl) ?_
      | refine AL.move (.inr (by rfl)) (by rfl) (by rfl) ?_
      | refine AL.fieldAddr tyOk (by rfl) (by rfl) (by rfl) (by rfl) (by rfl) (by rfl) ?_
      | refine AL.load1 tyOk (by rfl) (by rfl) (by rfl) (by rfl) (by rfl) (by rfl) (by rfl) (by first | exact Nat.le_of_ble_eq_true rfl | (dsimp only; omega) | omega | assumption) (by first | exact Nat.le_of_ble_eq_true rfl | (dsimp only; omega) | omega | assumption) (by rfl) ?_
      | refine AL.loadAggE tyOk (by rfl) (by rfl) (by rfl) (by rfl) (by rfl) (by rfl) (by rfl) (by first | exact Nat.le_of_ble_eq_true rfl | (dsimp only; omega) | omega | assumption) (by first | exact Nat.le_of_ble_eq_true rfl | (dsimp only; omega) | omega | assumption) (by rfl) ?_
      | refine AL.stor tyOk (by rfl) (by rfl) (by rfl) (by rfl) (by rfl) (by rfl) (by rfl) (by rfl) (by rfl) (by first | exact Nat.le_of_ble_eq_true rfl | (dsimp only; omega) | omega | assumption) (by first | exact Nat.le_of_ble_eq_true rfl | (dsimp only; omega) | omega | assumption) ?_
      | refine AL.len (ty := 0) tyOk (by rfl) (by rfl) (by rfl) (by rfl) (by rfl) ?_
      | refine AL.add (by rfl) (by rfl) (by rfl) (by rfl) (by rfl) (by constructor <;> omega) ?_
      | refine AL.sub (by rfl) (by rfl) (by rfl) (by rfl) (by rfl) (by constructor <;> omega) ?_
      | refine AL.mul (by rfl) (by rfl) (by rfl) (by rfl) (by rfl) (by constructor <;> omega) ?_
      | refine AL.int2 (by rfl) (by rfl) (by rfl) (by rfl) (by rfl) (by rfl) (by first | trivial | decide | omega) ?_
      | refine AL.bEq (by rfl) (by rfl) (by rfl) (by rfl) (by rfl) Try.underlying4 ?_
      | refine AL.bNe (by rfl) (by rfl) (by rfl) (by rfl) (by rfl) Try.underlying4 ?_
      | refine AL.not (by rfl) (by rfl) (by rfl) (by rfl) ?_
      | refine AL.gOnE (by rfl) (by rfl) (by rfl) (by rfl) (by decide) (by first | rfl | assumption) ?_
      | refine AL.gOffE (by rfl) (by rfl) (by rfl) (by rfl) (by rfl) (by decide) (by first | rfl | assumption) ?_
      | refine AL.pickE (b' := true) (by rfl) (by rfl) (by rfl) (by rfl) (by first | rfl | assumption) ?_
      | refine AL.pickE (b' := false) (by rfl) (by rfl) (by rfl) (by rfl) (by first | rfl | assumption) ?_
      | refine AL.extract (by rfl) (by rfl) (by rfl) (by rfl) (by rfl) ?_
      | refine AL.boxD tyOk (by rfl) (by rfl) (by rfl) (Nat.le_of_ble_eq_true rfl) (by rfl) (by rfl) (by rfl) (by decide) (by rfl) ?_
      | refine AL.allocD tyOk (by rfl) (by rfl) (by rfl) (Nat.le_of_ble_eq_true rfl) (by rfl) (by rfl) (by decide) (by rfl) ?_
      | refine AL.indexN tyOk (by rfl) (by rfl) (by rfl) (by rfl) (by rfl) (by rfl) (by rfl) (by rfl) (by first | rfl | exact (Int.toNat_of_nonneg (by omega)).symm) (by omega) ?_
      | refine AL.indexSl tyOk (by rfl) (by rfl) (by rfl) (by rfl) (by rfl) (by rfl) (by rfl) (by rfl) (by constructor <;> omega) ?_
      | refine AL.indexArr tyOk (by rfl) (by rfl) (by rfl) (by rfl) (by rfl) (by rfl) (by constructor <;> omega) ?_
      | refine AL.makeD tyOk _ (by rfl) (by rfl) (by rfl) (Nat.le_of_ble_eq_true rfl) (by rfl) (by rfl) (by rfl) (by rfl) (by rfl) (by rfl) (by rfl) (by omega) (by omega) (by decide) (by rfl) ?_
      | refine AL.build (qs := []) tyOk (by rfl) (by rfl) (by rfl) (by rfl) (by rfl) (by exact PartsOk.nil) (by rfl) ?_
      | refine AL.build (qs := [(_, _)]) tyOk (by rfl) (by rfl) (by rfl) (by rfl) (by rfl) (by exact PartsOk.cons (by rfl) (by rfl) PartsOk.nil) (by rfl) ?_
      | refine AL.build (qs := [(_, _), (_, _)]) tyOk (by rfl) (by rfl) (by rfl) (by rfl) (by rfl) (by exact PartsOk.cons (by rfl) (by rfl) (PartsOk.cons (by rfl) (by rfl) PartsOk.nil)) (by rfl) ?_
      | refine AL.nilCheck (by rfl) (by rfl) (by rfl) (by rfl) ?_) | (first
          | refine AC.region ?_
          | refine AC.seq ?_
          | refine AC.block ?_
          | refine AC.ret ?_
          | refine AC.exit ?_
          | refine AC.skip ?_))
    refine And.intro (by first | exact .inr rfl | exact .inl rfl) (And.intro (by repeat (first | exact trivial | exact Nat.le_of_ble_eq_true rfl | rfl | exact ⟨_, rfl, rfl, Nat.le_refl _, rfl⟩ | refine And.intro ?_ ?_)) (And.intro (by rfl) (And.intro (by rfl) (And.intro (by repeat (first | exact trivial | exact Nat.le_of_ble_eq_true rfl | rfl | exact ⟨_, rfl, rfl, Nat.le_refl _, rfl⟩ | refine And.intro ?_ ?_)) (And.intro (by repeat (first | exact trivial | exact Nat.le_of_ble_eq_true rfl | rfl | exact ⟨_, rfl, rfl, Nat.le_refl _, rfl⟩ | refine And.intro ?_ ?_)) ?_)))))
    exact And.intro rfl rfl

theorem iCopy_run (E : Int) (n e : Nat) (ps : Nat → Pn) (row : Nat → Nat → C) (hrow : ∀ i r, i < n → r < 4 → row i r = pinC (ps i) r) (hn : n ≤ 1048576) :
    Run Try.prog 61 [.agg [.c (.lit (.int .i64 E)), .c (.sl .fro e 4 n row)]] [] fun outs ext => outs = [.agg [.lit (.int .i64 E), .sl .own 63 4 n fun i r => pinC (ps i) r]] ∧ ext = [] := by
  refine Run.of_body tyOk Try.func61 (by rfl) (Nat.le_of_ble_eq_true rfl) (by simp [argsOk, aasOk, aaOk]) [] rfl (fun F hF => ?_)
  refine AC.le (St.le.sub (σ' := ⟨[(0, .agg [.lit (.int .i64 E), .ref 1000000 0 n])], [(1000000, ⟨.fro, false, e, 4, n, fun i r => pinC (ps i) r, []⟩)]⟩) ?_ ?_ (by rfl) (by rfl)) ?_
  · exact And.intro rfl trivial
  · exact And.intro ⟨_, rfl, ⟨rfl, (fun h => by cases h), rfl, rfl, fun i r hi hr => congrArg Cl.cl (hrow i r hi hr).symm⟩⟩ trivial
  repeat (first | (first
      | refine AL.nil ?_
      | refine AL.move (.inl (by rfl)) (by rfl) (by rfl) ?_
      | refine AL.move (.inr (by rfl)) (by rfl) (by rfl) ?_
      | refine AL.fieldAddr tyOk (by rfl) (by rfl) (by rfl) (by rfl) (by rfl) (by rfl) ?_
      | refine AL.load1 tyOk (by rfl) (by rfl) (by rfl) (by rfl) (by rfl) (by rfl) (by rfl) (by first | exact Nat.le_of_ble_eq_true rfl | (dsimp only; omega) | omega | assumption) (by first | exact Nat.le_of_ble_eq_true rfl | (dsimp only; omega) | omega | assumption) (by rfl) ?_
      | refine AL.loadAggE tyOk (by rfl) (by rfl) (by rfl) (by rfl) (by rfl) (by rfl) (by rfl) (by first | exact Nat.le_of_ble_eq_true rfl | (dsimp only; omega) | omega | assumption) (by first | exact Nat.le_of_ble_eq_true rfl | (dsimp only; omega) | omega | assumption) (by rfl) ?_
      | refine AL.stor tyOk (by rfl) (by rfl) (by rfl) (by rfl) (by rfl) (by rfl) (by rfl) (by rfl) (by rfl) (by first | exact Nat.le_of_ble_eq_true rfl | (dsimp only; omega) | omega | assumption) (by first | exact Nat.le_of_ble_eq_true rfl | (dsimp only; omega) | omega | assumption) ?_
      | refine AL.len (ty := 0) tyOk (by rfl) (by rfl) (by rfl) (by rfl) (by rfl) ?_
      | refine AL.add (by rfl) (by rfl) (by rfl) (by rfl) (by rfl) (by constructor <;> omega) ?_
      | refine AL.sub (by rfl) (by rfl) (by rfl) (by rfl) (by rfl) (by constructor <;> omega) ?_
      | refine AL.mul (by rfl) (by rfl) (by rfl) (by rfl) (by rfl) (by constructor <;> omega) ?_
      | refine AL.int2 (by rfl) (by rfl) (by rfl) (by rfl) (by rfl) (by rfl) (by first | trivial | decide | omega) ?_
      | refine AL.bEq (by rfl) (by rfl) (by rfl) (by rfl) (by rfl) Try.underlying4 ?_
      | refine AL.bNe (by rfl) (by rfl) (by rfl) (by rfl) (by rfl) Try.underlying4 ?_
      | refine AL.not (by rfl) (by rfl) (by rfl) (by rfl) ?_
      | refine AL.gOnE (by rfl) (by rfl) (by rfl) (by rfl) (by decide) (by first | rfl | assumption) ?_
      | refine AL.gOffE (by rfl) (by rfl) (by rfl) (by rfl) (by rfl) (by decide) (by first | rfl | assumption) ?_
      | refine AL.pickE (b' := true) (by rfl) (by rfl) (by rfl) (by rfl) (by first | rfl | assumption) ?_
      | refine AL.pickE (b' := false) (by rfl) (by rfl) (by rfl) (by rfl) (by first | rfl | assumption) ?_
      | refine AL.extract (by rfl) (by rfl) (by rfl) (by rfl) (by rfl) ?_
      | refine AL.boxD tyOk (by rfl) (by rfl) (by rfl) (Nat.le_of_ble_eq_true rfl) (by rfl) (by rfl) (by rfl) (by decide) (by rfl) ?_
      | refine AL.allocD tyOk (by rfl) (by rfl) (by rfl) (Nat.le_of_ble_eq_true rfl) (by rfl) (by rfl) (by decide) (by rfl) ?_
      | refine AL.indexN tyOk (by rfl) (by rfl) (by rfl) (by rfl) (by rfl) (by rfl) (by rfl) (by rfl) (by first | rfl | exact (Int.toNat_of_nonneg (by omega)).symm) (by omega) ?_
      | refine AL.indexSl tyOk (by rfl) (by rfl) (by rfl) (by rfl) (by rfl) (by rfl) (by rfl) (by rfl) (by constructor <;> omega) ?_
      | refine AL.indexArr tyOk (by rfl) (by rfl) (by rfl) (by rfl) (by rfl) (by rfl) (by constructor <;> omega) ?_
      | refine AL.makeD tyOk _ (by rfl) (by rfl) (by rfl) (Nat.le_of_ble_eq_true rfl) (by rfl) (by rfl) (by rfl) (by rfl) (by rfl) (by rfl) (by rfl) (by omega) (by omega) (by decide) (by rfl) ?_
      | refine AL.build (qs := []) tyOk (by rfl) (by rfl) (by rfl) (by rfl) (by rfl) (by exact PartsOk.nil) (by rfl) ?_
      | refine AL.build (qs := [(_, _)]) tyOk (by rfl) (by rfl) (by rfl) (by rfl) (by rfl) (by exact PartsOk.cons (by rfl) (by rfl) PartsOk.nil) (by rfl) ?_
      | refine AL.build (qs := [(_, _), (_, _)]) tyOk (by rfl) (by rfl) (by rfl) (by rfl) (by rfl) (by exact PartsOk.cons (by rfl) (by rfl) (PartsOk.cons (by rfl) (by rfl) PartsOk.nil)) (by rfl) ?_
      | refine AL.nilCheck (by rfl) (by rfl) (by rfl) (by rfl) ?_) | (first
          | refine AC.region ?_
          | refine AC.seq ?_
          | refine AC.block ?_
          | refine AC.ret ?_
          | refine AC.exit ?_
          | refine AC.skip ?_))
  refine AC.join ⟨[(1, .ptr 1 0 0), (2, .ptr 2 0 0), (3, .ptr 3 0 0)], [(1, boxR 24 2 [.lit (.int .i64 E), .ref 1000000 0 n]), (2, ⟨.own, false, 24, 2, 1, zrow [.lit (.int .i64 0), .sl 63 4], []⟩), (3, boxR 24 2 [.lit (.int .i64 E), .ref 9 0 n]), (9, ⟨.own, true, 63, 4, n, zrow [.lit (.bool false), .lit (.int .i64 0), .lit (.bool false), .lit (.int .i64 0)], []⟩), (1000000, ⟨.fro, false, e, 4, n, fun i r => pinC (ps i) r, []⟩)]⟩ ?_ ?_
  · refine AC.draw (by kernel_rfl) ?_
    refine AY.take 0 (by rfl) (by rfl) (by kernel_rfl) (by kernel_rfl) (by kernel_rfl) (fun c s h => by rcases h.1 with h | h <;> cases h) (by rfl) (by (first
        | exact Pure1.move (.inl (by rfl))
        | exact Pure1.move (.inr (by rfl))
        | exact Pure1.indexN tyOk (by rfl) (by rfl) (by rfl) (by rfl) (by rfl) (by rfl) (by first | rfl | exact (Int.toNat_of_nonneg (by omega)).symm) (by omega)
        | exact Pure1.fieldAddr tyOk (by rfl) (by rfl) (by rfl) (by rfl)
        | exact Pure1.len tyOk (by rfl) (by rfl) (by rfl)
        | exact Pure1.add (by rfl) (by rfl) (by rfl) (by constructor <;> omega)
        | exact Pure1.int2 (by rfl) (by rfl) (by rfl) (by rfl) (by first | trivial | decide | omega)
        | exact Pure1.not (by rfl) (by rfl))) ?_
    refine AY.take 2 (by rfl) (by rfl) (by kernel_rfl) (by kernel_rfl) (by kernel_rfl) (fun c s h => by rcases h.1 with h | h <;> cases h) (by rfl) (by (first
        | exact Pure1.move (.inl (by rfl))
        | exact Pure1.move (.inr (by rfl))
        | exact Pure1.indexN tyOk (by rfl) (by rfl) (by rfl) (by rfl) (by rfl) (by rfl) (by first | rfl | exact (Int.toNat_of_nonneg (by omega)).symm) (by omega)
        | exact Pure1.fieldAddr tyOk (by rfl) (by rfl) (by rfl) (by rfl)
        | exact Pure1.len tyOk (by rfl) (by rfl) (by rfl)
        | exact Pure1.add (by rfl) (by rfl) (by rfl) (by constructor <;> omega)
        | exact Pure1.int2 (by rfl) (by rfl) (by rfl) (by rfl) (by first | trivial | decide | omega)
        | exact Pure1.not (by rfl) (by rfl))) ?_
    repeat' (first
          | exact AYq.nil
          | refine AYq.skip (by decide +kernel) ?_
          | refine AYq.cons (by rfl) ?_ ?_
          | refine AY.stepA [0, 1, 2, 3, 4, 5, 6, 7, 8] (by kernel_rfl) (by decide +kernel) ?_
          | refine AY.done (by kernel_rfl) ?_
          | (first
              | (first
                  | refine AL.nil ?_
                  | refine AL.move (.inl (by rfl)) (by rfl) (by rfl) ?_
                  | refine AL.move (.inr (by rfl)) (by rfl) (by rfl) ?_
                  | refine AL.fieldAddr tyOk (by rfl) (by rfl) (by rfl) (by rfl) (by rfl) (by rfl) ?_
                  | refine AL.load1 tyOk (by rfl) (by rfl) (by rfl) (by rfl) (by rfl) (by rfl) (by rfl) (by first | exact Nat.le_of_ble_eq_true rfl | (dsimp only; omega) | omega | assumption) (by first | exact Nat.le_of_ble_eq_true rfl | (dsimp only; omega) | omega | assumption) (by rfl) ?_
                  | refine AL.loadAggE tyOk (by rfl) (by rfl) (by rfl) (by rfl) (by rfl) (by rfl) (by rfl) (by first | exact Nat.le_of_ble_eq_true rfl | (dsimp only; omega) | omega | assumption) (by first | exact Nat.le_of_ble_eq_true rfl | (dsimp only; omega) | omega | assumption) (by rfl) ?_
                  | refine AL.stor tyOk (by rfl) (by rfl) (by rfl) (by rfl) (by rfl) (by rfl) (by rfl) (by rfl) (by rfl) (by first | exact Nat.le_of_ble_eq_true rfl | (dsimp only; omega) | omega | assumption) (by first | exact Nat.le_of_ble_eq_true rfl | (dsimp only; omega) | omega | assumption) ?_
                  | refine AL.len (ty := 0) tyOk (by rfl) (by rfl) (by rfl) (by rfl) (by rfl) ?_
                  | refine AL.add (by rfl) (by rfl) (by rfl) (by rfl) (by rfl) (by constructor <;> omega) ?_
                  | refine AL.sub (by rfl) (by rfl) (by rfl) (by rfl) (by rfl) (by constructor <;> omega) ?_
                  | refine AL.mul (by rfl) (by rfl) (by rfl) (by rfl) (by rfl) (by constructor <;> omega) ?_
                  | refine AL.int2 (by rfl) (by rfl) (by rfl) (by rfl) (by rfl) (by rfl) (by first | trivial | decide | omega) ?_
                  | refine AL.bEq (by rfl) (by rfl) (by rfl) (by rfl) (by rfl) Try.underlying4 ?_
                  | refine AL.bNe (by rfl) (by rfl) (by rfl) (by rfl) (by rfl) Try.underlying4 ?_
                  | refine AL.not (by rfl) (by rfl) (by rfl) (by rfl) ?_
                  | refine AL.gOnE (by rfl) (by rfl) (by rfl) (by rfl) (by decide) (by first | rfl | assumption) ?_
                  | refine AL.gOffE (by rfl) (by rfl) (by rfl) (by rfl) (by rfl) (by decide) (by first | rfl | assumption) ?_
                  | refine AL.pickE (b' := true) (by rfl) (by rfl) (by rfl) (by rfl) (by first | rfl | assumption) ?_
                  | refine AL.pickE (b' := false) (by rfl) (by rfl) (by rfl) (by rfl) (by first | rfl | assumption) ?_
                  | refine AL.extract (by rfl) (by rfl) (by rfl) (by rfl) (by rfl) ?_
                  | refine AL.boxD tyOk (by rfl) (by rfl) (by rfl) (Nat.le_of_ble_eq_true rfl) (by rfl) (by rfl) (by rfl) (by decide) (by rfl) ?_
                  | refine AL.allocD tyOk (by rfl) (by rfl) (by rfl) (Nat.le_of_ble_eq_true rfl) (by rfl) (by rfl) (by decide) (by rfl) ?_
                  | refine AL.indexN tyOk (by rfl) (by rfl) (by rfl) (by rfl) (by rfl) (by rfl) (by rfl) (by rfl) (by first | rfl | exact (Int.toNat_of_nonneg (by omega)).symm) (by omega) ?_
                  | refine AL.indexSl tyOk (by rfl) (by rfl) (by rfl) (by rfl) (by rfl) (by rfl) (by rfl) (by rfl) (by constructor <;> omega) ?_
                  | refine AL.indexArr tyOk (by rfl) (by rfl) (by rfl) (by rfl) (by rfl) (by rfl) (by constructor <;> omega) ?_
                  | refine AL.makeD tyOk _ (by rfl) (by rfl) (by rfl) (Nat.le_of_ble_eq_true rfl) (by rfl) (by rfl) (by rfl) (by rfl) (by rfl) (by rfl) (by rfl) (by omega) (by omega) (by decide) (by rfl) ?_
                  | refine AL.build (qs := []) tyOk (by rfl) (by rfl) (by rfl) (by rfl) (by rfl) (by exact PartsOk.nil) (by rfl) ?_
                  | refine AL.build (qs := [(_, _)]) tyOk (by rfl) (by rfl) (by rfl) (by rfl) (by rfl) (by exact PartsOk.cons (by rfl) (by rfl) PartsOk.nil) (by rfl) ?_
                  | refine AL.build (qs := [(_, _), (_, _)]) tyOk (by rfl) (by rfl) (by rfl) (by rfl) (by rfl) (by exact PartsOk.cons (by rfl) (by rfl) (PartsOk.cons (by rfl) (by rfl) PartsOk.nil)) (by rfl) ?_
                  | refine AL.nilCheck (by rfl) (by rfl) (by rfl) (by rfl) ?_)
              | refine AL.buildSl0D tyOk (by rfl) (by rfl) (by rfl) (by rfl) (Nat.le_of_ble_eq_true rfl) (by rfl) (by decide) (by rfl) ?_
              | refine AL.copyN tyOk (by rfl) (by rfl) (by rfl) (by rfl) (by rfl) (by rfl) (by rfl) (by rfl) (by rfl) (by rfl) (by rfl) (by rfl) (by rfl) ?_
              | refine AL.append0 tyOk (by rfl) (by rfl) (by rfl) (by rfl) (by rfl) (by rfl) (by rfl) (by rfl) (by rfl) (by rfl) (by rfl) (by rfl) (by rfl) (by rfl) (by rfl) (okK_lt (by decide)) (by first | omega | (dsimp only; omega) | (unfold maxLen; dsimp only; omega)) (by first | omega | (dsimp only; omega) | (unfold maxLen; dsimp only; omega)) ?_
              | refine AL.appendL tyOk (by rfl) (by rfl) (by rfl) (by rfl) (by rfl) (by rfl) (by rfl) (by rfl) (by rfl) (by rfl) (by rfl) (by rfl) (by rfl) (by rfl) (by rfl) (fun _ _ _ _ => rfl) (okK_lt (by decide)) (by first | omega | (dsimp only; omega) | (unfold maxLen; dsimp only; omega)) (by first | omega | (dsimp only; omega) | (unfold maxLen; dsimp only; omega)) ?_))
    all_goals refine St.le.sub ?_ ?_ (by rfl) (by rfl)
    all_goals first | exact And.intro rfl (And.intro rfl (And.intro rfl trivial)) | exact And.intro ⟨_, rfl, RSame.rfl _⟩ (And.intro ⟨_, rfl, RSame.rfl _⟩ (And.intro ⟨_, rfl, ⟨rfl, (fun h => by cases h), rfl, rfl, fun i r hi hr => (by obtain rfl : i = 0 := Nat.lt_one_iff.1 hi; rcases r with _ | _ | r; rfl; rfl; exact absurd hr (by show ¬ r + 1 + 1 < 2; omega))⟩⟩ (And.intro ⟨_, rfl, RSame.rfl _⟩ (And.intro ⟨_, rfl, RSame.rfl _⟩ trivial))))
  · repeat (first | (first
      | (first
          | refine AL.nil ?_
          | refine AL.move (.inl (by rfl)) (by rfl) (by rfl) ?_
          | refine AL.move (.inr (by rfl)) (by rfl) (by rfl) ?_
          | refine AL.fieldAddr tyOk (by rfl) (by rfl) (by rfl) (by rfl) (by rfl) (by rfl) ?_
          | refine AL.load1 tyOk (by rfl) (by rfl) (by rfl) (by rfl) (by rfl) (by rfl) (by rfl) (by first | exact Nat.le_of_ble_eq_true rfl | (dsimp only; omega) | omega | assumption) (by first | exact Nat.le_of_ble_eq_true rfl | (dsimp only; omega) | omega | assumption) (by rfl) ?_
          | refine AL.loadAggE tyOk (by rfl) (by rfl) (by rfl) (by rfl) (by rfl) (by rfl) (by rfl) (by first | exact Nat.le_of_ble_eq_true rfl | (dsimp only; omega) | omega | assumption) (by first | exact Nat.le_of_ble_eq_true rfl | (dsimp only; omega) | omega | assumption) (by rfl) ?_
          | refine AL.stor tyOk (by rfl) (by rfl) (by rfl) (by rfl) (by rfl) (by rfl) (by rfl) (by rfl) (by rfl) (by first | exact Nat.le_of_ble_eq_true rfl | (dsimp only; omega) | omega | assumption) (by first | exact Nat.le_of_ble_eq_true rfl | (dsimp only; omega) | omega | assumption) ?_
          | refine AL.len (ty := 0) tyOk (by rfl) (by rfl) (by rfl) (by rfl) (by rfl) ?_
          | refine AL.add (by rfl) (by rfl) (by rfl) (by rfl) (by rfl) (by constructor <;> omega) ?_
          | refine AL.sub (by rfl) (by rfl) (by rfl) (by rfl) (by rfl) (by constructor <;> omega) ?_
          | refine AL.mul (by rfl) (by rfl) (by rfl) (by rfl) (by rfl) (by constructor <;> omega) ?_
          | refine AL.int2 (by rfl) (by rfl) (by rfl) (by rfl) (by rfl) (by rfl) (by first | trivial | decide | omega) ?_
          | refine AL.bEq (by rfl) (by rfl) (by rfl) (by rfl) (by rfl) Try.underlying4 ?_
          | refine AL.bNe (by rfl) (by rfl) (by rfl) (by rfl) (by rfl) Try.underlying4 ?_
          | refine AL.not (by rfl) (by rfl) (by rfl) (by rfl) ?_
          | refine AL.gOnE (by rfl) (by rfl) (by rfl) (by rfl) (by decide) (by first | rfl | assumption) ?_
          | refine AL.gOffE (by rfl) (by rfl) (by rfl) (by rfl) (by rfl) (by decide) (by first | rfl | assumption) ?_
          | refine AL.pickE (b' := true) (by rfl) (by rfl) (by rfl) (by rfl) (by first | rfl | assumption) ?_
          | refine AL.pickE (b' := false) (by rfl) (by rfl) (by rfl) (by rfl) (by first | rfl | assumption) ?_
          | refine AL.extract (by rfl) (by rfl) (by rfl) (by rfl) (by rfl) ?_
          | refine AL.boxD tyOk (by rfl) (by rfl) (by rfl) (Nat.le_of_ble_eq_true rfl) (by rfl) (by rfl) (by rfl) (by decide) (by rfl) ?_
          | refine AL.allocD tyOk (by rfl) (by rfl) (by rfl) (Nat.le_of_ble_eq_true rfl) (by rfl) (by rfl) (by decide) (by rfl) ?_
          | refine AL.indexN tyOk (by rfl) (by rfl) (by rfl) (by rfl) (by rfl) (by rfl) (by rfl) (by rfl) (by first | rfl | exact (Int.toNat_of_nonneg (by omega)).symm) (by omega) ?_
          | refine AL.indexSl tyOk (by rfl) (by rfl) (by rfl) (by rfl) (by rfl) (by rfl) (by rfl) (by rfl) (by constructor <;> omega) ?_
          | refine AL.indexArr tyOk (by rfl) (by rfl) (by rfl) (by rfl) (by rfl) (by rfl) (by constructor <;> omega) ?_
          | refine AL.makeD tyOk _ (by rfl) (by rfl) (by rfl) (Nat.le_of_ble_eq_true rfl) (by rfl) (by rfl) (by rfl) (by rfl) (by rfl) (by rfl) (by rfl) (by omega) (by omega) (by decide) (by rfl) ?_
          | refine AL.build (qs := []) tyOk (by rfl) (by rfl) (by rfl) (by rfl) (by rfl) (by exact PartsOk.nil) (by rfl) ?_
          | refine AL.build (qs := [(_, _)]) tyOk (by rfl) (by rfl) (by rfl) (by rfl) (by rfl) (by exact PartsOk.cons (by rfl) (by rfl) PartsOk.nil) (by rfl) ?_
          | refine AL.build (qs := [(_, _), (_, _)]) tyOk (by rfl) (by rfl) (by rfl) (by rfl) (by rfl) (by exact PartsOk.cons (by rfl) (by rfl) (PartsOk.cons (by rfl) (by rfl) PartsOk.nil)) (by rfl) ?_
          | refine AL.nilCheck (by rfl) (by rfl) (by rfl) (by rfl) ?_)
      | refine AL.buildSl0D tyOk (by rfl) (by rfl) (by rfl) (by rfl) (Nat.le_of_ble_eq_true rfl) (by rfl) (by decide) (by rfl) ?_
      | refine AL.copyN tyOk (by rfl) (by rfl) (by rfl) (by rfl) (by rfl) (by rfl) (by rfl) (by rfl) (by rfl) (by rfl) (by rfl) (by rfl) (by rfl) ?_
      | refine AL.append0 tyOk (by rfl) (by rfl) (by rfl) (by rfl) (by rfl) (by rfl) (by rfl) (by rfl) (by rfl) (by rfl) (by rfl) (by rfl) (by rfl) (by rfl) (by rfl) (okK_lt (by decide)) (by first | omega | (dsimp only; omega) | (unfold maxLen; dsimp only; omega)) (by first | omega | (dsimp only; omega) | (unfold maxLen; dsimp only; omega)) ?_
      | refine AL.appendL tyOk (by rfl) (by rfl) (by rfl) (by rfl) (by rfl) (by rfl) (by rfl) (by rfl) (by rfl) (by rfl) (by rfl) (by rfl) (by rfl) (by rfl) (by rfl) (fun _ _ _ _ => rfl) (okK_lt (by decide)) (by first | omega | (dsimp only; omega) | (unfold maxLen; dsimp only; omega)) (by first | omega | (dsimp only; omega) | (unfold maxLen; dsimp only; omega)) ?_) | (first
          | refine AC.region ?_
          | refine AC.seq ?_
          | refine AC.block ?_
          | refine AC.exit ?_
          | refine AC.skip ?_))
    refine AC.le (St.le.sub (σ' := ⟨[(2, .ptr 2 0 0)], [(2, boxR 24 2 [.lit (.int .i64 E), .ref 9 0 n]), (9, ⟨.own, true, 63, 4, n, fun i r => pinC (ps i) r, []⟩)]⟩) ?_ ?_ (by rfl) (by rfl)) ?_
    · exact And.intro rfl trivial
    · exact And.intro ⟨_, rfl, ⟨rfl, (fun h => by cases h), rfl, rfl, fun i r hi hr => (by obtain rfl : i = 0 := Nat.lt_one_iff.1 hi; rcases r with _ | _ | r; rfl; rfl; exact absurd hr (by show ¬ r + 1 + 1 < 2; omega))⟩⟩ (And.intro ⟨_, rfl, ⟨rfl, (fun _ => And.intro rfl rfl), rfl, rfl, fun i r hi hr => (by show Cl.cl (pinC (ps i) r) = Cl.cl (if i < n then flat (pinC (ps (0 + i)) r) else _); rw [if_pos hi, flat_pinC, Nat.zero_add])⟩⟩ trivial)
    refine AC.ret ?_
    refine And.intro (by first | exact .inr rfl | exact .inl rfl) (And.intro (by repeat (first | exact trivial | exact Nat.le_of_ble_eq_true rfl | rfl | exact ⟨_, rfl, rfl, Nat.le_refl _, rfl⟩ | refine And.intro ?_ ?_)) (And.intro (by rfl) (And.intro (by rfl) (And.intro (by repeat (first | exact trivial | exact Nat.le_of_ble_eq_true rfl | rfl | exact ⟨_, rfl, rfl, Nat.le_refl _, rfl⟩ | refine And.intro ?_ ?_)) (And.intro (by repeat (first | exact trivial | exact Nat.le_of_ble_eq_true rfl | rfl | exact ⟨_, rfl, rfl, Nat.le_refl _, rfl⟩ | refine And.intro ?_ ?_)) ?_)))))
    exact And.intro rfl rfl
end Go.Proofs.Ytbdegnamlmabbab
