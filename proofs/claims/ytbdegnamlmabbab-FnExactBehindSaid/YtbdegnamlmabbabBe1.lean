/- Contracts over clocks: the workers whose pins are behind, in the first package. -/
import Derived.Test.YtbdegnamlmabbabCk8
import Derived.Test.YtbdegnamlmabbabTre
namespace Go.Proofs.Ytbdegnamlmabbab
open Go Go.Tr
set_option linter.unusedVariables false
set_option linter.unusedSimpArgs false
set_option maxRecDepth 100000
set_option maxHeartbeats 4000000

/-- The first i numbers: m of them have p, at the places f. -/
inductive Hp (p : Nat → Bool) : Nat → Nat → (Nat → Int) → Prop
  | zero (f : Nat → Int) : Hp p 0 0 f
  | skip {i m : Nat} {f : Nat → Int} : Hp p i m f → p i = false → Hp p (i + 1) m f
  | take {i m : Nat} {f : Nat → Int} : Hp p i m f → p i = true → Hp p (i + 1) (m + 1) (fun q => if q < m then f q else (i : Int))
theorem Hp.le {p : Nat → Bool} {i m : Nat} {f : Nat → Int} (k : Hp p i m f) : m ≤ i := by
  induction k <;> omega
theorem Hp.det {p : Nat → Bool} : ∀ {i m m' : Nat} {f f' : Nat → Int}, Hp p i m f → Hp p i m' f' → m = m' ∧ ∀ q, q < m → f q = f' q := by
  intro i
  induction i with
  | zero => intro m m' f f' h1 h2; cases h1; cases h2; exact ⟨rfl, fun q hq => by omega⟩
  | succ i ih =>
    intro m m' f f' h1 h2
    cases h1 with
    | skip a1 b1 =>
      cases h2 with
      | skip a2 b2 => exact ih a1 a2
      | take a2 b2 => rw [b1] at b2; cases b2
    | take a1 b1 =>
      cases h2 with
      | skip a2 b2 => rw [b1] at b2; cases b2
      | take a2 b2 =>
        obtain ⟨e1, e2⟩ := ih a1 a2
        subst e1
        refine ⟨rfl, fun q hq => ?_⟩
        show (if _ then _ else _) = (if _ then _ else _)
        split
        · rename_i hlt; exact e2 q hlt
        · rfl
/-- Whether a pin is behind. -/
def bhB (E : Int) (p : Pn) : Bool := p.1 && (!p.2.2.1) && decide (p.2.1 < E)
/-- What Behind gives: m workers, at f. -/
def BhA (E : Int) (n : Nat) (ps : Nat → Pn) (m : Nat) (f : Nat → Int) : Prop := (ckOk E n ps ∧ Hp (fun i => bhB E (ps i)) n m f) ∨ (¬ ckOk E n ps ∧ m = 0)
theorem BhA.det {E : Int} {n : Nat} {ps : Nat → Pn} {m m' : Nat} {f f' : Nat → Int} (a : BhA E n ps m f) (b : BhA E n ps m' f') : m = m' ∧ ∀ q, q < m → f q = f' q := by
  rcases a with ⟨a1, a3⟩ | ⟨a1, a2⟩ <;> rcases b with ⟨b1, b3⟩ | ⟨b1, b2⟩
  · exact a3.det b3
  · exact absurd a1 b1
  · exact absurd b1 a1
  · exact ⟨by omega, fun q hq => by omega⟩
theorem BhA.le {E : Int} {n : Nat} {ps : Nat → Pn} {m : Nat} {f : Nat → Int} (a : BhA E n ps m f) (hn : n ≤ 1048576) : m ≤ 1048576 := by
  rcases a with ⟨a1, a3⟩ | ⟨a1, a2⟩
  · have := a3.le; omega
  · omega
theorem bh_row {m : Nat} {f : Nat → Int} {x : Int} {R : Root} {q r : Nat} (hr : r < 1) (hq : q < m + 1) (hR : R.op = []) (hrow : R.row q r = .lit (.int .i64 (f q))) :
    Cl.cl (.lit (.int .i64 (if q < m then f q else x))) = (R.wrL m 0 [.cl (.lit (.int .i64 x))]).get q r := by
  by_cases h : q = m
  · subst h
    rw [get_wrL_eq _ _ _ ⟨Nat.zero_le _, hr⟩, if_neg (by omega)]
    rcases r with _ | r <;> first | rfl | omega
  · rw [get_wrL_ne h, if_pos (by omega)]
    unfold Root.get; rw [hR, ← hrow]; rfl

theorem sBehind_run (E : Int) (n e : Nat) (ps : Nat → Pn) (row : Nat → Nat → C) (hrow : ∀ i r, i < n → r < 4 → row i r = pinC (ps i) r) (hn : n ≤ 1048576) :
    Run Try.prog 32 [.agg [.c (.lit (.int .i64 E)), .c (.sl .fro e 4 n row)]] [] fun outs ext => ∃ m f, outs = [.one (.sl .own 3 1 m fun i r => .lit (.int .i64 (f i)))] ∧ BhA E n ps m f ∧ ext = [] := by
  refine Run.of_body tyOk Try.func32 (by rfl) (Nat.le_of_ble_eq_true rfl) (by simp [argsOk, aasOk, aaOk]) [] rfl (fun F hF => ?_)
  (
      refine AC.le (St.le.sub (σ' := ⟨[(0, .agg [.lit (.int .i64 E), .ref 1000000 0 n])], [(1000000, ⟨.fro, false, e, 4, n, fun i r => pinC (ps i) r, []⟩)]⟩) (And.intro rfl trivial) (And.intro ⟨_, rfl, ⟨rfl, (fun h => by cases h), rfl, rfl, fun i r hi hr => congrArg Cl.cl (hrow i r hi hr).symm⟩⟩ trivial) (by rfl) (by rfl)) ?_)
  repeat (first | (first | (first | refine AL.nil ?_ | refine AL.move (.inl (by rfl)) (by rfl) (by rfl) ?_ | refine AL.move (.inr (by rfl)) (by rfl) (by rfl) ?_ | refine AL.fieldAddr tyOk (by rfl) (by rfl) (by rfl) (by rfl) (by rfl) (by rfl) ?_ | refine AL.load1 tyOk (by rfl) (by rfl) (by rfl) (by rfl) (by rfl) (by rfl) (by rfl) (by first | exact Nat.le_of_ble_eq_true rfl | (dsimp only; omega) | omega | assumption | (simp only [openR]; omega) | exact Nat.lt_of_lt_of_le (m := 3) (by omega) (Nat.le_of_ble_eq_true rfl)) (by first | exact Nat.le_of_ble_eq_true rfl | (dsimp only; omega) | omega | assumption | (simp only [openR]; omega) | exact Nat.lt_of_lt_of_le (m := 3) (by omega) (Nat.le_of_ble_eq_true rfl)) (by rfl) ?_ | refine AL.loadAggE tyOk (by rfl) (by rfl) (by rfl) (by rfl) (by rfl) (by rfl) (by rfl) (by first | exact Nat.le_of_ble_eq_true rfl | (dsimp only; omega) | omega | assumption | (simp only [openR]; omega) | exact Nat.lt_of_lt_of_le (m := 3) (by omega) (Nat.le_of_ble_eq_true rfl)) (by first | exact Nat.le_of_ble_eq_true rfl | (dsimp only; omega) | omega | assumption | (simp only [openR]; omega) | exact Nat.lt_of_lt_of_le (m := 3) (by omega) (Nat.le_of_ble_eq_true rfl)) (by rfl) ?_ | refine AL.stor tyOk (by rfl) (by rfl) (by rfl) (by rfl) (by rfl) (by rfl) (by rfl) (by rfl) (by rfl) (by first | exact Nat.le_of_ble_eq_true rfl | (dsimp only; omega) | omega | assumption | (simp only [openR]; omega) | exact Nat.lt_of_lt_of_le (m := 3) (by omega) (Nat.le_of_ble_eq_true rfl)) (by first | exact Nat.le_of_ble_eq_true rfl | (dsimp only; omega) | omega | assumption | (simp only [openR]; omega) | exact Nat.lt_of_lt_of_le (m := 3) (by omega) (Nat.le_of_ble_eq_true rfl)) ?_ | refine AL.len (ty := 0) tyOk (by rfl) (by rfl) (by rfl) (by rfl) (by rfl) ?_ | refine AL.add (by rfl) (by rfl) (by rfl) (by rfl) (by rfl) (by constructor <;> omega) ?_ | refine AL.sub (by rfl) (by rfl) (by rfl) (by rfl) (by rfl) (by constructor <;> omega) ?_ | refine AL.mul (by rfl) (by rfl) (by rfl) (by rfl) (by rfl) (by constructor <;> omega) ?_ | refine AL.int2 (by rfl) (by rfl) (by rfl) (by rfl) (by rfl) (by rfl) (by first | trivial | decide | omega) ?_ | refine AL.bEq (by rfl) (by rfl) (by rfl) (by rfl) (by rfl) Try.underlying4 ?_ | refine AL.bNe (by rfl) (by rfl) (by rfl) (by rfl) (by rfl) Try.underlying4 ?_ | refine AL.not (by rfl) (by rfl) (by rfl) (by rfl) ?_ | refine AL.gOnE (by rfl) (by rfl) (by rfl) (by rfl) (by decide) (by first | rfl | assumption) ?_ | refine AL.gOffE (by rfl) (by rfl) (by rfl) (by rfl) (by rfl) (by decide) (by first | rfl | assumption) ?_ | refine AL.pickE (b' := true) (by rfl) (by rfl) (by rfl) (by rfl) (by first | rfl | assumption) ?_ | refine AL.pickE (b' := false) (by rfl) (by rfl) (by rfl) (by rfl) (by first | rfl | assumption) ?_ | refine AL.extract (by rfl) (by rfl) (by rfl) (by rfl) (by rfl) ?_ | refine AL.boxD tyOk (by rfl) (by rfl) (by rfl) (Nat.le_of_ble_eq_true rfl) (by rfl) (by rfl) (by rfl) (by decide) (by rfl) ?_ | refine AL.allocD tyOk (by rfl) (by rfl) (by rfl) (Nat.le_of_ble_eq_true rfl) (by rfl) (by rfl) (by decide) (by rfl) ?_ | refine AL.indexN tyOk (by rfl) (by rfl) (by rfl) (by rfl) (by rfl) (by rfl) (by rfl) (by rfl) (by first | rfl | exact (Int.toNat_of_nonneg (by omega)).symm) (by omega) ?_ | refine AL.indexSl tyOk (by rfl) (by rfl) (by rfl) (by rfl) (by rfl) (by rfl) (by rfl) (by rfl) (by constructor <;> omega) ?_ | refine AL.indexArr tyOk (by rfl) (by rfl) (by rfl) (by rfl) (by rfl) (by rfl) (by constructor <;> omega) ?_ | refine AL.makeD tyOk _ (by rfl) (by rfl) (by rfl) (Nat.le_of_ble_eq_true rfl) (by rfl) (by rfl) (by rfl) (by rfl) (by rfl) (by rfl) (by rfl) (by omega) (by omega) (by decide) (by rfl) ?_ | refine AL.build (qs := []) tyOk (by rfl) (by rfl) (by rfl) (by rfl) (by rfl) (by exact PartsOk.nil) (by rfl) ?_ | refine AL.build (qs := [(_, _)]) tyOk (by rfl) (by rfl) (by rfl) (by rfl) (by rfl) (by exact PartsOk.cons (by rfl) (by rfl) PartsOk.nil) (by rfl) ?_ | refine AL.build (qs := [(_, _), (_, _)]) tyOk (by rfl) (by rfl) (by rfl) (by rfl) (by rfl) (by exact PartsOk.cons (by rfl) (by rfl) (PartsOk.cons (by rfl) (by rfl) PartsOk.nil)) (by rfl) ?_ | refine AL.nilCheck (by rfl) (by rfl) (by rfl) (by rfl) ?_) | refine AL.buildSl0D tyOk (by rfl) (by rfl) (by rfl) (by rfl) (Nat.le_of_ble_eq_true rfl) (by rfl) (by decide) (by rfl) ?_ | refine AL.copyN tyOk (by rfl) (by rfl) (by rfl) (by rfl) (by rfl) (by rfl) (by rfl) (by rfl) (by rfl) (by rfl) (by rfl) (by rfl) (by rfl) ?_ | refine AL.append0 tyOk (by rfl) (by rfl) (by rfl) (by rfl) (by rfl) (by rfl) (by rfl) (by rfl) (by rfl) (by rfl) (by rfl) (by rfl) (by rfl) (by rfl) (by rfl) (okK_lt (by decide)) (by first | omega | (dsimp only; omega) | (unfold maxLen; dsimp only; omega)) (by first | omega | (dsimp only; omega) | (unfold maxLen; dsimp only; omega)) ?_ | refine AL.appendL tyOk (by rfl) (by rfl) (by rfl) (by rfl) (by rfl) (by rfl) (by rfl) (by rfl) (by rfl) (by rfl) (by rfl) (by rfl) (by rfl) (by rfl) (by rfl) (fun _ _ _ _ => rfl) (okK_lt (by decide)) (by first | omega | (dsimp only; omega) | (unfold maxLen; dsimp only; omega)) (by first | omega | (dsimp only; omega) | (unfold maxLen; dsimp only; omega)) ?_) | (first | refine AC.region ?_ | refine AC.seq ?_ | refine AC.block ?_ | refine AC.ret ?_ | refine AC.exit ?_ | refine AC.skip ?_))
  refine AC.loop3 (fun i m f => ⟨[(1, .ptr 1 0 0), (3, .a (.ref 5 0 m)), (4, .a (.lit (.int .i64 (i : Nat))))], [(1, boxR 24 2 [.lit (.int .i64 E), .ref 1000000 0 n]), (1000000, ⟨.fro, false, e, 4, n, fun i r => pinC (ps i) r, []⟩), (5, ⟨.own, true, 3, 1, m, fun i r => .lit (.int .i64 (f i)), []⟩)]⟩) (fun i m f => i ≤ 3 ∧ Hp (fun i => bhB E (ps i)) i m f ∧ (0 < i → ckOk E n ps)) (fun i => 3 - i) 0 0 (fun _ => 0) ⟨Nat.zero_le _, .zero _, fun h => by omega⟩ (St.le.sub ?_ ?_ (by rfl) (by rfl)) (fun i m f ⟨hi, hb, hk⟩ => ?_)
  · exact And.intro rfl (And.intro rfl (And.intro rfl trivial))
  · exact And.intro ⟨_, rfl, ⟨rfl, (fun h => by cases h), rfl, rfl, fun i r hi hr => (by obtain rfl : i = 0 := Nat.lt_one_iff.1 hi; rcases r with _ | _ | r; rfl; rfl; exact absurd hr (by show ¬ r + 1 + 1 < 2; omega))⟩⟩ (And.intro ⟨_, rfl, RSame.rfl _⟩ (And.intro ⟨_, rfl, ⟨rfl, (fun _ => And.intro rfl rfl), rfl, rfl, fun i r hi hr => absurd hi (Nat.not_lt_zero _)⟩⟩ trivial))
  repeat (first | (first
      | refine AL.nil ?_
      | refine AL.move (.inl (by rfl)) (by rfl) (by rfl) ?_
      | refine AL.move (.inr (by rfl)) (by rfl) (by rfl) ?_
      | refine AL.fieldAddr tyOk (by rfl) (by rfl) (by rfl) (by rfl) (by rfl) (by rfl) ?_
      | refine AL.load1 tyOk (by rfl) (by rfl) (by rfl) (by rfl) (by rfl) (by rfl) (by rfl) (by first | exact Nat.le_of_ble_eq_true rfl | (dsimp only; omega) | omega | assumption | (simp only [openR]; omega) | exact Nat.lt_of_lt_of_le (m := 3) (by omega) (Nat.le_of_ble_eq_true rfl)) (by first | exact Nat.le_of_ble_eq_true rfl | (dsimp only; omega) | omega | assumption | (simp only [openR]; omega) | exact Nat.lt_of_lt_of_le (m := 3) (by omega) (Nat.le_of_ble_eq_true rfl)) (by rfl) ?_
      | refine AL.loadAggE tyOk (by rfl) (by rfl) (by rfl) (by rfl) (by rfl) (by rfl) (by rfl) (by first | exact Nat.le_of_ble_eq_true rfl | (dsimp only; omega) | omega | assumption | (simp only [openR]; omega) | exact Nat.lt_of_lt_of_le (m := 3) (by omega) (Nat.le_of_ble_eq_true rfl)) (by first | exact Nat.le_of_ble_eq_true rfl | (dsimp only; omega) | omega | assumption | (simp only [openR]; omega) | exact Nat.lt_of_lt_of_le (m := 3) (by omega) (Nat.le_of_ble_eq_true rfl)) (by rfl) ?_
      | refine AL.stor tyOk (by rfl) (by rfl) (by rfl) (by rfl) (by rfl) (by rfl) (by rfl) (by rfl) (by rfl) (by first | exact Nat.le_of_ble_eq_true rfl | (dsimp only; omega) | omega | assumption | (simp only [openR]; omega) | exact Nat.lt_of_lt_of_le (m := 3) (by omega) (Nat.le_of_ble_eq_true rfl)) (by first | exact Nat.le_of_ble_eq_true rfl | (dsimp only; omega) | omega | assumption | (simp only [openR]; omega) | exact Nat.lt_of_lt_of_le (m := 3) (by omega) (Nat.le_of_ble_eq_true rfl)) ?_
      | refine AL.len (ty := 0) tyOk (by rfl) (by rfl) (by rfl) (by rfl) (by rfl) ?_
      | refine AL.add (by rfl) (by rfl) (by rfl) (by rfl) (by rfl) (by constructor <;> omega) ?_
      | refine AL.int2 (by rfl) (by rfl) (by rfl) (by rfl) (by rfl) (by rfl) (by first | trivial | decide | omega) ?_
      | refine AL.not (by rfl) (by rfl) (by rfl) (by rfl) ?_
      | refine AL.gOnE (by rfl) (by rfl) (by rfl) (by rfl) (by decide) (by first | rfl | assumption) ?_
      | refine AL.gOffE (by rfl) (by rfl) (by rfl) (by rfl) (by rfl) (by decide) (by first | rfl | assumption) ?_
      | refine AL.pickE (b' := true) (by rfl) (by rfl) (by rfl) (by rfl) (by first | rfl | assumption) ?_
      | refine AL.pickE (b' := false) (by rfl) (by rfl) (by rfl) (by rfl) (by first | rfl | assumption) ?_
      | refine AL.extract (by rfl) (by rfl) (by rfl) (by rfl) (by rfl) ?_
      | refine AL.boxD tyOk (by rfl) (by rfl) (by rfl) (Nat.le_of_ble_eq_true rfl) (by rfl) (by rfl) (by rfl) (by decide) (by rfl) ?_
      | refine AL.allocD tyOk (by rfl) (by rfl) (by rfl) (Nat.le_of_ble_eq_true rfl) (by rfl) (by rfl) (by decide) (by rfl) ?_
      | refine AL.indexN tyOk (by rfl) (by rfl) (by rfl) (by rfl) (by rfl) (by rfl) (by rfl) (by rfl) (by first | rfl | exact (Int.toNat_of_nonneg (by omega)).symm) (by omega) ?_
      | refine AL.nilCheck (by rfl) (by rfl) (by rfl) (by rfl) ?_) | (first | refine AC.region ?_ | refine AC.seq ?_ | refine AC.block ?_ | refine AC.ret ?_ | refine AC.exit ?_ | refine AC.skip ?_))
  refine AL.gSplit (by rfl) (by rfl) (by rfl) (by rfl) (by rfl) (Nat.le_of_ble_eq_true rfl) (fun h1 => ?_) (fun h1 => ?_)
  rotate_left
  · have h1 : ¬ i < 3 := by simp at h1; omega
    have e1 : i = 3 := by omega
    subst e1
    repeat (first | (first
        | refine AL.nil ?_
        | refine AL.move (.inl (by rfl)) (by rfl) (by rfl) ?_
        | refine AL.move (.inr (by rfl)) (by rfl) (by rfl) ?_
        | refine AL.fieldAddr tyOk (by rfl) (by rfl) (by rfl) (by rfl) (by rfl) (by rfl) ?_
        | refine AL.load1 tyOk (by rfl) (by rfl) (by rfl) (by rfl) (by rfl) (by rfl) (by rfl) (by first | exact Nat.le_of_ble_eq_true rfl | (dsimp only; omega) | omega | assumption | (simp only [openR]; omega) | exact Nat.lt_of_lt_of_le (m := 3) (by omega) (Nat.le_of_ble_eq_true rfl)) (by first | exact Nat.le_of_ble_eq_true rfl | (dsimp only; omega) | omega | assumption | (simp only [openR]; omega) | exact Nat.lt_of_lt_of_le (m := 3) (by omega) (Nat.le_of_ble_eq_true rfl)) (by rfl) ?_
        | refine AL.loadAggE tyOk (by rfl) (by rfl) (by rfl) (by rfl) (by rfl) (by rfl) (by rfl) (by first | exact Nat.le_of_ble_eq_true rfl | (dsimp only; omega) | omega | assumption | (simp only [openR]; omega) | exact Nat.lt_of_lt_of_le (m := 3) (by omega) (Nat.le_of_ble_eq_true rfl)) (by first | exact Nat.le_of_ble_eq_true rfl | (dsimp only; omega) | omega | assumption | (simp only [openR]; omega) | exact Nat.lt_of_lt_of_le (m := 3) (by omega) (Nat.le_of_ble_eq_true rfl)) (by rfl) ?_
        | refine AL.stor tyOk (by rfl) (by rfl) (by rfl) (by rfl) (by rfl) (by rfl) (by rfl) (by rfl) (by rfl) (by first | exact Nat.le_of_ble_eq_true rfl | (dsimp only; omega) | omega | assumption | (simp only [openR]; omega) | exact Nat.lt_of_lt_of_le (m := 3) (by omega) (Nat.le_of_ble_eq_true rfl)) (by first | exact Nat.le_of_ble_eq_true rfl | (dsimp only; omega) | omega | assumption | (simp only [openR]; omega) | exact Nat.lt_of_lt_of_le (m := 3) (by omega) (Nat.le_of_ble_eq_true rfl)) ?_
        | refine AL.len (ty := 0) tyOk (by rfl) (by rfl) (by rfl) (by rfl) (by rfl) ?_
        | refine AL.add (by rfl) (by rfl) (by rfl) (by rfl) (by rfl) (by constructor <;> omega) ?_
        | refine AL.int2 (by rfl) (by rfl) (by rfl) (by rfl) (by rfl) (by rfl) (by first | trivial | decide | omega) ?_
        | refine AL.not (by rfl) (by rfl) (by rfl) (by rfl) ?_
        | refine AL.gOnE (by rfl) (by rfl) (by rfl) (by rfl) (by decide) (by first | rfl | assumption) ?_
        | refine AL.gOffE (by rfl) (by rfl) (by rfl) (by rfl) (by rfl) (by decide) (by first | rfl | assumption) ?_
        | refine AL.pickE (b' := true) (by rfl) (by rfl) (by rfl) (by rfl) (by first | rfl | assumption) ?_
        | refine AL.pickE (b' := false) (by rfl) (by rfl) (by rfl) (by rfl) (by first | rfl | assumption) ?_
        | refine AL.extract (by rfl) (by rfl) (by rfl) (by rfl) (by rfl) ?_
        | refine AL.boxD tyOk (by rfl) (by rfl) (by rfl) (Nat.le_of_ble_eq_true rfl) (by rfl) (by rfl) (by rfl) (by decide) (by rfl) ?_
        | refine AL.allocD tyOk (by rfl) (by rfl) (by rfl) (Nat.le_of_ble_eq_true rfl) (by rfl) (by rfl) (by decide) (by rfl) ?_
        | refine AL.indexN tyOk (by rfl) (by rfl) (by rfl) (by rfl) (by rfl) (by rfl) (by rfl) (by rfl) (by first | rfl | exact (Int.toNat_of_nonneg (by omega)).symm) (by omega) ?_
        | refine AL.nilCheck (by rfl) (by rfl) (by rfl) (by rfl) ?_) | (first | refine AC.region ?_ | refine AC.seq ?_ | refine AC.block ?_ | refine AC.ret ?_ | refine AC.exit ?_ | refine AC.skip ?_))
    refine AC.cond (by rfl) (fun h9 => ?_) (fun h9 => ?_)
    · cases h9
    repeat (first | (first
        | refine AL.nil ?_
        | refine AL.move (.inl (by rfl)) (by rfl) (by rfl) ?_
        | refine AL.move (.inr (by rfl)) (by rfl) (by rfl) ?_
        | refine AL.fieldAddr tyOk (by rfl) (by rfl) (by rfl) (by rfl) (by rfl) (by rfl) ?_
        | refine AL.load1 tyOk (by rfl) (by rfl) (by rfl) (by rfl) (by rfl) (by rfl) (by rfl) (by first | exact Nat.le_of_ble_eq_true rfl | (dsimp only; omega) | omega | assumption | (simp only [openR]; omega) | exact Nat.lt_of_lt_of_le (m := 3) (by omega) (Nat.le_of_ble_eq_true rfl)) (by first | exact Nat.le_of_ble_eq_true rfl | (dsimp only; omega) | omega | assumption | (simp only [openR]; omega) | exact Nat.lt_of_lt_of_le (m := 3) (by omega) (Nat.le_of_ble_eq_true rfl)) (by rfl) ?_
        | refine AL.loadAggE tyOk (by rfl) (by rfl) (by rfl) (by rfl) (by rfl) (by rfl) (by rfl) (by first | exact Nat.le_of_ble_eq_true rfl | (dsimp only; omega) | omega | assumption | (simp only [openR]; omega) | exact Nat.lt_of_lt_of_le (m := 3) (by omega) (Nat.le_of_ble_eq_true rfl)) (by first | exact Nat.le_of_ble_eq_true rfl | (dsimp only; omega) | omega | assumption | (simp only [openR]; omega) | exact Nat.lt_of_lt_of_le (m := 3) (by omega) (Nat.le_of_ble_eq_true rfl)) (by rfl) ?_
        | refine AL.stor tyOk (by rfl) (by rfl) (by rfl) (by rfl) (by rfl) (by rfl) (by rfl) (by rfl) (by rfl) (by first | exact Nat.le_of_ble_eq_true rfl | (dsimp only; omega) | omega | assumption | (simp only [openR]; omega) | exact Nat.lt_of_lt_of_le (m := 3) (by omega) (Nat.le_of_ble_eq_true rfl)) (by first | exact Nat.le_of_ble_eq_true rfl | (dsimp only; omega) | omega | assumption | (simp only [openR]; omega) | exact Nat.lt_of_lt_of_le (m := 3) (by omega) (Nat.le_of_ble_eq_true rfl)) ?_
        | refine AL.len (ty := 0) tyOk (by rfl) (by rfl) (by rfl) (by rfl) (by rfl) ?_
        | refine AL.add (by rfl) (by rfl) (by rfl) (by rfl) (by rfl) (by constructor <;> omega) ?_
        | refine AL.int2 (by rfl) (by rfl) (by rfl) (by rfl) (by rfl) (by rfl) (by first | trivial | decide | omega) ?_
        | refine AL.not (by rfl) (by rfl) (by rfl) (by rfl) ?_
        | refine AL.gOnE (by rfl) (by rfl) (by rfl) (by rfl) (by decide) (by first | rfl | assumption) ?_
        | refine AL.gOffE (by rfl) (by rfl) (by rfl) (by rfl) (by rfl) (by decide) (by first | rfl | assumption) ?_
        | refine AL.pickE (b' := true) (by rfl) (by rfl) (by rfl) (by rfl) (by first | rfl | assumption) ?_
        | refine AL.pickE (b' := false) (by rfl) (by rfl) (by rfl) (by rfl) (by first | rfl | assumption) ?_
        | refine AL.extract (by rfl) (by rfl) (by rfl) (by rfl) (by rfl) ?_
        | refine AL.boxD tyOk (by rfl) (by rfl) (by rfl) (Nat.le_of_ble_eq_true rfl) (by rfl) (by rfl) (by rfl) (by decide) (by rfl) ?_
        | refine AL.allocD tyOk (by rfl) (by rfl) (by rfl) (Nat.le_of_ble_eq_true rfl) (by rfl) (by rfl) (by decide) (by rfl) ?_
        | refine AL.indexN tyOk (by rfl) (by rfl) (by rfl) (by rfl) (by rfl) (by rfl) (by rfl) (by rfl) (by first | rfl | exact (Int.toNat_of_nonneg (by omega)).symm) (by omega) ?_
        | refine AL.nilCheck (by rfl) (by rfl) (by rfl) (by rfl) ?_) | (first | refine AC.region ?_ | refine AC.seq ?_ | refine AC.block ?_ | refine AC.ret ?_ | refine AC.exit ?_ | refine AC.skip ?_))
    refine And.intro (by first | exact .inr rfl | exact .inl rfl) (And.intro (by repeat (first | exact trivial | exact Nat.le_of_ble_eq_true rfl | rfl | exact ⟨_, rfl, rfl, Nat.le_refl _, rfl⟩ | refine And.intro ?_ ?_)) (And.intro (by rfl) (And.intro (by rfl) (And.intro (by repeat (first | exact trivial | exact Nat.le_of_ble_eq_true rfl | rfl | exact ⟨_, rfl, rfl, Nat.le_refl _, rfl⟩ | refine And.intro ?_ ?_)) (And.intro (by repeat (first | exact trivial | exact Nat.le_of_ble_eq_true rfl | rfl | exact ⟨_, rfl, rfl, Nat.le_refl _, rfl⟩ | refine And.intro ?_ ?_)) ?_)))))
    exact ⟨_, _, rfl, (by have hc := hk (by omega); have h3 : n = 3 := hc.2.1; subst h3; exact .inl ⟨hc, hb⟩), rfl⟩
  have h1 : i < 3 := by simp at h1; omega
  repeat (first | (first
      | refine AL.nil ?_
      | refine AL.move (.inl (by rfl)) (by rfl) (by rfl) ?_
      | refine AL.move (.inr (by rfl)) (by rfl) (by rfl) ?_
      | refine AL.fieldAddr tyOk (by rfl) (by rfl) (by rfl) (by rfl) (by rfl) (by rfl) ?_
      | refine AL.load1 tyOk (by rfl) (by rfl) (by rfl) (by rfl) (by rfl) (by rfl) (by rfl) (by first | exact Nat.le_of_ble_eq_true rfl | (dsimp only; omega) | omega | assumption | (simp only [openR]; omega) | exact Nat.lt_of_lt_of_le (m := 3) (by omega) (Nat.le_of_ble_eq_true rfl)) (by first | exact Nat.le_of_ble_eq_true rfl | (dsimp only; omega) | omega | assumption | (simp only [openR]; omega) | exact Nat.lt_of_lt_of_le (m := 3) (by omega) (Nat.le_of_ble_eq_true rfl)) (by rfl) ?_
      | refine AL.loadAggE tyOk (by rfl) (by rfl) (by rfl) (by rfl) (by rfl) (by rfl) (by rfl) (by first | exact Nat.le_of_ble_eq_true rfl | (dsimp only; omega) | omega | assumption | (simp only [openR]; omega) | exact Nat.lt_of_lt_of_le (m := 3) (by omega) (Nat.le_of_ble_eq_true rfl)) (by first | exact Nat.le_of_ble_eq_true rfl | (dsimp only; omega) | omega | assumption | (simp only [openR]; omega) | exact Nat.lt_of_lt_of_le (m := 3) (by omega) (Nat.le_of_ble_eq_true rfl)) (by rfl) ?_
      | refine AL.stor tyOk (by rfl) (by rfl) (by rfl) (by rfl) (by rfl) (by rfl) (by rfl) (by rfl) (by rfl) (by first | exact Nat.le_of_ble_eq_true rfl | (dsimp only; omega) | omega | assumption | (simp only [openR]; omega) | exact Nat.lt_of_lt_of_le (m := 3) (by omega) (Nat.le_of_ble_eq_true rfl)) (by first | exact Nat.le_of_ble_eq_true rfl | (dsimp only; omega) | omega | assumption | (simp only [openR]; omega) | exact Nat.lt_of_lt_of_le (m := 3) (by omega) (Nat.le_of_ble_eq_true rfl)) ?_
      | refine AL.len (ty := 0) tyOk (by rfl) (by rfl) (by rfl) (by rfl) (by rfl) ?_
      | refine AL.add (by rfl) (by rfl) (by rfl) (by rfl) (by rfl) (by constructor <;> omega) ?_
      | refine AL.int2 (by rfl) (by rfl) (by rfl) (by rfl) (by rfl) (by rfl) (by first | trivial | decide | omega) ?_
      | refine AL.not (by rfl) (by rfl) (by rfl) (by rfl) ?_
      | refine AL.gOnE (by rfl) (by rfl) (by rfl) (by rfl) (by decide) (by first | rfl | assumption) ?_
      | refine AL.gOffE (by rfl) (by rfl) (by rfl) (by rfl) (by rfl) (by decide) (by first | rfl | assumption) ?_
      | refine AL.pickE (b' := true) (by rfl) (by rfl) (by rfl) (by rfl) (by first | rfl | assumption) ?_
      | refine AL.pickE (b' := false) (by rfl) (by rfl) (by rfl) (by rfl) (by first | rfl | assumption) ?_
      | refine AL.extract (by rfl) (by rfl) (by rfl) (by rfl) (by rfl) ?_
      | refine AL.boxD tyOk (by rfl) (by rfl) (by rfl) (Nat.le_of_ble_eq_true rfl) (by rfl) (by rfl) (by rfl) (by decide) (by rfl) ?_
      | refine AL.allocD tyOk (by rfl) (by rfl) (by rfl) (Nat.le_of_ble_eq_true rfl) (by rfl) (by rfl) (by decide) (by rfl) ?_
      | refine AL.indexN tyOk (by rfl) (by rfl) (by rfl) (by rfl) (by rfl) (by rfl) (by rfl) (by rfl) (by first | rfl | exact (Int.toNat_of_nonneg (by omega)).symm) (by omega) ?_
      | refine AL.nilCheck (by rfl) (by rfl) (by rfl) (by rfl) ?_) | (first | refine AC.region ?_ | refine AC.seq ?_ | refine AC.block ?_ | refine AC.ret ?_ | refine AC.exit ?_ | refine AC.skip ?_))
  (
      refine AL.call [] (by rfl) (by rfl) (by rfl) Try.func21 (by rfl) (by rfl) (by exact sClockOk_run E n _ ps _ (by exact (fun i r hi hr => by show lend (_ : C) = _; rw [Nat.zero_add]; first | exact lend_pinC _ _ | (show lend (pinC _ _) = _; exact lend_pinC _ _) | rfl))) (by repeat (first | exact trivial | exact Nat.le_of_ble_eq_true rfl | rfl | exact ⟨_, rfl, rfl, Nat.le_refl _, rfl⟩ | refine And.intro ?_ ?_)) BwOk.nil (by rw [hF]; exact Nat.le_of_ble_eq_true rfl) 2000900 (by decide) (by rfl) ?_
      rintro _ _ ⟨z1, rfl, hz1, rfl⟩
      refine And.intro rfl (And.intro (fun ρ b x h => by cases h) (And.intro (by first | exact mine_nil | (simp [Ar.mine, C.mine]; done) | (simp [Ar.mine, C.mine, pinC_mine]; done) | (simp [Ar.mine, C.mine, pinC]; done)) (And.intro (Nat.le_of_ble_eq_true rfl) ?_))))
  repeat (first | (first
      | refine AL.nil ?_
      | refine AL.move (.inl (by rfl)) (by rfl) (by rfl) ?_
      | refine AL.move (.inr (by rfl)) (by rfl) (by rfl) ?_
      | refine AL.fieldAddr tyOk (by rfl) (by rfl) (by rfl) (by rfl) (by rfl) (by rfl) ?_
      | refine AL.load1 tyOk (by rfl) (by rfl) (by rfl) (by rfl) (by rfl) (by rfl) (by rfl) (by first | exact Nat.le_of_ble_eq_true rfl | (dsimp only; omega) | omega | assumption | (simp only [openR]; omega) | exact Nat.lt_of_lt_of_le (m := 3) (by omega) (Nat.le_of_ble_eq_true rfl)) (by first | exact Nat.le_of_ble_eq_true rfl | (dsimp only; omega) | omega | assumption | (simp only [openR]; omega) | exact Nat.lt_of_lt_of_le (m := 3) (by omega) (Nat.le_of_ble_eq_true rfl)) (by rfl) ?_
      | refine AL.loadAggE tyOk (by rfl) (by rfl) (by rfl) (by rfl) (by rfl) (by rfl) (by rfl) (by first | exact Nat.le_of_ble_eq_true rfl | (dsimp only; omega) | omega | assumption | (simp only [openR]; omega) | exact Nat.lt_of_lt_of_le (m := 3) (by omega) (Nat.le_of_ble_eq_true rfl)) (by first | exact Nat.le_of_ble_eq_true rfl | (dsimp only; omega) | omega | assumption | (simp only [openR]; omega) | exact Nat.lt_of_lt_of_le (m := 3) (by omega) (Nat.le_of_ble_eq_true rfl)) (by rfl) ?_
      | refine AL.stor tyOk (by rfl) (by rfl) (by rfl) (by rfl) (by rfl) (by rfl) (by rfl) (by rfl) (by rfl) (by first | exact Nat.le_of_ble_eq_true rfl | (dsimp only; omega) | omega | assumption | (simp only [openR]; omega) | exact Nat.lt_of_lt_of_le (m := 3) (by omega) (Nat.le_of_ble_eq_true rfl)) (by first | exact Nat.le_of_ble_eq_true rfl | (dsimp only; omega) | omega | assumption | (simp only [openR]; omega) | exact Nat.lt_of_lt_of_le (m := 3) (by omega) (Nat.le_of_ble_eq_true rfl)) ?_
      | refine AL.len (ty := 0) tyOk (by rfl) (by rfl) (by rfl) (by rfl) (by rfl) ?_
      | refine AL.add (by rfl) (by rfl) (by rfl) (by rfl) (by rfl) (by constructor <;> omega) ?_
      | refine AL.int2 (by rfl) (by rfl) (by rfl) (by rfl) (by rfl) (by rfl) (by first | trivial | decide | omega) ?_
      | refine AL.not (by rfl) (by rfl) (by rfl) (by rfl) ?_
      | refine AL.gOnE (by rfl) (by rfl) (by rfl) (by rfl) (by decide) (by first | rfl | assumption) ?_
      | refine AL.gOffE (by rfl) (by rfl) (by rfl) (by rfl) (by rfl) (by decide) (by first | rfl | assumption) ?_
      | refine AL.pickE (b' := true) (by rfl) (by rfl) (by rfl) (by rfl) (by first | rfl | assumption) ?_
      | refine AL.pickE (b' := false) (by rfl) (by rfl) (by rfl) (by rfl) (by first | rfl | assumption) ?_
      | refine AL.extract (by rfl) (by rfl) (by rfl) (by rfl) (by rfl) ?_
      | refine AL.boxD tyOk (by rfl) (by rfl) (by rfl) (Nat.le_of_ble_eq_true rfl) (by rfl) (by rfl) (by rfl) (by decide) (by rfl) ?_
      | refine AL.allocD tyOk (by rfl) (by rfl) (by rfl) (Nat.le_of_ble_eq_true rfl) (by rfl) (by rfl) (by decide) (by rfl) ?_
      | refine AL.indexN tyOk (by rfl) (by rfl) (by rfl) (by rfl) (by rfl) (by rfl) (by rfl) (by rfl) (by first | rfl | exact (Int.toNat_of_nonneg (by omega)).symm) (by omega) ?_
      | refine AL.nilCheck (by rfl) (by rfl) (by rfl) (by rfl) ?_) | (first | refine AC.region ?_ | refine AC.seq ?_ | refine AC.block ?_ | refine AC.ret ?_ | refine AC.exit ?_ | refine AC.skip ?_))
  refine AC.cond (by rfl) (fun h2 => ?_) (fun h2 => ?_)
  rotate_left
  · repeat (first | (first
      | refine AL.nil ?_
      | refine AL.move (.inl (by rfl)) (by rfl) (by rfl) ?_
      | refine AL.move (.inr (by rfl)) (by rfl) (by rfl) ?_
      | refine AL.fieldAddr tyOk (by rfl) (by rfl) (by rfl) (by rfl) (by rfl) (by rfl) ?_
      | refine AL.load1 tyOk (by rfl) (by rfl) (by rfl) (by rfl) (by rfl) (by rfl) (by rfl) (by first | exact Nat.le_of_ble_eq_true rfl | (dsimp only; omega) | omega | assumption | (simp only [openR]; omega) | exact Nat.lt_of_lt_of_le (m := 3) (by omega) (Nat.le_of_ble_eq_true rfl)) (by first | exact Nat.le_of_ble_eq_true rfl | (dsimp only; omega) | omega | assumption | (simp only [openR]; omega) | exact Nat.lt_of_lt_of_le (m := 3) (by omega) (Nat.le_of_ble_eq_true rfl)) (by rfl) ?_
      | refine AL.loadAggE tyOk (by rfl) (by rfl) (by rfl) (by rfl) (by rfl) (by rfl) (by rfl) (by first | exact Nat.le_of_ble_eq_true rfl | (dsimp only; omega) | omega | assumption | (simp only [openR]; omega) | exact Nat.lt_of_lt_of_le (m := 3) (by omega) (Nat.le_of_ble_eq_true rfl)) (by first | exact Nat.le_of_ble_eq_true rfl | (dsimp only; omega) | omega | assumption | (simp only [openR]; omega) | exact Nat.lt_of_lt_of_le (m := 3) (by omega) (Nat.le_of_ble_eq_true rfl)) (by rfl) ?_
      | refine AL.stor tyOk (by rfl) (by rfl) (by rfl) (by rfl) (by rfl) (by rfl) (by rfl) (by rfl) (by rfl) (by first | exact Nat.le_of_ble_eq_true rfl | (dsimp only; omega) | omega | assumption | (simp only [openR]; omega) | exact Nat.lt_of_lt_of_le (m := 3) (by omega) (Nat.le_of_ble_eq_true rfl)) (by first | exact Nat.le_of_ble_eq_true rfl | (dsimp only; omega) | omega | assumption | (simp only [openR]; omega) | exact Nat.lt_of_lt_of_le (m := 3) (by omega) (Nat.le_of_ble_eq_true rfl)) ?_
      | refine AL.len (ty := 0) tyOk (by rfl) (by rfl) (by rfl) (by rfl) (by rfl) ?_
      | refine AL.add (by rfl) (by rfl) (by rfl) (by rfl) (by rfl) (by constructor <;> omega) ?_
      | refine AL.int2 (by rfl) (by rfl) (by rfl) (by rfl) (by rfl) (by rfl) (by first | trivial | decide | omega) ?_
      | refine AL.not (by rfl) (by rfl) (by rfl) (by rfl) ?_
      | refine AL.gOnE (by rfl) (by rfl) (by rfl) (by rfl) (by decide) (by first | rfl | assumption) ?_
      | refine AL.gOffE (by rfl) (by rfl) (by rfl) (by rfl) (by rfl) (by decide) (by first | rfl | assumption) ?_
      | refine AL.pickE (b' := true) (by rfl) (by rfl) (by rfl) (by rfl) (by first | rfl | assumption) ?_
      | refine AL.pickE (b' := false) (by rfl) (by rfl) (by rfl) (by rfl) (by first | rfl | assumption) ?_
      | refine AL.extract (by rfl) (by rfl) (by rfl) (by rfl) (by rfl) ?_
      | refine AL.boxD tyOk (by rfl) (by rfl) (by rfl) (Nat.le_of_ble_eq_true rfl) (by rfl) (by rfl) (by rfl) (by decide) (by rfl) ?_
      | refine AL.allocD tyOk (by rfl) (by rfl) (by rfl) (Nat.le_of_ble_eq_true rfl) (by rfl) (by rfl) (by decide) (by rfl) ?_
      | refine AL.indexN tyOk (by rfl) (by rfl) (by rfl) (by rfl) (by rfl) (by rfl) (by rfl) (by rfl) (by first | rfl | exact (Int.toNat_of_nonneg (by omega)).symm) (by omega) ?_
      | refine AL.nilCheck (by rfl) (by rfl) (by rfl) (by rfl) ?_) | (first | refine AC.region ?_ | refine AC.seq ?_ | refine AC.block ?_ | refine AC.ret ?_ | refine AC.exit ?_ | refine AC.skip ?_))
    refine And.intro (by first | exact .inr rfl | exact .inl rfl) (And.intro (by repeat (first | exact trivial | exact Nat.le_of_ble_eq_true rfl | rfl | exact ⟨_, rfl, rfl, Nat.le_refl _, rfl⟩ | refine And.intro ?_ ?_)) (And.intro (by rfl) (And.intro (by rfl) (And.intro (by repeat (first | exact trivial | exact Nat.le_of_ble_eq_true rfl | rfl | exact ⟨_, rfl, rfl, Nat.le_refl _, rfl⟩ | refine And.intro ?_ ?_)) (And.intro (by repeat (first | exact trivial | exact Nat.le_of_ble_eq_true rfl | rfl | exact ⟨_, rfl, rfl, Nat.le_refl _, rfl⟩ | refine And.intro ?_ ?_)) ?_)))))
    exact ⟨_, _, rfl, .inr ⟨(fun hc => by have := hz1.2 hc; simp [this] at h2), (by show m = 0; have : i = 0 := (by by_cases h0 : 0 < i; (have := hz1.2 (hk h0); simp [this] at h2); omega); subst this; have := hb.le; omega)⟩, rfl⟩
  have hc := hz1.1 (by simpa using h2)
  have hn3 : n = 3 := hc.2.1
  subst hn3
  repeat (first | (first
      | refine AL.nil ?_
      | refine AL.move (.inl (by rfl)) (by rfl) (by rfl) ?_
      | refine AL.move (.inr (by rfl)) (by rfl) (by rfl) ?_
      | refine AL.fieldAddr tyOk (by rfl) (by rfl) (by rfl) (by rfl) (by rfl) (by rfl) ?_
      | refine AL.load1 tyOk (by rfl) (by rfl) (by rfl) (by rfl) (by rfl) (by rfl) (by rfl) (by first | exact Nat.le_of_ble_eq_true rfl | (dsimp only; omega) | omega | assumption | (simp only [openR]; omega) | exact Nat.lt_of_lt_of_le (m := 3) (by omega) (Nat.le_of_ble_eq_true rfl)) (by first | exact Nat.le_of_ble_eq_true rfl | (dsimp only; omega) | omega | assumption | (simp only [openR]; omega) | exact Nat.lt_of_lt_of_le (m := 3) (by omega) (Nat.le_of_ble_eq_true rfl)) (by rfl) ?_
      | refine AL.loadAggE tyOk (by rfl) (by rfl) (by rfl) (by rfl) (by rfl) (by rfl) (by rfl) (by first | exact Nat.le_of_ble_eq_true rfl | (dsimp only; omega) | omega | assumption | (simp only [openR]; omega) | exact Nat.lt_of_lt_of_le (m := 3) (by omega) (Nat.le_of_ble_eq_true rfl)) (by first | exact Nat.le_of_ble_eq_true rfl | (dsimp only; omega) | omega | assumption | (simp only [openR]; omega) | exact Nat.lt_of_lt_of_le (m := 3) (by omega) (Nat.le_of_ble_eq_true rfl)) (by rfl) ?_
      | refine AL.stor tyOk (by rfl) (by rfl) (by rfl) (by rfl) (by rfl) (by rfl) (by rfl) (by rfl) (by rfl) (by first | exact Nat.le_of_ble_eq_true rfl | (dsimp only; omega) | omega | assumption | (simp only [openR]; omega) | exact Nat.lt_of_lt_of_le (m := 3) (by omega) (Nat.le_of_ble_eq_true rfl)) (by first | exact Nat.le_of_ble_eq_true rfl | (dsimp only; omega) | omega | assumption | (simp only [openR]; omega) | exact Nat.lt_of_lt_of_le (m := 3) (by omega) (Nat.le_of_ble_eq_true rfl)) ?_
      | refine AL.len (ty := 0) tyOk (by rfl) (by rfl) (by rfl) (by rfl) (by rfl) ?_
      | refine AL.add (by rfl) (by rfl) (by rfl) (by rfl) (by rfl) (by constructor <;> omega) ?_
      | refine AL.int2 (by rfl) (by rfl) (by rfl) (by rfl) (by rfl) (by rfl) (by first | trivial | decide | omega) ?_
      | refine AL.not (by rfl) (by rfl) (by rfl) (by rfl) ?_
      | refine AL.gOnE (by rfl) (by rfl) (by rfl) (by rfl) (by decide) (by first | rfl | assumption) ?_
      | refine AL.gOffE (by rfl) (by rfl) (by rfl) (by rfl) (by rfl) (by decide) (by first | rfl | assumption) ?_
      | refine AL.pickE (b' := true) (by rfl) (by rfl) (by rfl) (by rfl) (by first | rfl | assumption) ?_
      | refine AL.pickE (b' := false) (by rfl) (by rfl) (by rfl) (by rfl) (by first | rfl | assumption) ?_
      | refine AL.extract (by rfl) (by rfl) (by rfl) (by rfl) (by rfl) ?_
      | refine AL.boxD tyOk (by rfl) (by rfl) (by rfl) (Nat.le_of_ble_eq_true rfl) (by rfl) (by rfl) (by rfl) (by decide) (by rfl) ?_
      | refine AL.allocD tyOk (by rfl) (by rfl) (by rfl) (Nat.le_of_ble_eq_true rfl) (by rfl) (by rfl) (by decide) (by rfl) ?_
      | refine AL.indexN tyOk (by rfl) (by rfl) (by rfl) (by rfl) (by rfl) (by rfl) (by rfl) (by rfl) (by first | rfl | exact (Int.toNat_of_nonneg (by omega)).symm) (by omega) ?_
      | refine AL.nilCheck (by rfl) (by rfl) (by rfl) (by rfl) ?_) | (first | refine AC.region ?_ | refine AC.seq ?_ | refine AC.block ?_ | refine AC.ret ?_ | refine AC.exit ?_ | refine AC.skip ?_))
  refine AC.join ⟨[(1, .ptr 1 0 0), (3, .a (.ref 5 0 m)), (4, .a (.lit (.int .i64 (i : Nat)))), (39, .a (.lit (.bool (bhB E (ps i)))))], [(1, boxR 24 2 [.lit (.int .i64 E), .ref 1000000 0 3]), (1000000, ⟨.fro, false, e, 4, 3, fun i r => pinC (ps i) r, []⟩), (5, ⟨.own, true, 3, 1, m, fun i r => .lit (.int .i64 (f i)), []⟩)]⟩ ?_ ?_
  · refine AC.draw (by kernel_rfl) ?_
    refine AY.take 0 (by rfl) (by rfl) (by kernel_rfl) (by kernel_rfl) (by kernel_rfl) (fun c s h => by rcases h.1 with h | h <;> cases h) (by rfl) (by (first | exact Pure1.move (.inl (by rfl)) | exact Pure1.move (.inr (by rfl)) | exact Pure1.indexN tyOk (by rfl) (by rfl) (by rfl) (by rfl) (by rfl) (by rfl) (by first | rfl | exact (Int.toNat_of_nonneg (by omega)).symm) (by omega) | exact Pure1.fieldAddr tyOk (by rfl) (by rfl) (by rfl) (by rfl) | exact Pure1.len tyOk (by rfl) (by rfl) (by rfl) | exact Pure1.add (by rfl) (by rfl) (by rfl) (by constructor <;> omega) | exact Pure1.int2 (by rfl) (by rfl) (by rfl) (by rfl) (by first | trivial | decide | omega) | exact Pure1.not (by rfl) (by rfl))) ?_
    refine AY.take 2 (by rfl) (by rfl) (by kernel_rfl) (by kernel_rfl) (by kernel_rfl) (fun c s h => by rcases h.1 with h | h <;> cases h) (by rfl) (by (first | exact Pure1.move (.inl (by rfl)) | exact Pure1.move (.inr (by rfl)) | exact Pure1.indexN tyOk (by rfl) (by rfl) (by rfl) (by rfl) (by rfl) (by rfl) (by first | rfl | exact (Int.toNat_of_nonneg (by omega)).symm) (by omega) | exact Pure1.fieldAddr tyOk (by rfl) (by rfl) (by rfl) (by rfl) | exact Pure1.len tyOk (by rfl) (by rfl) (by rfl) | exact Pure1.add (by rfl) (by rfl) (by rfl) (by constructor <;> omega) | exact Pure1.int2 (by rfl) (by rfl) (by rfl) (by rfl) (by first | trivial | decide | omega) | exact Pure1.not (by rfl) (by rfl))) ?_
    refine AY.step [1] (by kernel_rfl) (by simp) (AYs.cons (by rfl) ?_ AYs.nil)
    (first
        | refine AL.load1 tyOk (by rfl) (by rfl) (by rfl) (by rfl) (by rfl) (by rfl) (by rfl) (by first | exact Nat.le_of_ble_eq_true rfl | (dsimp only; omega) | omega | assumption | (simp only [openR]; omega) | exact Nat.lt_of_lt_of_le (m := 3) (by omega) (Nat.le_of_ble_eq_true rfl)) (by first | exact Nat.le_of_ble_eq_true rfl | (dsimp only; omega) | omega | assumption | (simp only [openR]; omega) | exact Nat.lt_of_lt_of_le (m := 3) (by omega) (Nat.le_of_ble_eq_true rfl)) (by rfl) ?_
        | refine AL.loadAggE tyOk (by rfl) (by rfl) (by rfl) (by rfl) (by rfl) (by rfl) (by rfl) (by first | exact Nat.le_of_ble_eq_true rfl | (dsimp only; omega) | omega | assumption | (simp only [openR]; omega) | exact Nat.lt_of_lt_of_le (m := 3) (by omega) (Nat.le_of_ble_eq_true rfl)) (by first | exact Nat.le_of_ble_eq_true rfl | (dsimp only; omega) | omega | assumption | (simp only [openR]; omega) | exact Nat.lt_of_lt_of_le (m := 3) (by omega) (Nat.le_of_ble_eq_true rfl)) (by rfl) ?_
        | refine AL.int2 (by rfl) (by rfl) (by rfl) (by rfl) (by rfl) (by rfl) (by first | trivial | decide | omega) ?_
        | refine AL.gOnE (by rfl) (by rfl) (by rfl) (by rfl) (by decide) (by first | rfl | assumption) ?_
        | refine AL.pickE (b' := true) (by rfl) (by rfl) (by rfl) (by rfl) (by first | rfl | assumption) ?_
        | refine AL.pickE (b' := false) (by rfl) (by rfl) (by rfl) (by rfl) (by first | rfl | assumption) ?_)
    refine AL.nil ?_
    refine AY.take 3 (by rfl) (by rfl) (by kernel_rfl) (by kernel_rfl) (by kernel_rfl) (fun c s h => by rcases h.1 with h | h <;> cases h) (by rfl) (by (first | exact Pure1.move (.inl (by rfl)) | exact Pure1.move (.inr (by rfl)) | exact Pure1.indexN tyOk (by rfl) (by rfl) (by rfl) (by rfl) (by rfl) (by rfl) (by first | rfl | exact (Int.toNat_of_nonneg (by omega)).symm) (by omega) | exact Pure1.fieldAddr tyOk (by rfl) (by rfl) (by rfl) (by rfl) | exact Pure1.len tyOk (by rfl) (by rfl) (by rfl) | exact Pure1.add (by rfl) (by rfl) (by rfl) (by constructor <;> omega) | exact Pure1.int2 (by rfl) (by rfl) (by rfl) (by rfl) (by first | trivial | decide | omega) | exact Pure1.not (by rfl) (by rfl))) ?_
    refine AY.take 4 (by rfl) (by rfl) (by kernel_rfl) (by kernel_rfl) (by kernel_rfl) (fun c s h => by rcases h.1 with h | h <;> cases h) (by rfl) (by (first | exact Pure1.move (.inl (by rfl)) | exact Pure1.move (.inr (by rfl)) | exact Pure1.indexN tyOk (by rfl) (by rfl) (by rfl) (by rfl) (by rfl) (by rfl) (by first | rfl | exact (Int.toNat_of_nonneg (by omega)).symm) (by omega) | exact Pure1.fieldAddr tyOk (by rfl) (by rfl) (by rfl) (by rfl) | exact Pure1.len tyOk (by rfl) (by rfl) (by rfl) | exact Pure1.add (by rfl) (by rfl) (by rfl) (by constructor <;> omega) | exact Pure1.int2 (by rfl) (by rfl) (by rfl) (by rfl) (by first | trivial | decide | omega) | exact Pure1.not (by rfl) (by rfl))) ?_
    refine AY.step [5] (by kernel_rfl) (by simp) (AYs.cons (by rfl) ?_ AYs.nil)
    (first
        | refine AL.load1 tyOk (by rfl) (by rfl) (by rfl) (by rfl) (by rfl) (by rfl) (by rfl) (by first | exact Nat.le_of_ble_eq_true rfl | (dsimp only; omega) | omega | assumption | (simp only [openR]; omega) | exact Nat.lt_of_lt_of_le (m := 3) (by omega) (Nat.le_of_ble_eq_true rfl)) (by first | exact Nat.le_of_ble_eq_true rfl | (dsimp only; omega) | omega | assumption | (simp only [openR]; omega) | exact Nat.lt_of_lt_of_le (m := 3) (by omega) (Nat.le_of_ble_eq_true rfl)) (by rfl) ?_
        | refine AL.loadAggE tyOk (by rfl) (by rfl) (by rfl) (by rfl) (by rfl) (by rfl) (by rfl) (by first | exact Nat.le_of_ble_eq_true rfl | (dsimp only; omega) | omega | assumption | (simp only [openR]; omega) | exact Nat.lt_of_lt_of_le (m := 3) (by omega) (Nat.le_of_ble_eq_true rfl)) (by first | exact Nat.le_of_ble_eq_true rfl | (dsimp only; omega) | omega | assumption | (simp only [openR]; omega) | exact Nat.lt_of_lt_of_le (m := 3) (by omega) (Nat.le_of_ble_eq_true rfl)) (by rfl) ?_
        | refine AL.int2 (by rfl) (by rfl) (by rfl) (by rfl) (by rfl) (by rfl) (by first | trivial | decide | omega) ?_
        | refine AL.gOnE (by rfl) (by rfl) (by rfl) (by rfl) (by decide) (by first | rfl | assumption) ?_
        | refine AL.pickE (b' := true) (by rfl) (by rfl) (by rfl) (by rfl) (by first | rfl | assumption) ?_
        | refine AL.pickE (b' := false) (by rfl) (by rfl) (by rfl) (by rfl) (by first | rfl | assumption) ?_)
    refine AL.nil ?_
    refine AY.take 6 (by rfl) (by rfl) (by kernel_rfl) (by kernel_rfl) (by kernel_rfl) (fun c s h => by rcases h.1 with h | h <;> cases h) (by rfl) (by (first | exact Pure1.move (.inl (by rfl)) | exact Pure1.move (.inr (by rfl)) | exact Pure1.indexN tyOk (by rfl) (by rfl) (by rfl) (by rfl) (by rfl) (by rfl) (by first | rfl | exact (Int.toNat_of_nonneg (by omega)).symm) (by omega) | exact Pure1.fieldAddr tyOk (by rfl) (by rfl) (by rfl) (by rfl) | exact Pure1.len tyOk (by rfl) (by rfl) (by rfl) | exact Pure1.add (by rfl) (by rfl) (by rfl) (by constructor <;> omega) | exact Pure1.int2 (by rfl) (by rfl) (by rfl) (by rfl) (by first | trivial | decide | omega) | exact Pure1.not (by rfl) (by rfl))) ?_
    by_cases h3 : (ps i).1 = true
    rotate_left
    · have h3 : (ps i).1 = false := by simpa using h3
      have hB : bhB E (ps i) = false := by simp [bhB, h3]
      refine AY.takeOff 7 (by rfl) (by rfl) (by rfl) (by rfl) (by rfl) (by decide) (by first | rfl | assumption) (by kernel_rfl) (by decide +kernel) (by decide +kernel) (fun c s h => by rcases h.1 with h | h <;> cases h) (by rfl) ?_
      refine AY.takeOff 8 (by rfl) (by rfl) (by rfl) (by rfl) (by rfl) (by decide) (by first | rfl | assumption) (by kernel_rfl) (by decide +kernel) (by decide +kernel) (fun c s h => by rcases h.1 with h | h <;> cases h) (by rfl) ?_
      refine AY.takeOff 9 (by rfl) (by rfl) (by rfl) (by rfl) (by rfl) (by decide) (by first | rfl | assumption) (by kernel_rfl) (by decide +kernel) (by decide +kernel) (fun c s h => by rcases h.1 with h | h <;> cases h) (by rfl) ?_
      refine AY.takeOff 10 (by rfl) (by rfl) (by rfl) (by rfl) (by rfl) (by decide) (by first | rfl | assumption) (by kernel_rfl) (by decide +kernel) (by decide +kernel) (fun c s h => by rcases h.1 with h | h <;> cases h) (by rfl) ?_
      refine AY.takeOff 11 (by rfl) (by rfl) (by rfl) (by rfl) (by rfl) (by decide) (by first | rfl | assumption) (by kernel_rfl) (by decide +kernel) (by decide +kernel) (fun c s h => by rcases h.1 with h | h <;> cases h) (by rfl) ?_
      refine AY.takeOff 12 (by rfl) (by rfl) (by rfl) (by rfl) (by rfl) (by decide) (by first | rfl | assumption) (by kernel_rfl) (by decide +kernel) (by decide +kernel) (fun c s h => by rcases h.1 with h | h <;> cases h) (by rfl) ?_
      refine AY.takeOff 13 (by rfl) (by rfl) (by rfl) (by rfl) (by rfl) (by decide) (by first | rfl | assumption) (by kernel_rfl) (by decide +kernel) (by decide +kernel) (fun c s h => by rcases h.1 with h | h <;> cases h) (by rfl) ?_
      refine AY.step [14] (by kernel_rfl) (by simp) (AYs.cons (by rfl) ?_ AYs.nil)
      (first
          | refine AL.load1 tyOk (by rfl) (by rfl) (by rfl) (by rfl) (by rfl) (by rfl) (by rfl) (by first | exact Nat.le_of_ble_eq_true rfl | (dsimp only; omega) | omega | assumption | (simp only [openR]; omega) | exact Nat.lt_of_lt_of_le (m := 3) (by omega) (Nat.le_of_ble_eq_true rfl)) (by first | exact Nat.le_of_ble_eq_true rfl | (dsimp only; omega) | omega | assumption | (simp only [openR]; omega) | exact Nat.lt_of_lt_of_le (m := 3) (by omega) (Nat.le_of_ble_eq_true rfl)) (by rfl) ?_
          | refine AL.loadAggE tyOk (by rfl) (by rfl) (by rfl) (by rfl) (by rfl) (by rfl) (by rfl) (by first | exact Nat.le_of_ble_eq_true rfl | (dsimp only; omega) | omega | assumption | (simp only [openR]; omega) | exact Nat.lt_of_lt_of_le (m := 3) (by omega) (Nat.le_of_ble_eq_true rfl)) (by first | exact Nat.le_of_ble_eq_true rfl | (dsimp only; omega) | omega | assumption | (simp only [openR]; omega) | exact Nat.lt_of_lt_of_le (m := 3) (by omega) (Nat.le_of_ble_eq_true rfl)) (by rfl) ?_
          | refine AL.int2 (by rfl) (by rfl) (by rfl) (by rfl) (by rfl) (by rfl) (by first | trivial | decide | omega) ?_
          | refine AL.gOnE (by rfl) (by rfl) (by rfl) (by rfl) (by decide) (by first | rfl | assumption) ?_
          | refine AL.pickE (b' := true) (by rfl) (by rfl) (by rfl) (by rfl) (by first | rfl | assumption) ?_
          | refine AL.pickE (b' := false) (by rfl) (by rfl) (by rfl) (by rfl) (by first | rfl | assumption) ?_)
      refine AL.nil ?_
      refine AY.take 15 (by rfl) (by rfl) (by kernel_rfl) (by kernel_rfl) (by kernel_rfl) (fun c s h => by rcases h.1 with h | h <;> cases h) (by rfl) (by (first | exact Pure1.move (.inl (by rfl)) | exact Pure1.move (.inr (by rfl)) | exact Pure1.indexN tyOk (by rfl) (by rfl) (by rfl) (by rfl) (by rfl) (by rfl) (by first | rfl | exact (Int.toNat_of_nonneg (by omega)).symm) (by omega) | exact Pure1.fieldAddr tyOk (by rfl) (by rfl) (by rfl) (by rfl) | exact Pure1.len tyOk (by rfl) (by rfl) (by rfl) | exact Pure1.add (by rfl) (by rfl) (by rfl) (by constructor <;> omega) | exact Pure1.int2 (by rfl) (by rfl) (by rfl) (by rfl) (by first | trivial | decide | omega) | exact Pure1.not (by rfl) (by rfl))) ?_
      refine AY.takeOff 16 (by rfl) (by rfl) (by rfl) (by rfl) (by rfl) (by decide) (by first | rfl | assumption) (by kernel_rfl) (by decide +kernel) (by decide +kernel) (fun c s h => by rcases h.1 with h | h <;> cases h) (by rfl) ?_
      refine AY.takeOff 17 (by rfl) (by rfl) (by rfl) (by rfl) (by rfl) (by decide) (by first | rfl | assumption) (by kernel_rfl) (by decide +kernel) (by decide +kernel) (fun c s h => by rcases h.1 with h | h <;> cases h) (by rfl) ?_
      refine AY.takeOff 18 (by rfl) (by rfl) (by rfl) (by rfl) (by rfl) (by decide) (by first | rfl | assumption) (by kernel_rfl) (by decide +kernel) (by decide +kernel) (fun c s h => by rcases h.1 with h | h <;> cases h) (by rfl) ?_
      refine AY.takeOff 19 (by rfl) (by rfl) (by rfl) (by rfl) (by rfl) (by decide) (by first | rfl | assumption) (by kernel_rfl) (by decide +kernel) (by decide +kernel) (fun c s h => by rcases h.1 with h | h <;> cases h) (by rfl) ?_
      refine AY.takeOff 20 (by rfl) (by rfl) (by rfl) (by rfl) (by rfl) (by decide) (by first | rfl | assumption) (by kernel_rfl) (by decide +kernel) (by decide +kernel) (fun c s h => by rcases h.1 with h | h <;> cases h) (by rfl) ?_
      refine AY.takeOff 21 (by rfl) (by rfl) (by rfl) (by rfl) (by rfl) (by decide) (by first | rfl | assumption) (by kernel_rfl) (by decide +kernel) (by decide +kernel) (fun c s h => by rcases h.1 with h | h <;> cases h) (by rfl) ?_
      refine AY.takeOff 22 (by rfl) (by rfl) (by rfl) (by rfl) (by rfl) (by decide) (by first | rfl | assumption) (by kernel_rfl) (by decide +kernel) (by decide +kernel) (fun c s h => by rcases h.1 with h | h <;> cases h) (by rfl) ?_
      refine AY.takeOff 23 (by rfl) (by rfl) (by rfl) (by rfl) (by rfl) (by decide) (by first | rfl | assumption) (by kernel_rfl) (by decide +kernel) (by decide +kernel) (fun c s h => by rcases h.1 with h | h <;> cases h) (by rfl) ?_
      refine AY.takeOff 24 (by rfl) (by rfl) (by rfl) (by rfl) (by rfl) (by decide) (by first | rfl | assumption) (by kernel_rfl) (by decide +kernel) (by decide +kernel) (fun c s h => by rcases h.1 with h | h <;> cases h) (by rfl) ?_
      refine AY.step [25] (by kernel_rfl) (by simp) (AYs.cons (by rfl) ?_ AYs.nil)
      (first
          | refine AL.load1 tyOk (by rfl) (by rfl) (by rfl) (by rfl) (by rfl) (by rfl) (by rfl) (by first | exact Nat.le_of_ble_eq_true rfl | (dsimp only; omega) | omega | assumption | (simp only [openR]; omega) | exact Nat.lt_of_lt_of_le (m := 3) (by omega) (Nat.le_of_ble_eq_true rfl)) (by first | exact Nat.le_of_ble_eq_true rfl | (dsimp only; omega) | omega | assumption | (simp only [openR]; omega) | exact Nat.lt_of_lt_of_le (m := 3) (by omega) (Nat.le_of_ble_eq_true rfl)) (by rfl) ?_
          | refine AL.loadAggE tyOk (by rfl) (by rfl) (by rfl) (by rfl) (by rfl) (by rfl) (by rfl) (by first | exact Nat.le_of_ble_eq_true rfl | (dsimp only; omega) | omega | assumption | (simp only [openR]; omega) | exact Nat.lt_of_lt_of_le (m := 3) (by omega) (Nat.le_of_ble_eq_true rfl)) (by first | exact Nat.le_of_ble_eq_true rfl | (dsimp only; omega) | omega | assumption | (simp only [openR]; omega) | exact Nat.lt_of_lt_of_le (m := 3) (by omega) (Nat.le_of_ble_eq_true rfl)) (by rfl) ?_
          | refine AL.int2 (by rfl) (by rfl) (by rfl) (by rfl) (by rfl) (by rfl) (by first | trivial | decide | omega) ?_
          | refine AL.gOnE (by rfl) (by rfl) (by rfl) (by rfl) (by decide) (by first | rfl | assumption) ?_
          | refine AL.pickE (b' := true) (by rfl) (by rfl) (by rfl) (by rfl) (by first | rfl | assumption) ?_
          | refine AL.pickE (b' := false) (by rfl) (by rfl) (by rfl) (by rfl) (by first | rfl | assumption) ?_)
      refine AL.nil ?_
      refine AY.done (by kernel_rfl) ?_
      refine St.le.sub ?_ ?_ (by rfl) (by rfl)
      · exact And.intro rfl (And.intro rfl (And.intro rfl (And.intro (by first | rfl | (rw [hB]; rfl)) trivial)))
      · exact And.intro ⟨_, rfl, ⟨rfl, (fun h => by cases h), rfl, rfl, fun i r hi hr => (by obtain rfl : i = 0 := Nat.lt_one_iff.1 hi; rcases r with _ | _ | r; rfl; rfl; exact absurd hr (by show ¬ r + 1 + 1 < 2; omega))⟩⟩ (And.intro ⟨_, rfl, RSame.rfl _⟩ (And.intro ⟨_, rfl, RSame.rfl _⟩ trivial))
    by_cases h4 : (!(ps i).2.2.1) = true
    rotate_left
    · have h4 : (!(ps i).2.2.1) = false := by simpa using h4
      have hB : bhB E (ps i) = false := by simp [bhB, h4]
      refine AY.takeOn 7 (by rfl) (by rfl) (by rfl) (by rfl) (by rfl) (by decide) (by first | rfl | assumption) (by kernel_rfl) (by decide +kernel) (by decide +kernel) (fun c s h => by rcases h.1 with h | h <;> cases h) (by rfl) (by (first | exact Pure1.move (.inl (by rfl)) | exact Pure1.move (.inr (by rfl)) | exact Pure1.indexN tyOk (by rfl) (by rfl) (by rfl) (by rfl) (by rfl) (by rfl) (by first | rfl | exact (Int.toNat_of_nonneg (by omega)).symm) (by omega) | exact Pure1.fieldAddr tyOk (by rfl) (by rfl) (by rfl) (by rfl) | exact Pure1.len tyOk (by rfl) (by rfl) (by rfl) | exact Pure1.add (by rfl) (by rfl) (by rfl) (by constructor <;> omega) | exact Pure1.int2 (by rfl) (by rfl) (by rfl) (by rfl) (by first | trivial | decide | omega) | exact Pure1.not (by rfl) (by rfl))) ?_
      refine AY.takeOn 9 (by rfl) (by rfl) (by rfl) (by rfl) (by rfl) (by decide) (by first | rfl | assumption) (by kernel_rfl) (by decide +kernel) (by decide +kernel) (fun c s h => by rcases h.1 with h | h <;> cases h) (by rfl) (by (first | exact Pure1.move (.inl (by rfl)) | exact Pure1.move (.inr (by rfl)) | exact Pure1.indexN tyOk (by rfl) (by rfl) (by rfl) (by rfl) (by rfl) (by rfl) (by first | rfl | exact (Int.toNat_of_nonneg (by omega)).symm) (by omega) | exact Pure1.fieldAddr tyOk (by rfl) (by rfl) (by rfl) (by rfl) | exact Pure1.len tyOk (by rfl) (by rfl) (by rfl) | exact Pure1.add (by rfl) (by rfl) (by rfl) (by constructor <;> omega) | exact Pure1.int2 (by rfl) (by rfl) (by rfl) (by rfl) (by first | trivial | decide | omega) | exact Pure1.not (by rfl) (by rfl))) ?_
      refine AY.step [8] (by kernel_rfl) (by simp) (AYs.cons (by rfl) ?_ AYs.nil)
      (first
          | refine AL.load1 tyOk (by rfl) (by rfl) (by rfl) (by rfl) (by rfl) (by rfl) (by rfl) (by first | exact Nat.le_of_ble_eq_true rfl | (dsimp only; omega) | omega | assumption | (simp only [openR]; omega) | exact Nat.lt_of_lt_of_le (m := 3) (by omega) (Nat.le_of_ble_eq_true rfl)) (by first | exact Nat.le_of_ble_eq_true rfl | (dsimp only; omega) | omega | assumption | (simp only [openR]; omega) | exact Nat.lt_of_lt_of_le (m := 3) (by omega) (Nat.le_of_ble_eq_true rfl)) (by rfl) ?_
          | refine AL.loadAggE tyOk (by rfl) (by rfl) (by rfl) (by rfl) (by rfl) (by rfl) (by rfl) (by first | exact Nat.le_of_ble_eq_true rfl | (dsimp only; omega) | omega | assumption | (simp only [openR]; omega) | exact Nat.lt_of_lt_of_le (m := 3) (by omega) (Nat.le_of_ble_eq_true rfl)) (by first | exact Nat.le_of_ble_eq_true rfl | (dsimp only; omega) | omega | assumption | (simp only [openR]; omega) | exact Nat.lt_of_lt_of_le (m := 3) (by omega) (Nat.le_of_ble_eq_true rfl)) (by rfl) ?_
          | refine AL.int2 (by rfl) (by rfl) (by rfl) (by rfl) (by rfl) (by rfl) (by first | trivial | decide | omega) ?_
          | refine AL.gOnE (by rfl) (by rfl) (by rfl) (by rfl) (by decide) (by first | rfl | assumption) ?_
          | refine AL.pickE (b' := true) (by rfl) (by rfl) (by rfl) (by rfl) (by first | rfl | assumption) ?_
          | refine AL.pickE (b' := false) (by rfl) (by rfl) (by rfl) (by rfl) (by first | rfl | assumption) ?_)
      (first
          | refine AL.load1 tyOk (by rfl) (by rfl) (by rfl) (by rfl) (by rfl) (by rfl) (by rfl) (by first | exact Nat.le_of_ble_eq_true rfl | (dsimp only; omega) | omega | assumption | (simp only [openR]; omega) | exact Nat.lt_of_lt_of_le (m := 3) (by omega) (Nat.le_of_ble_eq_true rfl)) (by first | exact Nat.le_of_ble_eq_true rfl | (dsimp only; omega) | omega | assumption | (simp only [openR]; omega) | exact Nat.lt_of_lt_of_le (m := 3) (by omega) (Nat.le_of_ble_eq_true rfl)) (by rfl) ?_
          | refine AL.loadAggE tyOk (by rfl) (by rfl) (by rfl) (by rfl) (by rfl) (by rfl) (by rfl) (by first | exact Nat.le_of_ble_eq_true rfl | (dsimp only; omega) | omega | assumption | (simp only [openR]; omega) | exact Nat.lt_of_lt_of_le (m := 3) (by omega) (Nat.le_of_ble_eq_true rfl)) (by first | exact Nat.le_of_ble_eq_true rfl | (dsimp only; omega) | omega | assumption | (simp only [openR]; omega) | exact Nat.lt_of_lt_of_le (m := 3) (by omega) (Nat.le_of_ble_eq_true rfl)) (by rfl) ?_
          | refine AL.int2 (by rfl) (by rfl) (by rfl) (by rfl) (by rfl) (by rfl) (by first | trivial | decide | omega) ?_
          | refine AL.gOnE (by rfl) (by rfl) (by rfl) (by rfl) (by decide) (by first | rfl | assumption) ?_
          | refine AL.pickE (b' := true) (by rfl) (by rfl) (by rfl) (by rfl) (by first | rfl | assumption) ?_
          | refine AL.pickE (b' := false) (by rfl) (by rfl) (by rfl) (by rfl) (by first | rfl | assumption) ?_)
      refine AL.nil ?_
      refine AY.takeOn 10 (by rfl) (by rfl) (by rfl) (by rfl) (by rfl) (by decide) (by first | rfl | assumption) (by kernel_rfl) (by decide +kernel) (by decide +kernel) (fun c s h => by rcases h.1 with h | h <;> cases h) (by rfl) (by (first | exact Pure1.move (.inl (by rfl)) | exact Pure1.move (.inr (by rfl)) | exact Pure1.indexN tyOk (by rfl) (by rfl) (by rfl) (by rfl) (by rfl) (by rfl) (by first | rfl | exact (Int.toNat_of_nonneg (by omega)).symm) (by omega) | exact Pure1.fieldAddr tyOk (by rfl) (by rfl) (by rfl) (by rfl) | exact Pure1.len tyOk (by rfl) (by rfl) (by rfl) | exact Pure1.add (by rfl) (by rfl) (by rfl) (by constructor <;> omega) | exact Pure1.int2 (by rfl) (by rfl) (by rfl) (by rfl) (by first | trivial | decide | omega) | exact Pure1.not (by rfl) (by rfl))) ?_
      refine AY.takeOn 11 (by rfl) (by rfl) (by rfl) (by rfl) (by rfl) (by decide) (by first | rfl | assumption) (by kernel_rfl) (by decide +kernel) (by decide +kernel) (fun c s h => by rcases h.1 with h | h <;> cases h) (by rfl) (by (first | exact Pure1.move (.inl (by rfl)) | exact Pure1.move (.inr (by rfl)) | exact Pure1.indexN tyOk (by rfl) (by rfl) (by rfl) (by rfl) (by rfl) (by rfl) (by first | rfl | exact (Int.toNat_of_nonneg (by omega)).symm) (by omega) | exact Pure1.fieldAddr tyOk (by rfl) (by rfl) (by rfl) (by rfl) | exact Pure1.len tyOk (by rfl) (by rfl) (by rfl) | exact Pure1.add (by rfl) (by rfl) (by rfl) (by constructor <;> omega) | exact Pure1.int2 (by rfl) (by rfl) (by rfl) (by rfl) (by first | trivial | decide | omega) | exact Pure1.not (by rfl) (by rfl))) ?_
      refine AY.step [12] (by kernel_rfl) (by simp) (AYs.cons (by rfl) ?_ AYs.nil)
      (first
          | refine AL.load1 tyOk (by rfl) (by rfl) (by rfl) (by rfl) (by rfl) (by rfl) (by rfl) (by first | exact Nat.le_of_ble_eq_true rfl | (dsimp only; omega) | omega | assumption | (simp only [openR]; omega) | exact Nat.lt_of_lt_of_le (m := 3) (by omega) (Nat.le_of_ble_eq_true rfl)) (by first | exact Nat.le_of_ble_eq_true rfl | (dsimp only; omega) | omega | assumption | (simp only [openR]; omega) | exact Nat.lt_of_lt_of_le (m := 3) (by omega) (Nat.le_of_ble_eq_true rfl)) (by rfl) ?_
          | refine AL.loadAggE tyOk (by rfl) (by rfl) (by rfl) (by rfl) (by rfl) (by rfl) (by rfl) (by first | exact Nat.le_of_ble_eq_true rfl | (dsimp only; omega) | omega | assumption | (simp only [openR]; omega) | exact Nat.lt_of_lt_of_le (m := 3) (by omega) (Nat.le_of_ble_eq_true rfl)) (by first | exact Nat.le_of_ble_eq_true rfl | (dsimp only; omega) | omega | assumption | (simp only [openR]; omega) | exact Nat.lt_of_lt_of_le (m := 3) (by omega) (Nat.le_of_ble_eq_true rfl)) (by rfl) ?_
          | refine AL.int2 (by rfl) (by rfl) (by rfl) (by rfl) (by rfl) (by rfl) (by first | trivial | decide | omega) ?_
          | refine AL.gOnE (by rfl) (by rfl) (by rfl) (by rfl) (by decide) (by first | rfl | assumption) ?_
          | refine AL.pickE (b' := true) (by rfl) (by rfl) (by rfl) (by rfl) (by first | rfl | assumption) ?_
          | refine AL.pickE (b' := false) (by rfl) (by rfl) (by rfl) (by rfl) (by first | rfl | assumption) ?_)
      (first
          | refine AL.load1 tyOk (by rfl) (by rfl) (by rfl) (by rfl) (by rfl) (by rfl) (by rfl) (by first | exact Nat.le_of_ble_eq_true rfl | (dsimp only; omega) | omega | assumption | (simp only [openR]; omega) | exact Nat.lt_of_lt_of_le (m := 3) (by omega) (Nat.le_of_ble_eq_true rfl)) (by first | exact Nat.le_of_ble_eq_true rfl | (dsimp only; omega) | omega | assumption | (simp only [openR]; omega) | exact Nat.lt_of_lt_of_le (m := 3) (by omega) (Nat.le_of_ble_eq_true rfl)) (by rfl) ?_
          | refine AL.loadAggE tyOk (by rfl) (by rfl) (by rfl) (by rfl) (by rfl) (by rfl) (by rfl) (by first | exact Nat.le_of_ble_eq_true rfl | (dsimp only; omega) | omega | assumption | (simp only [openR]; omega) | exact Nat.lt_of_lt_of_le (m := 3) (by omega) (Nat.le_of_ble_eq_true rfl)) (by first | exact Nat.le_of_ble_eq_true rfl | (dsimp only; omega) | omega | assumption | (simp only [openR]; omega) | exact Nat.lt_of_lt_of_le (m := 3) (by omega) (Nat.le_of_ble_eq_true rfl)) (by rfl) ?_
          | refine AL.int2 (by rfl) (by rfl) (by rfl) (by rfl) (by rfl) (by rfl) (by first | trivial | decide | omega) ?_
          | refine AL.gOnE (by rfl) (by rfl) (by rfl) (by rfl) (by decide) (by first | rfl | assumption) ?_
          | refine AL.pickE (b' := true) (by rfl) (by rfl) (by rfl) (by rfl) (by first | rfl | assumption) ?_
          | refine AL.pickE (b' := false) (by rfl) (by rfl) (by rfl) (by rfl) (by first | rfl | assumption) ?_)
      refine AL.nil ?_
      refine AY.takeOn 13 (by rfl) (by rfl) (by rfl) (by rfl) (by rfl) (by decide) (by first | rfl | assumption) (by kernel_rfl) (by decide +kernel) (by decide +kernel) (fun c s h => by rcases h.1 with h | h <;> cases h) (by rfl) (by (first | exact Pure1.move (.inl (by rfl)) | exact Pure1.move (.inr (by rfl)) | exact Pure1.indexN tyOk (by rfl) (by rfl) (by rfl) (by rfl) (by rfl) (by rfl) (by first | rfl | exact (Int.toNat_of_nonneg (by omega)).symm) (by omega) | exact Pure1.fieldAddr tyOk (by rfl) (by rfl) (by rfl) (by rfl) | exact Pure1.len tyOk (by rfl) (by rfl) (by rfl) | exact Pure1.add (by rfl) (by rfl) (by rfl) (by constructor <;> omega) | exact Pure1.int2 (by rfl) (by rfl) (by rfl) (by rfl) (by first | trivial | decide | omega) | exact Pure1.not (by rfl) (by rfl))) ?_
      refine AY.step [14] (by kernel_rfl) (by simp) (AYs.cons (by rfl) ?_ AYs.nil)
      (first
          | refine AL.load1 tyOk (by rfl) (by rfl) (by rfl) (by rfl) (by rfl) (by rfl) (by rfl) (by first | exact Nat.le_of_ble_eq_true rfl | (dsimp only; omega) | omega | assumption | (simp only [openR]; omega) | exact Nat.lt_of_lt_of_le (m := 3) (by omega) (Nat.le_of_ble_eq_true rfl)) (by first | exact Nat.le_of_ble_eq_true rfl | (dsimp only; omega) | omega | assumption | (simp only [openR]; omega) | exact Nat.lt_of_lt_of_le (m := 3) (by omega) (Nat.le_of_ble_eq_true rfl)) (by rfl) ?_
          | refine AL.loadAggE tyOk (by rfl) (by rfl) (by rfl) (by rfl) (by rfl) (by rfl) (by rfl) (by first | exact Nat.le_of_ble_eq_true rfl | (dsimp only; omega) | omega | assumption | (simp only [openR]; omega) | exact Nat.lt_of_lt_of_le (m := 3) (by omega) (Nat.le_of_ble_eq_true rfl)) (by first | exact Nat.le_of_ble_eq_true rfl | (dsimp only; omega) | omega | assumption | (simp only [openR]; omega) | exact Nat.lt_of_lt_of_le (m := 3) (by omega) (Nat.le_of_ble_eq_true rfl)) (by rfl) ?_
          | refine AL.int2 (by rfl) (by rfl) (by rfl) (by rfl) (by rfl) (by rfl) (by first | trivial | decide | omega) ?_
          | refine AL.gOnE (by rfl) (by rfl) (by rfl) (by rfl) (by decide) (by first | rfl | assumption) ?_
          | refine AL.pickE (b' := true) (by rfl) (by rfl) (by rfl) (by rfl) (by first | rfl | assumption) ?_
          | refine AL.pickE (b' := false) (by rfl) (by rfl) (by rfl) (by rfl) (by first | rfl | assumption) ?_)
      refine AL.nil ?_
      refine AY.take 15 (by rfl) (by rfl) (by kernel_rfl) (by kernel_rfl) (by kernel_rfl) (fun c s h => by rcases h.1 with h | h <;> cases h) (by rfl) (by (first | exact Pure1.move (.inl (by rfl)) | exact Pure1.move (.inr (by rfl)) | exact Pure1.indexN tyOk (by rfl) (by rfl) (by rfl) (by rfl) (by rfl) (by rfl) (by first | rfl | exact (Int.toNat_of_nonneg (by omega)).symm) (by omega) | exact Pure1.fieldAddr tyOk (by rfl) (by rfl) (by rfl) (by rfl) | exact Pure1.len tyOk (by rfl) (by rfl) (by rfl) | exact Pure1.add (by rfl) (by rfl) (by rfl) (by constructor <;> omega) | exact Pure1.int2 (by rfl) (by rfl) (by rfl) (by rfl) (by first | trivial | decide | omega) | exact Pure1.not (by rfl) (by rfl))) ?_
      refine AY.takeOff 16 (by rfl) (by rfl) (by rfl) (by rfl) (by rfl) (by decide) (by first | rfl | assumption) (by kernel_rfl) (by decide +kernel) (by decide +kernel) (fun c s h => by rcases h.1 with h | h <;> cases h) (by rfl) ?_
      refine AY.takeOff 17 (by rfl) (by rfl) (by rfl) (by rfl) (by rfl) (by decide) (by first | rfl | assumption) (by kernel_rfl) (by decide +kernel) (by decide +kernel) (fun c s h => by rcases h.1 with h | h <;> cases h) (by rfl) ?_
      refine AY.takeOff 18 (by rfl) (by rfl) (by rfl) (by rfl) (by rfl) (by decide) (by first | rfl | assumption) (by kernel_rfl) (by decide +kernel) (by decide +kernel) (fun c s h => by rcases h.1 with h | h <;> cases h) (by rfl) ?_
      refine AY.takeOff 19 (by rfl) (by rfl) (by rfl) (by rfl) (by rfl) (by decide) (by first | rfl | assumption) (by kernel_rfl) (by decide +kernel) (by decide +kernel) (fun c s h => by rcases h.1 with h | h <;> cases h) (by rfl) ?_
      refine AY.takeOff 20 (by rfl) (by rfl) (by rfl) (by rfl) (by rfl) (by decide) (by first | rfl | assumption) (by kernel_rfl) (by decide +kernel) (by decide +kernel) (fun c s h => by rcases h.1 with h | h <;> cases h) (by rfl) ?_
      refine AY.takeOff 21 (by rfl) (by rfl) (by rfl) (by rfl) (by rfl) (by decide) (by first | rfl | assumption) (by kernel_rfl) (by decide +kernel) (by decide +kernel) (fun c s h => by rcases h.1 with h | h <;> cases h) (by rfl) ?_
      refine AY.takeOff 22 (by rfl) (by rfl) (by rfl) (by rfl) (by rfl) (by decide) (by first | rfl | assumption) (by kernel_rfl) (by decide +kernel) (by decide +kernel) (fun c s h => by rcases h.1 with h | h <;> cases h) (by rfl) ?_
      refine AY.takeOff 23 (by rfl) (by rfl) (by rfl) (by rfl) (by rfl) (by decide) (by first | rfl | assumption) (by kernel_rfl) (by decide +kernel) (by decide +kernel) (fun c s h => by rcases h.1 with h | h <;> cases h) (by rfl) ?_
      refine AY.takeOff 24 (by rfl) (by rfl) (by rfl) (by rfl) (by rfl) (by decide) (by first | rfl | assumption) (by kernel_rfl) (by decide +kernel) (by decide +kernel) (fun c s h => by rcases h.1 with h | h <;> cases h) (by rfl) ?_
      refine AY.step [25] (by kernel_rfl) (by simp) (AYs.cons (by rfl) ?_ AYs.nil)
      (first
          | refine AL.load1 tyOk (by rfl) (by rfl) (by rfl) (by rfl) (by rfl) (by rfl) (by rfl) (by first | exact Nat.le_of_ble_eq_true rfl | (dsimp only; omega) | omega | assumption | (simp only [openR]; omega) | exact Nat.lt_of_lt_of_le (m := 3) (by omega) (Nat.le_of_ble_eq_true rfl)) (by first | exact Nat.le_of_ble_eq_true rfl | (dsimp only; omega) | omega | assumption | (simp only [openR]; omega) | exact Nat.lt_of_lt_of_le (m := 3) (by omega) (Nat.le_of_ble_eq_true rfl)) (by rfl) ?_
          | refine AL.loadAggE tyOk (by rfl) (by rfl) (by rfl) (by rfl) (by rfl) (by rfl) (by rfl) (by first | exact Nat.le_of_ble_eq_true rfl | (dsimp only; omega) | omega | assumption | (simp only [openR]; omega) | exact Nat.lt_of_lt_of_le (m := 3) (by omega) (Nat.le_of_ble_eq_true rfl)) (by first | exact Nat.le_of_ble_eq_true rfl | (dsimp only; omega) | omega | assumption | (simp only [openR]; omega) | exact Nat.lt_of_lt_of_le (m := 3) (by omega) (Nat.le_of_ble_eq_true rfl)) (by rfl) ?_
          | refine AL.int2 (by rfl) (by rfl) (by rfl) (by rfl) (by rfl) (by rfl) (by first | trivial | decide | omega) ?_
          | refine AL.gOnE (by rfl) (by rfl) (by rfl) (by rfl) (by decide) (by first | rfl | assumption) ?_
          | refine AL.pickE (b' := true) (by rfl) (by rfl) (by rfl) (by rfl) (by first | rfl | assumption) ?_
          | refine AL.pickE (b' := false) (by rfl) (by rfl) (by rfl) (by rfl) (by first | rfl | assumption) ?_)
      refine AL.nil ?_
      refine AY.done (by kernel_rfl) ?_
      refine St.le.sub ?_ ?_ (by rfl) (by rfl)
      · exact And.intro rfl (And.intro rfl (And.intro rfl (And.intro (by first | rfl | (rw [hB]; rfl)) trivial)))
      · exact And.intro ⟨_, rfl, ⟨rfl, (fun h => by cases h), rfl, rfl, fun i r hi hr => (by obtain rfl : i = 0 := Nat.lt_one_iff.1 hi; rcases r with _ | _ | r; rfl; rfl; exact absurd hr (by show ¬ r + 1 + 1 < 2; omega))⟩⟩ (And.intro ⟨_, rfl, RSame.rfl _⟩ (And.intro ⟨_, rfl, RSame.rfl _⟩ trivial))
    have hB : bhB E (ps i) = decide ((ps i).2.1 < E) := by simp [bhB, h3, h4]
    refine AY.takeOn 7 (by rfl) (by rfl) (by rfl) (by rfl) (by rfl) (by decide) (by first | rfl | assumption) (by kernel_rfl) (by decide +kernel) (by decide +kernel) (fun c s h => by rcases h.1 with h | h <;> cases h) (by rfl) (by (first | exact Pure1.move (.inl (by rfl)) | exact Pure1.move (.inr (by rfl)) | exact Pure1.indexN tyOk (by rfl) (by rfl) (by rfl) (by rfl) (by rfl) (by rfl) (by first | rfl | exact (Int.toNat_of_nonneg (by omega)).symm) (by omega) | exact Pure1.fieldAddr tyOk (by rfl) (by rfl) (by rfl) (by rfl) | exact Pure1.len tyOk (by rfl) (by rfl) (by rfl) | exact Pure1.add (by rfl) (by rfl) (by rfl) (by constructor <;> omega) | exact Pure1.int2 (by rfl) (by rfl) (by rfl) (by rfl) (by first | trivial | decide | omega) | exact Pure1.not (by rfl) (by rfl))) ?_
    refine AY.takeOn 9 (by rfl) (by rfl) (by rfl) (by rfl) (by rfl) (by decide) (by first | rfl | assumption) (by kernel_rfl) (by decide +kernel) (by decide +kernel) (fun c s h => by rcases h.1 with h | h <;> cases h) (by rfl) (by (first | exact Pure1.move (.inl (by rfl)) | exact Pure1.move (.inr (by rfl)) | exact Pure1.indexN tyOk (by rfl) (by rfl) (by rfl) (by rfl) (by rfl) (by rfl) (by first | rfl | exact (Int.toNat_of_nonneg (by omega)).symm) (by omega) | exact Pure1.fieldAddr tyOk (by rfl) (by rfl) (by rfl) (by rfl) | exact Pure1.len tyOk (by rfl) (by rfl) (by rfl) | exact Pure1.add (by rfl) (by rfl) (by rfl) (by constructor <;> omega) | exact Pure1.int2 (by rfl) (by rfl) (by rfl) (by rfl) (by first | trivial | decide | omega) | exact Pure1.not (by rfl) (by rfl))) ?_
    refine AY.step [8] (by kernel_rfl) (by simp) (AYs.cons (by rfl) ?_ AYs.nil)
    (first
        | refine AL.load1 tyOk (by rfl) (by rfl) (by rfl) (by rfl) (by rfl) (by rfl) (by rfl) (by first | exact Nat.le_of_ble_eq_true rfl | (dsimp only; omega) | omega | assumption | (simp only [openR]; omega) | exact Nat.lt_of_lt_of_le (m := 3) (by omega) (Nat.le_of_ble_eq_true rfl)) (by first | exact Nat.le_of_ble_eq_true rfl | (dsimp only; omega) | omega | assumption | (simp only [openR]; omega) | exact Nat.lt_of_lt_of_le (m := 3) (by omega) (Nat.le_of_ble_eq_true rfl)) (by rfl) ?_
        | refine AL.loadAggE tyOk (by rfl) (by rfl) (by rfl) (by rfl) (by rfl) (by rfl) (by rfl) (by first | exact Nat.le_of_ble_eq_true rfl | (dsimp only; omega) | omega | assumption | (simp only [openR]; omega) | exact Nat.lt_of_lt_of_le (m := 3) (by omega) (Nat.le_of_ble_eq_true rfl)) (by first | exact Nat.le_of_ble_eq_true rfl | (dsimp only; omega) | omega | assumption | (simp only [openR]; omega) | exact Nat.lt_of_lt_of_le (m := 3) (by omega) (Nat.le_of_ble_eq_true rfl)) (by rfl) ?_
        | refine AL.int2 (by rfl) (by rfl) (by rfl) (by rfl) (by rfl) (by rfl) (by first | trivial | decide | omega) ?_
        | refine AL.gOnE (by rfl) (by rfl) (by rfl) (by rfl) (by decide) (by first | rfl | assumption) ?_
        | refine AL.pickE (b' := true) (by rfl) (by rfl) (by rfl) (by rfl) (by first | rfl | assumption) ?_
        | refine AL.pickE (b' := false) (by rfl) (by rfl) (by rfl) (by rfl) (by first | rfl | assumption) ?_)
    (first
        | refine AL.load1 tyOk (by rfl) (by rfl) (by rfl) (by rfl) (by rfl) (by rfl) (by rfl) (by first | exact Nat.le_of_ble_eq_true rfl | (dsimp only; omega) | omega | assumption | (simp only [openR]; omega) | exact Nat.lt_of_lt_of_le (m := 3) (by omega) (Nat.le_of_ble_eq_true rfl)) (by first | exact Nat.le_of_ble_eq_true rfl | (dsimp only; omega) | omega | assumption | (simp only [openR]; omega) | exact Nat.lt_of_lt_of_le (m := 3) (by omega) (Nat.le_of_ble_eq_true rfl)) (by rfl) ?_
        | refine AL.loadAggE tyOk (by rfl) (by rfl) (by rfl) (by rfl) (by rfl) (by rfl) (by rfl) (by first | exact Nat.le_of_ble_eq_true rfl | (dsimp only; omega) | omega | assumption | (simp only [openR]; omega) | exact Nat.lt_of_lt_of_le (m := 3) (by omega) (Nat.le_of_ble_eq_true rfl)) (by first | exact Nat.le_of_ble_eq_true rfl | (dsimp only; omega) | omega | assumption | (simp only [openR]; omega) | exact Nat.lt_of_lt_of_le (m := 3) (by omega) (Nat.le_of_ble_eq_true rfl)) (by rfl) ?_
        | refine AL.int2 (by rfl) (by rfl) (by rfl) (by rfl) (by rfl) (by rfl) (by first | trivial | decide | omega) ?_
        | refine AL.gOnE (by rfl) (by rfl) (by rfl) (by rfl) (by decide) (by first | rfl | assumption) ?_
        | refine AL.pickE (b' := true) (by rfl) (by rfl) (by rfl) (by rfl) (by first | rfl | assumption) ?_
        | refine AL.pickE (b' := false) (by rfl) (by rfl) (by rfl) (by rfl) (by first | rfl | assumption) ?_)
    refine AL.nil ?_
    refine AY.takeOn 10 (by rfl) (by rfl) (by rfl) (by rfl) (by rfl) (by decide) (by first | rfl | assumption) (by kernel_rfl) (by decide +kernel) (by decide +kernel) (fun c s h => by rcases h.1 with h | h <;> cases h) (by rfl) (by (first | exact Pure1.move (.inl (by rfl)) | exact Pure1.move (.inr (by rfl)) | exact Pure1.indexN tyOk (by rfl) (by rfl) (by rfl) (by rfl) (by rfl) (by rfl) (by first | rfl | exact (Int.toNat_of_nonneg (by omega)).symm) (by omega) | exact Pure1.fieldAddr tyOk (by rfl) (by rfl) (by rfl) (by rfl) | exact Pure1.len tyOk (by rfl) (by rfl) (by rfl) | exact Pure1.add (by rfl) (by rfl) (by rfl) (by constructor <;> omega) | exact Pure1.int2 (by rfl) (by rfl) (by rfl) (by rfl) (by first | trivial | decide | omega) | exact Pure1.not (by rfl) (by rfl))) ?_
    refine AY.takeOn 11 (by rfl) (by rfl) (by rfl) (by rfl) (by rfl) (by decide) (by first | rfl | assumption) (by kernel_rfl) (by decide +kernel) (by decide +kernel) (fun c s h => by rcases h.1 with h | h <;> cases h) (by rfl) (by (first | exact Pure1.move (.inl (by rfl)) | exact Pure1.move (.inr (by rfl)) | exact Pure1.indexN tyOk (by rfl) (by rfl) (by rfl) (by rfl) (by rfl) (by rfl) (by first | rfl | exact (Int.toNat_of_nonneg (by omega)).symm) (by omega) | exact Pure1.fieldAddr tyOk (by rfl) (by rfl) (by rfl) (by rfl) | exact Pure1.len tyOk (by rfl) (by rfl) (by rfl) | exact Pure1.add (by rfl) (by rfl) (by rfl) (by constructor <;> omega) | exact Pure1.int2 (by rfl) (by rfl) (by rfl) (by rfl) (by first | trivial | decide | omega) | exact Pure1.not (by rfl) (by rfl))) ?_
    refine AY.step [12] (by kernel_rfl) (by simp) (AYs.cons (by rfl) ?_ AYs.nil)
    (first
        | refine AL.load1 tyOk (by rfl) (by rfl) (by rfl) (by rfl) (by rfl) (by rfl) (by rfl) (by first | exact Nat.le_of_ble_eq_true rfl | (dsimp only; omega) | omega | assumption | (simp only [openR]; omega) | exact Nat.lt_of_lt_of_le (m := 3) (by omega) (Nat.le_of_ble_eq_true rfl)) (by first | exact Nat.le_of_ble_eq_true rfl | (dsimp only; omega) | omega | assumption | (simp only [openR]; omega) | exact Nat.lt_of_lt_of_le (m := 3) (by omega) (Nat.le_of_ble_eq_true rfl)) (by rfl) ?_
        | refine AL.loadAggE tyOk (by rfl) (by rfl) (by rfl) (by rfl) (by rfl) (by rfl) (by rfl) (by first | exact Nat.le_of_ble_eq_true rfl | (dsimp only; omega) | omega | assumption | (simp only [openR]; omega) | exact Nat.lt_of_lt_of_le (m := 3) (by omega) (Nat.le_of_ble_eq_true rfl)) (by first | exact Nat.le_of_ble_eq_true rfl | (dsimp only; omega) | omega | assumption | (simp only [openR]; omega) | exact Nat.lt_of_lt_of_le (m := 3) (by omega) (Nat.le_of_ble_eq_true rfl)) (by rfl) ?_
        | refine AL.int2 (by rfl) (by rfl) (by rfl) (by rfl) (by rfl) (by rfl) (by first | trivial | decide | omega) ?_
        | refine AL.gOnE (by rfl) (by rfl) (by rfl) (by rfl) (by decide) (by first | rfl | assumption) ?_
        | refine AL.pickE (b' := true) (by rfl) (by rfl) (by rfl) (by rfl) (by first | rfl | assumption) ?_
        | refine AL.pickE (b' := false) (by rfl) (by rfl) (by rfl) (by rfl) (by first | rfl | assumption) ?_)
    (first
        | refine AL.load1 tyOk (by rfl) (by rfl) (by rfl) (by rfl) (by rfl) (by rfl) (by rfl) (by first | exact Nat.le_of_ble_eq_true rfl | (dsimp only; omega) | omega | assumption | (simp only [openR]; omega) | exact Nat.lt_of_lt_of_le (m := 3) (by omega) (Nat.le_of_ble_eq_true rfl)) (by first | exact Nat.le_of_ble_eq_true rfl | (dsimp only; omega) | omega | assumption | (simp only [openR]; omega) | exact Nat.lt_of_lt_of_le (m := 3) (by omega) (Nat.le_of_ble_eq_true rfl)) (by rfl) ?_
        | refine AL.loadAggE tyOk (by rfl) (by rfl) (by rfl) (by rfl) (by rfl) (by rfl) (by rfl) (by first | exact Nat.le_of_ble_eq_true rfl | (dsimp only; omega) | omega | assumption | (simp only [openR]; omega) | exact Nat.lt_of_lt_of_le (m := 3) (by omega) (Nat.le_of_ble_eq_true rfl)) (by first | exact Nat.le_of_ble_eq_true rfl | (dsimp only; omega) | omega | assumption | (simp only [openR]; omega) | exact Nat.lt_of_lt_of_le (m := 3) (by omega) (Nat.le_of_ble_eq_true rfl)) (by rfl) ?_
        | refine AL.int2 (by rfl) (by rfl) (by rfl) (by rfl) (by rfl) (by rfl) (by first | trivial | decide | omega) ?_
        | refine AL.gOnE (by rfl) (by rfl) (by rfl) (by rfl) (by decide) (by first | rfl | assumption) ?_
        | refine AL.pickE (b' := true) (by rfl) (by rfl) (by rfl) (by rfl) (by first | rfl | assumption) ?_
        | refine AL.pickE (b' := false) (by rfl) (by rfl) (by rfl) (by rfl) (by first | rfl | assumption) ?_)
    refine AL.nil ?_
    refine AY.takeOn 13 (by rfl) (by rfl) (by rfl) (by rfl) (by rfl) (by decide) (by first | rfl | assumption) (by kernel_rfl) (by decide +kernel) (by decide +kernel) (fun c s h => by rcases h.1 with h | h <;> cases h) (by rfl) (by (first | exact Pure1.move (.inl (by rfl)) | exact Pure1.move (.inr (by rfl)) | exact Pure1.indexN tyOk (by rfl) (by rfl) (by rfl) (by rfl) (by rfl) (by rfl) (by first | rfl | exact (Int.toNat_of_nonneg (by omega)).symm) (by omega) | exact Pure1.fieldAddr tyOk (by rfl) (by rfl) (by rfl) (by rfl) | exact Pure1.len tyOk (by rfl) (by rfl) (by rfl) | exact Pure1.add (by rfl) (by rfl) (by rfl) (by constructor <;> omega) | exact Pure1.int2 (by rfl) (by rfl) (by rfl) (by rfl) (by first | trivial | decide | omega) | exact Pure1.not (by rfl) (by rfl))) ?_
    refine AY.step [14] (by kernel_rfl) (by simp) (AYs.cons (by rfl) ?_ AYs.nil)
    (first
        | refine AL.load1 tyOk (by rfl) (by rfl) (by rfl) (by rfl) (by rfl) (by rfl) (by rfl) (by first | exact Nat.le_of_ble_eq_true rfl | (dsimp only; omega) | omega | assumption | (simp only [openR]; omega) | exact Nat.lt_of_lt_of_le (m := 3) (by omega) (Nat.le_of_ble_eq_true rfl)) (by first | exact Nat.le_of_ble_eq_true rfl | (dsimp only; omega) | omega | assumption | (simp only [openR]; omega) | exact Nat.lt_of_lt_of_le (m := 3) (by omega) (Nat.le_of_ble_eq_true rfl)) (by rfl) ?_
        | refine AL.loadAggE tyOk (by rfl) (by rfl) (by rfl) (by rfl) (by rfl) (by rfl) (by rfl) (by first | exact Nat.le_of_ble_eq_true rfl | (dsimp only; omega) | omega | assumption | (simp only [openR]; omega) | exact Nat.lt_of_lt_of_le (m := 3) (by omega) (Nat.le_of_ble_eq_true rfl)) (by first | exact Nat.le_of_ble_eq_true rfl | (dsimp only; omega) | omega | assumption | (simp only [openR]; omega) | exact Nat.lt_of_lt_of_le (m := 3) (by omega) (Nat.le_of_ble_eq_true rfl)) (by rfl) ?_
        | refine AL.int2 (by rfl) (by rfl) (by rfl) (by rfl) (by rfl) (by rfl) (by first | trivial | decide | omega) ?_
        | refine AL.gOnE (by rfl) (by rfl) (by rfl) (by rfl) (by decide) (by first | rfl | assumption) ?_
        | refine AL.pickE (b' := true) (by rfl) (by rfl) (by rfl) (by rfl) (by first | rfl | assumption) ?_
        | refine AL.pickE (b' := false) (by rfl) (by rfl) (by rfl) (by rfl) (by first | rfl | assumption) ?_)
    refine AL.nil ?_
    refine AY.take 15 (by rfl) (by rfl) (by kernel_rfl) (by kernel_rfl) (by kernel_rfl) (fun c s h => by rcases h.1 with h | h <;> cases h) (by rfl) (by (first | exact Pure1.move (.inl (by rfl)) | exact Pure1.move (.inr (by rfl)) | exact Pure1.indexN tyOk (by rfl) (by rfl) (by rfl) (by rfl) (by rfl) (by rfl) (by first | rfl | exact (Int.toNat_of_nonneg (by omega)).symm) (by omega) | exact Pure1.fieldAddr tyOk (by rfl) (by rfl) (by rfl) (by rfl) | exact Pure1.len tyOk (by rfl) (by rfl) (by rfl) | exact Pure1.add (by rfl) (by rfl) (by rfl) (by constructor <;> omega) | exact Pure1.int2 (by rfl) (by rfl) (by rfl) (by rfl) (by first | trivial | decide | omega) | exact Pure1.not (by rfl) (by rfl))) ?_
    refine AY.takeOn 16 (by rfl) (by rfl) (by rfl) (by rfl) (by rfl) (by decide) (by first | rfl | assumption) (by kernel_rfl) (by decide +kernel) (by decide +kernel) (fun c s h => by rcases h.1 with h | h <;> cases h) (by rfl) (by (first | exact Pure1.move (.inl (by rfl)) | exact Pure1.move (.inr (by rfl)) | exact Pure1.indexN tyOk (by rfl) (by rfl) (by rfl) (by rfl) (by rfl) (by rfl) (by first | rfl | exact (Int.toNat_of_nonneg (by omega)).symm) (by omega) | exact Pure1.fieldAddr tyOk (by rfl) (by rfl) (by rfl) (by rfl) | exact Pure1.len tyOk (by rfl) (by rfl) (by rfl) | exact Pure1.add (by rfl) (by rfl) (by rfl) (by constructor <;> omega) | exact Pure1.int2 (by rfl) (by rfl) (by rfl) (by rfl) (by first | trivial | decide | omega) | exact Pure1.not (by rfl) (by rfl))) ?_
    refine AY.takeOn 18 (by rfl) (by rfl) (by rfl) (by rfl) (by rfl) (by decide) (by first | rfl | assumption) (by kernel_rfl) (by decide +kernel) (by decide +kernel) (fun c s h => by rcases h.1 with h | h <;> cases h) (by rfl) (by (first | exact Pure1.move (.inl (by rfl)) | exact Pure1.move (.inr (by rfl)) | exact Pure1.indexN tyOk (by rfl) (by rfl) (by rfl) (by rfl) (by rfl) (by rfl) (by first | rfl | exact (Int.toNat_of_nonneg (by omega)).symm) (by omega) | exact Pure1.fieldAddr tyOk (by rfl) (by rfl) (by rfl) (by rfl) | exact Pure1.len tyOk (by rfl) (by rfl) (by rfl) | exact Pure1.add (by rfl) (by rfl) (by rfl) (by constructor <;> omega) | exact Pure1.int2 (by rfl) (by rfl) (by rfl) (by rfl) (by first | trivial | decide | omega) | exact Pure1.not (by rfl) (by rfl))) ?_
    refine AY.takeOn 22 (by rfl) (by rfl) (by rfl) (by rfl) (by rfl) (by decide) (by first | rfl | assumption) (by kernel_rfl) (by decide +kernel) (by decide +kernel) (fun c s h => by rcases h.1 with h | h <;> cases h) (by rfl) (by (first | exact Pure1.move (.inl (by rfl)) | exact Pure1.move (.inr (by rfl)) | exact Pure1.indexN tyOk (by rfl) (by rfl) (by rfl) (by rfl) (by rfl) (by rfl) (by first | rfl | exact (Int.toNat_of_nonneg (by omega)).symm) (by omega) | exact Pure1.fieldAddr tyOk (by rfl) (by rfl) (by rfl) (by rfl) | exact Pure1.len tyOk (by rfl) (by rfl) (by rfl) | exact Pure1.add (by rfl) (by rfl) (by rfl) (by constructor <;> omega) | exact Pure1.int2 (by rfl) (by rfl) (by rfl) (by rfl) (by first | trivial | decide | omega) | exact Pure1.not (by rfl) (by rfl))) ?_
    refine AY.step [17, 23] (by kernel_rfl) (by simp) (AYs.cons (by rfl) ?_ (AYs.cons (by rfl) ?_ AYs.nil))
    · (first
        | refine AL.load1 tyOk (by rfl) (by rfl) (by rfl) (by rfl) (by rfl) (by rfl) (by rfl) (by first | exact Nat.le_of_ble_eq_true rfl | (dsimp only; omega) | omega | assumption | (simp only [openR]; omega) | exact Nat.lt_of_lt_of_le (m := 3) (by omega) (Nat.le_of_ble_eq_true rfl)) (by first | exact Nat.le_of_ble_eq_true rfl | (dsimp only; omega) | omega | assumption | (simp only [openR]; omega) | exact Nat.lt_of_lt_of_le (m := 3) (by omega) (Nat.le_of_ble_eq_true rfl)) (by rfl) ?_
        | refine AL.loadAggE tyOk (by rfl) (by rfl) (by rfl) (by rfl) (by rfl) (by rfl) (by rfl) (by first | exact Nat.le_of_ble_eq_true rfl | (dsimp only; omega) | omega | assumption | (simp only [openR]; omega) | exact Nat.lt_of_lt_of_le (m := 3) (by omega) (Nat.le_of_ble_eq_true rfl)) (by first | exact Nat.le_of_ble_eq_true rfl | (dsimp only; omega) | omega | assumption | (simp only [openR]; omega) | exact Nat.lt_of_lt_of_le (m := 3) (by omega) (Nat.le_of_ble_eq_true rfl)) (by rfl) ?_
        | refine AL.int2 (by rfl) (by rfl) (by rfl) (by rfl) (by rfl) (by rfl) (by first | trivial | decide | omega) ?_
        | refine AL.gOnE (by rfl) (by rfl) (by rfl) (by rfl) (by decide) (by first | rfl | assumption) ?_
        | refine AL.pickE (b' := true) (by rfl) (by rfl) (by rfl) (by rfl) (by first | rfl | assumption) ?_
        | refine AL.pickE (b' := false) (by rfl) (by rfl) (by rfl) (by rfl) (by first | rfl | assumption) ?_)
      (first
          | refine AL.load1 tyOk (by rfl) (by rfl) (by rfl) (by rfl) (by rfl) (by rfl) (by rfl) (by first | exact Nat.le_of_ble_eq_true rfl | (dsimp only; omega) | omega | assumption | (simp only [openR]; omega) | exact Nat.lt_of_lt_of_le (m := 3) (by omega) (Nat.le_of_ble_eq_true rfl)) (by first | exact Nat.le_of_ble_eq_true rfl | (dsimp only; omega) | omega | assumption | (simp only [openR]; omega) | exact Nat.lt_of_lt_of_le (m := 3) (by omega) (Nat.le_of_ble_eq_true rfl)) (by rfl) ?_
          | refine AL.loadAggE tyOk (by rfl) (by rfl) (by rfl) (by rfl) (by rfl) (by rfl) (by rfl) (by first | exact Nat.le_of_ble_eq_true rfl | (dsimp only; omega) | omega | assumption | (simp only [openR]; omega) | exact Nat.lt_of_lt_of_le (m := 3) (by omega) (Nat.le_of_ble_eq_true rfl)) (by first | exact Nat.le_of_ble_eq_true rfl | (dsimp only; omega) | omega | assumption | (simp only [openR]; omega) | exact Nat.lt_of_lt_of_le (m := 3) (by omega) (Nat.le_of_ble_eq_true rfl)) (by rfl) ?_
          | refine AL.int2 (by rfl) (by rfl) (by rfl) (by rfl) (by rfl) (by rfl) (by first | trivial | decide | omega) ?_
          | refine AL.gOnE (by rfl) (by rfl) (by rfl) (by rfl) (by decide) (by first | rfl | assumption) ?_
          | refine AL.pickE (b' := true) (by rfl) (by rfl) (by rfl) (by rfl) (by first | rfl | assumption) ?_
          | refine AL.pickE (b' := false) (by rfl) (by rfl) (by rfl) (by rfl) (by first | rfl | assumption) ?_)
      refine AL.nil ?_
      refine AY.takeOn 19 (by rfl) (by rfl) (by rfl) (by rfl) (by rfl) (by decide) (by first | rfl | assumption) (by kernel_rfl) (by decide +kernel) (by decide +kernel) (fun c s h => by rcases h.1 with h | h <;> cases h) (by rfl) (by (first | exact Pure1.move (.inl (by rfl)) | exact Pure1.move (.inr (by rfl)) | exact Pure1.indexN tyOk (by rfl) (by rfl) (by rfl) (by rfl) (by rfl) (by rfl) (by first | rfl | exact (Int.toNat_of_nonneg (by omega)).symm) (by omega) | exact Pure1.fieldAddr tyOk (by rfl) (by rfl) (by rfl) (by rfl) | exact Pure1.len tyOk (by rfl) (by rfl) (by rfl) | exact Pure1.add (by rfl) (by rfl) (by rfl) (by constructor <;> omega) | exact Pure1.int2 (by rfl) (by rfl) (by rfl) (by rfl) (by first | trivial | decide | omega) | exact Pure1.not (by rfl) (by rfl))) ?_
      refine AY.takeOn 20 (by rfl) (by rfl) (by rfl) (by rfl) (by rfl) (by decide) (by first | rfl | assumption) (by kernel_rfl) (by decide +kernel) (by decide +kernel) (fun c s h => by rcases h.1 with h | h <;> cases h) (by rfl) (by (first | exact Pure1.move (.inl (by rfl)) | exact Pure1.move (.inr (by rfl)) | exact Pure1.indexN tyOk (by rfl) (by rfl) (by rfl) (by rfl) (by rfl) (by rfl) (by first | rfl | exact (Int.toNat_of_nonneg (by omega)).symm) (by omega) | exact Pure1.fieldAddr tyOk (by rfl) (by rfl) (by rfl) (by rfl) | exact Pure1.len tyOk (by rfl) (by rfl) (by rfl) | exact Pure1.add (by rfl) (by rfl) (by rfl) (by constructor <;> omega) | exact Pure1.int2 (by rfl) (by rfl) (by rfl) (by rfl) (by first | trivial | decide | omega) | exact Pure1.not (by rfl) (by rfl))) ?_
      refine AY.step [21, 23] (by kernel_rfl) (by simp) (AYs.cons (by rfl) ?_ (AYs.cons (by rfl) ?_ AYs.nil))
      · (first
          | refine AL.load1 tyOk (by rfl) (by rfl) (by rfl) (by rfl) (by rfl) (by rfl) (by rfl) (by first | exact Nat.le_of_ble_eq_true rfl | (dsimp only; omega) | omega | assumption | (simp only [openR]; omega) | exact Nat.lt_of_lt_of_le (m := 3) (by omega) (Nat.le_of_ble_eq_true rfl)) (by first | exact Nat.le_of_ble_eq_true rfl | (dsimp only; omega) | omega | assumption | (simp only [openR]; omega) | exact Nat.lt_of_lt_of_le (m := 3) (by omega) (Nat.le_of_ble_eq_true rfl)) (by rfl) ?_
          | refine AL.loadAggE tyOk (by rfl) (by rfl) (by rfl) (by rfl) (by rfl) (by rfl) (by rfl) (by first | exact Nat.le_of_ble_eq_true rfl | (dsimp only; omega) | omega | assumption | (simp only [openR]; omega) | exact Nat.lt_of_lt_of_le (m := 3) (by omega) (Nat.le_of_ble_eq_true rfl)) (by first | exact Nat.le_of_ble_eq_true rfl | (dsimp only; omega) | omega | assumption | (simp only [openR]; omega) | exact Nat.lt_of_lt_of_le (m := 3) (by omega) (Nat.le_of_ble_eq_true rfl)) (by rfl) ?_
          | refine AL.int2 (by rfl) (by rfl) (by rfl) (by rfl) (by rfl) (by rfl) (by first | trivial | decide | omega) ?_
          | refine AL.gOnE (by rfl) (by rfl) (by rfl) (by rfl) (by decide) (by first | rfl | assumption) ?_
          | refine AL.pickE (b' := true) (by rfl) (by rfl) (by rfl) (by rfl) (by first | rfl | assumption) ?_
          | refine AL.pickE (b' := false) (by rfl) (by rfl) (by rfl) (by rfl) (by first | rfl | assumption) ?_)
        (first
            | refine AL.load1 tyOk (by rfl) (by rfl) (by rfl) (by rfl) (by rfl) (by rfl) (by rfl) (by first | exact Nat.le_of_ble_eq_true rfl | (dsimp only; omega) | omega | assumption | (simp only [openR]; omega) | exact Nat.lt_of_lt_of_le (m := 3) (by omega) (Nat.le_of_ble_eq_true rfl)) (by first | exact Nat.le_of_ble_eq_true rfl | (dsimp only; omega) | omega | assumption | (simp only [openR]; omega) | exact Nat.lt_of_lt_of_le (m := 3) (by omega) (Nat.le_of_ble_eq_true rfl)) (by rfl) ?_
            | refine AL.loadAggE tyOk (by rfl) (by rfl) (by rfl) (by rfl) (by rfl) (by rfl) (by rfl) (by first | exact Nat.le_of_ble_eq_true rfl | (dsimp only; omega) | omega | assumption | (simp only [openR]; omega) | exact Nat.lt_of_lt_of_le (m := 3) (by omega) (Nat.le_of_ble_eq_true rfl)) (by first | exact Nat.le_of_ble_eq_true rfl | (dsimp only; omega) | omega | assumption | (simp only [openR]; omega) | exact Nat.lt_of_lt_of_le (m := 3) (by omega) (Nat.le_of_ble_eq_true rfl)) (by rfl) ?_
            | refine AL.int2 (by rfl) (by rfl) (by rfl) (by rfl) (by rfl) (by rfl) (by first | trivial | decide | omega) ?_
            | refine AL.gOnE (by rfl) (by rfl) (by rfl) (by rfl) (by decide) (by first | rfl | assumption) ?_
            | refine AL.pickE (b' := true) (by rfl) (by rfl) (by rfl) (by rfl) (by first | rfl | assumption) ?_
            | refine AL.pickE (b' := false) (by rfl) (by rfl) (by rfl) (by rfl) (by first | rfl | assumption) ?_)
        refine AL.nil ?_
        refine AY.step [23] (by kernel_rfl) (by simp) (AYs.cons (by rfl) ?_ AYs.nil)
        (first
            | refine AL.load1 tyOk (by rfl) (by rfl) (by rfl) (by rfl) (by rfl) (by rfl) (by rfl) (by first | exact Nat.le_of_ble_eq_true rfl | (dsimp only; omega) | omega | assumption | (simp only [openR]; omega) | exact Nat.lt_of_lt_of_le (m := 3) (by omega) (Nat.le_of_ble_eq_true rfl)) (by first | exact Nat.le_of_ble_eq_true rfl | (dsimp only; omega) | omega | assumption | (simp only [openR]; omega) | exact Nat.lt_of_lt_of_le (m := 3) (by omega) (Nat.le_of_ble_eq_true rfl)) (by rfl) ?_
            | refine AL.loadAggE tyOk (by rfl) (by rfl) (by rfl) (by rfl) (by rfl) (by rfl) (by rfl) (by first | exact Nat.le_of_ble_eq_true rfl | (dsimp only; omega) | omega | assumption | (simp only [openR]; omega) | exact Nat.lt_of_lt_of_le (m := 3) (by omega) (Nat.le_of_ble_eq_true rfl)) (by first | exact Nat.le_of_ble_eq_true rfl | (dsimp only; omega) | omega | assumption | (simp only [openR]; omega) | exact Nat.lt_of_lt_of_le (m := 3) (by omega) (Nat.le_of_ble_eq_true rfl)) (by rfl) ?_
            | refine AL.int2 (by rfl) (by rfl) (by rfl) (by rfl) (by rfl) (by rfl) (by first | trivial | decide | omega) ?_
            | refine AL.gOnE (by rfl) (by rfl) (by rfl) (by rfl) (by decide) (by first | rfl | assumption) ?_
            | refine AL.pickE (b' := true) (by rfl) (by rfl) (by rfl) (by rfl) (by first | rfl | assumption) ?_
            | refine AL.pickE (b' := false) (by rfl) (by rfl) (by rfl) (by rfl) (by first | rfl | assumption) ?_)
        (first
            | refine AL.load1 tyOk (by rfl) (by rfl) (by rfl) (by rfl) (by rfl) (by rfl) (by rfl) (by first | exact Nat.le_of_ble_eq_true rfl | (dsimp only; omega) | omega | assumption | (simp only [openR]; omega) | exact Nat.lt_of_lt_of_le (m := 3) (by omega) (Nat.le_of_ble_eq_true rfl)) (by first | exact Nat.le_of_ble_eq_true rfl | (dsimp only; omega) | omega | assumption | (simp only [openR]; omega) | exact Nat.lt_of_lt_of_le (m := 3) (by omega) (Nat.le_of_ble_eq_true rfl)) (by rfl) ?_
            | refine AL.loadAggE tyOk (by rfl) (by rfl) (by rfl) (by rfl) (by rfl) (by rfl) (by rfl) (by first | exact Nat.le_of_ble_eq_true rfl | (dsimp only; omega) | omega | assumption | (simp only [openR]; omega) | exact Nat.lt_of_lt_of_le (m := 3) (by omega) (Nat.le_of_ble_eq_true rfl)) (by first | exact Nat.le_of_ble_eq_true rfl | (dsimp only; omega) | omega | assumption | (simp only [openR]; omega) | exact Nat.lt_of_lt_of_le (m := 3) (by omega) (Nat.le_of_ble_eq_true rfl)) (by rfl) ?_
            | refine AL.int2 (by rfl) (by rfl) (by rfl) (by rfl) (by rfl) (by rfl) (by first | trivial | decide | omega) ?_
            | refine AL.gOnE (by rfl) (by rfl) (by rfl) (by rfl) (by decide) (by first | rfl | assumption) ?_
            | refine AL.pickE (b' := true) (by rfl) (by rfl) (by rfl) (by rfl) (by first | rfl | assumption) ?_
            | refine AL.pickE (b' := false) (by rfl) (by rfl) (by rfl) (by rfl) (by first | rfl | assumption) ?_)
        refine AL.nil ?_
        refine AY.step [24] (by kernel_rfl) (by simp) (AYs.cons (by rfl) ?_ AYs.nil)
        (first
            | refine AL.load1 tyOk (by rfl) (by rfl) (by rfl) (by rfl) (by rfl) (by rfl) (by rfl) (by first | exact Nat.le_of_ble_eq_true rfl | (dsimp only; omega) | omega | assumption | (simp only [openR]; omega) | exact Nat.lt_of_lt_of_le (m := 3) (by omega) (Nat.le_of_ble_eq_true rfl)) (by first | exact Nat.le_of_ble_eq_true rfl | (dsimp only; omega) | omega | assumption | (simp only [openR]; omega) | exact Nat.lt_of_lt_of_le (m := 3) (by omega) (Nat.le_of_ble_eq_true rfl)) (by rfl) ?_
            | refine AL.loadAggE tyOk (by rfl) (by rfl) (by rfl) (by rfl) (by rfl) (by rfl) (by rfl) (by first | exact Nat.le_of_ble_eq_true rfl | (dsimp only; omega) | omega | assumption | (simp only [openR]; omega) | exact Nat.lt_of_lt_of_le (m := 3) (by omega) (Nat.le_of_ble_eq_true rfl)) (by first | exact Nat.le_of_ble_eq_true rfl | (dsimp only; omega) | omega | assumption | (simp only [openR]; omega) | exact Nat.lt_of_lt_of_le (m := 3) (by omega) (Nat.le_of_ble_eq_true rfl)) (by rfl) ?_
            | refine AL.int2 (by rfl) (by rfl) (by rfl) (by rfl) (by rfl) (by rfl) (by first | trivial | decide | omega) ?_
            | refine AL.gOnE (by rfl) (by rfl) (by rfl) (by rfl) (by decide) (by first | rfl | assumption) ?_
            | refine AL.pickE (b' := true) (by rfl) (by rfl) (by rfl) (by rfl) (by first | rfl | assumption) ?_
            | refine AL.pickE (b' := false) (by rfl) (by rfl) (by rfl) (by rfl) (by first | rfl | assumption) ?_)
        (first
            | refine AL.load1 tyOk (by rfl) (by rfl) (by rfl) (by rfl) (by rfl) (by rfl) (by rfl) (by first | exact Nat.le_of_ble_eq_true rfl | (dsimp only; omega) | omega | assumption | (simp only [openR]; omega) | exact Nat.lt_of_lt_of_le (m := 3) (by omega) (Nat.le_of_ble_eq_true rfl)) (by first | exact Nat.le_of_ble_eq_true rfl | (dsimp only; omega) | omega | assumption | (simp only [openR]; omega) | exact Nat.lt_of_lt_of_le (m := 3) (by omega) (Nat.le_of_ble_eq_true rfl)) (by rfl) ?_
            | refine AL.loadAggE tyOk (by rfl) (by rfl) (by rfl) (by rfl) (by rfl) (by rfl) (by rfl) (by first | exact Nat.le_of_ble_eq_true rfl | (dsimp only; omega) | omega | assumption | (simp only [openR]; omega) | exact Nat.lt_of_lt_of_le (m := 3) (by omega) (Nat.le_of_ble_eq_true rfl)) (by first | exact Nat.le_of_ble_eq_true rfl | (dsimp only; omega) | omega | assumption | (simp only [openR]; omega) | exact Nat.lt_of_lt_of_le (m := 3) (by omega) (Nat.le_of_ble_eq_true rfl)) (by rfl) ?_
            | refine AL.int2 (by rfl) (by rfl) (by rfl) (by rfl) (by rfl) (by rfl) (by first | trivial | decide | omega) ?_
            | refine AL.gOnE (by rfl) (by rfl) (by rfl) (by rfl) (by decide) (by first | rfl | assumption) ?_
            | refine AL.pickE (b' := true) (by rfl) (by rfl) (by rfl) (by rfl) (by first | rfl | assumption) ?_
            | refine AL.pickE (b' := false) (by rfl) (by rfl) (by rfl) (by rfl) (by first | rfl | assumption) ?_)
        refine AL.nil ?_
        refine AY.step [25] (by kernel_rfl) (by simp) (AYs.cons (by rfl) ?_ AYs.nil)
        (first
            | refine AL.load1 tyOk (by rfl) (by rfl) (by rfl) (by rfl) (by rfl) (by rfl) (by rfl) (by first | exact Nat.le_of_ble_eq_true rfl | (dsimp only; omega) | omega | assumption | (simp only [openR]; omega) | exact Nat.lt_of_lt_of_le (m := 3) (by omega) (Nat.le_of_ble_eq_true rfl)) (by first | exact Nat.le_of_ble_eq_true rfl | (dsimp only; omega) | omega | assumption | (simp only [openR]; omega) | exact Nat.lt_of_lt_of_le (m := 3) (by omega) (Nat.le_of_ble_eq_true rfl)) (by rfl) ?_
            | refine AL.loadAggE tyOk (by rfl) (by rfl) (by rfl) (by rfl) (by rfl) (by rfl) (by rfl) (by first | exact Nat.le_of_ble_eq_true rfl | (dsimp only; omega) | omega | assumption | (simp only [openR]; omega) | exact Nat.lt_of_lt_of_le (m := 3) (by omega) (Nat.le_of_ble_eq_true rfl)) (by first | exact Nat.le_of_ble_eq_true rfl | (dsimp only; omega) | omega | assumption | (simp only [openR]; omega) | exact Nat.lt_of_lt_of_le (m := 3) (by omega) (Nat.le_of_ble_eq_true rfl)) (by rfl) ?_
            | refine AL.int2 (by rfl) (by rfl) (by rfl) (by rfl) (by rfl) (by rfl) (by first | trivial | decide | omega) ?_
            | refine AL.gOnE (by rfl) (by rfl) (by rfl) (by rfl) (by decide) (by first | rfl | assumption) ?_
            | refine AL.pickE (b' := true) (by rfl) (by rfl) (by rfl) (by rfl) (by first | rfl | assumption) ?_
            | refine AL.pickE (b' := false) (by rfl) (by rfl) (by rfl) (by rfl) (by first | rfl | assumption) ?_)
        refine AL.nil ?_
        refine AY.done (by kernel_rfl) ?_
        refine St.le.sub ?_ ?_ (by rfl) (by rfl)
        · exact And.intro rfl (And.intro rfl (And.intro rfl (And.intro (by first | rfl | (rw [hB]; rfl)) trivial)))
        · exact And.intro ⟨_, rfl, ⟨rfl, (fun h => by cases h), rfl, rfl, fun i r hi hr => (by obtain rfl : i = 0 := Nat.lt_one_iff.1 hi; rcases r with _ | _ | r; rfl; rfl; exact absurd hr (by show ¬ r + 1 + 1 < 2; omega))⟩⟩ (And.intro ⟨_, rfl, RSame.rfl _⟩ (And.intro ⟨_, rfl, RSame.rfl _⟩ trivial))
      · (first
          | refine AL.load1 tyOk (by rfl) (by rfl) (by rfl) (by rfl) (by rfl) (by rfl) (by rfl) (by first | exact Nat.le_of_ble_eq_true rfl | (dsimp only; omega) | omega | assumption | (simp only [openR]; omega) | exact Nat.lt_of_lt_of_le (m := 3) (by omega) (Nat.le_of_ble_eq_true rfl)) (by first | exact Nat.le_of_ble_eq_true rfl | (dsimp only; omega) | omega | assumption | (simp only [openR]; omega) | exact Nat.lt_of_lt_of_le (m := 3) (by omega) (Nat.le_of_ble_eq_true rfl)) (by rfl) ?_
          | refine AL.loadAggE tyOk (by rfl) (by rfl) (by rfl) (by rfl) (by rfl) (by rfl) (by rfl) (by first | exact Nat.le_of_ble_eq_true rfl | (dsimp only; omega) | omega | assumption | (simp only [openR]; omega) | exact Nat.lt_of_lt_of_le (m := 3) (by omega) (Nat.le_of_ble_eq_true rfl)) (by first | exact Nat.le_of_ble_eq_true rfl | (dsimp only; omega) | omega | assumption | (simp only [openR]; omega) | exact Nat.lt_of_lt_of_le (m := 3) (by omega) (Nat.le_of_ble_eq_true rfl)) (by rfl) ?_
          | refine AL.int2 (by rfl) (by rfl) (by rfl) (by rfl) (by rfl) (by rfl) (by first | trivial | decide | omega) ?_
          | refine AL.gOnE (by rfl) (by rfl) (by rfl) (by rfl) (by decide) (by first | rfl | assumption) ?_
          | refine AL.pickE (b' := true) (by rfl) (by rfl) (by rfl) (by rfl) (by first | rfl | assumption) ?_
          | refine AL.pickE (b' := false) (by rfl) (by rfl) (by rfl) (by rfl) (by first | rfl | assumption) ?_)
        (first
            | refine AL.load1 tyOk (by rfl) (by rfl) (by rfl) (by rfl) (by rfl) (by rfl) (by rfl) (by first | exact Nat.le_of_ble_eq_true rfl | (dsimp only; omega) | omega | assumption | (simp only [openR]; omega) | exact Nat.lt_of_lt_of_le (m := 3) (by omega) (Nat.le_of_ble_eq_true rfl)) (by first | exact Nat.le_of_ble_eq_true rfl | (dsimp only; omega) | omega | assumption | (simp only [openR]; omega) | exact Nat.lt_of_lt_of_le (m := 3) (by omega) (Nat.le_of_ble_eq_true rfl)) (by rfl) ?_
            | refine AL.loadAggE tyOk (by rfl) (by rfl) (by rfl) (by rfl) (by rfl) (by rfl) (by rfl) (by first | exact Nat.le_of_ble_eq_true rfl | (dsimp only; omega) | omega | assumption | (simp only [openR]; omega) | exact Nat.lt_of_lt_of_le (m := 3) (by omega) (Nat.le_of_ble_eq_true rfl)) (by first | exact Nat.le_of_ble_eq_true rfl | (dsimp only; omega) | omega | assumption | (simp only [openR]; omega) | exact Nat.lt_of_lt_of_le (m := 3) (by omega) (Nat.le_of_ble_eq_true rfl)) (by rfl) ?_
            | refine AL.int2 (by rfl) (by rfl) (by rfl) (by rfl) (by rfl) (by rfl) (by first | trivial | decide | omega) ?_
            | refine AL.gOnE (by rfl) (by rfl) (by rfl) (by rfl) (by decide) (by first | rfl | assumption) ?_
            | refine AL.pickE (b' := true) (by rfl) (by rfl) (by rfl) (by rfl) (by first | rfl | assumption) ?_
            | refine AL.pickE (b' := false) (by rfl) (by rfl) (by rfl) (by rfl) (by first | rfl | assumption) ?_)
        refine AL.nil ?_
        refine AY.step [21] (by kernel_rfl) (by simp) (AYs.cons (by rfl) ?_ AYs.nil)
        (first
            | refine AL.load1 tyOk (by rfl) (by rfl) (by rfl) (by rfl) (by rfl) (by rfl) (by rfl) (by first | exact Nat.le_of_ble_eq_true rfl | (dsimp only; omega) | omega | assumption | (simp only [openR]; omega) | exact Nat.lt_of_lt_of_le (m := 3) (by omega) (Nat.le_of_ble_eq_true rfl)) (by first | exact Nat.le_of_ble_eq_true rfl | (dsimp only; omega) | omega | assumption | (simp only [openR]; omega) | exact Nat.lt_of_lt_of_le (m := 3) (by omega) (Nat.le_of_ble_eq_true rfl)) (by rfl) ?_
            | refine AL.loadAggE tyOk (by rfl) (by rfl) (by rfl) (by rfl) (by rfl) (by rfl) (by rfl) (by first | exact Nat.le_of_ble_eq_true rfl | (dsimp only; omega) | omega | assumption | (simp only [openR]; omega) | exact Nat.lt_of_lt_of_le (m := 3) (by omega) (Nat.le_of_ble_eq_true rfl)) (by first | exact Nat.le_of_ble_eq_true rfl | (dsimp only; omega) | omega | assumption | (simp only [openR]; omega) | exact Nat.lt_of_lt_of_le (m := 3) (by omega) (Nat.le_of_ble_eq_true rfl)) (by rfl) ?_
            | refine AL.int2 (by rfl) (by rfl) (by rfl) (by rfl) (by rfl) (by rfl) (by first | trivial | decide | omega) ?_
            | refine AL.gOnE (by rfl) (by rfl) (by rfl) (by rfl) (by decide) (by first | rfl | assumption) ?_
            | refine AL.pickE (b' := true) (by rfl) (by rfl) (by rfl) (by rfl) (by first | rfl | assumption) ?_
            | refine AL.pickE (b' := false) (by rfl) (by rfl) (by rfl) (by rfl) (by first | rfl | assumption) ?_)
        (first
            | refine AL.load1 tyOk (by rfl) (by rfl) (by rfl) (by rfl) (by rfl) (by rfl) (by rfl) (by first | exact Nat.le_of_ble_eq_true rfl | (dsimp only; omega) | omega | assumption | (simp only [openR]; omega) | exact Nat.lt_of_lt_of_le (m := 3) (by omega) (Nat.le_of_ble_eq_true rfl)) (by first | exact Nat.le_of_ble_eq_true rfl | (dsimp only; omega) | omega | assumption | (simp only [openR]; omega) | exact Nat.lt_of_lt_of_le (m := 3) (by omega) (Nat.le_of_ble_eq_true rfl)) (by rfl) ?_
            | refine AL.loadAggE tyOk (by rfl) (by rfl) (by rfl) (by rfl) (by rfl) (by rfl) (by rfl) (by first | exact Nat.le_of_ble_eq_true rfl | (dsimp only; omega) | omega | assumption | (simp only [openR]; omega) | exact Nat.lt_of_lt_of_le (m := 3) (by omega) (Nat.le_of_ble_eq_true rfl)) (by first | exact Nat.le_of_ble_eq_true rfl | (dsimp only; omega) | omega | assumption | (simp only [openR]; omega) | exact Nat.lt_of_lt_of_le (m := 3) (by omega) (Nat.le_of_ble_eq_true rfl)) (by rfl) ?_
            | refine AL.int2 (by rfl) (by rfl) (by rfl) (by rfl) (by rfl) (by rfl) (by first | trivial | decide | omega) ?_
            | refine AL.gOnE (by rfl) (by rfl) (by rfl) (by rfl) (by decide) (by first | rfl | assumption) ?_
            | refine AL.pickE (b' := true) (by rfl) (by rfl) (by rfl) (by rfl) (by first | rfl | assumption) ?_
            | refine AL.pickE (b' := false) (by rfl) (by rfl) (by rfl) (by rfl) (by first | rfl | assumption) ?_)
        refine AL.nil ?_
        refine AY.step [24] (by kernel_rfl) (by simp) (AYs.cons (by rfl) ?_ AYs.nil)
        (first
            | refine AL.load1 tyOk (by rfl) (by rfl) (by rfl) (by rfl) (by rfl) (by rfl) (by rfl) (by first | exact Nat.le_of_ble_eq_true rfl | (dsimp only; omega) | omega | assumption | (simp only [openR]; omega) | exact Nat.lt_of_lt_of_le (m := 3) (by omega) (Nat.le_of_ble_eq_true rfl)) (by first | exact Nat.le_of_ble_eq_true rfl | (dsimp only; omega) | omega | assumption | (simp only [openR]; omega) | exact Nat.lt_of_lt_of_le (m := 3) (by omega) (Nat.le_of_ble_eq_true rfl)) (by rfl) ?_
            | refine AL.loadAggE tyOk (by rfl) (by rfl) (by rfl) (by rfl) (by rfl) (by rfl) (by rfl) (by first | exact Nat.le_of_ble_eq_true rfl | (dsimp only; omega) | omega | assumption | (simp only [openR]; omega) | exact Nat.lt_of_lt_of_le (m := 3) (by omega) (Nat.le_of_ble_eq_true rfl)) (by first | exact Nat.le_of_ble_eq_true rfl | (dsimp only; omega) | omega | assumption | (simp only [openR]; omega) | exact Nat.lt_of_lt_of_le (m := 3) (by omega) (Nat.le_of_ble_eq_true rfl)) (by rfl) ?_
            | refine AL.int2 (by rfl) (by rfl) (by rfl) (by rfl) (by rfl) (by rfl) (by first | trivial | decide | omega) ?_
            | refine AL.gOnE (by rfl) (by rfl) (by rfl) (by rfl) (by decide) (by first | rfl | assumption) ?_
            | refine AL.pickE (b' := true) (by rfl) (by rfl) (by rfl) (by rfl) (by first | rfl | assumption) ?_
            | refine AL.pickE (b' := false) (by rfl) (by rfl) (by rfl) (by rfl) (by first | rfl | assumption) ?_)
        (first
            | refine AL.load1 tyOk (by rfl) (by rfl) (by rfl) (by rfl) (by rfl) (by rfl) (by rfl) (by first | exact Nat.le_of_ble_eq_true rfl | (dsimp only; omega) | omega | assumption | (simp only [openR]; omega) | exact Nat.lt_of_lt_of_le (m := 3) (by omega) (Nat.le_of_ble_eq_true rfl)) (by first | exact Nat.le_of_ble_eq_true rfl | (dsimp only; omega) | omega | assumption | (simp only [openR]; omega) | exact Nat.lt_of_lt_of_le (m := 3) (by omega) (Nat.le_of_ble_eq_true rfl)) (by rfl) ?_
            | refine AL.loadAggE tyOk (by rfl) (by rfl) (by rfl) (by rfl) (by rfl) (by rfl) (by rfl) (by first | exact Nat.le_of_ble_eq_true rfl | (dsimp only; omega) | omega | assumption | (simp only [openR]; omega) | exact Nat.lt_of_lt_of_le (m := 3) (by omega) (Nat.le_of_ble_eq_true rfl)) (by first | exact Nat.le_of_ble_eq_true rfl | (dsimp only; omega) | omega | assumption | (simp only [openR]; omega) | exact Nat.lt_of_lt_of_le (m := 3) (by omega) (Nat.le_of_ble_eq_true rfl)) (by rfl) ?_
            | refine AL.int2 (by rfl) (by rfl) (by rfl) (by rfl) (by rfl) (by rfl) (by first | trivial | decide | omega) ?_
            | refine AL.gOnE (by rfl) (by rfl) (by rfl) (by rfl) (by decide) (by first | rfl | assumption) ?_
            | refine AL.pickE (b' := true) (by rfl) (by rfl) (by rfl) (by rfl) (by first | rfl | assumption) ?_
            | refine AL.pickE (b' := false) (by rfl) (by rfl) (by rfl) (by rfl) (by first | rfl | assumption) ?_)
        refine AL.nil ?_
        refine AY.step [25] (by kernel_rfl) (by simp) (AYs.cons (by rfl) ?_ AYs.nil)
        (first
            | refine AL.load1 tyOk (by rfl) (by rfl) (by rfl) (by rfl) (by rfl) (by rfl) (by rfl) (by first | exact Nat.le_of_ble_eq_true rfl | (dsimp only; omega) | omega | assumption | (simp only [openR]; omega) | exact Nat.lt_of_lt_of_le (m := 3) (by omega) (Nat.le_of_ble_eq_true rfl)) (by first | exact Nat.le_of_ble_eq_true rfl | (dsimp only; omega) | omega | assumption | (simp only [openR]; omega) | exact Nat.lt_of_lt_of_le (m := 3) (by omega) (Nat.le_of_ble_eq_true rfl)) (by rfl) ?_
            | refine AL.loadAggE tyOk (by rfl) (by rfl) (by rfl) (by rfl) (by rfl) (by rfl) (by rfl) (by first | exact Nat.le_of_ble_eq_true rfl | (dsimp only; omega) | omega | assumption | (simp only [openR]; omega) | exact Nat.lt_of_lt_of_le (m := 3) (by omega) (Nat.le_of_ble_eq_true rfl)) (by first | exact Nat.le_of_ble_eq_true rfl | (dsimp only; omega) | omega | assumption | (simp only [openR]; omega) | exact Nat.lt_of_lt_of_le (m := 3) (by omega) (Nat.le_of_ble_eq_true rfl)) (by rfl) ?_
            | refine AL.int2 (by rfl) (by rfl) (by rfl) (by rfl) (by rfl) (by rfl) (by first | trivial | decide | omega) ?_
            | refine AL.gOnE (by rfl) (by rfl) (by rfl) (by rfl) (by decide) (by first | rfl | assumption) ?_
            | refine AL.pickE (b' := true) (by rfl) (by rfl) (by rfl) (by rfl) (by first | rfl | assumption) ?_
            | refine AL.pickE (b' := false) (by rfl) (by rfl) (by rfl) (by rfl) (by first | rfl | assumption) ?_)
        refine AL.nil ?_
        refine AY.done (by kernel_rfl) ?_
        refine St.le.sub ?_ ?_ (by rfl) (by rfl)
        · exact And.intro rfl (And.intro rfl (And.intro rfl (And.intro (by first | rfl | (rw [hB]; rfl)) trivial)))
        · exact And.intro ⟨_, rfl, ⟨rfl, (fun h => by cases h), rfl, rfl, fun i r hi hr => (by obtain rfl : i = 0 := Nat.lt_one_iff.1 hi; rcases r with _ | _ | r; rfl; rfl; exact absurd hr (by show ¬ r + 1 + 1 < 2; omega))⟩⟩ (And.intro ⟨_, rfl, RSame.rfl _⟩ (And.intro ⟨_, rfl, RSame.rfl _⟩ trivial))
    · (first
        | refine AL.load1 tyOk (by rfl) (by rfl) (by rfl) (by rfl) (by rfl) (by rfl) (by rfl) (by first | exact Nat.le_of_ble_eq_true rfl | (dsimp only; omega) | omega | assumption | (simp only [openR]; omega) | exact Nat.lt_of_lt_of_le (m := 3) (by omega) (Nat.le_of_ble_eq_true rfl)) (by first | exact Nat.le_of_ble_eq_true rfl | (dsimp only; omega) | omega | assumption | (simp only [openR]; omega) | exact Nat.lt_of_lt_of_le (m := 3) (by omega) (Nat.le_of_ble_eq_true rfl)) (by rfl) ?_
        | refine AL.loadAggE tyOk (by rfl) (by rfl) (by rfl) (by rfl) (by rfl) (by rfl) (by rfl) (by first | exact Nat.le_of_ble_eq_true rfl | (dsimp only; omega) | omega | assumption | (simp only [openR]; omega) | exact Nat.lt_of_lt_of_le (m := 3) (by omega) (Nat.le_of_ble_eq_true rfl)) (by first | exact Nat.le_of_ble_eq_true rfl | (dsimp only; omega) | omega | assumption | (simp only [openR]; omega) | exact Nat.lt_of_lt_of_le (m := 3) (by omega) (Nat.le_of_ble_eq_true rfl)) (by rfl) ?_
        | refine AL.int2 (by rfl) (by rfl) (by rfl) (by rfl) (by rfl) (by rfl) (by first | trivial | decide | omega) ?_
        | refine AL.gOnE (by rfl) (by rfl) (by rfl) (by rfl) (by decide) (by first | rfl | assumption) ?_
        | refine AL.pickE (b' := true) (by rfl) (by rfl) (by rfl) (by rfl) (by first | rfl | assumption) ?_
        | refine AL.pickE (b' := false) (by rfl) (by rfl) (by rfl) (by rfl) (by first | rfl | assumption) ?_)
      (first
          | refine AL.load1 tyOk (by rfl) (by rfl) (by rfl) (by rfl) (by rfl) (by rfl) (by rfl) (by first | exact Nat.le_of_ble_eq_true rfl | (dsimp only; omega) | omega | assumption | (simp only [openR]; omega) | exact Nat.lt_of_lt_of_le (m := 3) (by omega) (Nat.le_of_ble_eq_true rfl)) (by first | exact Nat.le_of_ble_eq_true rfl | (dsimp only; omega) | omega | assumption | (simp only [openR]; omega) | exact Nat.lt_of_lt_of_le (m := 3) (by omega) (Nat.le_of_ble_eq_true rfl)) (by rfl) ?_
          | refine AL.loadAggE tyOk (by rfl) (by rfl) (by rfl) (by rfl) (by rfl) (by rfl) (by rfl) (by first | exact Nat.le_of_ble_eq_true rfl | (dsimp only; omega) | omega | assumption | (simp only [openR]; omega) | exact Nat.lt_of_lt_of_le (m := 3) (by omega) (Nat.le_of_ble_eq_true rfl)) (by first | exact Nat.le_of_ble_eq_true rfl | (dsimp only; omega) | omega | assumption | (simp only [openR]; omega) | exact Nat.lt_of_lt_of_le (m := 3) (by omega) (Nat.le_of_ble_eq_true rfl)) (by rfl) ?_
          | refine AL.int2 (by rfl) (by rfl) (by rfl) (by rfl) (by rfl) (by rfl) (by first | trivial | decide | omega) ?_
          | refine AL.gOnE (by rfl) (by rfl) (by rfl) (by rfl) (by decide) (by first | rfl | assumption) ?_
          | refine AL.pickE (b' := true) (by rfl) (by rfl) (by rfl) (by rfl) (by first | rfl | assumption) ?_
          | refine AL.pickE (b' := false) (by rfl) (by rfl) (by rfl) (by rfl) (by first | rfl | assumption) ?_)
      refine AL.nil ?_
      refine AY.step [17] (by kernel_rfl) (by simp) (AYs.cons (by rfl) ?_ AYs.nil)
      (first
          | refine AL.load1 tyOk (by rfl) (by rfl) (by rfl) (by rfl) (by rfl) (by rfl) (by rfl) (by first | exact Nat.le_of_ble_eq_true rfl | (dsimp only; omega) | omega | assumption | (simp only [openR]; omega) | exact Nat.lt_of_lt_of_le (m := 3) (by omega) (Nat.le_of_ble_eq_true rfl)) (by first | exact Nat.le_of_ble_eq_true rfl | (dsimp only; omega) | omega | assumption | (simp only [openR]; omega) | exact Nat.lt_of_lt_of_le (m := 3) (by omega) (Nat.le_of_ble_eq_true rfl)) (by rfl) ?_
          | refine AL.loadAggE tyOk (by rfl) (by rfl) (by rfl) (by rfl) (by rfl) (by rfl) (by rfl) (by first | exact Nat.le_of_ble_eq_true rfl | (dsimp only; omega) | omega | assumption | (simp only [openR]; omega) | exact Nat.lt_of_lt_of_le (m := 3) (by omega) (Nat.le_of_ble_eq_true rfl)) (by first | exact Nat.le_of_ble_eq_true rfl | (dsimp only; omega) | omega | assumption | (simp only [openR]; omega) | exact Nat.lt_of_lt_of_le (m := 3) (by omega) (Nat.le_of_ble_eq_true rfl)) (by rfl) ?_
          | refine AL.int2 (by rfl) (by rfl) (by rfl) (by rfl) (by rfl) (by rfl) (by first | trivial | decide | omega) ?_
          | refine AL.gOnE (by rfl) (by rfl) (by rfl) (by rfl) (by decide) (by first | rfl | assumption) ?_
          | refine AL.pickE (b' := true) (by rfl) (by rfl) (by rfl) (by rfl) (by first | rfl | assumption) ?_
          | refine AL.pickE (b' := false) (by rfl) (by rfl) (by rfl) (by rfl) (by first | rfl | assumption) ?_)
      (first
          | refine AL.load1 tyOk (by rfl) (by rfl) (by rfl) (by rfl) (by rfl) (by rfl) (by rfl) (by first | exact Nat.le_of_ble_eq_true rfl | (dsimp only; omega) | omega | assumption | (simp only [openR]; omega) | exact Nat.lt_of_lt_of_le (m := 3) (by omega) (Nat.le_of_ble_eq_true rfl)) (by first | exact Nat.le_of_ble_eq_true rfl | (dsimp only; omega) | omega | assumption | (simp only [openR]; omega) | exact Nat.lt_of_lt_of_le (m := 3) (by omega) (Nat.le_of_ble_eq_true rfl)) (by rfl) ?_
          | refine AL.loadAggE tyOk (by rfl) (by rfl) (by rfl) (by rfl) (by rfl) (by rfl) (by rfl) (by first | exact Nat.le_of_ble_eq_true rfl | (dsimp only; omega) | omega | assumption | (simp only [openR]; omega) | exact Nat.lt_of_lt_of_le (m := 3) (by omega) (Nat.le_of_ble_eq_true rfl)) (by first | exact Nat.le_of_ble_eq_true rfl | (dsimp only; omega) | omega | assumption | (simp only [openR]; omega) | exact Nat.lt_of_lt_of_le (m := 3) (by omega) (Nat.le_of_ble_eq_true rfl)) (by rfl) ?_
          | refine AL.int2 (by rfl) (by rfl) (by rfl) (by rfl) (by rfl) (by rfl) (by first | trivial | decide | omega) ?_
          | refine AL.gOnE (by rfl) (by rfl) (by rfl) (by rfl) (by decide) (by first | rfl | assumption) ?_
          | refine AL.pickE (b' := true) (by rfl) (by rfl) (by rfl) (by rfl) (by first | rfl | assumption) ?_
          | refine AL.pickE (b' := false) (by rfl) (by rfl) (by rfl) (by rfl) (by first | rfl | assumption) ?_)
      refine AL.nil ?_
      refine AY.takeOn 19 (by rfl) (by rfl) (by rfl) (by rfl) (by rfl) (by decide) (by first | rfl | assumption) (by kernel_rfl) (by decide +kernel) (by decide +kernel) (fun c s h => by rcases h.1 with h | h <;> cases h) (by rfl) (by (first | exact Pure1.move (.inl (by rfl)) | exact Pure1.move (.inr (by rfl)) | exact Pure1.indexN tyOk (by rfl) (by rfl) (by rfl) (by rfl) (by rfl) (by rfl) (by first | rfl | exact (Int.toNat_of_nonneg (by omega)).symm) (by omega) | exact Pure1.fieldAddr tyOk (by rfl) (by rfl) (by rfl) (by rfl) | exact Pure1.len tyOk (by rfl) (by rfl) (by rfl) | exact Pure1.add (by rfl) (by rfl) (by rfl) (by constructor <;> omega) | exact Pure1.int2 (by rfl) (by rfl) (by rfl) (by rfl) (by first | trivial | decide | omega) | exact Pure1.not (by rfl) (by rfl))) ?_
      refine AY.takeOn 20 (by rfl) (by rfl) (by rfl) (by rfl) (by rfl) (by decide) (by first | rfl | assumption) (by kernel_rfl) (by decide +kernel) (by decide +kernel) (fun c s h => by rcases h.1 with h | h <;> cases h) (by rfl) (by (first | exact Pure1.move (.inl (by rfl)) | exact Pure1.move (.inr (by rfl)) | exact Pure1.indexN tyOk (by rfl) (by rfl) (by rfl) (by rfl) (by rfl) (by rfl) (by first | rfl | exact (Int.toNat_of_nonneg (by omega)).symm) (by omega) | exact Pure1.fieldAddr tyOk (by rfl) (by rfl) (by rfl) (by rfl) | exact Pure1.len tyOk (by rfl) (by rfl) (by rfl) | exact Pure1.add (by rfl) (by rfl) (by rfl) (by constructor <;> omega) | exact Pure1.int2 (by rfl) (by rfl) (by rfl) (by rfl) (by first | trivial | decide | omega) | exact Pure1.not (by rfl) (by rfl))) ?_
      refine AY.step [21] (by kernel_rfl) (by simp) (AYs.cons (by rfl) ?_ AYs.nil)
      (first
          | refine AL.load1 tyOk (by rfl) (by rfl) (by rfl) (by rfl) (by rfl) (by rfl) (by rfl) (by first | exact Nat.le_of_ble_eq_true rfl | (dsimp only; omega) | omega | assumption | (simp only [openR]; omega) | exact Nat.lt_of_lt_of_le (m := 3) (by omega) (Nat.le_of_ble_eq_true rfl)) (by first | exact Nat.le_of_ble_eq_true rfl | (dsimp only; omega) | omega | assumption | (simp only [openR]; omega) | exact Nat.lt_of_lt_of_le (m := 3) (by omega) (Nat.le_of_ble_eq_true rfl)) (by rfl) ?_
          | refine AL.loadAggE tyOk (by rfl) (by rfl) (by rfl) (by rfl) (by rfl) (by rfl) (by rfl) (by first | exact Nat.le_of_ble_eq_true rfl | (dsimp only; omega) | omega | assumption | (simp only [openR]; omega) | exact Nat.lt_of_lt_of_le (m := 3) (by omega) (Nat.le_of_ble_eq_true rfl)) (by first | exact Nat.le_of_ble_eq_true rfl | (dsimp only; omega) | omega | assumption | (simp only [openR]; omega) | exact Nat.lt_of_lt_of_le (m := 3) (by omega) (Nat.le_of_ble_eq_true rfl)) (by rfl) ?_
          | refine AL.int2 (by rfl) (by rfl) (by rfl) (by rfl) (by rfl) (by rfl) (by first | trivial | decide | omega) ?_
          | refine AL.gOnE (by rfl) (by rfl) (by rfl) (by rfl) (by decide) (by first | rfl | assumption) ?_
          | refine AL.pickE (b' := true) (by rfl) (by rfl) (by rfl) (by rfl) (by first | rfl | assumption) ?_
          | refine AL.pickE (b' := false) (by rfl) (by rfl) (by rfl) (by rfl) (by first | rfl | assumption) ?_)
      (first
          | refine AL.load1 tyOk (by rfl) (by rfl) (by rfl) (by rfl) (by rfl) (by rfl) (by rfl) (by first | exact Nat.le_of_ble_eq_true rfl | (dsimp only; omega) | omega | assumption | (simp only [openR]; omega) | exact Nat.lt_of_lt_of_le (m := 3) (by omega) (Nat.le_of_ble_eq_true rfl)) (by first | exact Nat.le_of_ble_eq_true rfl | (dsimp only; omega) | omega | assumption | (simp only [openR]; omega) | exact Nat.lt_of_lt_of_le (m := 3) (by omega) (Nat.le_of_ble_eq_true rfl)) (by rfl) ?_
          | refine AL.loadAggE tyOk (by rfl) (by rfl) (by rfl) (by rfl) (by rfl) (by rfl) (by rfl) (by first | exact Nat.le_of_ble_eq_true rfl | (dsimp only; omega) | omega | assumption | (simp only [openR]; omega) | exact Nat.lt_of_lt_of_le (m := 3) (by omega) (Nat.le_of_ble_eq_true rfl)) (by first | exact Nat.le_of_ble_eq_true rfl | (dsimp only; omega) | omega | assumption | (simp only [openR]; omega) | exact Nat.lt_of_lt_of_le (m := 3) (by omega) (Nat.le_of_ble_eq_true rfl)) (by rfl) ?_
          | refine AL.int2 (by rfl) (by rfl) (by rfl) (by rfl) (by rfl) (by rfl) (by first | trivial | decide | omega) ?_
          | refine AL.gOnE (by rfl) (by rfl) (by rfl) (by rfl) (by decide) (by first | rfl | assumption) ?_
          | refine AL.pickE (b' := true) (by rfl) (by rfl) (by rfl) (by rfl) (by first | rfl | assumption) ?_
          | refine AL.pickE (b' := false) (by rfl) (by rfl) (by rfl) (by rfl) (by first | rfl | assumption) ?_)
      refine AL.nil ?_
      refine AY.step [24] (by kernel_rfl) (by simp) (AYs.cons (by rfl) ?_ AYs.nil)
      (first
          | refine AL.load1 tyOk (by rfl) (by rfl) (by rfl) (by rfl) (by rfl) (by rfl) (by rfl) (by first | exact Nat.le_of_ble_eq_true rfl | (dsimp only; omega) | omega | assumption | (simp only [openR]; omega) | exact Nat.lt_of_lt_of_le (m := 3) (by omega) (Nat.le_of_ble_eq_true rfl)) (by first | exact Nat.le_of_ble_eq_true rfl | (dsimp only; omega) | omega | assumption | (simp only [openR]; omega) | exact Nat.lt_of_lt_of_le (m := 3) (by omega) (Nat.le_of_ble_eq_true rfl)) (by rfl) ?_
          | refine AL.loadAggE tyOk (by rfl) (by rfl) (by rfl) (by rfl) (by rfl) (by rfl) (by rfl) (by first | exact Nat.le_of_ble_eq_true rfl | (dsimp only; omega) | omega | assumption | (simp only [openR]; omega) | exact Nat.lt_of_lt_of_le (m := 3) (by omega) (Nat.le_of_ble_eq_true rfl)) (by first | exact Nat.le_of_ble_eq_true rfl | (dsimp only; omega) | omega | assumption | (simp only [openR]; omega) | exact Nat.lt_of_lt_of_le (m := 3) (by omega) (Nat.le_of_ble_eq_true rfl)) (by rfl) ?_
          | refine AL.int2 (by rfl) (by rfl) (by rfl) (by rfl) (by rfl) (by rfl) (by first | trivial | decide | omega) ?_
          | refine AL.gOnE (by rfl) (by rfl) (by rfl) (by rfl) (by decide) (by first | rfl | assumption) ?_
          | refine AL.pickE (b' := true) (by rfl) (by rfl) (by rfl) (by rfl) (by first | rfl | assumption) ?_
          | refine AL.pickE (b' := false) (by rfl) (by rfl) (by rfl) (by rfl) (by first | rfl | assumption) ?_)
      (first
          | refine AL.load1 tyOk (by rfl) (by rfl) (by rfl) (by rfl) (by rfl) (by rfl) (by rfl) (by first | exact Nat.le_of_ble_eq_true rfl | (dsimp only; omega) | omega | assumption | (simp only [openR]; omega) | exact Nat.lt_of_lt_of_le (m := 3) (by omega) (Nat.le_of_ble_eq_true rfl)) (by first | exact Nat.le_of_ble_eq_true rfl | (dsimp only; omega) | omega | assumption | (simp only [openR]; omega) | exact Nat.lt_of_lt_of_le (m := 3) (by omega) (Nat.le_of_ble_eq_true rfl)) (by rfl) ?_
          | refine AL.loadAggE tyOk (by rfl) (by rfl) (by rfl) (by rfl) (by rfl) (by rfl) (by rfl) (by first | exact Nat.le_of_ble_eq_true rfl | (dsimp only; omega) | omega | assumption | (simp only [openR]; omega) | exact Nat.lt_of_lt_of_le (m := 3) (by omega) (Nat.le_of_ble_eq_true rfl)) (by first | exact Nat.le_of_ble_eq_true rfl | (dsimp only; omega) | omega | assumption | (simp only [openR]; omega) | exact Nat.lt_of_lt_of_le (m := 3) (by omega) (Nat.le_of_ble_eq_true rfl)) (by rfl) ?_
          | refine AL.int2 (by rfl) (by rfl) (by rfl) (by rfl) (by rfl) (by rfl) (by first | trivial | decide | omega) ?_
          | refine AL.gOnE (by rfl) (by rfl) (by rfl) (by rfl) (by decide) (by first | rfl | assumption) ?_
          | refine AL.pickE (b' := true) (by rfl) (by rfl) (by rfl) (by rfl) (by first | rfl | assumption) ?_
          | refine AL.pickE (b' := false) (by rfl) (by rfl) (by rfl) (by rfl) (by first | rfl | assumption) ?_)
      refine AL.nil ?_
      refine AY.step [25] (by kernel_rfl) (by simp) (AYs.cons (by rfl) ?_ AYs.nil)
      (first
          | refine AL.load1 tyOk (by rfl) (by rfl) (by rfl) (by rfl) (by rfl) (by rfl) (by rfl) (by first | exact Nat.le_of_ble_eq_true rfl | (dsimp only; omega) | omega | assumption | (simp only [openR]; omega) | exact Nat.lt_of_lt_of_le (m := 3) (by omega) (Nat.le_of_ble_eq_true rfl)) (by first | exact Nat.le_of_ble_eq_true rfl | (dsimp only; omega) | omega | assumption | (simp only [openR]; omega) | exact Nat.lt_of_lt_of_le (m := 3) (by omega) (Nat.le_of_ble_eq_true rfl)) (by rfl) ?_
          | refine AL.loadAggE tyOk (by rfl) (by rfl) (by rfl) (by rfl) (by rfl) (by rfl) (by rfl) (by first | exact Nat.le_of_ble_eq_true rfl | (dsimp only; omega) | omega | assumption | (simp only [openR]; omega) | exact Nat.lt_of_lt_of_le (m := 3) (by omega) (Nat.le_of_ble_eq_true rfl)) (by first | exact Nat.le_of_ble_eq_true rfl | (dsimp only; omega) | omega | assumption | (simp only [openR]; omega) | exact Nat.lt_of_lt_of_le (m := 3) (by omega) (Nat.le_of_ble_eq_true rfl)) (by rfl) ?_
          | refine AL.int2 (by rfl) (by rfl) (by rfl) (by rfl) (by rfl) (by rfl) (by first | trivial | decide | omega) ?_
          | refine AL.gOnE (by rfl) (by rfl) (by rfl) (by rfl) (by decide) (by first | rfl | assumption) ?_
          | refine AL.pickE (b' := true) (by rfl) (by rfl) (by rfl) (by rfl) (by first | rfl | assumption) ?_
          | refine AL.pickE (b' := false) (by rfl) (by rfl) (by rfl) (by rfl) (by first | rfl | assumption) ?_)
      refine AL.nil ?_
      refine AY.done (by kernel_rfl) ?_
      refine St.le.sub ?_ ?_ (by rfl) (by rfl)
      · exact And.intro rfl (And.intro rfl (And.intro rfl (And.intro (by first | rfl | (rw [hB]; rfl)) trivial)))
      · exact And.intro ⟨_, rfl, ⟨rfl, (fun h => by cases h), rfl, rfl, fun i r hi hr => (by obtain rfl : i = 0 := Nat.lt_one_iff.1 hi; rcases r with _ | _ | r; rfl; rfl; exact absurd hr (by show ¬ r + 1 + 1 < 2; omega))⟩⟩ (And.intro ⟨_, rfl, RSame.rfl _⟩ (And.intro ⟨_, rfl, RSame.rfl _⟩ trivial))
  refine AC.cond (by rfl) (fun h5 => ?_) (fun h5 => ?_)
  · have h5 : bhB E (ps i) = true := by simpa using h5
    repeat (first | (first
        | refine AL.nil ?_
        | refine AL.move (.inl (by rfl)) (by rfl) (by rfl) ?_
        | refine AL.move (.inr (by rfl)) (by rfl) (by rfl) ?_
        | refine AL.fieldAddr tyOk (by rfl) (by rfl) (by rfl) (by rfl) (by rfl) (by rfl) ?_
        | refine AL.load1 tyOk (by rfl) (by rfl) (by rfl) (by rfl) (by rfl) (by rfl) (by rfl) (by first | exact Nat.le_of_ble_eq_true rfl | (dsimp only; omega) | omega | assumption | (simp only [openR]; omega) | exact Nat.lt_of_lt_of_le (m := 3) (by omega) (Nat.le_of_ble_eq_true rfl)) (by first | exact Nat.le_of_ble_eq_true rfl | (dsimp only; omega) | omega | assumption | (simp only [openR]; omega) | exact Nat.lt_of_lt_of_le (m := 3) (by omega) (Nat.le_of_ble_eq_true rfl)) (by rfl) ?_
        | refine AL.loadAggE tyOk (by rfl) (by rfl) (by rfl) (by rfl) (by rfl) (by rfl) (by rfl) (by first | exact Nat.le_of_ble_eq_true rfl | (dsimp only; omega) | omega | assumption | (simp only [openR]; omega) | exact Nat.lt_of_lt_of_le (m := 3) (by omega) (Nat.le_of_ble_eq_true rfl)) (by first | exact Nat.le_of_ble_eq_true rfl | (dsimp only; omega) | omega | assumption | (simp only [openR]; omega) | exact Nat.lt_of_lt_of_le (m := 3) (by omega) (Nat.le_of_ble_eq_true rfl)) (by rfl) ?_
        | refine AL.stor tyOk (by rfl) (by rfl) (by rfl) (by rfl) (by rfl) (by rfl) (by rfl) (by rfl) (by rfl) (by first | exact Nat.le_of_ble_eq_true rfl | (dsimp only; omega) | omega | assumption | (simp only [openR]; omega) | exact Nat.lt_of_lt_of_le (m := 3) (by omega) (Nat.le_of_ble_eq_true rfl)) (by first | exact Nat.le_of_ble_eq_true rfl | (dsimp only; omega) | omega | assumption | (simp only [openR]; omega) | exact Nat.lt_of_lt_of_le (m := 3) (by omega) (Nat.le_of_ble_eq_true rfl)) ?_
        | refine AL.len (ty := 0) tyOk (by rfl) (by rfl) (by rfl) (by rfl) (by rfl) ?_
        | refine AL.add (by rfl) (by rfl) (by rfl) (by rfl) (by rfl) (by constructor <;> omega) ?_
        | refine AL.int2 (by rfl) (by rfl) (by rfl) (by rfl) (by rfl) (by rfl) (by first | trivial | decide | omega) ?_
        | refine AL.not (by rfl) (by rfl) (by rfl) (by rfl) ?_
        | refine AL.gOnE (by rfl) (by rfl) (by rfl) (by rfl) (by decide) (by first | rfl | assumption) ?_
        | refine AL.gOffE (by rfl) (by rfl) (by rfl) (by rfl) (by rfl) (by decide) (by first | rfl | assumption) ?_
        | refine AL.pickE (b' := true) (by rfl) (by rfl) (by rfl) (by rfl) (by first | rfl | assumption) ?_
        | refine AL.pickE (b' := false) (by rfl) (by rfl) (by rfl) (by rfl) (by first | rfl | assumption) ?_
        | refine AL.extract (by rfl) (by rfl) (by rfl) (by rfl) (by rfl) ?_
        | refine AL.boxD tyOk (by rfl) (by rfl) (by rfl) (Nat.le_of_ble_eq_true rfl) (by rfl) (by rfl) (by rfl) (by decide) (by rfl) ?_
        | refine AL.allocD tyOk (by rfl) (by rfl) (by rfl) (Nat.le_of_ble_eq_true rfl) (by rfl) (by rfl) (by decide) (by rfl) ?_
        | refine AL.indexN tyOk (by rfl) (by rfl) (by rfl) (by rfl) (by rfl) (by rfl) (by rfl) (by rfl) (by first | rfl | exact (Int.toNat_of_nonneg (by omega)).symm) (by omega) ?_
        | refine AL.nilCheck (by rfl) (by rfl) (by rfl) (by rfl) ?_) | (first | refine AC.region ?_ | refine AC.seq ?_ | refine AC.block ?_ | refine AC.ret ?_ | refine AC.exit ?_ | refine AC.skip ?_))
    refine AL.buildSlD (qs := [(_, _)]) tyOk (by rfl) (by rfl) (by rfl) (Nat.le_of_ble_eq_true rfl) (by rfl) (by rfl) (by rfl) (by exact PartsOk.cons (by rfl) (by rfl) PartsOk.nil) (by rfl) (by decide) (by decide) (by decide) (by rfl) ?_
    refine AL.append1 tyOk (by rfl) (by rfl) (by rfl) (by rfl) (by rfl) (by rfl) (by rfl) (by rfl) (by rfl) (by rfl) (by rfl) (by rfl) (by rfl) (by rfl) (okK_lt (by decide)) (by have := hb.le; unfold maxLen; dsimp only; omega) (by have := hb.le; dsimp only; omega) ?_
    repeat (first | (first
        | refine AL.nil ?_
        | refine AL.move (.inl (by rfl)) (by rfl) (by rfl) ?_
        | refine AL.move (.inr (by rfl)) (by rfl) (by rfl) ?_
        | refine AL.fieldAddr tyOk (by rfl) (by rfl) (by rfl) (by rfl) (by rfl) (by rfl) ?_
        | refine AL.load1 tyOk (by rfl) (by rfl) (by rfl) (by rfl) (by rfl) (by rfl) (by rfl) (by first | exact Nat.le_of_ble_eq_true rfl | (dsimp only; omega) | omega | assumption | (simp only [openR]; omega) | exact Nat.lt_of_lt_of_le (m := 3) (by omega) (Nat.le_of_ble_eq_true rfl)) (by first | exact Nat.le_of_ble_eq_true rfl | (dsimp only; omega) | omega | assumption | (simp only [openR]; omega) | exact Nat.lt_of_lt_of_le (m := 3) (by omega) (Nat.le_of_ble_eq_true rfl)) (by rfl) ?_
        | refine AL.loadAggE tyOk (by rfl) (by rfl) (by rfl) (by rfl) (by rfl) (by rfl) (by rfl) (by first | exact Nat.le_of_ble_eq_true rfl | (dsimp only; omega) | omega | assumption | (simp only [openR]; omega) | exact Nat.lt_of_lt_of_le (m := 3) (by omega) (Nat.le_of_ble_eq_true rfl)) (by first | exact Nat.le_of_ble_eq_true rfl | (dsimp only; omega) | omega | assumption | (simp only [openR]; omega) | exact Nat.lt_of_lt_of_le (m := 3) (by omega) (Nat.le_of_ble_eq_true rfl)) (by rfl) ?_
        | refine AL.stor tyOk (by rfl) (by rfl) (by rfl) (by rfl) (by rfl) (by rfl) (by rfl) (by rfl) (by rfl) (by first | exact Nat.le_of_ble_eq_true rfl | (dsimp only; omega) | omega | assumption | (simp only [openR]; omega) | exact Nat.lt_of_lt_of_le (m := 3) (by omega) (Nat.le_of_ble_eq_true rfl)) (by first | exact Nat.le_of_ble_eq_true rfl | (dsimp only; omega) | omega | assumption | (simp only [openR]; omega) | exact Nat.lt_of_lt_of_le (m := 3) (by omega) (Nat.le_of_ble_eq_true rfl)) ?_
        | refine AL.len (ty := 0) tyOk (by rfl) (by rfl) (by rfl) (by rfl) (by rfl) ?_
        | refine AL.add (by rfl) (by rfl) (by rfl) (by rfl) (by rfl) (by constructor <;> omega) ?_
        | refine AL.int2 (by rfl) (by rfl) (by rfl) (by rfl) (by rfl) (by rfl) (by first | trivial | decide | omega) ?_
        | refine AL.not (by rfl) (by rfl) (by rfl) (by rfl) ?_
        | refine AL.gOnE (by rfl) (by rfl) (by rfl) (by rfl) (by decide) (by first | rfl | assumption) ?_
        | refine AL.gOffE (by rfl) (by rfl) (by rfl) (by rfl) (by rfl) (by decide) (by first | rfl | assumption) ?_
        | refine AL.pickE (b' := true) (by rfl) (by rfl) (by rfl) (by rfl) (by first | rfl | assumption) ?_
        | refine AL.pickE (b' := false) (by rfl) (by rfl) (by rfl) (by rfl) (by first | rfl | assumption) ?_
        | refine AL.extract (by rfl) (by rfl) (by rfl) (by rfl) (by rfl) ?_
        | refine AL.boxD tyOk (by rfl) (by rfl) (by rfl) (Nat.le_of_ble_eq_true rfl) (by rfl) (by rfl) (by rfl) (by decide) (by rfl) ?_
        | refine AL.allocD tyOk (by rfl) (by rfl) (by rfl) (Nat.le_of_ble_eq_true rfl) (by rfl) (by rfl) (by decide) (by rfl) ?_
        | refine AL.indexN tyOk (by rfl) (by rfl) (by rfl) (by rfl) (by rfl) (by rfl) (by rfl) (by rfl) (by first | rfl | exact (Int.toNat_of_nonneg (by omega)).symm) (by omega) ?_
        | refine AL.nilCheck (by rfl) (by rfl) (by rfl) (by rfl) ?_) | (first | refine AC.region ?_ | refine AC.seq ?_ | refine AC.block ?_ | refine AC.ret ?_ | refine AC.exit ?_ | refine AC.skip ?_))
    refine ⟨i + 1, m + 1, (fun q => if q < m then f q else (i : Int)), ⟨h1, hb.take h5, fun _ => hc⟩, by omega, St.le.sub ?_ ?_ (by rfl) (by rfl)⟩
    · exact And.intro rfl (And.intro rfl (And.intro rfl trivial))
    · exact And.intro ⟨_, rfl, ⟨rfl, (fun h => by cases h), rfl, rfl, fun i r hi hr => (by obtain rfl : i = 0 := Nat.lt_one_iff.1 hi; rcases r with _ | _ | r; rfl; rfl; exact absurd hr (by show ¬ r + 1 + 1 < 2; omega))⟩⟩ (And.intro ⟨_, rfl, RSame.rfl _⟩ (And.intro ⟨_, rfl, ⟨rfl, (fun _ => And.intro rfl rfl), rfl, rfl, fun q r hq hr => bh_row (R := ⟨.own, true, 3, 1, m, fun i r => .lit (.int .i64 (f i)), []⟩) hr hq rfl rfl⟩⟩ trivial))
  · have h5 : bhB E (ps i) = false := by simpa using h5
    repeat (first | (first
        | refine AL.nil ?_
        | refine AL.move (.inl (by rfl)) (by rfl) (by rfl) ?_
        | refine AL.move (.inr (by rfl)) (by rfl) (by rfl) ?_
        | refine AL.fieldAddr tyOk (by rfl) (by rfl) (by rfl) (by rfl) (by rfl) (by rfl) ?_
        | refine AL.load1 tyOk (by rfl) (by rfl) (by rfl) (by rfl) (by rfl) (by rfl) (by rfl) (by first | exact Nat.le_of_ble_eq_true rfl | (dsimp only; omega) | omega | assumption | (simp only [openR]; omega) | exact Nat.lt_of_lt_of_le (m := 3) (by omega) (Nat.le_of_ble_eq_true rfl)) (by first | exact Nat.le_of_ble_eq_true rfl | (dsimp only; omega) | omega | assumption | (simp only [openR]; omega) | exact Nat.lt_of_lt_of_le (m := 3) (by omega) (Nat.le_of_ble_eq_true rfl)) (by rfl) ?_
        | refine AL.loadAggE tyOk (by rfl) (by rfl) (by rfl) (by rfl) (by rfl) (by rfl) (by rfl) (by first | exact Nat.le_of_ble_eq_true rfl | (dsimp only; omega) | omega | assumption | (simp only [openR]; omega) | exact Nat.lt_of_lt_of_le (m := 3) (by omega) (Nat.le_of_ble_eq_true rfl)) (by first | exact Nat.le_of_ble_eq_true rfl | (dsimp only; omega) | omega | assumption | (simp only [openR]; omega) | exact Nat.lt_of_lt_of_le (m := 3) (by omega) (Nat.le_of_ble_eq_true rfl)) (by rfl) ?_
        | refine AL.stor tyOk (by rfl) (by rfl) (by rfl) (by rfl) (by rfl) (by rfl) (by rfl) (by rfl) (by rfl) (by first | exact Nat.le_of_ble_eq_true rfl | (dsimp only; omega) | omega | assumption | (simp only [openR]; omega) | exact Nat.lt_of_lt_of_le (m := 3) (by omega) (Nat.le_of_ble_eq_true rfl)) (by first | exact Nat.le_of_ble_eq_true rfl | (dsimp only; omega) | omega | assumption | (simp only [openR]; omega) | exact Nat.lt_of_lt_of_le (m := 3) (by omega) (Nat.le_of_ble_eq_true rfl)) ?_
        | refine AL.len (ty := 0) tyOk (by rfl) (by rfl) (by rfl) (by rfl) (by rfl) ?_
        | refine AL.add (by rfl) (by rfl) (by rfl) (by rfl) (by rfl) (by constructor <;> omega) ?_
        | refine AL.int2 (by rfl) (by rfl) (by rfl) (by rfl) (by rfl) (by rfl) (by first | trivial | decide | omega) ?_
        | refine AL.not (by rfl) (by rfl) (by rfl) (by rfl) ?_
        | refine AL.gOnE (by rfl) (by rfl) (by rfl) (by rfl) (by decide) (by first | rfl | assumption) ?_
        | refine AL.gOffE (by rfl) (by rfl) (by rfl) (by rfl) (by rfl) (by decide) (by first | rfl | assumption) ?_
        | refine AL.pickE (b' := true) (by rfl) (by rfl) (by rfl) (by rfl) (by first | rfl | assumption) ?_
        | refine AL.pickE (b' := false) (by rfl) (by rfl) (by rfl) (by rfl) (by first | rfl | assumption) ?_
        | refine AL.extract (by rfl) (by rfl) (by rfl) (by rfl) (by rfl) ?_
        | refine AL.boxD tyOk (by rfl) (by rfl) (by rfl) (Nat.le_of_ble_eq_true rfl) (by rfl) (by rfl) (by rfl) (by decide) (by rfl) ?_
        | refine AL.allocD tyOk (by rfl) (by rfl) (by rfl) (Nat.le_of_ble_eq_true rfl) (by rfl) (by rfl) (by decide) (by rfl) ?_
        | refine AL.indexN tyOk (by rfl) (by rfl) (by rfl) (by rfl) (by rfl) (by rfl) (by rfl) (by rfl) (by first | rfl | exact (Int.toNat_of_nonneg (by omega)).symm) (by omega) ?_
        | refine AL.nilCheck (by rfl) (by rfl) (by rfl) (by rfl) ?_) | (first | refine AC.region ?_ | refine AC.seq ?_ | refine AC.block ?_ | refine AC.ret ?_ | refine AC.exit ?_ | refine AC.skip ?_))
    refine ⟨i + 1, m, f, ⟨h1, hb.skip h5, fun _ => hc⟩, by omega, St.le.sub ?_ ?_ (by rfl) (by rfl)⟩
    · exact And.intro rfl (And.intro rfl (And.intro rfl trivial))
    · exact And.intro ⟨_, rfl, ⟨rfl, (fun h => by cases h), rfl, rfl, fun i r hi hr => (by obtain rfl : i = 0 := Nat.lt_one_iff.1 hi; rcases r with _ | _ | r; rfl; rfl; exact absurd hr (by show ¬ r + 1 + 1 < 2; omega))⟩⟩ (And.intro ⟨_, rfl, RSame.rfl _⟩ (And.intro ⟨_, rfl, RSame.rfl _⟩ trivial))
end Go.Proofs.Ytbdegnamlmabbab
