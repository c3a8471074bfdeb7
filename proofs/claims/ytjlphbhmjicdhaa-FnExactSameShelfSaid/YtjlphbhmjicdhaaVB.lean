/- Operations that read no memory, reckoned. -/
import Derived.Test.YtjlphbhmjicdhaaVA
set_option linter.unusedVariables false
set_option linter.unusedSimpArgs false
namespace Go.Tr
open Go Go.RowKit

structure Need (p : Prop) : Prop where
  h : p
def BS (c : Bool) (A B : Prop) : Prop := match c with | true => A | false => B
theorem BS.s {c : Bool} {A B : Prop} (h1 : c = true → A) (h2 : c = false → B) : BS c A B := by cases c; exact h2 rfl; exact h1 rfl
theorem BS.d {p : Prop} [Decidable p] {A B : Prop} (h1 : p → A) (h2 : ¬ p → B) : BS (decide p) A B := BS.s (fun h => h1 (of_decide_eq_true h)) (fun h => h2 (of_decide_eq_false h))
theorem BS.n {c : Bool} {A B : Prop} (h : BS c B A) : BS (!c) A B := by cases c <;> exact h
theorem BS.e {α : Type} [BEq α] [LawfulBEq α] {x y : α} {A B : Prop} (h1 : x = y → A) (h2 : x ≠ y → B) : BS (x == y) A B := BS.s (fun h => h1 (eq_of_beq h)) (fun h => h2 (fun e => by subst e; simp at h))
theorem BS.ne {α : Type} [BEq α] [LawfulBEq α] {x y : α} {A B : Prop} (h1 : x ≠ y → A) (h2 : x = y → B) : BS (x != y) A B := BS.n (BS.e h2 h1)
theorem BS.ok {c : Bool} {A B : Prop} (h : BS c A B) : (c = true ∧ A) ∨ (c = false ∧ B) := by cases c; exact .inr ⟨rfl, h⟩; exact .inl ⟨rfl, h⟩

def fVal (v : Value) (k : Value → Prop) : Prop :=
  match v with
  | .int a x => k (.int a x)
  | .bool b => k (.bool b)
  | .string s => k (.string s)
  | v => k v
theorem fVal_eq (v : Value) (k : Value → Prop) : fVal v k = k v := by cases v <;> rfl
def fAt (x : At) (k : At → Prop) : Prop :=
  match x with
  | .any => k .any
  | .lit v => fVal v fun v => k (.lit v)
  | .nil e n => k (.nil e n)
  | .ref a b c => k (.ref a b c)
  | .spot a b c => k (.spot a b c)
theorem fAt_eq (x : At) (k : At → Prop) : fAt x k = k x := by cases x <;> simp [fAt, fVal_eq]
def fAts : List At → (List At → Prop) → Prop
  | [], k => k []
  | x :: l, k => fAt x fun x => fAts l fun l => k (x :: l)
theorem fAts_eq : ∀ (l : List At) (k : List At → Prop), fAts l k = k l
  | [], _ => rfl
  | x :: l, k => by simp [fAts, fAt_eq, fAts_eq l]
def fV0 (v : V) (k : V → Prop) : Prop :=
  match v with
  | .any => k .any
  | .a x => fAt x fun x => k (.a x)
  | .agg l => fAts l fun l => k (.agg l)
  | .ptr a b c => k (.ptr a b c)
  | .tup l => k (.tup l)
theorem fV0_eq (v : V) (k : V → Prop) : fV0 v k = k v := by cases v <;> simp [fV0, fAt_eq, fAts_eq]
def fVs : List V → (List V → Prop) → Prop
  | [], k => k []
  | x :: l, k => fV0 x fun x => fVs l fun l => k (x :: l)
theorem fVs_eq : ∀ (l : List V) (k : List V → Prop), fVs l k = k l
  | [], _ => rfl
  | x :: l, k => by simp [fVs, fV0_eq, fVs_eq l]
def fV (v : V) (k : V → Prop) : Prop :=
  match v with
  | .tup l => fVs l fun l => k (.tup l)
  | .any => k .any
  | .a x => fAt x fun x => k (.a x)
  | .agg l => fAts l fun l => k (.agg l)
  | .ptr a b c => k (.ptr a b c)
theorem fV_eq (v : V) (k : V → Prop) : fV v k = k v := by cases v <;> simp [fV, fAt_eq, fAts_eq, fVs_eq]

/-- An element type's typed form. -/
structure Ed : Type 1 where
  X : Type
  enc : X → Nat → TC
  dec : List Value → Option X
  d : X
/-- What is known of the program's types. -/
structure Gt : Type 1 where
  T : Nat → Option TyI
  tb : Nat
  ed : Nat → Option Ed
structure GOk (P : Program) (G : Gt) : Prop where
  T : TOk P G.T
  b : P.underlying G.tb = some .bool

def adN : Nat → Int → Nat
  | 0, i => i.toNat
  | lo + 1, i => lo + 1 + i.toNat
theorem adN_eq (lo : Nat) (i : Int) : adN lo i = lo + i.toNat := by cases lo <;> simp [adN]
@[simp] theorem adN_zero (q : Nat) : adN 0 (q : Int) = q := rfl

def evC (v : Value) : V :=
  match v with
  | .int a x => .a (.lit (.int a x))
  | .bool b => .a (.lit (.bool b))
  | .string s => .a (.lit (.string s))
  | .slice none 0 0 => .a (.nil 0 0)
  | _ => .any
def evS (σ : TS) : Operand → V
  | .tmp t => lkT σ.t t
  | .const v => evC v
  | .func f => .a (.lit (.func (.func f) #[] #[]))
  | .global g => .a (.lit (.pointer (some ⟨g, 0, none⟩)))
theorem evS_eq (σ : TS) (x : Operand) : σ.er.ev x = stV (evS σ x) := by
  cases x with
  | tmp t => exact TS.tv_er σ t
  | const v =>
    show (if scal0 v = true then _ else _) = stV (evC v)
    cases v with
    | slice A l c => cases A with
      | some _ => rfl
      | none => cases l <;> cases c <;> rfl
    | _ => simp [scal0, evC, stV, stA]
  | global g => rfl
  | func f => rfl

structure PK (P : Program) (F : Fm) (N : Nat) (o : Oper) (σ : TS) (k : V → Prop) : Prop where
  h : ∃ v, k v ∧ Pure1 P F N σ.er o (stV v)

section
variable {P : Program} {F : Fm} {N : Nat} {σ : St} {o : Oper}
theorem Pure1.pick {c x y : Operand} {b : Bool} (hop : o.op = .pick c x y) (hc : σ.ev c = .a (.lit (.bool b))) : Pure1 P F N σ o (bif b then σ.ev x else σ.ev y) := fun a w ω β h =>
  ⟨if b then a.eval x else a.eval y, fun w' => by
    have e := ev_lit h hc
    generalize a.eval = ρ at e ⊢
    simp [execOp, hop, go_sem, e, asBool], by
    cases b
    · exact h.ev y
    · exact h.ev x⟩
theorem Pure1.nilTy {x : Operand} {e k e' k' : Nat} (hop : o.op = .move x ∨ o.op = .assign x) (hx : σ.ev x = .a (.nil e k)) : Pure1 P F N σ o (.a (.nil e' k')) := fun a w ω β h => by
  obtain ⟨u, h1, h2⟩ := Pure1.move (P := P) (F := F) (N := N) hop a w ω β h
  exact ⟨u, h1, by rw [hx] at h2; exact h2⟩
theorem Pure1.nil' {t : Nat} {x y : Operand} {b c : Bool} {u : Nat} {op : BinOp} (hop : o.op = .binOp op t x y u) (hx : σ.ev x = .a (.lit (.bool b))) (hy : σ.ev y = .a (.lit (.bool c))) (hu : P.underlying t = some .bool) {r : Bool}
    (hr : (op = .eql ∧ r = (b == c)) ∨ (op = .neq ∧ r = (b != c))) : Pure1 P F N σ o (.a (.lit (.bool r))) := fun a w ω β h => ⟨.bool r, fun w' => by
  rcases hr with ⟨rfl, rfl⟩ | ⟨rfl, rfl⟩
  · refine run_bin _ w' hop (by rw [ev_lit h hx, ev_lit h hy]; rfl) ?_
    rw [ev_lit h hx, ev_lit h hy]
    have h1 := run_equal_bool (P := P) (d := 9999) hu b c w'
    simp [Go.binOp, Op.equal, go_sem, Op.maxDepth, h1]
  · refine run_bin _ w' hop (by rw [ev_lit h hx, ev_lit h hy]; rfl) ?_
    rw [ev_lit h hx, ev_lit h hy]
    have h1 := run_equal_bool (P := P) (d := 9999) hu b c w'
    simp [Go.binOp, Op.equal, go_sem, Op.maxDepth, h1]
    cases b <;> cases c <;> rfl, VRel.lit rfl⟩
theorem Pure1.neg {t : Nat} {x : Operand} {kx : IntKind} {i : Int} (hop : o.op = .unOp .neg t x) (hx : σ.ev x = .a (.lit (.int kx i))) : Pure1 P F N σ o (.a (.lit (.int kx (wr kx (0 - i))))) := fun a w ω β h =>
  ⟨.int kx (wr kx (0 - i)), fun w' => by
    have e := ev_lit h hx
    generalize a.eval = ρ at e ⊢
    simp [execOp, hop, go_sem, e, Op.unary, Op.intArith, wr_eq], VRel.lit rfl⟩
theorem Pure1.nilCheck {x : Operand} {κ i r : Nat} (hop : o.op = .nilCheck x) (hx : σ.ev x = .ptr κ i r) : Pure1 P F N σ o (.ptr κ i r) := fun a w ω β h => by
  have := h.ev x
  rw [hx] at this
  refine ⟨a.eval x, fun w' => ?_, this⟩
  obtain ⟨R, g, j, _, _, e⟩ := this
  generalize a.eval = ρ at e ⊢
  simp [execOp, hop, go_sem, e]
theorem Pure1.indexSl {T : Nat → Option TyI} (hT : TOk P T) {t e ke bs kt : Nat} {z : List ZC} {x ix : Operand} {κ lo n : Nat} {ki : IntKind} {i : Int} {R : Root} (hop : o.op = .indexAddr t x ix) (hx : σ.ev x = .a (.ref κ lo n)) (hi : σ.ev ix = .a (.lit (.int ki i)))
    (ht : T t = some ⟨kt, .sl e ke bs, z⟩) (hR : σ.rt κ = some R) (hk : R.k = ke) (hb : 0 ≤ i ∧ i < n) : Pure1 P F N σ o (.ptr κ (lo + i.toNat) 0) := fun a w ω β h => by
  obtain ⟨h1, inf, zv, h2, h3, _⟩ := (hT t _ ht).kind
  have := h.ev x
  rw [hx] at this
  obtain ⟨R', e1, _, A, c, e2, e3, _, _, _, e5⟩ := this
  rw [hR] at e1; injection e1 with e1; subst e1
  obtain ⟨g, o', e6, e7⟩ := e5 (by omega)
  refine ⟨.pointer (some ⟨g, o' + (lo + i.toNat) * R.k, none⟩), fun w' => ?_, R, g, _, hR, ⟨o', e6, rfl⟩, rfl⟩
  have hadd : (⟨g, o' + lo * R.k, none⟩ : Addr).add (i.toNat * inf.size) = ⟨g, o' + (lo + i.toNat) * R.k, none⟩ := by
    rw [h3, ← hk, Nat.add_mul]
    unfold Addr.add
    split
    · rename_i e0; rw [e0]; simp
    · simp [Nat.add_assoc]
  have ei := ev_lit h hi
  generalize a.eval = ρ at e2 ei ⊢
  simp [execOp, hop, go_sem, e2, e7, ei, Instr.indexAt, asIntOf, underlying, h1, sizeOf, typeInfo, h2, hb.1, hb.2, hadd]
  rw [h3, ← hk, Nat.add_mul]; omega
theorem Pure1.indexArr {T : Nat → Option TyI} (hT : TOk P T) {t n e ke kt : Nat} {z : List ZC} {x ix : Operand} {κ q r : Nat} {ki : IntKind} {i : Int} (hop : o.op = .indexAddr t x ix) (hx : σ.ev x = .ptr κ q r) (hi : σ.ev ix = .a (.lit (.int ki i)))
    (ht : T t = some ⟨kt, .arr n e ke, z⟩) (hb : 0 ≤ i ∧ i < n) : Pure1 P F N σ o (.ptr κ q (r + i.toNat * ke)) := fun a w ω β h => by
  obtain ⟨h1, inf, h2, h3⟩ := (hT t _ ht).kind
  have := h.ev x
  rw [hx] at this
  obtain ⟨R, g, j, e1, ⟨o', e2, e3⟩, e⟩ := this
  refine ⟨.pointer (some ⟨g, j + i.toNat * ke, none⟩), fun w' => ?_, R, g, _, e1, ⟨o', e2, by omega⟩, rfl⟩
  have hadd : (⟨g, j, none⟩ : Addr).add (i.toNat * inf.size) = ⟨g, j + i.toNat * ke, none⟩ := by
    rw [h3]; unfold Addr.add
    split
    · rename_i e0; rw [e0]; simp
    · rfl
  have ei := ev_lit h hi
  generalize a.eval = ρ at e ei ⊢
  simp [execOp, hop, go_sem, e, ei, Instr.indexAt, asIntOf, underlying, h1, sizeOf, typeInfo, h2, hb.1, hb.2, hadd, Instr.sureAddr]
  rw [h3]
theorem Pure1.lenNil {T : Nat → Option TyI} {t : Nat} (hT : TOk P T) {x : Operand} {e0 k0 e ke bs kt : Nat} {z : List ZC} (hop : o.op = .call { callee := .builtin .len, args := #[x], argTypes := #[t] }) (hx : σ.ev x = .a (.nil e0 k0))
    (ht : T t = some ⟨kt, .sl e ke bs, z⟩) : Pure1 P F N σ o (.a (.lit (.int .i64 0))) := fun a w ω β h => by
  obtain ⟨h1, _⟩ := (hT t _ ht).kind
  have e2 := h.ev x
  rw [hx] at e2
  change a.eval x = _ at e2
  refine ⟨.int .i64 0, fun w' => ?_, VRel.lit rfl⟩
  generalize a.eval = ρ at e2 ⊢
  simp [execOp, hop, go_sem, e2, resolve, invoke, builtin, Builtin.len_, underlying, h1, goInt]
theorem Pure1.extract {x : Operand} {l : List V} {i : Nat} {v : V} (hop : o.op = .extract x i) (hx : σ.ev x = .tup l) (hl : l[i]? = some v) : Pure1 P F N σ o v := fun a w ω β h => by
  have := h.ev x
  rw [hx] at this
  obtain ⟨us, e1, e2, e3⟩ := this
  obtain ⟨u, h1, h2⟩ := e3 i v hl
  refine ⟨u, fun w' => ?_, ?_⟩
  · generalize a.eval = ρ at e1 ⊢
    simp [execOp, hop, go_sem, e1, Instr.extract, h1]
  · cases v with
    | tup l => exact h2.elim
    | _ => exact h2
theorem Pure1.slice {T : Nat → Option TyI} (hT : TOk P T) {t e ke bs kt κ lo0 n l h' : Nat} {z : List ZC} {x : Operand} {lo hi : Option Operand} {R : Root} (hop : o.op = .slice t x lo hi none)
    (ht : T t = some ⟨kt, .sl e ke bs, z⟩) (hx : σ.ev x = .a (.ref κ lo0 n)) (hR : σ.rt κ = some R) (hke : R.k = ke)
    (hlo : (lo = none ∧ l = 0) ∨ ∃ y ki i, lo = some y ∧ σ.ev y = .a (.lit (.int ki i)) ∧ i = (l : Int)) (hhi : (hi = none ∧ h' = n) ∨ ∃ y ki i, hi = some y ∧ σ.ev y = .a (.lit (.int ki i)) ∧ i = (h' : Int))
    (hb : l ≤ h' ∧ h' ≤ n) : Pure1 P F N σ o (.a (.ref κ (lo0 + l) (h' - l))) := fun a w ω β h => by
  obtain ⟨h1, inf, zv, h2, h3, _⟩ := (hT t _ ht).kind
  have hx' := h.ev x
  rw [hx] at hx'
  obtain ⟨R1, e1, e2, A, c, e3, e4, e5, e6, e7, e8⟩ := hx'
  rw [hR] at e1; injection e1 with e1; subst e1
  have hrun : ∀ w : World, (Instr.sliceAt t (a.eval x) (lo.map a.eval) (hi.map a.eval) none).run P w = .ok (.slice (if c = l then A else A.map (·.add (l * inf.size))) (h' - l) (c - l)) w := by
    intro w
    have hH : (match hi.map a.eval with | some v => Instr.sliceBound v c .sliceAcap | none => (pure n : Sem Nat)).run P w = .ok h' w := by
      rcases hhi with ⟨rfl, rfl⟩ | ⟨y, ki, i, rfl, hy, rfl⟩
      · rfl
      · have := ev_lit h hy
        have h9 : (0 : Int) ≤ (h' : Int) ∧ (h' : Int) ≤ (c : Int) := by omega
        simp [this, Instr.sliceBound, asIntOf, h9]
    have hL : (match lo.map a.eval with | some v => Instr.sliceBound v h' .sliceB | none => (pure 0 : Sem Nat)).run P w = .ok l w := by
      rcases hlo with ⟨rfl, rfl⟩ | ⟨y, ki, i, rfl, hy, rfl⟩
      · rfl
      · have := ev_lit h hy
        have h9 : (0 : Int) ≤ (l : Int) ∧ (l : Int) ≤ (h' : Int) := by omega
        simp [this, Instr.sliceBound, asIntOf, h9]
    rw [e3]
    unfold Instr.sliceAt
    rw [Sem.run_bind, run_underlying h1]
    show (Instr.slice t (.slice A n c) (lo.map a.eval) (hi.map a.eval) none).run P w = _
    unfold Instr.slice
    rw [Sem.run_bind, run_underlying h1]
    simp only [Result.andThen]
    rw [Sem.run_bind]
    have hsb : (Instr.sliceBounds true n c (lo.map a.eval) (hi.map a.eval) none).run P w = .ok (l, h', c) w := by
      unfold Instr.sliceBounds
      simp only [Sem.run_bind]
      rcases hhi with ⟨rfl, rfl⟩ | ⟨y, ki, i, rfl, hy, rfl⟩ <;> rcases hlo with ⟨rfl, rfl⟩ | ⟨y2, ki2, i2, rfl, hy2, rfl⟩ <;> simp_all
    rw [hsb]
    simp [sizeOf, typeInfo, h2]
  refine ⟨.slice (if c = l then A else A.map (·.add (l * inf.size))) (h' - l) (c - l), fun w' => ?_, R, hR, by omega, _, _, rfl, by omega, by omega, ?_, ?_, ?_⟩
  · unfold execOp
    rw [hop]
    show ((Instr.sliceAt t (a.eval x) (lo.map a.eval) (hi.map a.eval) none >>= fun v => pure (Next.value v)) : Sem Next).run P w' = _
    rw [Sem.run_bind, hrun]
    rfl
  · intro hA
    split at hA
    · omega
    · cases A with
      | none => have := e6 rfl; omega
      | some _ => simp at hA
  · intro h0
    have hl0 : l = 0 := by omega
    have hlo0 : lo0 = 0 := by omega
    subst hl0 hlo0
    obtain ⟨e9, e10⟩ := e7 rfl
    refine ⟨?_, by omega⟩
    rw [← e9]
    split
    · rfl
    · cases A with
      | none => rfl
      | some ad => simp [Addr.add]
  · intro hp
    obtain ⟨g, o', e9, e10⟩ := e8 (by omega)
    refine ⟨g, o', e9, ?_⟩
    rw [if_neg (by omega), e10]
    simp only [Option.map_some]
    rw [add_addr, h3, ← hke, Nat.add_mul, Nat.add_assoc]
end
end Go.Tr
