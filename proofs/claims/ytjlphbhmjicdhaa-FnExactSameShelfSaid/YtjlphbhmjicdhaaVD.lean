/- Operations and code: what is left to show. -/
import Derived.Test.YtjlphbhmjicdhaaVC
set_option linter.unusedVariables false
set_option linter.unusedSimpArgs false
universe u
namespace Go.Tr
open Go Go.RowKit

def erl {α : Type u} : List (Nat × α) → Nat → List (Nat × α)
  | [], _ => []
  | p :: l, d => bif Nat.beq p.1 d then erl l d else p :: erl l d
def erK {α : Type u} : List (Nat × α) → Nat → (List (Nat × α) → Prop) → Prop
  | [], _, k => k []
  | p :: l, d, k => bif Nat.beq p.1 d then erK l d k else erK l d fun l' => k (p :: l')
theorem erK_eq {α : Type u} : ∀ (l : List (Nat × α)) (d : Nat) (k : List (Nat × α) → Prop), erK l d k = k (erl l d)
  | [], _, _ => rfl
  | p :: l, d, k => by
    simp only [erK, erl]
    cases Nat.beq p.1 d
    · simp only [cond_false]; exact erK_eq l d _
    · simp only [cond_true]; exact erK_eq l d _

def fCl (x : TCl) (k : TCl → Prop) : Prop :=
  match x with
  | .ref a b c => k (.ref a b c)
  | .cl t => match t with
    | .lit v => fVal v fun v => k (.cl (.lit v))
    | .any => k (.cl .any)
    | .nil e n => k (.cl (.nil e n))
    | .sl e n X enc dec d xs => k (.cl (.sl e n X enc dec d xs))
theorem fCl_eq (x : TCl) (k : TCl → Prop) : fCl x k = k x := by
  cases x with
  | ref => rfl
  | cl t => cases t <;> simp [fCl, fVal_eq]
def fCls : List TCl → (List TCl → Prop) → Prop
  | [], k => k []
  | x :: l, k => fCl x fun x => fCls l fun l => k (x :: l)
theorem fCls_eq : ∀ (l : List TCl) (k : List TCl → Prop), fCls l k = k l
  | [], _ => rfl
  | x :: l, k => by simp [fCls, fCl_eq, fCls_eq l]
def fClss : List (List TCl) → (List (List TCl) → Prop) → Prop
  | [], k => k []
  | x :: l, k => fCls x fun x => fClss l fun l => k (x :: l)
theorem fClss_eq : ∀ (l : List (List TCl)) (k : List (List TCl) → Prop), fClss l k = k l
  | [], _ => rfl
  | x :: l, k => by simp [fClss, fCls_eq, fClss_eq l]
def fRO (o : RO) (k : RO → Prop) : Prop := match o with | .own => k .own | .fro => k .fro | .vw a b c => k (.vw a b c)
theorem fRO_eq (o : RO) (k : RO → Prop) : fRO o k = k o := by cases o <;> rfl
def fRt (R : TRoot) (k : TRoot → Prop) : Prop :=
  match R with
  | .ty o f e n X enc dec d xs => fRO o fun o => k (.ty o f e n X enc dec d xs)
  | .box e cs => fCls cs fun cs => k (.box e cs)
  | .litr e n cs => fClss cs fun cs => k (.litr e n cs)
  | .raw R => k (.raw R)
  | .tyo f e n X enc dec d xs i r key m => k (.tyo f e n X enc dec d xs i r key m)
theorem fRt_eq (R : TRoot) (k : TRoot → Prop) : fRt R k = k R := by cases R <;> simp [fRt, fRO_eq, fCls_eq, fClss_eq]
def fRs : List (Nat × TRoot) → (List (Nat × TRoot) → Prop) → Prop
  | [], k => k []
  | p :: l, k => match p with | (n, R) => fRt R fun R => fRs l fun l => k ((n, R) :: l)
theorem fRs_eq : ∀ (l : List (Nat × TRoot)) (k : List (Nat × TRoot) → Prop), fRs l k = k l
  | [], _ => rfl
  | p :: l, k => by simp [fRs, fRt_eq, fRs_eq l]
def fTs : List (Nat × V) → (List (Nat × V) → Prop) → Prop
  | [], k => k []
  | p :: l, k => match p with | (n, v) => fV v fun v => fTs l fun l => k ((n, v) :: l)
theorem fTs_eq : ∀ (l : List (Nat × V)) (k : List (Nat × V) → Prop), fTs l k = k l
  | [], _ => rfl
  | p :: l, k => by simp [fTs, fV_eq, fTs_eq l]
def fS (σ : TS) (k : TS → Prop) : Prop := match σ with | ⟨t, r⟩ => fTs t fun t => fRs r fun r => k ⟨t, r⟩
theorem fS_eq (σ : TS) (k : TS → Prop) : fS σ k = k σ := by cases σ; simp [fS, fTs_eq, fRs_eq]

/-- A new slot; a slot written anew; a root written anew. -/
def putK (σ : TS) (d : Nat) (v : V) (k : TS → Prop) : Prop := match σ with | ⟨t, r⟩ => fV v fun v => k ⟨(d, v) :: t, r⟩
theorem putK_eq (σ : TS) (d : Nat) (v : V) (k : TS → Prop) : putK σ d v k = k ⟨(d, v) :: σ.t, σ.r⟩ := by cases σ; simp [putK, fV_eq]
def asK (σ : TS) (d : Nat) (v : V) (k : TS → Prop) : Prop := match σ with | ⟨t, r⟩ => fV v fun v => erK t d fun t => k ⟨(d, v) :: t, r⟩
theorem asK_eq (σ : TS) (d : Nat) (v : V) (k : TS → Prop) : asK σ d v k = k ⟨(d, v) :: erl σ.t d, σ.r⟩ := by cases σ; simp [asK, fV_eq, erK_eq]
def setK (σ : TS) (κ : Nat) (R : TRoot) (k : TS → Prop) : Prop := match σ with | ⟨t, r⟩ => fRt R fun R => erK r κ fun r => k ⟨t, (κ, R) :: r⟩
theorem setK_eq (σ : TS) (κ : Nat) (R : TRoot) (k : TS → Prop) : setK σ κ R k = k ⟨σ.t, (κ, R) :: erl σ.r κ⟩ := by cases σ; simp [setK, fRt_eq, erK_eq]
def stO (o : Oper) (σ : TS) (v : V) (k : TS → Prop) : Prop :=
  match o.dst with
  | some d => match o.op with
    | .assign _ => asK σ d v k
    | _ => putK σ d v k
  | none => k σ

def TCl.kill (κ : Nat) : TCl → TCl
  | .ref κ' lo n => bif Nat.beq κ' κ then .cl .any else .ref κ' lo n
  | x => x
def TRoot.kill (κ : Nat) : TRoot → TRoot
  | .box e cs => .box e (cs.map (TCl.kill κ))
  | .litr e k cs => .litr e k (cs.map fun l => l.map (TCl.kill κ))
  | .raw R => .raw (R.kill κ)
  | .tyo f e n X enc dec d xs i r key m => .raw ((TRoot.tyo f e n X enc dec d xs i r key m).er.kill κ)
  | R => R
def killA' (κ : Nat) : At → At
  | .ref κ' lo n => bif Nat.beq κ' κ then .any else .ref κ' lo n
  | .spot κ' i r => bif Nat.beq κ' κ then .any else .spot κ' i r
  | x => x
def killV0 (κ : Nat) : V → V
  | .a x => .a (killA' κ x)
  | .agg l => .agg (l.map (killA' κ))
  | .ptr κ' i r => bif Nat.beq κ κ' then .any else .ptr κ' i r
  | .any => .any
  | .tup _ => .any
def killV (κ : Nat) : V → V
  | .tup l => .tup (l.map (killV0 κ))
  | .a x => .a (killA' κ x)
  | .agg l => .agg (l.map (killA' κ))
  | .ptr κ' i r => bif Nat.beq κ κ' then .any else .ptr κ' i r
  | .any => .any
def TS.drop (σ : TS) (κ : Nat) : TS := ⟨σ.t.map fun p => (p.1, killV κ p.2), (erl σ.r κ).map fun p => (p.1, p.2.kill κ)⟩
def dropK (σ : TS) (κ : Nat) (k : TS → Prop) : Prop := fS (σ.drop κ) k

/-- A cell of a root. -/
def cellT (R : TRoot) (i r : Nat) : Option TCl :=
  match R with
  | .box _ cs => match i with
    | 0 => cs[r]?
    | _ => none
  | .ty _ _ _ k _ enc _ d xs => bif Nat.blt r k then some (.cl (enc (xs.getD i d) r)) else none
  | .litr _ k cs => match i, cs with
    | 0, [l] => bif Nat.beq l.length k then l[r]? else none
    | _, _ => none
  | _ => none
def tclA (κ i r : Nat) : TCl → At
  | .ref a b c => .ref a b c
  | .cl (.lit v) => .lit v
  | .cl .any => .any
  | .cl _ => .spot κ i r
def atomsT (R : TRoot) (κ i : Nat) : Nat → Nat → Option (List At)
  | _, 0 => some []
  | r, m + 1 => match cellT R i r with
    | some c => match atomsT R κ i (r + 1) m with
      | some l => some (tclA κ i r c :: l)
      | none => none
    | none => none
/-- Element i is there. -/
def inK (R : TRoot) (i : Nat) (p : Prop) : Prop :=
  match R with
  | .ty _ _ _ _ _ _ _ _ xs => Need (i < xs.length) ∧ p
  | _ => p

def vwOf (o : RO) (κ i r : Nat) : RO := match o with | .own => .vw κ i r | x => x
def noVw (κ : Nat) : List (Nat × TRoot) → Bool
  | [] => true
  | (_, .ty (.vw a _ _) _ _ _ _ _ _ _ _) :: l => bif Nat.beq a κ then false else noVw κ l
  | (_, .raw _) :: _ => false
  | _ :: l => noVw κ l
/-- A slice in a cell: opened where it is the variable's own; else looked into. -/
def pk1 (G : Gt) (key : Nat) (rs : List (Nat × TRoot)) (κ i r : Nat) : Option (List (Nat × TRoot) × At) :=
  match lkR rs κ with
  | some (.box e cs) => (match i, cs[r]? with
    | 0, some (.cl (.nil e' k')) => (match G.ed e', lkR rs key, noVw κ rs with
      | some E, none, true => some ((κ, .box e (cs.set r (.ref key 0 0))) :: (key, .ty .own true e' k' E.X E.enc E.dec E.d []) :: erl rs κ, .ref key 0 0)
      | _, _, _ => none)
    | 0, some (.cl (.sl e' k' X enc dec d xs)) => (match lkR rs key, noVw κ rs with
      | none, true => some ((κ, .box e (cs.set r (.ref key 0 xs.length))) :: (key, .ty .own true e' k' X enc dec d xs) :: erl rs κ, .ref key 0 xs.length)
      | _, _ => none)
    | _, _ => none)
  | some (.ty o _ _ k X enc _ d xs) => (match enc (xs.getD i d) r, lkR rs key, Nat.blt r k with
    | .sl e' k' Y enc' dec' d' ys, none, true => some ((key, .ty (vwOf o κ i r) false e' k' Y enc' dec' d' ys) :: rs, .ref key 0 ys.length)
    | _, _, _ => none)
  | _ => none
def pkF (G : Gt) : Nat → List (Nat × TRoot) → List At → Option (List (Nat × TRoot) × List At)
  | _, rs, [] => some (rs, [])
  | key, rs, x :: l => match x with
    | .spot κ i r => match pk1 G key rs κ i r with
      | some (rs1, y) => match pkF G (key + 1) rs1 l with
        | some (rs2, l2) => some (rs2, y :: l2)
        | none => none
      | none => none
    | x => match pkF G (key + 1) rs l with
      | some (rs2, l2) => some (rs2, x :: l2)
      | none => none
def hasSpot : List At → Bool
  | [] => false
  | .spot _ _ _ :: _ => true
  | _ :: l => hasSpot l

def toTCl : At → TCl
  | .lit v => .cl (.lit v)
  | .nil e k => .cl (.nil e k)
  | .ref a b c => .ref a b c
  | _ => .cl .any
def splL {α : Type u} (l : List α) (r : Nat) (xs : List α) : List α := l.take r ++ xs ++ l.drop (r + xs.length)
def litsA : List At → Option (List Value)
  | [] => some []
  | .lit v :: l => match litsA l with | some vs => some (v :: vs) | none => none
  | _ => none
def cellsV (f : Nat → TC) : Nat → Nat → Option (List Value)
  | _, 0 => some []
  | r, m + 1 => match f r with
    | .lit v => match cellsV f (r + 1) m with | some vs => some (v :: vs) | none => none
    | _ => none
/-- A typed element has these cells. -/
def encOk {X : Type} (enc : X → Nat → TC) (x : X) : Nat → List Value → Prop → Prop
  | _, [], p => p
  | r, v :: vs, p => Need (enc x r = .lit v) ∧ encOk enc x (r + 1) vs p

/-- What is left to show of one operation, where none of the rules here fits. -/
structure OpK (P : Program) (F : Fm) (N : Nat) (o : Oper) (σ : TS) (k : TS → Prop) : Prop where
  h : ∀ (ops : Array Oper) (Q : Exit → St → Prop) (rest : List Oper), (∀ τ, k τ → AL P F N ops Q rest τ.er) → AL P F N ops Q (o :: rest) σ.er

def okT : TK → Bool
  | .ot => false
  | _ => true
def ldK (P : Program) (F : Fm) (N : Nat) (G : Gt) (o : Oper) (σ : TS) (t : Nat) (x : Operand) (k : TS → Prop) : Prop :=
  match evS σ x, G.T t, o.dst with
  | .ptr κ i r, some ⟨m, kd, _⟩, some d => (match lkR σ.r κ with
    | some R => (match atomsT R κ i r m with
      | some l => bif Nat.blt 0 m && (scK kd || agK kd) then inK R i (bif hasSpot l then (match pkF G (3000000 + 1000 * d) σ.r l with
          | some (rs, l') => fRs rs fun rs => putK ⟨σ.t, rs⟩ d (bif scK kd then .a (l'.headD .any) else .agg l') k
          | none => OpK P F N o σ k)
        else putK σ d (bif scK kd then .a (l.headD .any) else .agg l) k) else OpK P F N o σ k
      | none => OpK P F N o σ k)
    | none => OpK P F N o σ k)
  | _, _, _ => OpK P F N o σ k

def stK (P : Program) (F : Fm) (N : Nat) (G : Gt) (o : Oper) (σ : TS) (t : Nat) (x y : Operand) (k : TS → Prop) : Prop :=
  match evS σ x, G.T t, (evS σ y).atoms with
  | .ptr κ i r, some ⟨m, _, _⟩, some l => bif Nat.beq l.length m then (match lkR σ.r κ with
    | some (.box e cs) => (match i with
      | 0 => bif Nat.ble (r + m) cs.length then setK σ κ (.box e (splL cs r (l.map toTCl))) k else OpK P F N o σ k
      | _ => OpK P F N o σ k)
    | some (.ty .own full e kk X enc dec d xs) => (match litsA l, cellsV (enc (xs.getD i d)) 0 kk with
      | some vs, some ws => (match dec (splL ws r vs) with
        | some x' => bif Nat.ble (r + m) kk then (Need (i < xs.length) ∧ encOk enc x' 0 (splL ws r vs) (setK σ κ (.ty .own full e kk X enc dec d (xs.set i x')) k)) else OpK P F N o σ k
        | none => OpK P F N o σ k)
      | _, _ => OpK P F N o σ k)
    | _ => OpK P F N o σ k) else OpK P F N o σ k
  | _, _, _ => OpK P F N o σ k

def zTCl : ZC → TCl
  | .lit v => .cl (.lit v)
  | .sl e k => .cl (.nil e k)
def bxK (P : Program) (F : Fm) (N : Nat) (o : Oper) (σ : TS) (t : Nat) (cs : List TCl) (k : TS → Prop) : Prop :=
  match o.dst with
  | some d => bif (lkR σ.r d).isNone && Nat.blt d 1000000 then setK σ d (.box t cs) fun σ => putK σ d (.ptr d 0 0) k else OpK P F N o σ k
  | none => OpK P F N o σ k

/-- The parts of a struct's literal. -/
def partsQ (σ : TS) (place : Nat → Option (Nat × Nat)) : List (Nat × Operand) → Option (List (Nat × List At))
  | [] => some []
  | (i, x) :: ps => match place i, (stV (evS σ x)).atoms with
    | some (off, sz), some xs => bif Nat.beq sz xs.length then (match partsQ σ place ps with | some qs => some ((off, xs) :: qs) | none => none) else none
    | _, _ => none

/-- The zero element. -/
def zeroOk {X : Type} (enc : X → Nat → TC) (x : X) : Nat → List ZC → Bool
  | _, [] => true
  | r, z :: zs => (match enc x r, z with
    | .lit (.int .i64 a), .lit (.int .i64 0) => (match a with | .ofNat 0 => true | _ => false)
    | .lit (.bool false), .lit (.bool false) => true
    | .nil e k, .sl e' k' => Nat.beq e e' && Nat.beq k k'
    | .sl e k _ _ _ _ [], .sl e' k' => Nat.beq e e' && Nat.beq k k'
    | _, _ => false) && zeroOk enc x (r + 1) zs

def mkK (P : Program) (F : Fm) (N : Nat) (G : Gt) (o : Oper) (σ : TS) (t : Nat) (x y : Operand) (k : TS → Prop) : Prop :=
  match evS σ x, evS σ y, G.T t, o.dst with
  | .a (.lit (.int _ i)), .a (.lit (.int _ j)), some ⟨_, .sl e ke bs, _⟩, some d => (match G.ed e, G.T e with
    | some E, some ⟨ke', _, z⟩ => bif (lkR σ.r d).isNone && Nat.blt d 1000000 && Nat.beq ke ke' && zeroOk E.enc E.d 0 z then
        (Need (0 ≤ i ∧ j = i ∧ bs * i.toNat ≤ 281474976710656 ∧ i ≤ 9223372036854775807) ∧ setK σ d (.ty .own true e ke E.X E.enc E.dec E.d (List.replicate i.toNat E.d)) fun σ => putK σ d (.a (.ref d 0 (List.replicate i.toNat E.d).length)) k)
      else OpK P F N o σ k
    | _, _ => OpK P F N o σ k)
  | _, _, _, _ => OpK P F N o σ k

def bsK (P : Program) (F : Fm) (N : Nat) (G : Gt) (o : Oper) (σ : TS) (t n : Nat) (parts : List (Nat × Operand)) (k : TS → Prop) : Prop :=
  match n, parts, G.T t, o.dst with
  | 0, [], some ⟨_, .sl e ke _, _⟩, some d => (match G.ed e with
    | some E => bif (lkR σ.r d).isNone && Nat.blt d 1000000 then setK σ d (.ty .own true e ke E.X E.enc E.dec E.d []) fun σ => putK σ d (.a (.ref d 0 0)) k else OpK P F N o σ k
    | none => OpK P F N o σ k)
  | 1, [(0, x)], some ⟨_, .sl e ke _, _⟩, some d => (match (stV (evS σ x)).atoms, G.T e with
    | some l, some ⟨ke', _, z⟩ => bif (lkR σ.r d).isNone && Nat.blt d 1000000 && Nat.beq l.length ke && Nat.beq ke ke' && Nat.ble ke 16777216 && z.all ZC.ok then setK σ d (.litr e ke [l.map toTCl]) fun σ => putK σ d (.a (.ref d 0 1)) k else OpK P F N o σ k
    | _, _ => OpK P F N o σ k)
  | _, _, _, _ => OpK P F N o σ k

/-- One element is appended. -/
def ap1 (P : Program) (F : Fm) (N : Nat) (o : Oper) (σ0 σ : TS) (κ n κs e ke bs d' : Nat) (k0 k : TS → Prop) : Prop :=
  match lkR σ.r κ, lkR σ.r κs with
  | some (.ty .own true e' ke' X enc dec d xs), some (.litr _ ks [cs]) => (match litsA (cs.map (tclA κs 0 0)) with
    | some vs => (match dec vs with
      | some x' => bif Nat.beq e e' && Nat.beq ke ke' && Nat.beq ks ke && (Nat.blt κ 1000000 || Nat.ble 2000000 κ) && Nat.beq vs.length ke && Nat.beq cs.length ks then
          (Need (n = xs.length) ∧ Need (xs.length + 1 ≤ maxLen ∧ (xs.length + 1) * bs ≤ 140737488355328) ∧ encOk enc x' 0 vs (dropK σ κ fun σ => setK σ κ (.ty .own true e ke X enc dec d (xs ++ [x'])) fun σ => putK σ d' (.a (.ref κ 0 (xs ++ [x']).length)) k))
        else OpK P F N o σ0 k0
      | none => OpK P F N o σ0 k0)
    | none => OpK P F N o σ0 k0)
  | _, _ => OpK P F N o σ0 k0
def apK (P : Program) (F : Fm) (N : Nat) (G : Gt) (o : Oper) (σ : TS) (s x : Operand) (t : Nat) (k : TS → Prop) : Prop :=
  match evS σ s, evS σ x, G.T t, o.dst with
  | .a (.ref κ 0 n), .a (.ref κs 0 m), some ⟨_, .sl e ke bs, _⟩, some d' => (match lkR σ.r κs with
    | some (.litr _ _ [_]) => (match m with | 1 => ap1 P F N o σ σ κ n κs e ke bs d' k k | _ => OpK P F N o σ k)
    | _ => OpK P F N o σ k)
  | .a (.nil _ _), .a (.ref κs 0 m), some ⟨_, .sl e ke bs, _⟩, some d' => (match lkR σ.r κs with
    | some (.litr _ _ [_]) => (match m with
      | 1 => (match G.ed e, s with
        | some E, .tmp ts => bif (lkR σ.r d').isNone && Nat.blt d' 1000000 then
            asK σ ts (.a (.ref d' 0 0)) fun σ1 => setK σ1 d' (.ty .own true e ke E.X E.enc E.dec E.d []) fun σ1 => ap1 P F N o σ1 σ1 d' 0 κs e ke bs d' k k
          else OpK P F N o σ k
        | _, _ => OpK P F N o σ k)
      | _ => OpK P F N o σ k)
    | _ => OpK P F N o σ k)
  | _, _, _, _ => OpK P F N o σ k

def vcO (P : Program) (F : Fm) (N : Nat) (G : Gt) (o : Oper) (σ : TS) (k : TS → Prop) : Prop :=
  match o.op with
  | .load t x => ldK P F N G o σ t x k
  | .store t x y => match o.dst with
    | none => stK P F N G o σ t x y k
    | some _ => OpK P F N o σ k
  | .alloc t => match G.T t with
    | some ⟨m, _, z⟩ => bif z.all ZC.ok then bxK P F N o σ t (z.map zTCl) k else OpK P F N o σ k
    | none => OpK P F N o σ k
  | .box t x => match G.T t, (stV (evS σ x)).atoms with
    | some ⟨m, _, _⟩, some l => bif Nat.beq l.length m then bxK P F N o σ t (l.map toTCl) k else OpK P F N o σ k
    | _, _ => OpK P F N o σ k
  | .build t parts => match G.T t with
    | some ⟨m, .st pl, z⟩ => (match partsQ σ (fun i => pl[i]?) parts.toList with
      | some qs => bif fillOk m qs && z.all ZC.ok then (match o.dst with
        | some d => putK σ d (.agg (fillA (z.map ZC.at_) qs)) k
        | none => OpK P F N o σ k) else OpK P F N o σ k
      | none => OpK P F N o σ k)
    | _ => OpK P F N o σ k
  | .makeSlice t x y => mkK P F N G o σ t x y k
  | .buildSlice t n parts => bsK P F N G o σ t n parts.toList k
  | .call c => match c with
    | ⟨.builtin .len, _, _⟩ => rdP P F N G o σ fun v => stO o σ v k
    | ⟨.builtin .append, ⟨[s, x]⟩, ⟨[t, t']⟩⟩ => bif Nat.beq t' t then apK P F N G o σ s x t k else OpK P F N o σ k
    | _ => OpK P F N o σ k
  | .move _ | .assign _ | .pick _ _ _ | .binOp _ _ _ _ _ | .unOp _ _ _ | .nilCheck _ | .fieldAddr _ _ _ | .indexAddr _ _ _ | .slice _ _ _ _ _ | .extract _ _ => rdP P F N G o σ fun v => stO o σ v k
  | _ => OpK P F N o σ k

/-- A guard is looked at first. -/
def vcG (P : Program) (F : Fm) (N : Nat) (G : Gt) (ops : Array Oper) (o : Oper) (σ : TS) (k : TS → Prop) : Prop :=
  bif okD N o.dst then (match o.guard with
    | none => vcO P F N G o σ k
    | some (j, b) => (match ops[j]? with
      | some oj => (match oj.dst with
        | some dj => bif Nat.blt dj N then (match lkT σ.t dj with
          | .a (.lit (.bool c)) => BS c (asK σ dj (.a (.lit (.bool true))) fun σ => bif b then vcO P F N G { o with guard := none } σ k else (match o.dst with | some d => putK σ d (.tup []) k | none => k σ))
              (asK σ dj (.a (.lit (.bool false))) fun σ => bif b then (match o.dst with | some d => putK σ d (.tup []) k | none => k σ) else vcO P F N G { o with guard := none } σ k)
          | .tup [] => (match o.dst with | some d => putK σ d (.tup []) k | none => k σ)
          | _ => False) else False
        | none => False)
      | none => False)) else False
/-- What is left to show of the operations from here on. -/
structure ListK (P : Program) (F : Fm) (N : Nat) (ops : Array Oper) (l : List Oper) (σ : TS) (k : TS → Prop) : Prop where
  h : ∀ (Q : Exit → St → Prop), (∀ τ, k τ → Q .normal τ.er) → AL P F N ops Q l σ.er
def isHd : V → Bool
  | .a (.lit (.slice _ _ _)) => true
  | _ => false
/-- An operation that makes a function value, or asks a header that is told as a value. -/
def stopL (o : Oper) (σ : TS) : Bool :=
  match o.op with
  | .makeFunc _ _ _ => true
  | .call ⟨.builtin .len, ⟨[x]⟩, _⟩ => isHd (evS σ x)
  | .indexAddr _ x _ => isHd (evS σ x)
  | .slice _ x _ _ _ => isHd (evS σ x)
  | _ => false
/-- As ListK; a slice that lies in an own row is loaded. -/
structure ListO (P : Program) (F : Fm) (N : Nat) (ops : Array Oper) (l : List Oper) (σ : TS) (k : TS → Prop) : Prop where
  h : ∀ (Q : Exit → St → Prop), (∀ τ, k τ → Q .normal τ.er) → AL P F N ops Q l σ.er
/-- A load of a slice that lies in an own row. -/
def nestL (G : Gt) (o : Oper) (σ : TS) : Bool :=
  match o.op with
  | .load t x => (match evS σ x, G.T t with
    | .ptr κ i r, some ⟨_, .sl _ _ _, _⟩ => (match lkR σ.r κ with
      | some (.ty .own _ _ _ _ enc _ d xs) => (match enc (xs.getD i d) r with
        | .sl _ _ _ _ _ _ _ => true
        | _ => false)
      | some (.tyo _ _ _ _ _ _ _ _ _ _ _ _) => true
      | _ => false)
    | .ptr κ i r, some ⟨1, .st _, _⟩ => (match lkR σ.r κ with
      | some (.ty .own _ _ _ _ enc _ d xs) => (match enc (xs.getD i d) r with
        | .sl _ _ _ _ _ _ _ => true
        | _ => false)
      | _ => false)
    | _, _ => false)
  | _ => false
def vcL (P : Program) (F : Fm) (N : Nat) (G : Gt) (ops : Array Oper) : List Oper → TS → (TS → Prop) → Prop
  | [], σ, k => k σ
  | o :: l, σ, k => match stopL o σ with
    | true => ListK P F N ops (o :: l) σ k
    | false => match nestL G o σ with
      | true => ListO P F N ops (o :: l) σ k
      | false => vcG P F N G ops o σ fun σ => vcL P F N G ops l σ k

/-- A base exit's condition out of a typed one. -/
def eQ (Q : Exit → TS → Prop) (e : Exit) (s : St) : Prop := ∃ τ : TS, s.le τ.er ∧ Q e τ
structure CodeK (P : Program) (F : Fm) (N : Nat) (c : Code) (σ : TS) (Q : Exit → TS → Prop) : Prop where
  h : AC P F N c (eQ Q) σ.er
def TThen (K : TS → Prop) (Q : Exit → TS → Prop) : Exit → TS → Prop
  | .normal, σ => K σ
  | e, σ => Q e σ
def TIn (id : Nat) (Q : Exit → TS → Prop) : Exit → TS → Prop
  | .exit id', σ => bif Nat.beq id' id then Q .normal σ else Q (.exit id') σ
  | e, σ => Q e σ
def vcC (P : Program) (F : Fm) (N : Nat) (G : Gt) : Code → TS → (Exit → TS → Prop) → Prop
  | .skip, σ, Q => Q .normal σ
  | .region id ops dr, σ, Q => match dr with
    | false => vcL P F N G ops ops.toList σ (Q .normal)
    | true => CodeK P F N (.region id ops true) σ Q
  | .seq a b, σ, Q => vcC P F N G a σ (TThen (fun σ => vcC P F N G b σ Q) Q)
  | .cond c x y, σ, Q => match evS σ c with
    | .a (.lit (.bool b)) => BS b (vcC P F N G x σ Q) (vcC P F N G y σ Q)
    | _ => False
  | .block id c, σ, Q => vcC P F N G c σ (TIn id Q)
  | .exit id, σ, Q => Q (.exit id) σ
  | .ret, σ, Q => Q .ret σ
  | .loop c, σ, Q => CodeK P F N (.loop c) σ Q
  | c, σ, Q => CodeK P F N c σ Q
end Go.Tr
