/- A body told step by step: a barrier between its pieces, a list taken operation by operation. -/
import Derived.Test.YtjlphbhmjicdhaaPA
set_option linter.unusedVariables false
set_option linter.unusedSimpArgs false
universe u
namespace Go.Tr
open Go Go.RowKit
section
variable {P : Program} {F : Fm} {N : Nat} {G : Gt} {o : Oper} {ops : Array Oper} {l : List Oper} {σ : TS} {k : TS → Prop} {Q : Exit → TS → Prop} {a b c : Code}
theorem CodeK.vc (hG : GOk P G) (hE : F.nE ≤ 1000000) (h : vcC P F N G c σ Q) : CodeK P F N c σ Q := ⟨vcC_ok hG hE h⟩
theorem CodeK.seqk (h : CodeK P F N a σ (TThen (fun σ => CodeK P F N b σ Q) Q)) : CodeK P F N (.seq a b) σ Q := by
  refine ⟨AC.seq (AC.mono h.h (fun e s hq => ?_))⟩
  obtain ⟨τ, h1, h2⟩ := hq
  cases e with
  | normal => exact AC.le h1 h2.h
  | exit id => exact ⟨τ, h1, h2⟩
  | goto l => exact ⟨τ, h1, h2⟩
  | ret => exact ⟨τ, h1, h2⟩
  | panic c => exact ⟨τ, h1, h2⟩
  | outgrown => exact ⟨τ, h1, h2⟩
theorem CodeK.seqv (hG : GOk P G) (hE : F.nE ≤ 1000000) (h : vcC P F N G a σ (TThen (fun σ => CodeK P F N b σ Q) Q)) : CodeK P F N (.seq a b) σ Q := CodeK.seqk (CodeK.vc hG hE h)
theorem CodeK.lst {id : Nat} (h : ListO P F N ops ops.toList σ (Q .normal)) : CodeK P F N (.region id ops false) σ Q := by
  refine ⟨?_⟩
  have h2 := AC.region (id := id) (l := ops.toList) (P := P) (F := F) (N := N) (Q := eQ Q) (σ := σ.er) (by rw [Array.toArray_toList]; exact h.h _ (fun τ hτ => eQ_of hτ))
  rw [Array.toArray_toList] at h2; exact h2
/-- The region told by its number is taken operation by operation. -/
theorem CodeK.seqL {id : Nat} (n : Nat) (hid : id = n) (h : ListO P F N ops ops.toList σ (fun σ => CodeK P F N b σ Q)) : CodeK P F N (.seq (.region id ops false) b) σ Q := CodeK.seqk (CodeK.lst h)
theorem ListO.step (hG : GOk P G) (hE : F.nE ≤ 1000000) (h : vcG P F N G ops o σ fun σ => ListO P F N ops l σ k) : ListO P F N ops (o :: l) σ k := ⟨fun Q kk => vcG_ok hG hE (fun τ hτ => hτ.h Q kk) h⟩
theorem ListO.done (h : k σ) : ListO P F N ops [] σ k := ⟨fun Q kk => AL.nil (kk _ h)⟩
theorem ListO.pure (hg : o.guard = none) (hd : okD N o.dst = true) (h : PK P F N o σ fun v => stO o σ v fun σ => ListO P F N ops l σ k) : ListO P F N ops (o :: l) σ k := ⟨fun Q kk => by
  obtain ⟨v, hv, hp⟩ := h.ok
  exact AL.pure hg hd hp (stO_ok hd (fun τ hτ => hτ.h Q kk) hv)⟩
/-- A contract out of what is left to show of the body, told step by step. -/
theorem RunT.of_ck (hG : GOk P G) {f : FuncId} {fn : Func} {c : Code} (hf : P.funcs[f]? = some fn) (hb : fn.body = some c) (hname : (fn.name == "runtime.NumGoroutine") = false) {args : List TAg} {ext : List TX} {outs : List TAr} {ext' : List TX}
    (hn : args.length ≤ fn.ntmps) (hp : argsOk (ext.map TX.er) (args.map TAg.er)) (hx : ext.length ≤ 1000000) (hms : ext'.length = ext.length) (h : ∀ F : Fm, F.nE ≤ 1000000 → fS (enterE args ext) fun σ => CodeK P F fn.ntmps c σ (finT G fn outs ext')) : RunT P f args ext outs ext' := by
  refine ⟨⟨fn, hf, hname, by rw [hb]; rfl⟩, Run.sim ?_⟩
  refine Run.of_body hG.T hf hb (by simpa using hn) hp (ext'.map fun x => (x.er.k, x.er.n)) (by simp [hms]) (fun F hF => ?_)
  have hE : F.nE ≤ 1000000 := by rw [hF]; simpa using hx
  have h1 := h F hE
  rw [fS_eq] at h1
  refine AC.le (enterE_ok args ext) (AC.unle (AC.mono h1.h (fun e s hq => ?_)))
  obtain ⟨τ, hle, hfin⟩ := hq
  obtain ⟨τ', hle', hfin'⟩ := finT_ok hfin
  exact ⟨τ'.er, hle.trans hle', hfin'⟩
end
end Go.Tr
