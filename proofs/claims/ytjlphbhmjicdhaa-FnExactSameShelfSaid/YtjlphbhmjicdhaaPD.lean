/- A drawn region met with one state after it. -/
import Derived.Test.YtjlphbhmjicdhaaPB
import Derived.Test.YtjlphbhmjicdhaaVZ
set_option linter.unusedVariables false
set_option linter.unusedSimpArgs false
universe u
namespace Go.Tr
open Go Go.RowKit
section
variable {P : Program} {F : Fm} {N : Nat} {G : Gt} {o : Oper} {ops : Array Oper} {l : List Oper} {σ : TS} {k : TS → Prop} {Q : Exit → TS → Prop} {a b c : Code}
/-- All orders of a drawn region end in what the given state says. -/
theorem CodeK.seqD {id : Nat} (n : Nat) (τ' : TS) (hid : id = n) (h1 : CodeK P F N (.region id ops true) σ (TThen (fun τ => τ.er.le τ'.er) (fun _ _ => False))) (h2 : fS τ' fun σ => CodeK P F N b σ Q) : CodeK P F N (.seq (.region id ops true) b) σ Q := by
  rw [fS_eq] at h2
  refine ⟨AC.seq (AC.mono h1.h (fun e s hq => ?_))⟩
  obtain ⟨τ, h3, h4⟩ := hq
  cases e with
  | normal => exact AC.le h3 (AC.le h4 h2.h)
  | exit id => exact h4.elim
  | goto l => exact h4.elim
  | ret => exact h4.elim
  | panic c => exact h4.elim
  | outgrown => exact h4.elim
theorem RunH.of_ck (hG : GOk P G) {hc : Hc} {f : FuncId} {fn : Func} {c : Code} (hf : P.funcs[f]? = some fn) (hb : fn.body = some c) (hname : (fn.name == "runtime.NumGoroutine") = false) {args : List TAg} {ext : List TX} {outs : List TAr} {ext' : List TX}
    (hn : args.length ≤ fn.ntmps) (hp : argsOk (ext.map TX.er) (args.map TAg.er)) (hx : ext.length ≤ 1000000) (hms : ext'.length = ext.length) (h : ∀ F : Fm, F.nE ≤ 1000000 → AmbF hc F → fS (enterE args ext) fun σ => CodeK P F fn.ntmps c σ (finT G fn outs ext')) : RunH P hc f args ext outs ext' := by
  refine ⟨⟨fn, hf, hname, by rw [hb]; rfl⟩, RunP.sim ?_⟩
  refine RunP.of_body hG.T hf hb (by simpa using hn) hp (ext'.map fun x => (x.er.k, x.er.n)) (by simp [hms]) (fun F hF hA => ?_)
  have hE : F.nE ≤ 1000000 := by rw [hF]; simpa using hx
  have h1 := h F hE hA
  rw [fS_eq] at h1
  refine AC.le (enterE_ok args ext) (AC.unle (AC.mono h1.h (fun e s hq => ?_)))
  obtain ⟨τ, hle, hfin⟩ := hq
  obtain ⟨τ', hle', hfin'⟩ := finT_ok hfin
  exact ⟨τ'.er, hle.trans hle', hfin'⟩
theorem CodeK.fsd (h : fS σ fun σ => CodeK P F N c σ Q) : CodeK P F N c σ Q := by rw [fS_eq] at h; exact h
end
end Go.Tr
