/- A law's frame where a table is told. -/
import Derived.Test.YtbfkdbbgbdihdabDoorVP
import Derived.Test.YtbfkdbbgbdihdabDoorHA
import Derived.Test.YtbfkdbbgbdihdabDoorTab
namespace Go.Tr
open Go Go.RowKit
theorem RunP.args {P : Program} {hc : Hc} {f : FuncId} {args args' : List Ag} {ext : List Xr} {Post : List Ar → List Xr → Prop} (hs : AgsSim args args') (h : RunP P hc f args' ext Post) : RunP P hc f args ext Post := by
  intro w q A cargs he ha
  obtain ⟨f1, f2⟩ := hs.get
  refine h w q A cargs ⟨by rw [he.size, f1], fun i y hi => ?_, he.ext, he.lt⟩ ha
  obtain ⟨x, g1, g2⟩ := f2 i y hi
  obtain ⟨u, k1, k2⟩ := he.args i x g1
  exact ⟨u, k1, g2.rel k2⟩
section
variable {P : Program} {W : World}
theorem RunP.law {hc : Hc} {f : FuncId} {args : List Ag} {cargs : Array Value} (hrun : RunP P hc f args [] fun outs ext => outs = [.one (.lit (.bool true))] ∧ ext = []) (hc' : ∀ g j v, hc g j v → W.cell? ⟨g, j, none⟩ = some v ∧ scal v = true) (hsz : cargs.size = args.length)
    (hargs : ∀ (i : Nat) (x : Ag), args[i]? = some x → ∃ u, cargs[i]? = some u ∧ AgRel W (qAll W) (fun _ => ⟨none, 0⟩) i x u) :
    Calls P f cargs W fun e w' => e = .returned (.bool true) ∧ Below W.heap.size W w' := by
  refine (hrun W (qAll W) (fun _ => ⟨none, 0⟩) cargs ⟨hsz, hargs, fun ρ x h => by simp at h, fun b j x hx => ?_⟩ (fun g j v hm => ?_)).mono fun e w' h => ?_
  · unfold qAll at hx
    split at hx
    · rename_i hh; obtain ⟨v, hv⟩ := hh; exact World.block_lt_of_cell? W ⟨b, j, none⟩ hv
    · cases hx
  · obtain ⟨h1, h2⟩ := hc' g j v hm
    exact ⟨h1, h2, qAll_fro ⟨v, h1⟩⟩
  · obtain ⟨us, outs, ext, q', rfl, ⟨rfl, rfl⟩, hx⟩ := h
    match us, hx.size with
    | [u], _ =>
      obtain ⟨u', hu, hr⟩ := hx.outs 0 _ rfl
      injection hu with hu; subst hu
      obtain ⟨hr, _⟩ := hr
      refine ⟨by rw [hr]; rfl, hx.fr.os, hx.fr.tape, hx.fr.output, hx.fr.mt.size, fun k hk => ?_⟩
      have hkk : W.heap[k]? = some W.heap[k] := Array.getElem?_eq_getElem hk
      cases ho : W.heap[k] with
      | cells cur e fz =>
        rw [ho] at hkk
        obtain ⟨cur', h1, h2⟩ := hx.fr.mt.blk k cur e fz hkk
        rw [hkk, h1]
        have : cur' = cur := by
          apply Array.ext_getElem?
          intro j
          have := hx.fr.cell k j hk (qAll_wof k j)
          simpa [World.cell?, hkk, h1] using this
        rw [this]
      | _ => exact hx.fr.other k hk (fun cur e fz hh => by rw [hkk, ho] at hh; cases hh)
end
end Go.Tr
namespace Go.Proofs.YtbfkdbbgbdihdabDoor
open Go Go.Tr Go.RowKit
theorem hT_of {W : World} (ht : Tab W) : ∀ g j v, hT g j v → W.cell? ⟨g, j, none⟩ = some v ∧ scal v = true := by
  intro g j v h
  simp only [hT, hcL, List.mem_cons, List.not_mem_nil, or_false, Prod.mk.injEq] at h
  rcases h with ⟨rfl, rfl, rfl⟩ | ⟨rfl, rfl, rfl⟩ | ⟨rfl, rfl, rfl⟩
  · exact ⟨ht.c0, rfl⟩
  · exact ⟨ht.c1, rfl⟩
  · exact ⟨ht.c2, rfl⟩
end Go.Proofs.YtbfkdbbgbdihdabDoor
