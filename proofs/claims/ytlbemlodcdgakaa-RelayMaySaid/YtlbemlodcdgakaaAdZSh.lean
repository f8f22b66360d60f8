/- Package rlog: the document's log as an object (as far as adopt needs it). Conditions: none. -/
import Derived.Test.YtlbemlodcdgakaaAdYSh
import Derived.Test.YtlbemlodcdgakaaGoSh
namespace Go.Proofs.Ytlbemlodcdgakaa
open Go.RowKit Go.PlainAid
set_option linter.unusedVariables false

def RObj (D : Nat → Prop) (w : World) (d : Nat) (u : Value) (X : List EntT) : Prop := (∀ q, D q → q < w.heap.size) ∧ RgP D w.heap.size w d u X
section
variable {S S' D A : Nat → Prop} {n : Nat} {w x : World} {b d : Nat} {u v : Value} {L X : List EntT}
theorem RObj.keep (h : RObj D w d u X) (hs : w.heap.size ≤ x.heap.size) (hk : ∀ q, D q → x.heap[q]? = w.heap[q]?) : RObj D x d u X := by
  obtain ⟨hS, h⟩ := h
  have hb : D d := by
    rcases h.sb with q | q
    · exact q
    · have := h.blk.lt; omega
  have up : ∀ {v : Value}, (∀ i, v.ownBlock = some i → D i) → InS D x.heap.size v := fun hv i hi => .inl (hv i hi)
  refine ⟨fun q hq => by have := hS q hq; omega, ?_, row_sameL h.row (fun i hi => hk i (ins_in h.su h.row i hi)), fun e he => ?_, .inl hb, up (ins_in h.su h.row), h.len⟩
  · have hB := h.blk
    unfold Blk at hB ⊢
    rw [hk d hb]; exact hB
  · have k := h.ents e he
    exact ⟨row_sameL k.row (fun i hi => hk i (ins_in k.ins k.row i hi)), up (ins_in k.ins k.row), k.len, k.each, k.ts0, k.ts1, k.cl, k.rq⟩
theorem RObj.gr {row : Option Nat} (h : RObj D w d u X) (hg : w.grownBy x row) (hr : ∀ k, row = some k → ¬ D k) : RObj D x d u X := h.keep hg.size fun k hk => hg.block k (h.1 k hk) (fun e => hr k e.symm hk)
theorem RObj.but (h : RObj D w d u X) (hb : But S w x) (hd : ∀ q, D q → S q → False) : RObj D x d u X := h.keep hb.size fun k hk => hb.block k (h.1 k hk) (fun q => hd k hk q)
end
end Go.Proofs.Ytlbemlodcdgakaa
