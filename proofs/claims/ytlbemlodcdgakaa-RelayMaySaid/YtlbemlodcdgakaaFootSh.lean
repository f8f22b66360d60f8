/- Walks that may turn some blocks that were there (S). Conditions: none. -/
import Derived.Test.YtlbemlodcdgakaaPexVSh
namespace Go.Proofs.Ytlbemlodcdgakaa
open Go.RowKit
set_option linter.unusedVariables false

section
variable {P : Program} {n : Nat} {m : List (Nat × Value)} {w x w0 : World} {o : Oper} {N : Nat} {T : TypeId} {cs : Array Value} {S : Nat → Prop}
theorem fb_new (h : But S w0 w) (hg : w.grownBy x none) : But S w0 x := h.trans (But.of_below (grown_below hg))
theorem fb_call (h : But S w0 w) (hb : Below w.heap.size w x) : But S w0 x := h.trans (But.of_below hb)
theorem fb_at (h : But S w0 w) (hg : w.grownBy x (some N)) (hN : N < w0.heap.size → S N) : But S w0 x :=
  h.trans' (S' := fun k => some N = some k) (grown_butU hg) (fun i hi e => by cases e; exact hN hi)
theorem fb_row {B sz k : Nat} {e : TypeId} {v : Value} {xs : List Value} (h : But S w0 w) (hr : w.ownsRow B e sz v k xs) (hB : w0.heap.size ≤ B) (hg : w.grownBy x v.ownBlock) : But S w0 x :=
  h.trans' (S' := fun k => v.ownBlock = some k) (grown_butU hg) (fun i hi e => by have := (hr.lt i e).1; omega)
theorem hb_foot {S' : Nat → Prop} (h : Below w0.heap.size w0 w) (hb : But S' w x) (hs : ∀ i, i < w.heap.size → S' i → w0.heap.size ≤ i) : Below w0.heap.size w0 x := below_but h hb h.size hs
theorem Blk.but (h : Blk w N T cs) (hb : But S w x) (hn : ¬ S N) : Blk x N T cs := by
  have hl := h.lt
  unfold Blk at h ⊢
  rw [hb.block N hl hn]; exact h
end
end Go.Proofs.Ytlbemlodcdgakaa
