/- A range over a text: the call's own place among its bytes. Conditions: the bytes are below 128. -/
import Derived.Test.YtlbemlodcdgakaaPexDSh
import Derived.Test.YtlbemlodcdgakaaButSh
import Derived.Test.YtlbemlodcdgakaaPexS0Sh
import Derived.Maps.RangeRun
import Derived.Laws.RangeString
import Derived.Laws.Strings
import Derived.MapKept
namespace Go.Proofs.Ytlbemlodcdgakaa
open Go.RowKit Go.PlainAid Go.ChangeMaps
def SIt (w : World) (r : Nat) (s : ByteArray) (pos : Nat) : Prop := w.heap[r]? = some (.stringIter s pos)
section
variable {P : Program} {n : Nat} {m : List (Nat × Value)} {w x : World} {o : Oper} {r pos : Nat} {s : ByteArray} {q : Operand} {t : TypeId}
theorem SIt.lt (h : SIt w r s pos) : r < w.heap.size := (Array.getElem?_eq_some_iff.1 (show w.heap[r]? = _ from h)).1
theorem SIt.kept {row : Option Nat} (h : SIt w r s pos) (hg : w.grownBy x row) (h2 : row ≠ some r) : SIt x r s pos := by
  unfold SIt; rw [hg.block r h.lt (fun e => h2 e.symm)]; exact h
theorem SIt.row {B' : Nat} {T : TypeId} {sz k : Nat} {v : Value} {xs : List Value} (h : SIt w r s pos) (hr : w.ownsRow B' T sz v k xs) : v.ownBlock ≠ some r := by
  intro e
  obtain ⟨_, h2⟩ := hr
  rcases h2 with h2 | ⟨g, cap, cur, hv, hg, hh, _⟩
  · rw [h2.1] at e; simp [Value.ownBlock] at e
  · rw [hv] at e
    simp only [Value.ownBlock, Option.some.injEq] at e
    subst e
    rw [show w.heap[g]? = _ from h] at hh; cases hh
theorem SIt.but {S : Nat → Prop} (h : SIt w r s pos) (hb : But S w x) (hn : ¬ S r) : SIt x r s pos := by
  unfold SIt; rw [hb.block r h.lt hn]; exact h
end
end Go.Proofs.Ytlbemlodcdgakaa
