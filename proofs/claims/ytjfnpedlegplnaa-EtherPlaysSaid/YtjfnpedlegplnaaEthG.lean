/- catenalaw21: EtherZero. Conditions: none. -/
import Derived.Test.YtjfnpedlegplnaaEthF
import Derived.OpenShut
namespace Go.Proofs.Ytjfnpedlegplnaa
open Go.RowKit Go.PlainAid Go.ChangeShapes Go.WideShapes Go.Deep

/-- A block of three cells stays. -/
def Box3 (w : World) (k : Nat) (p : PktT) : Prop := w.heap[k]? = some (.cells #[.int .i64 p.1, .int .i64 p.2.1, .string p.2.2] 110 (0, 0))
theorem Box3.kept {w w' : World} {k : Nat} {p : PktT} (h : Box3 w k p) (hb : Below w.heap.size w w') : Box3 w' k p := by
  have hlt := (Array.getElem?_eq_some_iff.1 (show w.heap[k]? = _ from h)).1
  unfold Box3; rw [hb.block k hlt]; exact h
theorem Box3.cells {w : World} {k : Nat} {fr to : Int} {bd : ByteArray} (h : Box3 w k (fr, to, bd)) : w.cell? ⟨k, 0, none⟩ = some (.int .i64 fr) ∧ w.cell? ⟨k, 1, none⟩ = some (.int .i64 to) ∧ w.cell? ⟨k, 2, none⟩ = some (.string bd) := (three_cells h).1

-- left out here

































































































theorem okWide_structE {P : Program} {w : World} {r : Reach} {base : Nat} {fs : Array Field} {t : TypeId} {v : Value} (ht : P.underlying t = some (.struct fs)) (h : Value.okWide P w r base t v) : ∃ cs, v = .agg cs ∧ cs.size = P.cellsOf t := by
  simp only [Value.okWide, ht] at h
  obtain ⟨cs, h1, h2, _⟩ := h
  exact ⟨cs, h1, h2⟩
set_option maxRecDepth 10000 in
theorem open_pktv {H : Type} {enc : TypeId × Value → H} {w W0 : World} {base b0 : Nat} {spare : Nat → Bool} {held : Bool} {r : Reach} {v : Value} {n : Nat} {x : DataW H × List MemPlace}
    (hv : Value.okWide Try.prog w r b0 110 v) (h : DataW.trod enc Try.prog W0 base spare held n 110 v.cells.toList = some x) :
    ∃ c : PktT, v = pktV c ∧ True := by
  obtain ⟨cs, rfl, hsz⟩ := okWide_structE Try.underlying110 hv
  obtain ⟨c, hc, hok⟩ := elem_pkt _ _ _ h
  refine ⟨c, ?_, trivial⟩
  have : cs.toList = pktE c := hc
  rw [show cs = (pktE c).toArray by rw [← this]]; rfl
end Go.Proofs.Ytjfnpedlegplnaa
