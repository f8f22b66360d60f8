/- catenalaw22.LinkBytes: a segment that came in. Conditions: none. -/
import Derived.Test.YthmljllgfigebaaLinkULb
namespace Go.Proofs.Ythmljllgfigebaa
open Go.RowKit Go.ChangeShapes Go.WideShapes Go.ChangeAt
set_option linter.unusedVariables false
set_option maxRecDepth 100000 in
theorem open_segS {H : Type} {enc : TypeId × Value → H} {w W0 : World} {base b0 : Nat} {spare : Nat → Bool} {held : Bool} {r : Reach} {v : Value} {n : Nat} {x : DataW H × List MemPlace}
    (hv : Value.okWide Try.prog w r b0 61 v) (hw : ∀ n ∈ x.1.weights Try.prog 61, n ≤ reachBytes) (h : DataW.trod enc Try.prog W0 base spare held n 61 v.cells.toList = some x) :
    ∃ p : SegT, v = segV p ∧ SegB p := by
  obtain ⟨cs, rfl, hsz⟩ := okWide_struct Try.underlying61 hv
  obtain ⟨p, hp, hok⟩ := elem_segS _ _ _ h hw
  refine ⟨p, ?_, hok⟩
  obtain ⟨cl⟩ := cs
  have hp' : cl = segE p := hp
  subst hp'; rfl
theorem linkBytes_l (s : SegT) (t : ByteArray) (w : World) (h : SegB s) (ht : t.size ≤ 140737488351232) : Calls Try.prog 8 #[segV s, .string t] w fun e w' => e = .returned (.bool true) ∧ Below w.heap.size w w' := linkBytes_law s t w h ht
end Go.Proofs.Ythmljllgfigebaa
