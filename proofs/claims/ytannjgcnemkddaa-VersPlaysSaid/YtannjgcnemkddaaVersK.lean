/- A version that comes in by value. Conditions: none. -/
import Derived.Test.YtannjgcnemkddaaVersJ
namespace Go.Proofs.Ytannjgcnemkddaa
open Go.RowKit Go.ChangeShapes Go.WideShapes Go.Deep
set_option maxRecDepth 10000 in
theorem open_cell {H : Type} {enc : TypeId × Value → H} {w W0 : World} {base b0 : Nat} {spare : Nat → Bool} {held : Bool} {r : Reach} {v : Value} {n : Nat} {x : DataW H × List MemPlace}
    (hv : Value.okWide Try.prog w r b0 38 v) (h : DataW.trod enc Try.prog W0 base spare held n 38 v.cells.toList = some x) :
    ∃ c : CellT, v = .agg #[.int .u64 c.1, .string c.2.1, .bool c.2.2] ∧ cellOk c := by
  obtain ⟨cs, rfl, hsz⟩ := okWide_struct Try.underlying38 hv
  obtain ⟨c, hc, hok⟩ := elem_cell _ _ _ h
  refine ⟨c, ?_, hok⟩
  have : cs.toList = cellE c := hc
  rw [show cs = (cellE c).toArray by rw [← this]]; rfl
end Go.Proofs.Ytannjgcnemkddaa
