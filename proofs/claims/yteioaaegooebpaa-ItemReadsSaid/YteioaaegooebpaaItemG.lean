/- An entry that came in by value, opened; the laws of item over it. Conditions: none. -/
import Derived.Test.YteioaaegooebpaaItemC
namespace Go.Proofs.Yteioaaegooebpaa
open Go.RowKit Go.ChangeShapes Go.WideShapes Go.Deep
def entV (e : EntT) : Value := .agg #[.int .i64 e.client, .int .i64 e.req, e.ops, .int .u64 e.ts]
set_option maxRecDepth 100000 in
theorem open_ent {H : Type} {enc : TypeId × Value → H} {w W0 : World} {base b0 : Nat} {spare : Nat → Bool} {held : Bool} {r : Reach} {v : Value} {n : Nat} {x : DataW H × List MemPlace}
    (hv : Value.okWide Try.prog w r b0 34 v) (h : DataW.trod enc Try.prog W0 base spare held n 34 v.cells.toList = some x) :
    ∃ e : EntT, v = entV e ∧ EntOk W0 e := by
  obtain ⟨cs, rfl, hsz⟩ := okWide_struct Try.underlying34 hv
  obtain ⟨e, he, hok⟩ := elem_ent _ _ _ h
  refine ⟨e, ?_, hok⟩
  obtain ⟨cl⟩ := cs
  have he' : cl = entE e := he
  subst he'; rfl
theorem itemPuts_ent (a b : EntT) (w : World) (ha : EntOk w a) (hb : EntOk w b) : Calls Try.prog 4 #[entV a, entV b] w fun e w' => e = .returned (.bool true) ∧ Below w.heap.size w w' :=
  itemPuts_law a.client a.req a.ops a.opl a.ts b.client b.req b.ops b.opl b.ts w ha.ops hb.ops ⟨ha.ts0, ha.ts1⟩ ⟨hb.ts0, hb.ts1⟩
end Go.Proofs.Yteioaaegooebpaa
