/- Entries of a log that came in: a batch (client, request, operations), a timestamp. Conditions: none. -/
import Derived.Test.YthmljllgfigebaaOpen
namespace Go.Proofs.Ythmljllgfigebaa
open Go.RowKit Go.ChangeShapes Go.WideShapes Go.Deep

/-- An operation: key, value, is it a deletion. -/
abbrev OpT := ByteArray × ByteArray × Bool
def opE (o : OpT) : List Value := [.string o.1, .string o.2.1, .bool o.2.2]
def opOk (o : OpT) : Prop := o.1.size ≤ 9223372036854775807 ∧ o.2.1.size ≤ 9223372036854775807
/-- An entry: client, request, the operations' slice as a value and as a list, timestamp. -/
structure EntT where
  client : Int
  req : Int
  ops : Value
  opl : List OpT
  ts : Int
instance : Inhabited EntT := ⟨⟨0, 0, .slice none 0 0, [], 0⟩⟩
def entE (e : EntT) : List Value := [.int .i64 e.client, .int .i64 e.req, e.ops, .int .u64 e.ts]
/-- What is known of an entry that came in. -/
structure EntOk (w : World) (e : EntT) : Prop where
  ops : SliceOf opE 3 w e.ops e.opl
  each : ∀ o ∈ e.opl, opOk o
  ts0 : 0 ≤ e.ts
  ts1 : e.ts < 18446744073709551616
  cl : (Lit.int .i64 e.client).wf = true
  rq : (Lit.int .i64 e.req).wf = true
theorem EntOk.below {w w' : World} {e : EntT} (h : EntOk w e) (hb : Below w.heap.size w w') : EntOk w' e := ⟨h.ops.below hb, h.each, h.ts0, h.ts1, h.cl, h.rq⟩
section
variable {H : Type} {enc : TypeId × Value → H} {w : World} {base : Nat} {spare : Nat → Bool} {held : Bool}
-- left out here
















-- left out here


-- left out here




























-- left out here


end
end Go.Proofs.Ythmljllgfigebaa
