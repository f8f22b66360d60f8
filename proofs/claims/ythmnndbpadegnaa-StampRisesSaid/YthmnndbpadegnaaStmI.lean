/- catenalaw19.StampRises: as it is asked. Conditions: none. -/
import Derived.Test.YthmnndbpadegnaaStmH
namespace Go.Proofs.Ythmnndbpadegnaa
open Go.RowKit
theorem stampRises_l (v : Value) (l : List EntT) (n f : Int) (w : World) (hs : SliceOf entE 4 w v l) (g : (∀ z ∈ l, EntOkS w z) ∧ l.length ≤ 2932031007403) (hf : (Lit.int .u64 f).wf = true) :
    Calls Try.prog 12 #[v, .int .i64 n, .int .u64 f] w fun e w' => e = .returned (.bool true) ∧ Below w.heap.size w w' :=
  stampRises_law v l n f w hs g.1 g.2 (by have := wf_u64 hf; omega)
end Go.Proofs.Ythmnndbpadegnaa
