/- catenalaw18: AdoptAgreed as it is asked. Conditions: none. -/
import Derived.Test.YthmnndbpadegnaaAdpI
namespace Go.Proofs.Ythmnndbpadegnaa
open Go.RowKit
theorem adoptAgreed_l (v : Value) (l : List EntT) (v2 : Value) (l2 : List EntT) (w : World) (hs : SliceOf entE 4 w v l) (g : (∀ z ∈ l, EntOkS w z) ∧ l.length ≤ 2932031007403) (hs2 : SliceOf entE 4 w v2 l2) (g2 : (∀ z ∈ l2, EntOkS w z) ∧ l2.length ≤ 2932031007403) :
    Calls Try.prog 11 #[v, v2] w fun e w' => e = .returned (.bool true) ∧ Below w.heap.size w w' :=
  adoptAgreed_law v l v2 l2 w hs g.1 hs2 g2.1 g.2 g2.2
end Go.Proofs.Ythmnndbpadegnaa
