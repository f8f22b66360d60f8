/- An entry that came in by value, and any bytes. Conditions: none. -/
import Derived.Test.YteioaaegooebpaaItemG
import Derived.Test.YteioaaegooebpaaItemD
namespace Go.Proofs.Yteioaaegooebpaa
open Go.RowKit
theorem itemReads_ent (a : EntT) (s : ByteArray) (w : World) (ha : EntOk w a) (hs : s.size ≤ 140737488351232) : Calls Try.prog 5 #[entV a, .string s] w fun e w' => e = .returned (.bool true) ∧ Below w.heap.size w w' :=
  itemReads_law a.client a.req a.ops a.opl a.ts s w ha.ops ⟨ha.ts0, ha.ts1⟩ hs
end Go.Proofs.Yteioaaegooebpaa
