/- Keys of maps: ints, texts, and structs or arrays that are compared part by part. Conditions: none. -/
import Derived.Test.YtlbemlodcdgakaaMapSh
import Derived.Laws.StructEq
namespace Go.Proofs.Ytlbemlodcdgakaa
open Go.RowKit

def arr2K (p : Int × Int) : Value := .agg #[.int .i64 p.1, .int .i64 p.2]
end Go.Proofs.Ytlbemlodcdgakaa
