/- Package conf and the document's own: Check, Same, as the generator wants them. Conditions: none. -/
import Derived.Test.YtlbemlodcdgakaaConfESh
namespace Go.Proofs.Ytlbemlodcdgakaa
open Go.RowKit Go.PlainAid
set_option linter.unusedVariables false

theorem wrcheck_any (ep : Int) (mv : Value) (ms : List MemT) (fl : Int) (w : World) (hs : SliceOf memE 2 w mv ms) (hmk : ∀ m ∈ ms, memOk m) (he : -9223372036854775808 ≤ ep ∧ ep ≤ 9223372036854775807) (hf : 0 ≤ fl ∧ fl < 18446744073709551616) :
    Calls Try.prog 111 #[.agg #[.int .i64 ep, mv, .int .u64 fl]] w fun e w' => e = .returned (.int .i64 (chkC ep ms)) ∧ Below w.heap.size w w' := rcheck_any ⟨ep, mv, ms, fl⟩ w ⟨hs, hmk, he.1, he.2, hf.1, hf.2⟩
end Go.Proofs.Ytlbemlodcdgakaa
