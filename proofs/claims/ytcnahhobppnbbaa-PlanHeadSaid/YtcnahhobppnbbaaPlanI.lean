/- catenalaw27: PlanPlays, PlanAgain, as the closing texts want them. Conditions: none. -/
import Derived.Test.YtcnahhobppnbbaaPlanG
import Derived.Test.YtcnahhobppnbbaaConfJ
namespace Go.Proofs.Ytcnahhobppnbbaa
open Go.RowKit Go.PlainAid
set_option linter.unusedVariables false


theorem open_intl {H : Type} {enc : TypeId × Value → H} {w : World} {base : Nat} {spare : Nat → Bool} {held : Bool} {fuel : Nat} {cs : List Value} {x : DataW H × List MemPlace} (h : DataW.trod enc Try.prog w base spare held fuel 37 cs = some x) :
    ∃ (l : List Int) (v : Value), cs = [v] ∧ SliceOf (intE .i64) 1 w v l ∧ ∀ p ∈ l, True :=
  open_rows (intE .i64) 1 _ Try.underlying37 (by kernel_rfl) (by omega) (fun n cs x h => by
    obtain ⟨a, e, _, w0⟩ := DataW.trod_int Try.underlying3 h
    exact ⟨a, e, trivial⟩) h

theorem planPlays_c (c : ConfT) (lv : Value) (lg : List Int) (gv : Value) (gn : List Int) (jv : Value) (js : List MemT) (last : Int) (w : World) (hc : ConfOk w c) (hlg : SliceOf (intE .i64) 1 w lv lg) (x1 : ∀ p ∈ lg, True) (hgn : SliceOf (intE .i64) 1 w gv gn) (x2 : ∀ p ∈ gn, True) (hjs : SliceOf memE 2 w jv js) (hjk : ∀ p ∈ js, memOk p) (hl : (Lit.int .u64 last).wf = true) :
    Calls Try.prog 12 #[confV c, lv, gv, jv, .int .u64 last] w fun e w' => e = .returned (.bool true) ∧ Below w.heap.size w w' :=
  planPlays_law c.ep c.mv c.ms c.fl lv lg gv gn jv js last w hc.ms hc.each hlg hgn hjs hjk ⟨hc.e0, hc.e1⟩ ⟨hc.f0, hc.f1⟩ (wf_u64 hl)
theorem planAgain_c (c : ConfT) (lv : Value) (lg : List Int) (gv : Value) (gn : List Int) (jv : Value) (js : List MemT) (last : Int) (w : World) (hc : ConfOk w c) (hlg : SliceOf (intE .i64) 1 w lv lg) (x1 : ∀ p ∈ lg, True) (hgn : SliceOf (intE .i64) 1 w gv gn) (x2 : ∀ p ∈ gn, True) (hjs : SliceOf memE 2 w jv js) (hjk : ∀ p ∈ js, memOk p) (hl : (Lit.int .u64 last).wf = true) :
    Calls Try.prog 14 #[confV c, lv, gv, jv, .int .u64 last] w fun e w' => e = .returned (.bool true) ∧ Below w.heap.size w w' :=
  planAgain_law c.ep c.mv c.ms c.fl lv lg gv gn jv js last w hc.ms hc.each hlg hgn hjs hjk ⟨hc.e0, hc.e1⟩ ⟨hc.f0, hc.f1⟩ (wf_u64 hl)
end Go.Proofs.Ytcnahhobppnbbaa
