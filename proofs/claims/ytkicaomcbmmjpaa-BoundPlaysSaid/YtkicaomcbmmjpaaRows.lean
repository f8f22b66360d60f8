/-
  No cell of these rows narrows 'for every input' (looked for: loops, veiled, ifaces, maps, wideKeys, modest, calm, conditions, laid).
  DERIVED. THE GIVEN ROWS OF THIS SEAT. 8 by the template 'for every input the law returns true; each argument reads behind the call as it read before'; 0 by the template 'total and deterministic' (their statements: YtkicaomcbmmjpaaTotals.lean).
  GIVEN WITH THE SEED: the statements are not yours to turn. If you find one false, say at which input.
  Laid BY PROGRAM, IN A SANDBOX (cutbox-rows.mjs): the forced cells as the released guide's own fill.sh prints them over the translation 0dd254572665a8fc… (all of the seat's roots in one cut). By AI agents, Wed Nov 11 2026. No macro, syntax, notation, axiom, sorry.
-/
import Derived.Test.YtkicaomcbmmjpaaChecked
import GoSem.Claim
import GoSem.ClaimJoined
import GoSem.ClaimMapViews
import Derived.JoinedTies
import Derived.KernelRfl
namespace Go.Proofs.Ytkicaomcbmmjpaa
/- THE CELL 'sum', in the pinned program and in every row, IS THE sha256 OF THE DUMP (.gsa) THAT YtkicaomcbmmjpaaProg.lean LOADS. Nothing in Lean hashes anything: it is a label: what it is worth is what the hold of that sum in a sandbox is worth. -/
noncomputable def Try.pinned : Pinned := { name := "ytkicaomcbmmjpaa", sum := "0dd254572665a8fc6ea6e6e8e396a55a44c624e2c29a75e1f8510e32e0f5ed55", checked := Try.checked }
namespace Rows
def none {H : Type} : Left H := { results := [], args := [] }

/-- 'catenalaw20.BoundPlays': WHATEVER THE INPUT: true; the input reads as it did. -/
def boundPlaysSpec : ChangeSpec := { name := "boundPlays", fn := fun _ => fun
  | [d1, d2, d3, d4, d5] => { results := [.lit (.bool true)], args := [d1, d2, d3, d4, d5] }
  | _ => none }
def boundPlaysRow : OpenClaim := { program := "ytkicaomcbmmjpaa", sum := "0dd254572665a8fc6ea6e6e8e396a55a44c624e2c29a75e1f8510e32e0f5ed55", func := "catena/catenalaw20.BoundPlays", spec := "boundPlays", apart := false }
def BoundPlaysSaid : Prop := boundPlaysRow.holds Try.pinned (OpenSpec.ofChange boundPlaysSpec)

/-- ITS FALSE NEIGHBOUR: 'it returns false'. Refute it at one input. -/
def boundPlaysWrong : ChangeSpec := { name := "boundPlays", fn := fun _ => fun
  | [d1, d2, d3, d4, d5] => { results := [.lit (.bool false)], args := [d1, d2, d3, d4, d5] }
  | _ => none }
def BoundPlaysWrongFalsely : Prop := boundPlaysRow.holds Try.pinned (OpenSpec.ofChange boundPlaysWrong)

/-- 'catenalaw20.BoundMore': WHATEVER THE INPUT: true; the input reads as it did. -/
def boundMoreSpec : ChangeSpec := { name := "boundMore", fn := fun _ => fun
  | [d1, d2, d3, d4] => { results := [.lit (.bool true)], args := [d1, d2, d3, d4] }
  | _ => none }
def boundMoreRow : OpenClaim := { program := "ytkicaomcbmmjpaa", sum := "0dd254572665a8fc6ea6e6e8e396a55a44c624e2c29a75e1f8510e32e0f5ed55", func := "catena/catenalaw20.BoundMore", spec := "boundMore", apart := false }
def BoundMoreSaid : Prop := boundMoreRow.holds Try.pinned (OpenSpec.ofChange boundMoreSpec)

/-- ITS FALSE NEIGHBOUR: 'it returns false'. Refute it at one input. -/
def boundMoreWrong : ChangeSpec := { name := "boundMore", fn := fun _ => fun
  | [d1, d2, d3, d4] => { results := [.lit (.bool false)], args := [d1, d2, d3, d4] }
  | _ => none }
def BoundMoreWrongFalsely : Prop := boundMoreRow.holds Try.pinned (OpenSpec.ofChange boundMoreWrong)

/-- 'catenalaw24.WatchPlays': WHATEVER THE INPUT: true; the input reads as it did. -/
def watchPlaysSpec : ChangeSpec := { name := "watchPlays", fn := fun _ => fun
  | [d] => { results := [.lit (.bool true)], args := [d] }
  | _ => none }
def watchPlaysRow : OpenClaim := { program := "ytkicaomcbmmjpaa", sum := "0dd254572665a8fc6ea6e6e8e396a55a44c624e2c29a75e1f8510e32e0f5ed55", func := "catena/catenalaw24.WatchPlays", spec := "watchPlays", inPlace := ["sync/atomic.LoadInt64", "sync/atomic.AddInt64", "sync/atomic.StoreInt64"], apart := false }
def WatchPlaysSaid : Prop := watchPlaysRow.holds Try.pinned (OpenSpec.ofChange watchPlaysSpec)

/-- ITS FALSE NEIGHBOUR: 'it returns false'. Refute it at one input. -/
def watchPlaysWrong : ChangeSpec := { name := "watchPlays", fn := fun _ => fun
  | [d] => { results := [.lit (.bool false)], args := [d] }
  | _ => none }
def WatchPlaysWrongFalsely : Prop := watchPlaysRow.holds Try.pinned (OpenSpec.ofChange watchPlaysWrong)

/-- 'catenalaw24.WatchLate': WHATEVER THE INPUT: true; the input reads as it did. -/
def watchLateSpec : ChangeSpec := { name := "watchLate", fn := fun _ => fun
  | [d1, d2] => { results := [.lit (.bool true)], args := [d1, d2] }
  | _ => none }
def watchLateRow : OpenClaim := { program := "ytkicaomcbmmjpaa", sum := "0dd254572665a8fc6ea6e6e8e396a55a44c624e2c29a75e1f8510e32e0f5ed55", func := "catena/catenalaw24.WatchLate", spec := "watchLate", inPlace := ["sync/atomic.LoadInt64", "sync/atomic.AddInt64", "sync/atomic.StoreInt64"], apart := false }
def WatchLateSaid : Prop := watchLateRow.holds Try.pinned (OpenSpec.ofChange watchLateSpec)

/-- ITS FALSE NEIGHBOUR: 'it returns false'. Refute it at one input. -/
def watchLateWrong : ChangeSpec := { name := "watchLate", fn := fun _ => fun
  | [d1, d2] => { results := [.lit (.bool false)], args := [d1, d2] }
  | _ => none }
def WatchLateWrongFalsely : Prop := watchLateRow.holds Try.pinned (OpenSpec.ofChange watchLateWrong)

/-- 'catenalaw24.WatchZero': WHATEVER THE INPUT: true; the input reads as it did. -/
def watchZeroSpec : ChangeSpec := { name := "watchZero", fn := fun _ => fun
  | [d] => { results := [.lit (.bool true)], args := [d] }
  | _ => none }
def watchZeroRow : OpenClaim := { program := "ytkicaomcbmmjpaa", sum := "0dd254572665a8fc6ea6e6e8e396a55a44c624e2c29a75e1f8510e32e0f5ed55", func := "catena/catenalaw24.WatchZero", spec := "watchZero", inPlace := ["sync/atomic.StoreInt64", "sync/atomic.LoadInt64", "sync/atomic.AddInt64"], apart := false }
def WatchZeroSaid : Prop := watchZeroRow.holds Try.pinned (OpenSpec.ofChange watchZeroSpec)

/-- ITS FALSE NEIGHBOUR: 'it returns false'. Refute it at one input. -/
def watchZeroWrong : ChangeSpec := { name := "watchZero", fn := fun _ => fun
  | [d] => { results := [.lit (.bool false)], args := [d] }
  | _ => none }
def WatchZeroWrongFalsely : Prop := watchZeroRow.holds Try.pinned (OpenSpec.ofChange watchZeroWrong)

/-- 'catenalaw27.PlanPlays': WHATEVER THE INPUT: true; the input reads as it did. -/
def planPlaysSpec : ChangeSpec := { name := "planPlays", fn := fun _ => fun
  | [d1, d2, d3, d4, d5] => { results := [.lit (.bool true)], args := [d1, d2, d3, d4, d5] }
  | _ => none }
def planPlaysRow : OpenClaim := { program := "ytkicaomcbmmjpaa", sum := "0dd254572665a8fc6ea6e6e8e396a55a44c624e2c29a75e1f8510e32e0f5ed55", func := "catena/catenalaw27.PlanPlays", spec := "planPlays", unfollowed := true, recurses := true, apart := false }
def PlanPlaysSaid : Prop := planPlaysRow.holds Try.pinned (OpenSpec.ofChange planPlaysSpec)

/-- ITS FALSE NEIGHBOUR: 'it returns false'. Refute it at one input. -/
def planPlaysWrong : ChangeSpec := { name := "planPlays", fn := fun _ => fun
  | [d1, d2, d3, d4, d5] => { results := [.lit (.bool false)], args := [d1, d2, d3, d4, d5] }
  | _ => none }
def PlanPlaysWrongFalsely : Prop := planPlaysRow.holds Try.pinned (OpenSpec.ofChange planPlaysWrong)

/-- 'catenalaw27.PlanHead': WHATEVER THE INPUT: true; the input reads as it did. -/
def planHeadSpec : ChangeSpec := { name := "planHead", fn := fun _ => fun
  | [d1, d2, d3, d4, d5] => { results := [.lit (.bool true)], args := [d1, d2, d3, d4, d5] }
  | _ => none }
def planHeadRow : OpenClaim := { program := "ytkicaomcbmmjpaa", sum := "0dd254572665a8fc6ea6e6e8e396a55a44c624e2c29a75e1f8510e32e0f5ed55", func := "catena/catenalaw27.PlanHead", spec := "planHead", unfollowed := true, recurses := true, apart := false }
def PlanHeadSaid : Prop := planHeadRow.holds Try.pinned (OpenSpec.ofChange planHeadSpec)

/-- ITS FALSE NEIGHBOUR: 'it returns false'. Refute it at one input. -/
def planHeadWrong : ChangeSpec := { name := "planHead", fn := fun _ => fun
  | [d1, d2, d3, d4, d5] => { results := [.lit (.bool false)], args := [d1, d2, d3, d4, d5] }
  | _ => none }
def PlanHeadWrongFalsely : Prop := planHeadRow.holds Try.pinned (OpenSpec.ofChange planHeadWrong)

/-- 'catenalaw27.PlanAgain': WHATEVER THE INPUT: true; the input reads as it did. -/
def planAgainSpec : ChangeSpec := { name := "planAgain", fn := fun _ => fun
  | [d1, d2, d3, d4, d5] => { results := [.lit (.bool true)], args := [d1, d2, d3, d4, d5] }
  | _ => none }
def planAgainRow : OpenClaim := { program := "ytkicaomcbmmjpaa", sum := "0dd254572665a8fc6ea6e6e8e396a55a44c624e2c29a75e1f8510e32e0f5ed55", func := "catena/catenalaw27.PlanAgain", spec := "planAgain", unfollowed := true, recurses := true, apart := false }
def PlanAgainSaid : Prop := planAgainRow.holds Try.pinned (OpenSpec.ofChange planAgainSpec)

/-- ITS FALSE NEIGHBOUR: 'it returns false'. Refute it at one input. -/
def planAgainWrong : ChangeSpec := { name := "planAgain", fn := fun _ => fun
  | [d1, d2, d3, d4, d5] => { results := [.lit (.bool false)], args := [d1, d2, d3, d4, d5] }
  | _ => none }
def PlanAgainWrongFalsely : Prop := planAgainRow.holds Try.pinned (OpenSpec.ofChange planAgainWrong)

/- THE SECOND FORM. 'bulk': how many values and letters a reading holds, each counted each time it is reached (what is shared counts as often as it is met; a slice's spare places count too). A statement '..UptoSaid' is the law's where the arguments, and the package variables that the reading takes, are together of bulk at most 1048576: NARROWER than '..Said'. Prove '..Said' where nothing that the law and all that it calls make is longer than what came in: it says more and counts as full. Else prove '..UptoSaid'. A law counts once. -/
mutual
def uptoBulk {H : Type} : DataW H → Nat
  | .lit (.string bytes) => bytes.length + 1
  | .lit _ => 1
  | .nil => 1
  | .ptr d => uptoBulk d + 1
  | .slice elems spare => uptoBulkAll elems + uptoBulkAll spare + 1
  | .agg parts => uptoBulkAll parts + 1
  | .iface _ d => uptoBulk d + 1
  | .map entries => uptoBulkEntries entries + 1
  | .held _ => 1
def uptoBulkAll {H : Type} : List (DataW H) → Nat
  | [] => 0
  | d :: r => uptoBulk d + uptoBulkAll r
def uptoBulkEntries {H : Type} : List (Lit × DataW H) → Nat
  | [] => 0
  | x :: r => uptoBulkEntry x + uptoBulkEntries r
def uptoBulkEntry {H : Type} : Lit × DataW H → Nat
  | (.string bytes, d) => bytes.length + uptoBulk d + 1
  | (_, d) => uptoBulk d + 1
 end
def uptoSmall : (H : Type) → List (DataW H) → Bool := fun _ ds => decide (uptoBulkAll ds ≤ 1048576)
def OpenSpec.upto (s : _root_.Go.ChangeSpec) : _root_.Go.OpenSpec := { _root_.Go.OpenSpec.ofChange s with cond := some uptoSmall }

/-- 'catenalaw20.BoundPlays', WHERE WHAT IT READS IS OF BULK AT MOST 1048576: true; the input reads as it did. -/
def boundPlaysUptoRow : OpenClaim := { program := "ytkicaomcbmmjpaa", sum := "0dd254572665a8fc6ea6e6e8e396a55a44c624e2c29a75e1f8510e32e0f5ed55", func := "catena/catenalaw20.BoundPlays", spec := "boundPlays", apart := false, narrowed := true }
def BoundPlaysUptoSaid : Prop := boundPlaysUptoRow.holds Try.pinned (OpenSpec.upto boundPlaysSpec)

/-- 'catenalaw20.BoundMore', WHERE WHAT IT READS IS OF BULK AT MOST 1048576: true; the input reads as it did. -/
def boundMoreUptoRow : OpenClaim := { program := "ytkicaomcbmmjpaa", sum := "0dd254572665a8fc6ea6e6e8e396a55a44c624e2c29a75e1f8510e32e0f5ed55", func := "catena/catenalaw20.BoundMore", spec := "boundMore", apart := false, narrowed := true }
def BoundMoreUptoSaid : Prop := boundMoreUptoRow.holds Try.pinned (OpenSpec.upto boundMoreSpec)

/-- 'catenalaw24.WatchPlays', WHERE WHAT IT READS IS OF BULK AT MOST 1048576: true; the input reads as it did. -/
def watchPlaysUptoRow : OpenClaim := { program := "ytkicaomcbmmjpaa", sum := "0dd254572665a8fc6ea6e6e8e396a55a44c624e2c29a75e1f8510e32e0f5ed55", func := "catena/catenalaw24.WatchPlays", spec := "watchPlays", inPlace := ["sync/atomic.LoadInt64", "sync/atomic.AddInt64", "sync/atomic.StoreInt64"], apart := false, narrowed := true }
def WatchPlaysUptoSaid : Prop := watchPlaysUptoRow.holds Try.pinned (OpenSpec.upto watchPlaysSpec)

/-- 'catenalaw24.WatchLate', WHERE WHAT IT READS IS OF BULK AT MOST 1048576: true; the input reads as it did. -/
def watchLateUptoRow : OpenClaim := { program := "ytkicaomcbmmjpaa", sum := "0dd254572665a8fc6ea6e6e8e396a55a44c624e2c29a75e1f8510e32e0f5ed55", func := "catena/catenalaw24.WatchLate", spec := "watchLate", inPlace := ["sync/atomic.LoadInt64", "sync/atomic.AddInt64", "sync/atomic.StoreInt64"], apart := false, narrowed := true }
def WatchLateUptoSaid : Prop := watchLateUptoRow.holds Try.pinned (OpenSpec.upto watchLateSpec)

/-- 'catenalaw24.WatchZero', WHERE WHAT IT READS IS OF BULK AT MOST 1048576: true; the input reads as it did. -/
def watchZeroUptoRow : OpenClaim := { program := "ytkicaomcbmmjpaa", sum := "0dd254572665a8fc6ea6e6e8e396a55a44c624e2c29a75e1f8510e32e0f5ed55", func := "catena/catenalaw24.WatchZero", spec := "watchZero", inPlace := ["sync/atomic.StoreInt64", "sync/atomic.LoadInt64", "sync/atomic.AddInt64"], apart := false, narrowed := true }
def WatchZeroUptoSaid : Prop := watchZeroUptoRow.holds Try.pinned (OpenSpec.upto watchZeroSpec)

/-- 'catenalaw27.PlanPlays', WHERE WHAT IT READS IS OF BULK AT MOST 1048576: true; the input reads as it did. -/
def planPlaysUptoRow : OpenClaim := { program := "ytkicaomcbmmjpaa", sum := "0dd254572665a8fc6ea6e6e8e396a55a44c624e2c29a75e1f8510e32e0f5ed55", func := "catena/catenalaw27.PlanPlays", spec := "planPlays", unfollowed := true, recurses := true, apart := false, narrowed := true }
def PlanPlaysUptoSaid : Prop := planPlaysUptoRow.holds Try.pinned (OpenSpec.upto planPlaysSpec)

/-- 'catenalaw27.PlanHead', WHERE WHAT IT READS IS OF BULK AT MOST 1048576: true; the input reads as it did. -/
def planHeadUptoRow : OpenClaim := { program := "ytkicaomcbmmjpaa", sum := "0dd254572665a8fc6ea6e6e8e396a55a44c624e2c29a75e1f8510e32e0f5ed55", func := "catena/catenalaw27.PlanHead", spec := "planHead", unfollowed := true, recurses := true, apart := false, narrowed := true }
def PlanHeadUptoSaid : Prop := planHeadUptoRow.holds Try.pinned (OpenSpec.upto planHeadSpec)

/-- 'catenalaw27.PlanAgain', WHERE WHAT IT READS IS OF BULK AT MOST 1048576: true; the input reads as it did. -/
def planAgainUptoRow : OpenClaim := { program := "ytkicaomcbmmjpaa", sum := "0dd254572665a8fc6ea6e6e8e396a55a44c624e2c29a75e1f8510e32e0f5ed55", func := "catena/catenalaw27.PlanAgain", spec := "planAgain", unfollowed := true, recurses := true, apart := false, narrowed := true }
def PlanAgainUptoSaid : Prop := planAgainUptoRow.holds Try.pinned (OpenSpec.upto planAgainSpec)

end Rows
end Go.Proofs.Ytkicaomcbmmjpaa
