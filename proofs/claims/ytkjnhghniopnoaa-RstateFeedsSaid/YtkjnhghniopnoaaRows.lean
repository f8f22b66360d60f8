/-
  No cell of these rows narrows 'for every input' (looked for: loops, veiled, ifaces, maps, wideKeys, modest, calm, conditions, laid).
  DERIVED. THE GIVEN ROWS OF THIS SEAT. 3 by the template 'for every input the law returns true; each argument reads behind the call as it read before'; 0 by the template 'total and deterministic' (their statements: YtkjnhghniopnoaaTotals.lean).
  GIVEN WITH THE SEED: the statements are not yours to turn. If you find one false, say at which input.
  Laid BY PROGRAM, IN A SANDBOX (cutbox-rows.mjs): the forced cells as the released guide's own fill.sh prints them over the translation 6ab3d52d6a250c44… (all of the seat's roots in one cut). By AI agents, Wed Nov 11 2026. No macro, syntax, notation, axiom, sorry.
-/
import Derived.Test.YtkjnhghniopnoaaChecked
import GoSem.Claim
import GoSem.ClaimJoined
import GoSem.ClaimMapViews
import Derived.JoinedTies
import Derived.KernelRfl
namespace Go.Proofs.Ytkjnhghniopnoaa
/- THE CELL 'sum', in the pinned program and in every row, IS THE sha256 OF THE DUMP (.gsa) THAT YtkjnhghniopnoaaProg.lean LOADS. Nothing in Lean hashes anything: it is a label: what it is worth is what the hold of that sum in a sandbox is worth. -/
noncomputable def Try.pinned : Pinned := { name := "ytkjnhghniopnoaa", sum := "6ab3d52d6a250c44c83a1c16d2f16ab891c3ab5a5b437b5f13d2574fe5e11bd6", checked := Try.checked }
namespace Rows
def none {H : Type} : Left H := { results := [], args := [] }

/-- 'catenalaw30.RstateRight': WHATEVER THE INPUT: true; the input reads as it did. -/
def rstateRightSpec : ChangeSpec := { name := "rstateRight", fn := fun _ => fun
  | [d] => { results := [.lit (.bool true)], args := [d] }
  | _ => none }
def rstateRightRow : OpenClaim := { program := "ytkjnhghniopnoaa", sum := "6ab3d52d6a250c44c83a1c16d2f16ab891c3ab5a5b437b5f13d2574fe5e11bd6", func := "catena/catenalaw30.RstateRight", spec := "rstateRight", unfollowed := true, recurses := true, plainKeys := false, apart := false }
def RstateRightSaid : Prop := rstateRightRow.holds Try.pinned (OpenSpec.ofChange rstateRightSpec)

/-- ITS FALSE NEIGHBOUR: 'it returns false'. Refute it at one input. -/
def rstateRightWrong : ChangeSpec := { name := "rstateRight", fn := fun _ => fun
  | [d] => { results := [.lit (.bool false)], args := [d] }
  | _ => none }
def RstateRightWrongFalsely : Prop := rstateRightRow.holds Try.pinned (OpenSpec.ofChange rstateRightWrong)

/-- 'catenalaw30.RstateFeeds': WHATEVER THE INPUT: true; the input reads as it did. -/
def rstateFeedsSpec : ChangeSpec := { name := "rstateFeeds", fn := fun _ => fun
  | [d1, d2, d3] => { results := [.lit (.bool true)], args := [d1, d2, d3] }
  | _ => none }
def rstateFeedsRow : OpenClaim := { program := "ytkjnhghniopnoaa", sum := "6ab3d52d6a250c44c83a1c16d2f16ab891c3ab5a5b437b5f13d2574fe5e11bd6", func := "catena/catenalaw30.RstateFeeds", spec := "rstateFeeds", unfollowed := true, recurses := true, plainKeys := false, apart := false }
def RstateFeedsSaid : Prop := rstateFeedsRow.holds Try.pinned (OpenSpec.ofChange rstateFeedsSpec)

/-- ITS FALSE NEIGHBOUR: 'it returns false'. Refute it at one input. -/
def rstateFeedsWrong : ChangeSpec := { name := "rstateFeeds", fn := fun _ => fun
  | [d1, d2, d3] => { results := [.lit (.bool false)], args := [d1, d2, d3] }
  | _ => none }
def RstateFeedsWrongFalsely : Prop := rstateFeedsRow.holds Try.pinned (OpenSpec.ofChange rstateFeedsWrong)

/-- 'catenalaw30.RstateZero': WHATEVER THE INPUT: true; the input reads as it did. -/
def rstateZeroSpec : ChangeSpec := { name := "rstateZero", fn := fun _ => fun
  | [d] => { results := [.lit (.bool true)], args := [d] }
  | _ => none }
def rstateZeroRow : OpenClaim := { program := "ytkjnhghniopnoaa", sum := "6ab3d52d6a250c44c83a1c16d2f16ab891c3ab5a5b437b5f13d2574fe5e11bd6", func := "catena/catenalaw30.RstateZero", spec := "rstateZero", unfollowed := true, recurses := true, plainKeys := false, apart := false }
def RstateZeroSaid : Prop := rstateZeroRow.holds Try.pinned (OpenSpec.ofChange rstateZeroSpec)

/-- ITS FALSE NEIGHBOUR: 'it returns false'. Refute it at one input. -/
def rstateZeroWrong : ChangeSpec := { name := "rstateZero", fn := fun _ => fun
  | [d] => { results := [.lit (.bool false)], args := [d] }
  | _ => none }
def RstateZeroWrongFalsely : Prop := rstateZeroRow.holds Try.pinned (OpenSpec.ofChange rstateZeroWrong)

/- THE SECOND FORM. 'bulk': how many values and letters a reading holds, each counted each time it is reached (what is shared counts as often as it is met; a slice's spare places count too). A statement '..UptoSaid' is the law's where the arguments, and the package variables that the reading takes, are together of bulk at most 1048576: NARROWER than '..Said'. Prove '..Said' where nothing that the law and all that it calls make is longer than what came in: it says more and counts as full. Else prove '..UptoSaid'. A law counts once. -/
mutual
def uptoBulk {H : Type} : DataW H → Nat
  | .lit (.string bytes) => bytes.length + 1
  | .lit _ => 1
  | .nil => 1
  | .ptr d => uptoBulk d + 1
  | .slice elems spare => uptoBulkAll elems + uptoBulkAll spare + 1
  | .agg parts => uptoBulkAll parts + 1
  | .iface _ d => uptoBulk d + 1
  | .map entries => uptoBulkEntries entries + 1
  | .held _ => 1
def uptoBulkAll {H : Type} : List (DataW H) → Nat
  | [] => 0
  | d :: r => uptoBulk d + uptoBulkAll r
def uptoBulkEntries {H : Type} : List (Lit × DataW H) → Nat
  | [] => 0
  | x :: r => uptoBulkEntry x + uptoBulkEntries r
def uptoBulkEntry {H : Type} : Lit × DataW H → Nat
  | (.string bytes, d) => bytes.length + uptoBulk d + 1
  | (_, d) => uptoBulk d + 1
 end
def uptoSmall : (H : Type) → List (DataW H) → Bool := fun _ ds => decide (uptoBulkAll ds ≤ 1048576)
def OpenSpec.upto (s : _root_.Go.ChangeSpec) : _root_.Go.OpenSpec := { _root_.Go.OpenSpec.ofChange s with cond := some uptoSmall }

/-- 'catenalaw30.RstateRight', WHERE WHAT IT READS IS OF BULK AT MOST 1048576: true; the input reads as it did. -/
def rstateRightUptoRow : OpenClaim := { program := "ytkjnhghniopnoaa", sum := "6ab3d52d6a250c44c83a1c16d2f16ab891c3ab5a5b437b5f13d2574fe5e11bd6", func := "catena/catenalaw30.RstateRight", spec := "rstateRight", unfollowed := true, recurses := true, plainKeys := false, apart := false, narrowed := true }
def RstateRightUptoSaid : Prop := rstateRightUptoRow.holds Try.pinned (OpenSpec.upto rstateRightSpec)

/-- 'catenalaw30.RstateFeeds', WHERE WHAT IT READS IS OF BULK AT MOST 1048576: true; the input reads as it did. -/
def rstateFeedsUptoRow : OpenClaim := { program := "ytkjnhghniopnoaa", sum := "6ab3d52d6a250c44c83a1c16d2f16ab891c3ab5a5b437b5f13d2574fe5e11bd6", func := "catena/catenalaw30.RstateFeeds", spec := "rstateFeeds", unfollowed := true, recurses := true, plainKeys := false, apart := false, narrowed := true }
def RstateFeedsUptoSaid : Prop := rstateFeedsUptoRow.holds Try.pinned (OpenSpec.upto rstateFeedsSpec)

/-- 'catenalaw30.RstateZero', WHERE WHAT IT READS IS OF BULK AT MOST 1048576: true; the input reads as it did. -/
def rstateZeroUptoRow : OpenClaim := { program := "ytkjnhghniopnoaa", sum := "6ab3d52d6a250c44c83a1c16d2f16ab891c3ab5a5b437b5f13d2574fe5e11bd6", func := "catena/catenalaw30.RstateZero", spec := "rstateZero", unfollowed := true, recurses := true, plainKeys := false, apart := false, narrowed := true }
def RstateZeroUptoSaid : Prop := rstateZeroUptoRow.holds Try.pinned (OpenSpec.upto rstateZeroSpec)

end Rows
end Go.Proofs.Ytkjnhghniopnoaa
