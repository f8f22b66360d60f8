/-
  No cell of these rows narrows 'for every input' (looked for: loops, veiled, ifaces, maps, wideKeys, modest, calm, conditions, laid).
  DERIVED. THE GIVEN ROWS OF THIS SEAT. 12 by the template 'for every input the law returns true; each argument reads behind the call as it read before'; 0 by the template 'total and deterministic' (their statements: YthmljllgfigebaaTotals.lean).
  GIVEN WITH THE SEED: the statements are not yours to turn. If you find one false, say at which input.
  Laid BY PROGRAM, IN A SANDBOX (cutbox-rows.mjs): the forced cells as the released guide's own fill.sh prints them over the translation 38869ef937b090f2… (all of the seat's roots in one cut). By AI agents, Wed Nov 11 2026. No macro, syntax, notation, axiom, sorry.
-/
import Derived.Test.YthmljllgfigebaaChecked
import GoSem.Claim
import GoSem.ClaimJoined
import GoSem.ClaimMapViews
import Derived.JoinedTies
import Derived.KernelRfl
namespace Go.Proofs.Ythmljllgfigebaa
/- THE CELL 'sum', in the pinned program and in every row, IS THE sha256 OF THE DUMP (.gsa) THAT YthmljllgfigebaaProg.lean LOADS. Nothing in Lean hashes anything: it is a label: what it is worth is what the hold of that sum in a sandbox is worth. -/
noncomputable def Try.pinned : Pinned := { name := "ythmljllgfigebaa", sum := "38869ef937b090f26ffa70d0001f913622051a815ba8e61fdbfaf29d9f33e102", checked := Try.checked }
namespace Rows
def none {H : Type} : Left H := { results := [], args := [] }

/-- 'catenalaw15.TreePlays': WHATEVER THE INPUT: true; the input reads as it did. -/
def treePlaysSpec : ChangeSpec := { name := "treePlays", fn := fun _ => fun
  | [d] => { results := [.lit (.bool true)], args := [d] }
  | _ => none }
def treePlaysRow : OpenClaim := { program := "ythmljllgfigebaa", sum := "38869ef937b090f26ffa70d0001f913622051a815ba8e61fdbfaf29d9f33e102", func := "catena/catenalaw15.TreePlays", spec := "treePlays", unfollowed := true, recurses := true, apart := false }
def TreePlaysSaid : Prop := treePlaysRow.holds Try.pinned (OpenSpec.ofChange treePlaysSpec)

/-- ITS FALSE NEIGHBOUR: 'it returns false'. Refute it at one input. -/
def treePlaysWrong : ChangeSpec := { name := "treePlays", fn := fun _ => fun
  | [d] => { results := [.lit (.bool false)], args := [d] }
  | _ => none }
def TreePlaysWrongFalsely : Prop := treePlaysRow.holds Try.pinned (OpenSpec.ofChange treePlaysWrong)

/-- 'catenalaw15.TreeFlat': WHATEVER THE INPUT: true; the input reads as it did. -/
def treeFlatSpec : ChangeSpec := { name := "treeFlat", fn := fun _ => fun
  | [d1, d2] => { results := [.lit (.bool true)], args := [d1, d2] }
  | _ => none }
def treeFlatRow : OpenClaim := { program := "ythmljllgfigebaa", sum := "38869ef937b090f26ffa70d0001f913622051a815ba8e61fdbfaf29d9f33e102", func := "catena/catenalaw15.TreeFlat", spec := "treeFlat", unfollowed := true, recurses := true, apart := false }
def TreeFlatSaid : Prop := treeFlatRow.holds Try.pinned (OpenSpec.ofChange treeFlatSpec)

/-- ITS FALSE NEIGHBOUR: 'it returns false'. Refute it at one input. -/
def treeFlatWrong : ChangeSpec := { name := "treeFlat", fn := fun _ => fun
  | [d1, d2] => { results := [.lit (.bool false)], args := [d1, d2] }
  | _ => none }
def TreeFlatWrongFalsely : Prop := treeFlatRow.holds Try.pinned (OpenSpec.ofChange treeFlatWrong)

/-- 'catenalaw15.TreeOrder': WHATEVER THE INPUT: true; the input reads as it did. -/
def treeOrderSpec : ChangeSpec := { name := "treeOrder", fn := fun _ => fun
  | [d1, d2, d3] => { results := [.lit (.bool true)], args := [d1, d2, d3] }
  | _ => none }
def treeOrderRow : OpenClaim := { program := "ythmljllgfigebaa", sum := "38869ef937b090f26ffa70d0001f913622051a815ba8e61fdbfaf29d9f33e102", func := "catena/catenalaw15.TreeOrder", spec := "treeOrder", unfollowed := true, recurses := true, apart := false }
def TreeOrderSaid : Prop := treeOrderRow.holds Try.pinned (OpenSpec.ofChange treeOrderSpec)

/-- ITS FALSE NEIGHBOUR: 'it returns false'. Refute it at one input. -/
def treeOrderWrong : ChangeSpec := { name := "treeOrder", fn := fun _ => fun
  | [d1, d2, d3] => { results := [.lit (.bool false)], args := [d1, d2, d3] }
  | _ => none }
def TreeOrderWrongFalsely : Prop := treeOrderRow.holds Try.pinned (OpenSpec.ofChange treeOrderWrong)

/-- 'catenalaw15.TreeZero': WHATEVER THE INPUT: true; the input reads as it did. -/
def treeZeroSpec : ChangeSpec := { name := "treeZero", fn := fun _ => fun
  | [d1, d2] => { results := [.lit (.bool true)], args := [d1, d2] }
  | _ => none }
def treeZeroRow : OpenClaim := { program := "ythmljllgfigebaa", sum := "38869ef937b090f26ffa70d0001f913622051a815ba8e61fdbfaf29d9f33e102", func := "catena/catenalaw15.TreeZero", spec := "treeZero", unfollowed := true, recurses := true, apart := false }
def TreeZeroSaid : Prop := treeZeroRow.holds Try.pinned (OpenSpec.ofChange treeZeroSpec)

/-- ITS FALSE NEIGHBOUR: 'it returns false'. Refute it at one input. -/
def treeZeroWrong : ChangeSpec := { name := "treeZero", fn := fun _ => fun
  | [d1, d2] => { results := [.lit (.bool false)], args := [d1, d2] }
  | _ => none }
def TreeZeroWrongFalsely : Prop := treeZeroRow.holds Try.pinned (OpenSpec.ofChange treeZeroWrong)

/-- 'catenalaw22.LinkPlays': WHATEVER THE INPUT: true; the input reads as it did. -/
def linkPlaysSpec : ChangeSpec := { name := "linkPlays", fn := fun _ => fun
  | [d1, d2] => { results := [.lit (.bool true)], args := [d1, d2] }
  | _ => none }
def linkPlaysRow : OpenClaim := { program := "ythmljllgfigebaa", sum := "38869ef937b090f26ffa70d0001f913622051a815ba8e61fdbfaf29d9f33e102", func := "catena/catenalaw22.LinkPlays", spec := "linkPlays", unfollowed := true, recurses := true, apart := false }
def LinkPlaysSaid : Prop := linkPlaysRow.holds Try.pinned (OpenSpec.ofChange linkPlaysSpec)

/-- ITS FALSE NEIGHBOUR: 'it returns false'. Refute it at one input. -/
def linkPlaysWrong : ChangeSpec := { name := "linkPlays", fn := fun _ => fun
  | [d1, d2] => { results := [.lit (.bool false)], args := [d1, d2] }
  | _ => none }
def LinkPlaysWrongFalsely : Prop := linkPlaysRow.holds Try.pinned (OpenSpec.ofChange linkPlaysWrong)

/-- 'catenalaw22.LinkBytes': WHATEVER THE INPUT: true; the input reads as it did. -/
def linkBytesSpec : ChangeSpec := { name := "linkBytes", fn := fun _ => fun
  | [d1, d2] => { results := [.lit (.bool true)], args := [d1, d2] }
  | _ => none }
def linkBytesRow : OpenClaim := { program := "ythmljllgfigebaa", sum := "38869ef937b090f26ffa70d0001f913622051a815ba8e61fdbfaf29d9f33e102", func := "catena/catenalaw22.LinkBytes", spec := "linkBytes", unfollowed := true, recurses := true, apart := false }
def LinkBytesSaid : Prop := linkBytesRow.holds Try.pinned (OpenSpec.ofChange linkBytesSpec)

/-- ITS FALSE NEIGHBOUR: 'it returns false'. Refute it at one input. -/
def linkBytesWrong : ChangeSpec := { name := "linkBytes", fn := fun _ => fun
  | [d1, d2] => { results := [.lit (.bool false)], args := [d1, d2] }
  | _ => none }
def LinkBytesWrongFalsely : Prop := linkBytesRow.holds Try.pinned (OpenSpec.ofChange linkBytesWrong)

/-- 'catenalaw22.LinkOnce': WHATEVER THE INPUT: true; the input reads as it did. -/
def linkOnceSpec : ChangeSpec := { name := "linkOnce", fn := fun _ => fun
  | [d] => { results := [.lit (.bool true)], args := [d] }
  | _ => none }
def linkOnceRow : OpenClaim := { program := "ythmljllgfigebaa", sum := "38869ef937b090f26ffa70d0001f913622051a815ba8e61fdbfaf29d9f33e102", func := "catena/catenalaw22.LinkOnce", spec := "linkOnce", unfollowed := true, recurses := true, apart := false }
def LinkOnceSaid : Prop := linkOnceRow.holds Try.pinned (OpenSpec.ofChange linkOnceSpec)

/-- ITS FALSE NEIGHBOUR: 'it returns false'. Refute it at one input. -/
def linkOnceWrong : ChangeSpec := { name := "linkOnce", fn := fun _ => fun
  | [d] => { results := [.lit (.bool false)], args := [d] }
  | _ => none }
def LinkOnceWrongFalsely : Prop := linkOnceRow.holds Try.pinned (OpenSpec.ofChange linkOnceWrong)

/-- 'catenalaw22.LinkFair': WHATEVER THE INPUT: true; the input reads as it did. -/
def linkFairSpec : ChangeSpec := { name := "linkFair", fn := fun _ => fun
  | [d] => { results := [.lit (.bool true)], args := [d] }
  | _ => none }
def linkFairRow : OpenClaim := { program := "ythmljllgfigebaa", sum := "38869ef937b090f26ffa70d0001f913622051a815ba8e61fdbfaf29d9f33e102", func := "catena/catenalaw22.LinkFair", spec := "linkFair", unfollowed := true, recurses := true, apart := false }
def LinkFairSaid : Prop := linkFairRow.holds Try.pinned (OpenSpec.ofChange linkFairSpec)

/-- ITS FALSE NEIGHBOUR: 'it returns false'. Refute it at one input. -/
def linkFairWrong : ChangeSpec := { name := "linkFair", fn := fun _ => fun
  | [d] => { results := [.lit (.bool false)], args := [d] }
  | _ => none }
def LinkFairWrongFalsely : Prop := linkFairRow.holds Try.pinned (OpenSpec.ofChange linkFairWrong)

/-- 'catenalaw22.LinkZero': WHATEVER THE INPUT: true; the input reads as it did. -/
def linkZeroSpec : ChangeSpec := { name := "linkZero", fn := fun _ => fun
  | [d1, d2] => { results := [.lit (.bool true)], args := [d1, d2] }
  | _ => none }
def linkZeroRow : OpenClaim := { program := "ythmljllgfigebaa", sum := "38869ef937b090f26ffa70d0001f913622051a815ba8e61fdbfaf29d9f33e102", func := "catena/catenalaw22.LinkZero", spec := "linkZero", unfollowed := true, recurses := true, apart := false }
def LinkZeroSaid : Prop := linkZeroRow.holds Try.pinned (OpenSpec.ofChange linkZeroSpec)

/-- ITS FALSE NEIGHBOUR: 'it returns false'. Refute it at one input. -/
def linkZeroWrong : ChangeSpec := { name := "linkZero", fn := fun _ => fun
  | [d1, d2] => { results := [.lit (.bool false)], args := [d1, d2] }
  | _ => none }
def LinkZeroWrongFalsely : Prop := linkZeroRow.holds Try.pinned (OpenSpec.ofChange linkZeroWrong)

/-- 'catenalaw23.HubPlays': WHATEVER THE INPUT: true; the input reads as it did. -/
def hubPlaysSpec : ChangeSpec := { name := "hubPlays", fn := fun _ => fun
  | [d1, d2, d3] => { results := [.lit (.bool true)], args := [d1, d2, d3] }
  | _ => none }
def hubPlaysRow : OpenClaim := { program := "ythmljllgfigebaa", sum := "38869ef937b090f26ffa70d0001f913622051a815ba8e61fdbfaf29d9f33e102", func := "catena/catenalaw23.HubPlays", spec := "hubPlays", unfollowed := true, recurses := true, apart := false }
def HubPlaysSaid : Prop := hubPlaysRow.holds Try.pinned (OpenSpec.ofChange hubPlaysSpec)

/-- ITS FALSE NEIGHBOUR: 'it returns false'. Refute it at one input. -/
def hubPlaysWrong : ChangeSpec := { name := "hubPlays", fn := fun _ => fun
  | [d1, d2, d3] => { results := [.lit (.bool false)], args := [d1, d2, d3] }
  | _ => none }
def HubPlaysWrongFalsely : Prop := hubPlaysRow.holds Try.pinned (OpenSpec.ofChange hubPlaysWrong)

/-- 'catenalaw23.HubOnly': WHATEVER THE INPUT: true; the input reads as it did. -/
def hubOnlySpec : ChangeSpec := { name := "hubOnly", fn := fun _ => fun
  | [d] => { results := [.lit (.bool true)], args := [d] }
  | _ => none }
def hubOnlyRow : OpenClaim := { program := "ythmljllgfigebaa", sum := "38869ef937b090f26ffa70d0001f913622051a815ba8e61fdbfaf29d9f33e102", func := "catena/catenalaw23.HubOnly", spec := "hubOnly", unfollowed := true, recurses := true, apart := false }
def HubOnlySaid : Prop := hubOnlyRow.holds Try.pinned (OpenSpec.ofChange hubOnlySpec)

/-- ITS FALSE NEIGHBOUR: 'it returns false'. Refute it at one input. -/
def hubOnlyWrong : ChangeSpec := { name := "hubOnly", fn := fun _ => fun
  | [d] => { results := [.lit (.bool false)], args := [d] }
  | _ => none }
def HubOnlyWrongFalsely : Prop := hubOnlyRow.holds Try.pinned (OpenSpec.ofChange hubOnlyWrong)

/-- 'catenalaw23.HubZero': WHATEVER THE INPUT: true; the input reads as it did. -/
def hubZeroSpec : ChangeSpec := { name := "hubZero", fn := fun _ => fun
  | [d1, d2] => { results := [.lit (.bool true)], args := [d1, d2] }
  | _ => none }
def hubZeroRow : OpenClaim := { program := "ythmljllgfigebaa", sum := "38869ef937b090f26ffa70d0001f913622051a815ba8e61fdbfaf29d9f33e102", func := "catena/catenalaw23.HubZero", spec := "hubZero", unfollowed := true, recurses := true, apart := false }
def HubZeroSaid : Prop := hubZeroRow.holds Try.pinned (OpenSpec.ofChange hubZeroSpec)

/-- ITS FALSE NEIGHBOUR: 'it returns false'. Refute it at one input. -/
def hubZeroWrong : ChangeSpec := { name := "hubZero", fn := fun _ => fun
  | [d1, d2] => { results := [.lit (.bool false)], args := [d1, d2] }
  | _ => none }
def HubZeroWrongFalsely : Prop := hubZeroRow.holds Try.pinned (OpenSpec.ofChange hubZeroWrong)

/- THE SECOND FORM. 'bulk': how many values and letters a reading holds, each counted each time it is reached (what is shared counts as often as it is met; a slice's spare places count too). A statement '..UptoSaid' is the law's where the arguments, and the package variables that the reading takes, are together of bulk at most 1048576: NARROWER than '..Said'. Prove '..Said' where nothing that the law and all that it calls make is longer than what came in: it says more and counts as full. Else prove '..UptoSaid'. A law counts once. -/
mutual
def uptoBulk {H : Type} : DataW H → Nat
  | .lit (.string bytes) => bytes.length + 1
  | .lit _ => 1
  | .nil => 1
  | .ptr d => uptoBulk d + 1
  | .slice elems spare => uptoBulkAll elems + uptoBulkAll spare + 1
  | .agg parts => uptoBulkAll parts + 1
  | .iface _ d => uptoBulk d + 1
  | .map entries => uptoBulkEntries entries + 1
  | .held _ => 1
def uptoBulkAll {H : Type} : List (DataW H) → Nat
  | [] => 0
  | d :: r => uptoBulk d + uptoBulkAll r
def uptoBulkEntries {H : Type} : List (Lit × DataW H) → Nat
  | [] => 0
  | x :: r => uptoBulkEntry x + uptoBulkEntries r
def uptoBulkEntry {H : Type} : Lit × DataW H → Nat
  | (.string bytes, d) => bytes.length + uptoBulk d + 1
  | (_, d) => uptoBulk d + 1
 end
def uptoSmall : (H : Type) → List (DataW H) → Bool := fun _ ds => decide (uptoBulkAll ds ≤ 1048576)
def OpenSpec.upto (s : _root_.Go.ChangeSpec) : _root_.Go.OpenSpec := { _root_.Go.OpenSpec.ofChange s with cond := some uptoSmall }

/-- 'catenalaw15.TreePlays', WHERE WHAT IT READS IS OF BULK AT MOST 1048576: true; the input reads as it did. -/
def treePlaysUptoRow : OpenClaim := { program := "ythmljllgfigebaa", sum := "38869ef937b090f26ffa70d0001f913622051a815ba8e61fdbfaf29d9f33e102", func := "catena/catenalaw15.TreePlays", spec := "treePlays", unfollowed := true, recurses := true, apart := false, narrowed := true }
def TreePlaysUptoSaid : Prop := treePlaysUptoRow.holds Try.pinned (OpenSpec.upto treePlaysSpec)

/-- 'catenalaw15.TreeFlat', WHERE WHAT IT READS IS OF BULK AT MOST 1048576: true; the input reads as it did. -/
def treeFlatUptoRow : OpenClaim := { program := "ythmljllgfigebaa", sum := "38869ef937b090f26ffa70d0001f913622051a815ba8e61fdbfaf29d9f33e102", func := "catena/catenalaw15.TreeFlat", spec := "treeFlat", unfollowed := true, recurses := true, apart := false, narrowed := true }
def TreeFlatUptoSaid : Prop := treeFlatUptoRow.holds Try.pinned (OpenSpec.upto treeFlatSpec)

/-- 'catenalaw15.TreeOrder', WHERE WHAT IT READS IS OF BULK AT MOST 1048576: true; the input reads as it did. -/
def treeOrderUptoRow : OpenClaim := { program := "ythmljllgfigebaa", sum := "38869ef937b090f26ffa70d0001f913622051a815ba8e61fdbfaf29d9f33e102", func := "catena/catenalaw15.TreeOrder", spec := "treeOrder", unfollowed := true, recurses := true, apart := false, narrowed := true }
def TreeOrderUptoSaid : Prop := treeOrderUptoRow.holds Try.pinned (OpenSpec.upto treeOrderSpec)

/-- 'catenalaw15.TreeZero', WHERE WHAT IT READS IS OF BULK AT MOST 1048576: true; the input reads as it did. -/
def treeZeroUptoRow : OpenClaim := { program := "ythmljllgfigebaa", sum := "38869ef937b090f26ffa70d0001f913622051a815ba8e61fdbfaf29d9f33e102", func := "catena/catenalaw15.TreeZero", spec := "treeZero", unfollowed := true, recurses := true, apart := false, narrowed := true }
def TreeZeroUptoSaid : Prop := treeZeroUptoRow.holds Try.pinned (OpenSpec.upto treeZeroSpec)

/-- 'catenalaw22.LinkPlays', WHERE WHAT IT READS IS OF BULK AT MOST 1048576: true; the input reads as it did. -/
def linkPlaysUptoRow : OpenClaim := { program := "ythmljllgfigebaa", sum := "38869ef937b090f26ffa70d0001f913622051a815ba8e61fdbfaf29d9f33e102", func := "catena/catenalaw22.LinkPlays", spec := "linkPlays", unfollowed := true, recurses := true, apart := false, narrowed := true }
def LinkPlaysUptoSaid : Prop := linkPlaysUptoRow.holds Try.pinned (OpenSpec.upto linkPlaysSpec)

/-- 'catenalaw22.LinkBytes', WHERE WHAT IT READS IS OF BULK AT MOST 1048576: true; the input reads as it did. -/
def linkBytesUptoRow : OpenClaim := { program := "ythmljllgfigebaa", sum := "38869ef937b090f26ffa70d0001f913622051a815ba8e61fdbfaf29d9f33e102", func := "catena/catenalaw22.LinkBytes", spec := "linkBytes", unfollowed := true, recurses := true, apart := false, narrowed := true }
def LinkBytesUptoSaid : Prop := linkBytesUptoRow.holds Try.pinned (OpenSpec.upto linkBytesSpec)

/-- 'catenalaw22.LinkOnce', WHERE WHAT IT READS IS OF BULK AT MOST 1048576: true; the input reads as it did. -/
def linkOnceUptoRow : OpenClaim := { program := "ythmljllgfigebaa", sum := "38869ef937b090f26ffa70d0001f913622051a815ba8e61fdbfaf29d9f33e102", func := "catena/catenalaw22.LinkOnce", spec := "linkOnce", unfollowed := true, recurses := true, apart := false, narrowed := true }
def LinkOnceUptoSaid : Prop := linkOnceUptoRow.holds Try.pinned (OpenSpec.upto linkOnceSpec)

/-- 'catenalaw22.LinkFair', WHERE WHAT IT READS IS OF BULK AT MOST 1048576: true; the input reads as it did. -/
def linkFairUptoRow : OpenClaim := { program := "ythmljllgfigebaa", sum := "38869ef937b090f26ffa70d0001f913622051a815ba8e61fdbfaf29d9f33e102", func := "catena/catenalaw22.LinkFair", spec := "linkFair", unfollowed := true, recurses := true, apart := false, narrowed := true }
def LinkFairUptoSaid : Prop := linkFairUptoRow.holds Try.pinned (OpenSpec.upto linkFairSpec)

/-- 'catenalaw22.LinkZero', WHERE WHAT IT READS IS OF BULK AT MOST 1048576: true; the input reads as it did. -/
def linkZeroUptoRow : OpenClaim := { program := "ythmljllgfigebaa", sum := "38869ef937b090f26ffa70d0001f913622051a815ba8e61fdbfaf29d9f33e102", func := "catena/catenalaw22.LinkZero", spec := "linkZero", unfollowed := true, recurses := true, apart := false, narrowed := true }
def LinkZeroUptoSaid : Prop := linkZeroUptoRow.holds Try.pinned (OpenSpec.upto linkZeroSpec)

/-- 'catenalaw23.HubPlays', WHERE WHAT IT READS IS OF BULK AT MOST 1048576: true; the input reads as it did. -/
def hubPlaysUptoRow : OpenClaim := { program := "ythmljllgfigebaa", sum := "38869ef937b090f26ffa70d0001f913622051a815ba8e61fdbfaf29d9f33e102", func := "catena/catenalaw23.HubPlays", spec := "hubPlays", unfollowed := true, recurses := true, apart := false, narrowed := true }
def HubPlaysUptoSaid : Prop := hubPlaysUptoRow.holds Try.pinned (OpenSpec.upto hubPlaysSpec)

/-- 'catenalaw23.HubOnly', WHERE WHAT IT READS IS OF BULK AT MOST 1048576: true; the input reads as it did. -/
def hubOnlyUptoRow : OpenClaim := { program := "ythmljllgfigebaa", sum := "38869ef937b090f26ffa70d0001f913622051a815ba8e61fdbfaf29d9f33e102", func := "catena/catenalaw23.HubOnly", spec := "hubOnly", unfollowed := true, recurses := true, apart := false, narrowed := true }
def HubOnlyUptoSaid : Prop := hubOnlyUptoRow.holds Try.pinned (OpenSpec.upto hubOnlySpec)

/-- 'catenalaw23.HubZero', WHERE WHAT IT READS IS OF BULK AT MOST 1048576: true; the input reads as it did. -/
def hubZeroUptoRow : OpenClaim := { program := "ythmljllgfigebaa", sum := "38869ef937b090f26ffa70d0001f913622051a815ba8e61fdbfaf29d9f33e102", func := "catena/catenalaw23.HubZero", spec := "hubZero", unfollowed := true, recurses := true, apart := false, narrowed := true }
def HubZeroUptoSaid : Prop := hubZeroUptoRow.holds Try.pinned (OpenSpec.upto hubZeroSpec)

end Rows
end Go.Proofs.Ythmljllgfigebaa
