/-
  No cell of these rows narrows 'for every input' (looked for: loops, veiled, ifaces, maps, wideKeys, modest, calm, conditions, laid).
  DERIVED. THE GIVEN ROWS OF THIS SEAT. 8 by the template 'for every input the law returns true; each argument reads behind the call as it read before'; 0 by the template 'total and deterministic' (their statements: YteioaaegooebpaaTotals.lean).
  GIVEN WITH THE SEED: the statements are not yours to turn. If you find one false, say at which input.
  Laid BY PROGRAM, IN A SANDBOX (cutbox-rows.mjs): the forced cells as the released guide's own fill.sh prints them over the translation 447eb4b65e361d89… (all of the seat's roots in one cut). By AI agents, Wed Nov 11 2026. No macro, syntax, notation, axiom, sorry.
-/
import Derived.Test.YteioaaegooebpaaChecked
import GoSem.Claim
import GoSem.ClaimJoined
import GoSem.ClaimMapViews
import Derived.JoinedTies
import Derived.KernelRfl
namespace Go.Proofs.Yteioaaegooebpaa
/- THE CELL 'sum', in the pinned program and in every row, IS THE sha256 OF THE DUMP (.gsa) THAT YteioaaegooebpaaProg.lean LOADS. Nothing in Lean hashes anything: it is a label: what it is worth is what the hold of that sum in a sandbox is worth. -/
noncomputable def Try.pinned : Pinned := { name := "yteioaaegooebpaa", sum := "447eb4b65e361d892407994393f9f8ddd1d7de4187f3e1c0c73ec2a41f2cf5a8", checked := Try.checked }
namespace Rows
def none {H : Type} : Left H := { results := [], args := [] }

/-- 'catenalaw06.OpsOver': WHATEVER THE INPUT: true; the input reads as it did. -/
def opsOverSpec : ChangeSpec := { name := "opsOver", fn := fun _ => fun
  | [d1, d2, d3] => { results := [.lit (.bool true)], args := [d1, d2, d3] }
  | _ => none }
def opsOverRow : OpenClaim := { program := "yteioaaegooebpaa", sum := "447eb4b65e361d892407994393f9f8ddd1d7de4187f3e1c0c73ec2a41f2cf5a8", func := "catena/catenalaw06.OpsOver", spec := "opsOver", inPlace := ["internal/bytealg.abigen_runtime_cmpstring"], unfollowed := true, recurses := true, plainKeys := false, apart := false }
def OpsOverSaid : Prop := opsOverRow.holds Try.pinned (OpenSpec.ofChange opsOverSpec)

/-- ITS FALSE NEIGHBOUR: 'it returns false'. Refute it at one input. -/
def opsOverWrong : ChangeSpec := { name := "opsOver", fn := fun _ => fun
  | [d1, d2, d3] => { results := [.lit (.bool false)], args := [d1, d2, d3] }
  | _ => none }
def OpsOverWrongFalsely : Prop := opsOverRow.holds Try.pinned (OpenSpec.ofChange opsOverWrong)

/-- 'catenalaw08.ItemPuts': WHATEVER THE INPUT: true; the input reads as it did. -/
def itemPutsSpec : ChangeSpec := { name := "itemPuts", fn := fun _ => fun
  | [d1, d2] => { results := [.lit (.bool true)], args := [d1, d2] }
  | _ => none }
def itemPutsRow : OpenClaim := { program := "yteioaaegooebpaa", sum := "447eb4b65e361d892407994393f9f8ddd1d7de4187f3e1c0c73ec2a41f2cf5a8", func := "catena/catenalaw08.ItemPuts", spec := "itemPuts", unfollowed := true, recurses := true, plainKeys := false, apart := false }
def ItemPutsSaid : Prop := itemPutsRow.holds Try.pinned (OpenSpec.ofChange itemPutsSpec)

/-- ITS FALSE NEIGHBOUR: 'it returns false'. Refute it at one input. -/
def itemPutsWrong : ChangeSpec := { name := "itemPuts", fn := fun _ => fun
  | [d1, d2] => { results := [.lit (.bool false)], args := [d1, d2] }
  | _ => none }
def ItemPutsWrongFalsely : Prop := itemPutsRow.holds Try.pinned (OpenSpec.ofChange itemPutsWrong)

/-- 'catenalaw08.ItemReads': WHATEVER THE INPUT: true; the input reads as it did. -/
def itemReadsSpec : ChangeSpec := { name := "itemReads", fn := fun _ => fun
  | [d1, d2] => { results := [.lit (.bool true)], args := [d1, d2] }
  | _ => none }
def itemReadsRow : OpenClaim := { program := "yteioaaegooebpaa", sum := "447eb4b65e361d892407994393f9f8ddd1d7de4187f3e1c0c73ec2a41f2cf5a8", func := "catena/catenalaw08.ItemReads", spec := "itemReads", unfollowed := true, recurses := true, plainKeys := false, apart := false }
def ItemReadsSaid : Prop := itemReadsRow.holds Try.pinned (OpenSpec.ofChange itemReadsSpec)

/-- ITS FALSE NEIGHBOUR: 'it returns false'. Refute it at one input. -/
def itemReadsWrong : ChangeSpec := { name := "itemReads", fn := fun _ => fun
  | [d1, d2] => { results := [.lit (.bool false)], args := [d1, d2] }
  | _ => none }
def ItemReadsWrongFalsely : Prop := itemReadsRow.holds Try.pinned (OpenSpec.ofChange itemReadsWrong)

/-- 'catenalaw08.ItemLists': WHATEVER THE INPUT: true; the input reads as it did. -/
def itemListsSpec : ChangeSpec := { name := "itemLists", fn := fun _ => fun
  | [d] => { results := [.lit (.bool true)], args := [d] }
  | _ => none }
def itemListsRow : OpenClaim := { program := "yteioaaegooebpaa", sum := "447eb4b65e361d892407994393f9f8ddd1d7de4187f3e1c0c73ec2a41f2cf5a8", func := "catena/catenalaw08.ItemLists", spec := "itemLists", unfollowed := true, recurses := true, plainKeys := false, apart := false }
def ItemListsSaid : Prop := itemListsRow.holds Try.pinned (OpenSpec.ofChange itemListsSpec)

/-- ITS FALSE NEIGHBOUR: 'it returns false'. Refute it at one input. -/
def itemListsWrong : ChangeSpec := { name := "itemLists", fn := fun _ => fun
  | [d] => { results := [.lit (.bool false)], args := [d] }
  | _ => none }
def ItemListsWrongFalsely : Prop := itemListsRow.holds Try.pinned (OpenSpec.ofChange itemListsWrong)

/-- 'catenalaw08.ItemBegins': WHATEVER THE INPUT: true; the input reads as it did. -/
def itemBeginsSpec : ChangeSpec := { name := "itemBegins", fn := fun _ => fun
  | [d1, d2] => { results := [.lit (.bool true)], args := [d1, d2] }
  | _ => none }
def itemBeginsRow : OpenClaim := { program := "yteioaaegooebpaa", sum := "447eb4b65e361d892407994393f9f8ddd1d7de4187f3e1c0c73ec2a41f2cf5a8", func := "catena/catenalaw08.ItemBegins", spec := "itemBegins", unfollowed := true, recurses := true, plainKeys := false, apart := false }
def ItemBeginsSaid : Prop := itemBeginsRow.holds Try.pinned (OpenSpec.ofChange itemBeginsSpec)

/-- ITS FALSE NEIGHBOUR: 'it returns false'. Refute it at one input. -/
def itemBeginsWrong : ChangeSpec := { name := "itemBegins", fn := fun _ => fun
  | [d1, d2] => { results := [.lit (.bool false)], args := [d1, d2] }
  | _ => none }
def ItemBeginsWrongFalsely : Prop := itemBeginsRow.holds Try.pinned (OpenSpec.ofChange itemBeginsWrong)

/-- 'catenalaw09.MessBack': WHATEVER THE INPUT: true; the input reads as it did. -/
def messBackSpec : ChangeSpec := { name := "messBack", fn := fun _ => fun
  | [d1, d2] => { results := [.lit (.bool true)], args := [d1, d2] }
  | _ => none }
def messBackRow : OpenClaim := { program := "yteioaaegooebpaa", sum := "447eb4b65e361d892407994393f9f8ddd1d7de4187f3e1c0c73ec2a41f2cf5a8", func := "catena/catenalaw09.MessBack", spec := "messBack", unfollowed := true, recurses := true, plainKeys := false, apart := false }
def MessBackSaid : Prop := messBackRow.holds Try.pinned (OpenSpec.ofChange messBackSpec)

/-- ITS FALSE NEIGHBOUR: 'it returns false'. Refute it at one input. -/
def messBackWrong : ChangeSpec := { name := "messBack", fn := fun _ => fun
  | [d1, d2] => { results := [.lit (.bool false)], args := [d1, d2] }
  | _ => none }
def MessBackWrongFalsely : Prop := messBackRow.holds Try.pinned (OpenSpec.ofChange messBackWrong)

/-- 'catenalaw10.NoteReads': WHATEVER THE INPUT: true; the input reads as it did. -/
def noteReadsSpec : ChangeSpec := { name := "noteReads", fn := fun _ => fun
  | [d] => { results := [.lit (.bool true)], args := [d] }
  | _ => none }
def noteReadsRow : OpenClaim := { program := "yteioaaegooebpaa", sum := "447eb4b65e361d892407994393f9f8ddd1d7de4187f3e1c0c73ec2a41f2cf5a8", func := "catena/catenalaw10.NoteReads", spec := "noteReads", unfollowed := true, recurses := true, plainKeys := false, apart := false }
def NoteReadsSaid : Prop := noteReadsRow.holds Try.pinned (OpenSpec.ofChange noteReadsSpec)

/-- ITS FALSE NEIGHBOUR: 'it returns false'. Refute it at one input. -/
def noteReadsWrong : ChangeSpec := { name := "noteReads", fn := fun _ => fun
  | [d] => { results := [.lit (.bool false)], args := [d] }
  | _ => none }
def NoteReadsWrongFalsely : Prop := noteReadsRow.holds Try.pinned (OpenSpec.ofChange noteReadsWrong)

/-- 'catenalaw10.NoteBack': WHATEVER THE INPUT: true; the input reads as it did. -/
def noteBackSpec : ChangeSpec := { name := "noteBack", fn := fun _ => fun
  | [d1, d2] => { results := [.lit (.bool true)], args := [d1, d2] }
  | _ => none }
def noteBackRow : OpenClaim := { program := "yteioaaegooebpaa", sum := "447eb4b65e361d892407994393f9f8ddd1d7de4187f3e1c0c73ec2a41f2cf5a8", func := "catena/catenalaw10.NoteBack", spec := "noteBack", unfollowed := true, recurses := true, plainKeys := false, apart := false }
def NoteBackSaid : Prop := noteBackRow.holds Try.pinned (OpenSpec.ofChange noteBackSpec)

/-- ITS FALSE NEIGHBOUR: 'it returns false'. Refute it at one input. -/
def noteBackWrong : ChangeSpec := { name := "noteBack", fn := fun _ => fun
  | [d1, d2] => { results := [.lit (.bool false)], args := [d1, d2] }
  | _ => none }
def NoteBackWrongFalsely : Prop := noteBackRow.holds Try.pinned (OpenSpec.ofChange noteBackWrong)

/- THE SECOND FORM. 'bulk': how many values and letters a reading holds, each counted each time it is reached (what is shared counts as often as it is met; a slice's spare places count too). A statement '..UptoSaid' is the law's where the arguments, and the package variables that the reading takes, are together of bulk at most 1048576: NARROWER than '..Said'. Prove '..Said' where nothing that the law and all that it calls make is longer than what came in: it says more and counts as full. Else prove '..UptoSaid'. A law counts once. -/
mutual
def uptoBulk {H : Type} : DataW H → Nat
  | .lit (.string bytes) => bytes.length + 1
  | .lit _ => 1
  | .nil => 1
  | .ptr d => uptoBulk d + 1
  | .slice elems spare => uptoBulkAll elems + uptoBulkAll spare + 1
  | .agg parts => uptoBulkAll parts + 1
  | .iface _ d => uptoBulk d + 1
  | .map entries => uptoBulkEntries entries + 1
  | .held _ => 1
def uptoBulkAll {H : Type} : List (DataW H) → Nat
  | [] => 0
  | d :: r => uptoBulk d + uptoBulkAll r
def uptoBulkEntries {H : Type} : List (Lit × DataW H) → Nat
  | [] => 0
  | x :: r => uptoBulkEntry x + uptoBulkEntries r
def uptoBulkEntry {H : Type} : Lit × DataW H → Nat
  | (.string bytes, d) => bytes.length + uptoBulk d + 1
  | (_, d) => uptoBulk d + 1
 end
def uptoSmall : (H : Type) → List (DataW H) → Bool := fun _ ds => decide (uptoBulkAll ds ≤ 1048576)
def OpenSpec.upto (s : _root_.Go.ChangeSpec) : _root_.Go.OpenSpec := { _root_.Go.OpenSpec.ofChange s with cond := some uptoSmall }

/-- 'catenalaw06.OpsOver', WHERE WHAT IT READS IS OF BULK AT MOST 1048576: true; the input reads as it did. -/
def opsOverUptoRow : OpenClaim := { program := "yteioaaegooebpaa", sum := "447eb4b65e361d892407994393f9f8ddd1d7de4187f3e1c0c73ec2a41f2cf5a8", func := "catena/catenalaw06.OpsOver", spec := "opsOver", inPlace := ["internal/bytealg.abigen_runtime_cmpstring"], unfollowed := true, recurses := true, plainKeys := false, apart := false, narrowed := true }
def OpsOverUptoSaid : Prop := opsOverUptoRow.holds Try.pinned (OpenSpec.upto opsOverSpec)

/-- 'catenalaw08.ItemPuts', WHERE WHAT IT READS IS OF BULK AT MOST 1048576: true; the input reads as it did. -/
def itemPutsUptoRow : OpenClaim := { program := "yteioaaegooebpaa", sum := "447eb4b65e361d892407994393f9f8ddd1d7de4187f3e1c0c73ec2a41f2cf5a8", func := "catena/catenalaw08.ItemPuts", spec := "itemPuts", unfollowed := true, recurses := true, plainKeys := false, apart := false, narrowed := true }
def ItemPutsUptoSaid : Prop := itemPutsUptoRow.holds Try.pinned (OpenSpec.upto itemPutsSpec)

/-- 'catenalaw08.ItemReads', WHERE WHAT IT READS IS OF BULK AT MOST 1048576: true; the input reads as it did. -/
def itemReadsUptoRow : OpenClaim := { program := "yteioaaegooebpaa", sum := "447eb4b65e361d892407994393f9f8ddd1d7de4187f3e1c0c73ec2a41f2cf5a8", func := "catena/catenalaw08.ItemReads", spec := "itemReads", unfollowed := true, recurses := true, plainKeys := false, apart := false, narrowed := true }
def ItemReadsUptoSaid : Prop := itemReadsUptoRow.holds Try.pinned (OpenSpec.upto itemReadsSpec)

/-- 'catenalaw08.ItemLists', WHERE WHAT IT READS IS OF BULK AT MOST 1048576: true; the input reads as it did. -/
def itemListsUptoRow : OpenClaim := { program := "yteioaaegooebpaa", sum := "447eb4b65e361d892407994393f9f8ddd1d7de4187f3e1c0c73ec2a41f2cf5a8", func := "catena/catenalaw08.ItemLists", spec := "itemLists", unfollowed := true, recurses := true, plainKeys := false, apart := false, narrowed := true }
def ItemListsUptoSaid : Prop := itemListsUptoRow.holds Try.pinned (OpenSpec.upto itemListsSpec)

/-- 'catenalaw08.ItemBegins', WHERE WHAT IT READS IS OF BULK AT MOST 1048576: true; the input reads as it did. -/
def itemBeginsUptoRow : OpenClaim := { program := "yteioaaegooebpaa", sum := "447eb4b65e361d892407994393f9f8ddd1d7de4187f3e1c0c73ec2a41f2cf5a8", func := "catena/catenalaw08.ItemBegins", spec := "itemBegins", unfollowed := true, recurses := true, plainKeys := false, apart := false, narrowed := true }
def ItemBeginsUptoSaid : Prop := itemBeginsUptoRow.holds Try.pinned (OpenSpec.upto itemBeginsSpec)

/-- 'catenalaw09.MessBack', WHERE WHAT IT READS IS OF BULK AT MOST 1048576: true; the input reads as it did. -/
def messBackUptoRow : OpenClaim := { program := "yteioaaegooebpaa", sum := "447eb4b65e361d892407994393f9f8ddd1d7de4187f3e1c0c73ec2a41f2cf5a8", func := "catena/catenalaw09.MessBack", spec := "messBack", unfollowed := true, recurses := true, plainKeys := false, apart := false, narrowed := true }
def MessBackUptoSaid : Prop := messBackUptoRow.holds Try.pinned (OpenSpec.upto messBackSpec)

/-- 'catenalaw10.NoteReads', WHERE WHAT IT READS IS OF BULK AT MOST 1048576: true; the input reads as it did. -/
def noteReadsUptoRow : OpenClaim := { program := "yteioaaegooebpaa", sum := "447eb4b65e361d892407994393f9f8ddd1d7de4187f3e1c0c73ec2a41f2cf5a8", func := "catena/catenalaw10.NoteReads", spec := "noteReads", unfollowed := true, recurses := true, plainKeys := false, apart := false, narrowed := true }
def NoteReadsUptoSaid : Prop := noteReadsUptoRow.holds Try.pinned (OpenSpec.upto noteReadsSpec)

/-- 'catenalaw10.NoteBack', WHERE WHAT IT READS IS OF BULK AT MOST 1048576: true; the input reads as it did. -/
def noteBackUptoRow : OpenClaim := { program := "yteioaaegooebpaa", sum := "447eb4b65e361d892407994393f9f8ddd1d7de4187f3e1c0c73ec2a41f2cf5a8", func := "catena/catenalaw10.NoteBack", spec := "noteBack", unfollowed := true, recurses := true, plainKeys := false, apart := false, narrowed := true }
def NoteBackUptoSaid : Prop := noteBackUptoRow.holds Try.pinned (OpenSpec.upto noteBackSpec)

end Rows
end Go.Proofs.Yteioaaegooebpaa
