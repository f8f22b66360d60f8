/-
  No cell of these rows narrows 'for every input' (looked for: loops, veiled, ifaces, maps, wideKeys, modest, calm, conditions, laid).
  DERIVED. THE GIVEN ROWS OF THIS SEAT. 10 by the template 'for every input the law returns true; each argument reads behind the call as it read before'; 0 by the template 'total and deterministic' (their statements: YtciilfkjecmdiaaTotals.lean).
  GIVEN WITH THE SEED: the statements are not yours to turn. If you find one false, say at which input.
  Laid BY PROGRAM, IN A SANDBOX (cutbox-rows.mjs): the forced cells as the released guide's own fill.sh prints them over the translation 1a3a6d7a6ee46e2e… (all of the seat's roots in one cut). By AI agents, Wed Nov 11 2026. No macro, syntax, notation, axiom, sorry.
-/
import Derived.Test.YtciilfkjecmdiaaChecked
import GoSem.Claim
import GoSem.ClaimJoined
import GoSem.ClaimMapViews
import Derived.JoinedTies
import Derived.KernelRfl
namespace Go.Proofs.Ytciilfkjecmdiaa
/- THE CELL 'sum', in the pinned program and in every row, IS THE sha256 OF THE DUMP (.gsa) THAT YtciilfkjecmdiaaProg.lean LOADS. Nothing in Lean hashes anything: it is a label: what it is worth is what the hold of that sum in a sandbox is worth. -/
noncomputable def Try.pinned : Pinned := { name := "ytciilfkjecmdiaa", sum := "1a3a6d7a6ee46e2e72007c1b4ec70bd132b82c0a950eb929a30fe38ac8700c2d", checked := Try.checked }
namespace Rows
def none {H : Type} : Left H := { results := [], args := [] }

/-- 'catenalaw06.OpsPuts': WHATEVER THE INPUT: true; the input reads as it did. -/
def opsPutsSpec : ChangeSpec := { name := "opsPuts", fn := fun _ => fun
  | [d1, d2] => { results := [.lit (.bool true)], args := [d1, d2] }
  | _ => none }
def opsPutsRow : OpenClaim := { program := "ytciilfkjecmdiaa", sum := "1a3a6d7a6ee46e2e72007c1b4ec70bd132b82c0a950eb929a30fe38ac8700c2d", func := "catena/catenalaw06.OpsPuts", spec := "opsPuts", inPlace := ["internal/bytealg.abigen_runtime_cmpstring"], unfollowed := true, recurses := true, plainKeys := false, apart := false }
def OpsPutsSaid : Prop := opsPutsRow.holds Try.pinned (OpenSpec.ofChange opsPutsSpec)

/-- ITS FALSE NEIGHBOUR: 'it returns false'. Refute it at one input. -/
def opsPutsWrong : ChangeSpec := { name := "opsPuts", fn := fun _ => fun
  | [d1, d2] => { results := [.lit (.bool false)], args := [d1, d2] }
  | _ => none }
def OpsPutsWrongFalsely : Prop := opsPutsRow.holds Try.pinned (OpenSpec.ofChange opsPutsWrong)

/-- 'catenalaw06.OpsReads': WHATEVER THE INPUT: true; the input reads as it did. -/
def opsReadsSpec : ChangeSpec := { name := "opsReads", fn := fun _ => fun
  | [d] => { results := [.lit (.bool true)], args := [d] }
  | _ => none }
def opsReadsRow : OpenClaim := { program := "ytciilfkjecmdiaa", sum := "1a3a6d7a6ee46e2e72007c1b4ec70bd132b82c0a950eb929a30fe38ac8700c2d", func := "catena/catenalaw06.OpsReads", spec := "opsReads", inPlace := ["internal/bytealg.abigen_runtime_cmpstring"], unfollowed := true, recurses := true, plainKeys := false, apart := false }
def OpsReadsSaid : Prop := opsReadsRow.holds Try.pinned (OpenSpec.ofChange opsReadsSpec)

/-- ITS FALSE NEIGHBOUR: 'it returns false'. Refute it at one input. -/
def opsReadsWrong : ChangeSpec := { name := "opsReads", fn := fun _ => fun
  | [d] => { results := [.lit (.bool false)], args := [d] }
  | _ => none }
def OpsReadsWrongFalsely : Prop := opsReadsRow.holds Try.pinned (OpenSpec.ofChange opsReadsWrong)

/-- 'catenalaw06.OpsBack': WHATEVER THE INPUT: true; the input reads as it did. -/
def opsBackSpec : ChangeSpec := { name := "opsBack", fn := fun _ => fun
  | [d1, d2] => { results := [.lit (.bool true)], args := [d1, d2] }
  | _ => none }
def opsBackRow : OpenClaim := { program := "ytciilfkjecmdiaa", sum := "1a3a6d7a6ee46e2e72007c1b4ec70bd132b82c0a950eb929a30fe38ac8700c2d", func := "catena/catenalaw06.OpsBack", spec := "opsBack", inPlace := ["internal/bytealg.abigen_runtime_cmpstring"], unfollowed := true, recurses := true, plainKeys := false, apart := false }
def OpsBackSaid : Prop := opsBackRow.holds Try.pinned (OpenSpec.ofChange opsBackSpec)

/-- ITS FALSE NEIGHBOUR: 'it returns false'. Refute it at one input. -/
def opsBackWrong : ChangeSpec := { name := "opsBack", fn := fun _ => fun
  | [d1, d2] => { results := [.lit (.bool false)], args := [d1, d2] }
  | _ => none }
def OpsBackWrongFalsely : Prop := opsBackRow.holds Try.pinned (OpenSpec.ofChange opsBackWrong)

/-- 'catenalaw06.OpsOver': WHATEVER THE INPUT: true; the input reads as it did. -/
def opsOverSpec : ChangeSpec := { name := "opsOver", fn := fun _ => fun
  | [d1, d2, d3] => { results := [.lit (.bool true)], args := [d1, d2, d3] }
  | _ => none }
def opsOverRow : OpenClaim := { program := "ytciilfkjecmdiaa", sum := "1a3a6d7a6ee46e2e72007c1b4ec70bd132b82c0a950eb929a30fe38ac8700c2d", func := "catena/catenalaw06.OpsOver", spec := "opsOver", inPlace := ["internal/bytealg.abigen_runtime_cmpstring"], unfollowed := true, recurses := true, plainKeys := false, apart := false }
def OpsOverSaid : Prop := opsOverRow.holds Try.pinned (OpenSpec.ofChange opsOverSpec)

/-- ITS FALSE NEIGHBOUR: 'it returns false'. Refute it at one input. -/
def opsOverWrong : ChangeSpec := { name := "opsOver", fn := fun _ => fun
  | [d1, d2, d3] => { results := [.lit (.bool false)], args := [d1, d2, d3] }
  | _ => none }
def OpsOverWrongFalsely : Prop := opsOverRow.holds Try.pinned (OpenSpec.ofChange opsOverWrong)

/-- 'catenalaw08.ItemPuts': WHATEVER THE INPUT: true; the input reads as it did. -/
def itemPutsSpec : ChangeSpec := { name := "itemPuts", fn := fun _ => fun
  | [d1, d2] => { results := [.lit (.bool true)], args := [d1, d2] }
  | _ => none }
def itemPutsRow : OpenClaim := { program := "ytciilfkjecmdiaa", sum := "1a3a6d7a6ee46e2e72007c1b4ec70bd132b82c0a950eb929a30fe38ac8700c2d", func := "catena/catenalaw08.ItemPuts", spec := "itemPuts", unfollowed := true, recurses := true, plainKeys := false, apart := false }
def ItemPutsSaid : Prop := itemPutsRow.holds Try.pinned (OpenSpec.ofChange itemPutsSpec)

/-- ITS FALSE NEIGHBOUR: 'it returns false'. Refute it at one input. -/
def itemPutsWrong : ChangeSpec := { name := "itemPuts", fn := fun _ => fun
  | [d1, d2] => { results := [.lit (.bool false)], args := [d1, d2] }
  | _ => none }
def ItemPutsWrongFalsely : Prop := itemPutsRow.holds Try.pinned (OpenSpec.ofChange itemPutsWrong)

/-- 'catenalaw08.ItemReads': WHATEVER THE INPUT: true; the input reads as it did. -/
def itemReadsSpec : ChangeSpec := { name := "itemReads", fn := fun _ => fun
  | [d1, d2] => { results := [.lit (.bool true)], args := [d1, d2] }
  | _ => none }
def itemReadsRow : OpenClaim := { program := "ytciilfkjecmdiaa", sum := "1a3a6d7a6ee46e2e72007c1b4ec70bd132b82c0a950eb929a30fe38ac8700c2d", func := "catena/catenalaw08.ItemReads", spec := "itemReads", unfollowed := true, recurses := true, plainKeys := false, apart := false }
def ItemReadsSaid : Prop := itemReadsRow.holds Try.pinned (OpenSpec.ofChange itemReadsSpec)

/-- ITS FALSE NEIGHBOUR: 'it returns false'. Refute it at one input. -/
def itemReadsWrong : ChangeSpec := { name := "itemReads", fn := fun _ => fun
  | [d1, d2] => { results := [.lit (.bool false)], args := [d1, d2] }
  | _ => none }
def ItemReadsWrongFalsely : Prop := itemReadsRow.holds Try.pinned (OpenSpec.ofChange itemReadsWrong)

/-- 'catenalaw08.ItemBegins': WHATEVER THE INPUT: true; the input reads as it did. -/
def itemBeginsSpec : ChangeSpec := { name := "itemBegins", fn := fun _ => fun
  | [d1, d2] => { results := [.lit (.bool true)], args := [d1, d2] }
  | _ => none }
def itemBeginsRow : OpenClaim := { program := "ytciilfkjecmdiaa", sum := "1a3a6d7a6ee46e2e72007c1b4ec70bd132b82c0a950eb929a30fe38ac8700c2d", func := "catena/catenalaw08.ItemBegins", spec := "itemBegins", unfollowed := true, recurses := true, plainKeys := false, apart := false }
def ItemBeginsSaid : Prop := itemBeginsRow.holds Try.pinned (OpenSpec.ofChange itemBeginsSpec)

/-- ITS FALSE NEIGHBOUR: 'it returns false'. Refute it at one input. -/
def itemBeginsWrong : ChangeSpec := { name := "itemBegins", fn := fun _ => fun
  | [d1, d2] => { results := [.lit (.bool false)], args := [d1, d2] }
  | _ => none }
def ItemBeginsWrongFalsely : Prop := itemBeginsRow.holds Try.pinned (OpenSpec.ofChange itemBeginsWrong)

/-- 'catenalaw27.PlanPlays': WHATEVER THE INPUT: true; the input reads as it did. -/
def planPlaysSpec : ChangeSpec := { name := "planPlays", fn := fun _ => fun
  | [d1, d2, d3, d4, d5] => { results := [.lit (.bool true)], args := [d1, d2, d3, d4, d5] }
  | _ => none }
def planPlaysRow : OpenClaim := { program := "ytciilfkjecmdiaa", sum := "1a3a6d7a6ee46e2e72007c1b4ec70bd132b82c0a950eb929a30fe38ac8700c2d", func := "catena/catenalaw27.PlanPlays", spec := "planPlays", unfollowed := true, recurses := true, plainKeys := false, apart := false }
def PlanPlaysSaid : Prop := planPlaysRow.holds Try.pinned (OpenSpec.ofChange planPlaysSpec)

/-- ITS FALSE NEIGHBOUR: 'it returns false'. Refute it at one input. -/
def planPlaysWrong : ChangeSpec := { name := "planPlays", fn := fun _ => fun
  | [d1, d2, d3, d4, d5] => { results := [.lit (.bool false)], args := [d1, d2, d3, d4, d5] }
  | _ => none }
def PlanPlaysWrongFalsely : Prop := planPlaysRow.holds Try.pinned (OpenSpec.ofChange planPlaysWrong)

/-- 'catenalaw27.PlanHead': WHATEVER THE INPUT: true; the input reads as it did. -/
def planHeadSpec : ChangeSpec := { name := "planHead", fn := fun _ => fun
  | [d1, d2, d3, d4, d5] => { results := [.lit (.bool true)], args := [d1, d2, d3, d4, d5] }
  | _ => none }
def planHeadRow : OpenClaim := { program := "ytciilfkjecmdiaa", sum := "1a3a6d7a6ee46e2e72007c1b4ec70bd132b82c0a950eb929a30fe38ac8700c2d", func := "catena/catenalaw27.PlanHead", spec := "planHead", unfollowed := true, recurses := true, plainKeys := false, apart := false }
def PlanHeadSaid : Prop := planHeadRow.holds Try.pinned (OpenSpec.ofChange planHeadSpec)

/-- ITS FALSE NEIGHBOUR: 'it returns false'. Refute it at one input. -/
def planHeadWrong : ChangeSpec := { name := "planHead", fn := fun _ => fun
  | [d1, d2, d3, d4, d5] => { results := [.lit (.bool false)], args := [d1, d2, d3, d4, d5] }
  | _ => none }
def PlanHeadWrongFalsely : Prop := planHeadRow.holds Try.pinned (OpenSpec.ofChange planHeadWrong)

/-- 'catenalaw27.PlanAgain': WHATEVER THE INPUT: true; the input reads as it did. -/
def planAgainSpec : ChangeSpec := { name := "planAgain", fn := fun _ => fun
  | [d1, d2, d3, d4, d5] => { results := [.lit (.bool true)], args := [d1, d2, d3, d4, d5] }
  | _ => none }
def planAgainRow : OpenClaim := { program := "ytciilfkjecmdiaa", sum := "1a3a6d7a6ee46e2e72007c1b4ec70bd132b82c0a950eb929a30fe38ac8700c2d", func := "catena/catenalaw27.PlanAgain", spec := "planAgain", unfollowed := true, recurses := true, plainKeys := false, apart := false }
def PlanAgainSaid : Prop := planAgainRow.holds Try.pinned (OpenSpec.ofChange planAgainSpec)

/-- ITS FALSE NEIGHBOUR: 'it returns false'. Refute it at one input. -/
def planAgainWrong : ChangeSpec := { name := "planAgain", fn := fun _ => fun
  | [d1, d2, d3, d4, d5] => { results := [.lit (.bool false)], args := [d1, d2, d3, d4, d5] }
  | _ => none }
def PlanAgainWrongFalsely : Prop := planAgainRow.holds Try.pinned (OpenSpec.ofChange planAgainWrong)

/- THE SECOND FORM. 'bulk': how many values and letters a reading holds, each counted each time it is reached (what is shared counts as often as it is met; a slice's spare places count too). A statement '..UptoSaid' is the law's where the arguments, and the package variables that the reading takes, are together of bulk at most 1048576: NARROWER than '..Said'. Prove '..Said' where nothing that the law and all that it calls make is longer than what came in: it says more and counts as full. Else prove '..UptoSaid'. A law counts once. -/
mutual
def uptoBulk {H : Type} : DataW H → Nat
  | .lit (.string bytes) => bytes.length + 1
  | .lit _ => 1
  | .nil => 1
  | .ptr d => uptoBulk d + 1
  | .slice elems spare => uptoBulkAll elems + uptoBulkAll spare + 1
  | .agg parts => uptoBulkAll parts + 1
  | .iface _ d => uptoBulk d + 1
  | .map entries => uptoBulkEntries entries + 1
  | .held _ => 1
def uptoBulkAll {H : Type} : List (DataW H) → Nat
  | [] => 0
  | d :: r => uptoBulk d + uptoBulkAll r
def uptoBulkEntries {H : Type} : List (Lit × DataW H) → Nat
  | [] => 0
  | x :: r => uptoBulkEntry x + uptoBulkEntries r
def uptoBulkEntry {H : Type} : Lit × DataW H → Nat
  | (.string bytes, d) => bytes.length + uptoBulk d + 1
  | (_, d) => uptoBulk d + 1
 end
def uptoSmall : (H : Type) → List (DataW H) → Bool := fun _ ds => decide (uptoBulkAll ds ≤ 1048576)
def OpenSpec.upto (s : _root_.Go.ChangeSpec) : _root_.Go.OpenSpec := { _root_.Go.OpenSpec.ofChange s with cond := some uptoSmall }

/-- 'catenalaw06.OpsPuts', WHERE WHAT IT READS IS OF BULK AT MOST 1048576: true; the input reads as it did. -/
def opsPutsUptoRow : OpenClaim := { program := "ytciilfkjecmdiaa", sum := "1a3a6d7a6ee46e2e72007c1b4ec70bd132b82c0a950eb929a30fe38ac8700c2d", func := "catena/catenalaw06.OpsPuts", spec := "opsPuts", inPlace := ["internal/bytealg.abigen_runtime_cmpstring"], unfollowed := true, recurses := true, plainKeys := false, apart := false, narrowed := true }
def OpsPutsUptoSaid : Prop := opsPutsUptoRow.holds Try.pinned (OpenSpec.upto opsPutsSpec)

/-- 'catenalaw06.OpsReads', WHERE WHAT IT READS IS OF BULK AT MOST 1048576: true; the input reads as it did. -/
def opsReadsUptoRow : OpenClaim := { program := "ytciilfkjecmdiaa", sum := "1a3a6d7a6ee46e2e72007c1b4ec70bd132b82c0a950eb929a30fe38ac8700c2d", func := "catena/catenalaw06.OpsReads", spec := "opsReads", inPlace := ["internal/bytealg.abigen_runtime_cmpstring"], unfollowed := true, recurses := true, plainKeys := false, apart := false, narrowed := true }
def OpsReadsUptoSaid : Prop := opsReadsUptoRow.holds Try.pinned (OpenSpec.upto opsReadsSpec)

/-- 'catenalaw06.OpsBack', WHERE WHAT IT READS IS OF BULK AT MOST 1048576: true; the input reads as it did. -/
def opsBackUptoRow : OpenClaim := { program := "ytciilfkjecmdiaa", sum := "1a3a6d7a6ee46e2e72007c1b4ec70bd132b82c0a950eb929a30fe38ac8700c2d", func := "catena/catenalaw06.OpsBack", spec := "opsBack", inPlace := ["internal/bytealg.abigen_runtime_cmpstring"], unfollowed := true, recurses := true, plainKeys := false, apart := false, narrowed := true }
def OpsBackUptoSaid : Prop := opsBackUptoRow.holds Try.pinned (OpenSpec.upto opsBackSpec)

/-- 'catenalaw06.OpsOver', WHERE WHAT IT READS IS OF BULK AT MOST 1048576: true; the input reads as it did. -/
def opsOverUptoRow : OpenClaim := { program := "ytciilfkjecmdiaa", sum := "1a3a6d7a6ee46e2e72007c1b4ec70bd132b82c0a950eb929a30fe38ac8700c2d", func := "catena/catenalaw06.OpsOver", spec := "opsOver", inPlace := ["internal/bytealg.abigen_runtime_cmpstring"], unfollowed := true, recurses := true, plainKeys := false, apart := false, narrowed := true }
def OpsOverUptoSaid : Prop := opsOverUptoRow.holds Try.pinned (OpenSpec.upto opsOverSpec)

/-- 'catenalaw08.ItemPuts', WHERE WHAT IT READS IS OF BULK AT MOST 1048576: true; the input reads as it did. -/
def itemPutsUptoRow : OpenClaim := { program := "ytciilfkjecmdiaa", sum := "1a3a6d7a6ee46e2e72007c1b4ec70bd132b82c0a950eb929a30fe38ac8700c2d", func := "catena/catenalaw08.ItemPuts", spec := "itemPuts", unfollowed := true, recurses := true, plainKeys := false, apart := false, narrowed := true }
def ItemPutsUptoSaid : Prop := itemPutsUptoRow.holds Try.pinned (OpenSpec.upto itemPutsSpec)

/-- 'catenalaw08.ItemReads', WHERE WHAT IT READS IS OF BULK AT MOST 1048576: true; the input reads as it did. -/
def itemReadsUptoRow : OpenClaim := { program := "ytciilfkjecmdiaa", sum := "1a3a6d7a6ee46e2e72007c1b4ec70bd132b82c0a950eb929a30fe38ac8700c2d", func := "catena/catenalaw08.ItemReads", spec := "itemReads", unfollowed := true, recurses := true, plainKeys := false, apart := false, narrowed := true }
def ItemReadsUptoSaid : Prop := itemReadsUptoRow.holds Try.pinned (OpenSpec.upto itemReadsSpec)

/-- 'catenalaw08.ItemBegins', WHERE WHAT IT READS IS OF BULK AT MOST 1048576: true; the input reads as it did. -/
def itemBeginsUptoRow : OpenClaim := { program := "ytciilfkjecmdiaa", sum := "1a3a6d7a6ee46e2e72007c1b4ec70bd132b82c0a950eb929a30fe38ac8700c2d", func := "catena/catenalaw08.ItemBegins", spec := "itemBegins", unfollowed := true, recurses := true, plainKeys := false, apart := false, narrowed := true }
def ItemBeginsUptoSaid : Prop := itemBeginsUptoRow.holds Try.pinned (OpenSpec.upto itemBeginsSpec)

/-- 'catenalaw27.PlanPlays', WHERE WHAT IT READS IS OF BULK AT MOST 1048576: true; the input reads as it did. -/
def planPlaysUptoRow : OpenClaim := { program := "ytciilfkjecmdiaa", sum := "1a3a6d7a6ee46e2e72007c1b4ec70bd132b82c0a950eb929a30fe38ac8700c2d", func := "catena/catenalaw27.PlanPlays", spec := "planPlays", unfollowed := true, recurses := true, plainKeys := false, apart := false, narrowed := true }
def PlanPlaysUptoSaid : Prop := planPlaysUptoRow.holds Try.pinned (OpenSpec.upto planPlaysSpec)

/-- 'catenalaw27.PlanHead', WHERE WHAT IT READS IS OF BULK AT MOST 1048576: true; the input reads as it did. -/
def planHeadUptoRow : OpenClaim := { program := "ytciilfkjecmdiaa", sum := "1a3a6d7a6ee46e2e72007c1b4ec70bd132b82c0a950eb929a30fe38ac8700c2d", func := "catena/catenalaw27.PlanHead", spec := "planHead", unfollowed := true, recurses := true, plainKeys := false, apart := false, narrowed := true }
def PlanHeadUptoSaid : Prop := planHeadUptoRow.holds Try.pinned (OpenSpec.upto planHeadSpec)

/-- 'catenalaw27.PlanAgain', WHERE WHAT IT READS IS OF BULK AT MOST 1048576: true; the input reads as it did. -/
def planAgainUptoRow : OpenClaim := { program := "ytciilfkjecmdiaa", sum := "1a3a6d7a6ee46e2e72007c1b4ec70bd132b82c0a950eb929a30fe38ac8700c2d", func := "catena/catenalaw27.PlanAgain", spec := "planAgain", unfollowed := true, recurses := true, plainKeys := false, apart := false, narrowed := true }
def PlanAgainUptoSaid : Prop := planAgainUptoRow.holds Try.pinned (OpenSpec.upto planAgainSpec)

end Rows
end Go.Proofs.Ytciilfkjecmdiaa
