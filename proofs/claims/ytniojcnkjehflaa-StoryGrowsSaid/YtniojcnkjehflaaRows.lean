/-
  No cell of these rows narrows 'for every input' (looked for: loops, veiled, ifaces, maps, wideKeys, modest, calm, conditions, laid).
  DERIVED. THE GIVEN ROWS OF THIS SEAT. 3 by the template 'for every input the law returns true; each argument reads behind the call as it read before'; 0 by the template 'total and deterministic' (their statements: YtniojcnkjehflaaTotals.lean).
  GIVEN WITH THE SEED: the statements are not yours to turn. If you find one false, say at which input.
  Laid BY PROGRAM, IN A SANDBOX (cutbox-rows.mjs): the forced cells as the released guide's own fill.sh prints them over the translation ec76a8090ebc7417… (all of the seat's roots in one cut). By AI agents, Wed Nov 11 2026. No macro, syntax, notation, axiom, sorry.
-/
import Derived.Test.YtniojcnkjehflaaChecked
import GoSem.Claim
import GoSem.ClaimJoined
import GoSem.ClaimMapViews
import Derived.JoinedTies
import Derived.KernelRfl
namespace Go.Proofs.Ytniojcnkjehflaa
/- THE CELL 'sum', in the pinned program and in every row, IS THE sha256 OF THE DUMP (.gsa) THAT YtniojcnkjehflaaProg.lean LOADS. Nothing in Lean hashes anything: it is a label: what it is worth is what the hold of that sum in a sandbox is worth. -/
noncomputable def Try.pinned : Pinned := { name := "ytniojcnkjehflaa", sum := "ec76a8090ebc7417642e1a560ea62910723b0e8e4a0dd20b7a4daead4e23f82b", checked := Try.checked }
namespace Rows
def none {H : Type} : Left H := { results := [], args := [] }

/-- 'catenalaw17.RlogThin': WHATEVER THE INPUT: true; the input reads as it did. -/
def rlogThinSpec : ChangeSpec := { name := "rlogThin", fn := fun _ => fun
  | [d1, d2, d3, d4] => { results := [.lit (.bool true)], args := [d1, d2, d3, d4] }
  | _ => none }
def rlogThinRow : OpenClaim := { program := "ytniojcnkjehflaa", sum := "ec76a8090ebc7417642e1a560ea62910723b0e8e4a0dd20b7a4daead4e23f82b", func := "catena/catenalaw17.RlogThin", spec := "rlogThin", unfollowed := true, recurses := true, plainKeys := false, apart := false }
def RlogThinSaid : Prop := rlogThinRow.holds Try.pinned (OpenSpec.ofChange rlogThinSpec)

/-- ITS FALSE NEIGHBOUR: 'it returns false'. Refute it at one input. -/
def rlogThinWrong : ChangeSpec := { name := "rlogThin", fn := fun _ => fun
  | [d1, d2, d3, d4] => { results := [.lit (.bool false)], args := [d1, d2, d3, d4] }
  | _ => none }
def RlogThinWrongFalsely : Prop := rlogThinRow.holds Try.pinned (OpenSpec.ofChange rlogThinWrong)

/-- 'catenalaw18.AdoptPlays': WHATEVER THE INPUT: true; the input reads as it did. -/
def adoptPlaysSpec : ChangeSpec := { name := "adoptPlays", fn := fun _ => fun
  | [d1, d2, d3, d4] => { results := [.lit (.bool true)], args := [d1, d2, d3, d4] }
  | _ => none }
def adoptPlaysRow : OpenClaim := { program := "ytniojcnkjehflaa", sum := "ec76a8090ebc7417642e1a560ea62910723b0e8e4a0dd20b7a4daead4e23f82b", func := "catena/catenalaw18.AdoptPlays", spec := "adoptPlays", plainKeys := false, apart := false }
def AdoptPlaysSaid : Prop := adoptPlaysRow.holds Try.pinned (OpenSpec.ofChange adoptPlaysSpec)

/-- ITS FALSE NEIGHBOUR: 'it returns false'. Refute it at one input. -/
def adoptPlaysWrong : ChangeSpec := { name := "adoptPlays", fn := fun _ => fun
  | [d1, d2, d3, d4] => { results := [.lit (.bool false)], args := [d1, d2, d3, d4] }
  | _ => none }
def AdoptPlaysWrongFalsely : Prop := adoptPlaysRow.holds Try.pinned (OpenSpec.ofChange adoptPlaysWrong)

/-- 'catenalaw37.StoryGrows': WHATEVER THE INPUT: true; the input reads as it did. -/
def storyGrowsSpec : ChangeSpec := { name := "storyGrows", fn := fun _ => fun
  | [d1, d2, d3] => { results := [.lit (.bool true)], args := [d1, d2, d3] }
  | _ => none }
def storyGrowsRow : OpenClaim := { program := "ytniojcnkjehflaa", sum := "ec76a8090ebc7417642e1a560ea62910723b0e8e4a0dd20b7a4daead4e23f82b", func := "catena/catenalaw37.StoryGrows", spec := "storyGrows", inPlace := ["internal/bytealg.abigen_runtime_cmpstring"], unfollowed := true, recurses := true, plainKeys := false, apart := false }
def StoryGrowsSaid : Prop := storyGrowsRow.holds Try.pinned (OpenSpec.ofChange storyGrowsSpec)

/-- ITS FALSE NEIGHBOUR: 'it returns false'. Refute it at one input. -/
def storyGrowsWrong : ChangeSpec := { name := "storyGrows", fn := fun _ => fun
  | [d1, d2, d3] => { results := [.lit (.bool false)], args := [d1, d2, d3] }
  | _ => none }
def StoryGrowsWrongFalsely : Prop := storyGrowsRow.holds Try.pinned (OpenSpec.ofChange storyGrowsWrong)

/- THE SECOND FORM. 'bulk': how many values and letters a reading holds, each counted each time it is reached (what is shared counts as often as it is met; a slice's spare places count too). A statement '..UptoSaid' is the law's where the arguments, and the package variables that the reading takes, are together of bulk at most 1048576: NARROWER than '..Said'. Prove '..Said' where nothing that the law and all that it calls make is longer than what came in: it says more and counts as full. Else prove '..UptoSaid'. A law counts once. -/
mutual
def uptoBulk {H : Type} : DataW H → Nat
  | .lit (.string bytes) => bytes.length + 1
  | .lit _ => 1
  | .nil => 1
  | .ptr d => uptoBulk d + 1
  | .slice elems spare => uptoBulkAll elems + uptoBulkAll spare + 1
  | .agg parts => uptoBulkAll parts + 1
  | .iface _ d => uptoBulk d + 1
  | .map entries => uptoBulkEntries entries + 1
  | .held _ => 1
def uptoBulkAll {H : Type} : List (DataW H) → Nat
  | [] => 0
  | d :: r => uptoBulk d + uptoBulkAll r
def uptoBulkEntries {H : Type} : List (Lit × DataW H) → Nat
  | [] => 0
  | x :: r => uptoBulkEntry x + uptoBulkEntries r
def uptoBulkEntry {H : Type} : Lit × DataW H → Nat
  | (.string bytes, d) => bytes.length + uptoBulk d + 1
  | (_, d) => uptoBulk d + 1
 end
def uptoSmall : (H : Type) → List (DataW H) → Bool := fun _ ds => decide (uptoBulkAll ds ≤ 1048576)
def OpenSpec.upto (s : _root_.Go.ChangeSpec) : _root_.Go.OpenSpec := { _root_.Go.OpenSpec.ofChange s with cond := some uptoSmall }

/-- 'catenalaw17.RlogThin', WHERE WHAT IT READS IS OF BULK AT MOST 1048576: true; the input reads as it did. -/
def rlogThinUptoRow : OpenClaim := { program := "ytniojcnkjehflaa", sum := "ec76a8090ebc7417642e1a560ea62910723b0e8e4a0dd20b7a4daead4e23f82b", func := "catena/catenalaw17.RlogThin", spec := "rlogThin", unfollowed := true, recurses := true, plainKeys := false, apart := false, narrowed := true }
def RlogThinUptoSaid : Prop := rlogThinUptoRow.holds Try.pinned (OpenSpec.upto rlogThinSpec)

/-- 'catenalaw18.AdoptPlays', WHERE WHAT IT READS IS OF BULK AT MOST 1048576: true; the input reads as it did. -/
def adoptPlaysUptoRow : OpenClaim := { program := "ytniojcnkjehflaa", sum := "ec76a8090ebc7417642e1a560ea62910723b0e8e4a0dd20b7a4daead4e23f82b", func := "catena/catenalaw18.AdoptPlays", spec := "adoptPlays", plainKeys := false, apart := false, narrowed := true }
def AdoptPlaysUptoSaid : Prop := adoptPlaysUptoRow.holds Try.pinned (OpenSpec.upto adoptPlaysSpec)

/-- 'catenalaw37.StoryGrows', WHERE WHAT IT READS IS OF BULK AT MOST 1048576: true; the input reads as it did. -/
def storyGrowsUptoRow : OpenClaim := { program := "ytniojcnkjehflaa", sum := "ec76a8090ebc7417642e1a560ea62910723b0e8e4a0dd20b7a4daead4e23f82b", func := "catena/catenalaw37.StoryGrows", spec := "storyGrows", inPlace := ["internal/bytealg.abigen_runtime_cmpstring"], unfollowed := true, recurses := true, plainKeys := false, apart := false, narrowed := true }
def StoryGrowsUptoSaid : Prop := storyGrowsUptoRow.holds Try.pinned (OpenSpec.upto storyGrowsSpec)

end Rows
end Go.Proofs.Ytniojcnkjehflaa
