/-
  No cell of these rows narrows 'for every input' (looked for: loops, veiled, ifaces, maps, wideKeys, modest, calm, conditions, laid).
  DERIVED. THE GIVEN ROWS OF THIS SEAT. 10 by the template 'for every input the law returns true; each argument reads behind the call as it read before'; 0 by the template 'total and deterministic' (their statements: YthmnndbpadegnaaTotals.lean).
  GIVEN WITH THE SEED: the statements are not yours to turn. If you find one false, say at which input.
  Laid BY PROGRAM, IN A SANDBOX (cutbox-rows.mjs): the forced cells as the released guide's own fill.sh prints them over the translation 5132bf19adadfcf2… (all of the seat's roots in one cut). By AI agents, Wed Nov 11 2026. No macro, syntax, notation, axiom, sorry.
-/
import Derived.Test.YthmnndbpadegnaaChecked
import GoSem.Claim
import GoSem.ClaimJoined
import GoSem.ClaimMapViews
import Derived.JoinedTies
import Derived.KernelRfl
namespace Go.Proofs.Ythmnndbpadegnaa
/- THE CELL 'sum', in the pinned program and in every row, IS THE sha256 OF THE DUMP (.gsa) THAT YthmnndbpadegnaaProg.lean LOADS. Nothing in Lean hashes anything: it is a label: what it is worth is what the hold of that sum in a sandbox is worth. -/
noncomputable def Try.pinned : Pinned := { name := "ythmnndbpadegnaa", sum := "5132bf19adadfcf2ea43b30f884e1bc2a8a0222921effd2910172ac2ad59e76c", checked := Try.checked }
namespace Rows
def none {H : Type} : Left H := { results := [], args := [] }

/-- 'catenalaw11.DiskPlays': WHATEVER THE INPUT: true; the input reads as it did. -/
def diskPlaysSpec : ChangeSpec := { name := "diskPlays", fn := fun _ => fun
  | [d] => { results := [.lit (.bool true)], args := [d] }
  | _ => none }
def diskPlaysRow : OpenClaim := { program := "ythmnndbpadegnaa", sum := "5132bf19adadfcf2ea43b30f884e1bc2a8a0222921effd2910172ac2ad59e76c", func := "catena/catenalaw11.DiskPlays", spec := "diskPlays", unfollowed := true, recurses := true, plainKeys := false, apart := false }
def DiskPlaysSaid : Prop := diskPlaysRow.holds Try.pinned (OpenSpec.ofChange diskPlaysSpec)

/-- ITS FALSE NEIGHBOUR: 'it returns false'. Refute it at one input. -/
def diskPlaysWrong : ChangeSpec := { name := "diskPlays", fn := fun _ => fun
  | [d] => { results := [.lit (.bool false)], args := [d] }
  | _ => none }
def DiskPlaysWrongFalsely : Prop := diskPlaysRow.holds Try.pinned (OpenSpec.ofChange diskPlaysWrong)

/-- 'catenalaw17.RlogPlays': WHATEVER THE INPUT: true; the input reads as it did. -/
def rlogPlaysSpec : ChangeSpec := { name := "rlogPlays", fn := fun _ => fun
  | [d] => { results := [.lit (.bool true)], args := [d] }
  | _ => none }
def rlogPlaysRow : OpenClaim := { program := "ythmnndbpadegnaa", sum := "5132bf19adadfcf2ea43b30f884e1bc2a8a0222921effd2910172ac2ad59e76c", func := "catena/catenalaw17.RlogPlays", spec := "rlogPlays", unfollowed := true, recurses := true, plainKeys := false, apart := false }
def RlogPlaysSaid : Prop := rlogPlaysRow.holds Try.pinned (OpenSpec.ofChange rlogPlaysSpec)

/-- ITS FALSE NEIGHBOUR: 'it returns false'. Refute it at one input. -/
def rlogPlaysWrong : ChangeSpec := { name := "rlogPlays", fn := fun _ => fun
  | [d] => { results := [.lit (.bool false)], args := [d] }
  | _ => none }
def RlogPlaysWrongFalsely : Prop := rlogPlaysRow.holds Try.pinned (OpenSpec.ofChange rlogPlaysWrong)

/-- 'catenalaw17.RlogRight': WHATEVER THE INPUT: true; the input reads as it did. -/
def rlogRightSpec : ChangeSpec := { name := "rlogRight", fn := fun _ => fun
  | [d] => { results := [.lit (.bool true)], args := [d] }
  | _ => none }
def rlogRightRow : OpenClaim := { program := "ythmnndbpadegnaa", sum := "5132bf19adadfcf2ea43b30f884e1bc2a8a0222921effd2910172ac2ad59e76c", func := "catena/catenalaw17.RlogRight", spec := "rlogRight", unfollowed := true, recurses := true, plainKeys := false, apart := false }
def RlogRightSaid : Prop := rlogRightRow.holds Try.pinned (OpenSpec.ofChange rlogRightSpec)

/-- ITS FALSE NEIGHBOUR: 'it returns false'. Refute it at one input. -/
def rlogRightWrong : ChangeSpec := { name := "rlogRight", fn := fun _ => fun
  | [d] => { results := [.lit (.bool false)], args := [d] }
  | _ => none }
def RlogRightWrongFalsely : Prop := rlogRightRow.holds Try.pinned (OpenSpec.ofChange rlogRightWrong)

/-- 'catenalaw17.RlogThin': WHATEVER THE INPUT: true; the input reads as it did. -/
def rlogThinSpec : ChangeSpec := { name := "rlogThin", fn := fun _ => fun
  | [d1, d2, d3, d4] => { results := [.lit (.bool true)], args := [d1, d2, d3, d4] }
  | _ => none }
def rlogThinRow : OpenClaim := { program := "ythmnndbpadegnaa", sum := "5132bf19adadfcf2ea43b30f884e1bc2a8a0222921effd2910172ac2ad59e76c", func := "catena/catenalaw17.RlogThin", spec := "rlogThin", unfollowed := true, recurses := true, plainKeys := false, apart := false }
def RlogThinSaid : Prop := rlogThinRow.holds Try.pinned (OpenSpec.ofChange rlogThinSpec)

/-- ITS FALSE NEIGHBOUR: 'it returns false'. Refute it at one input. -/
def rlogThinWrong : ChangeSpec := { name := "rlogThin", fn := fun _ => fun
  | [d1, d2, d3, d4] => { results := [.lit (.bool false)], args := [d1, d2, d3, d4] }
  | _ => none }
def RlogThinWrongFalsely : Prop := rlogThinRow.holds Try.pinned (OpenSpec.ofChange rlogThinWrong)

/-- 'catenalaw17.RlogZero': WHATEVER THE INPUT: true; the input reads as it did. -/
def rlogZeroSpec : ChangeSpec := { name := "rlogZero", fn := fun _ => fun
  | [d1, d2] => { results := [.lit (.bool true)], args := [d1, d2] }
  | _ => none }
def rlogZeroRow : OpenClaim := { program := "ythmnndbpadegnaa", sum := "5132bf19adadfcf2ea43b30f884e1bc2a8a0222921effd2910172ac2ad59e76c", func := "catena/catenalaw17.RlogZero", spec := "rlogZero", unfollowed := true, recurses := true, plainKeys := false, apart := false }
def RlogZeroSaid : Prop := rlogZeroRow.holds Try.pinned (OpenSpec.ofChange rlogZeroSpec)

/-- ITS FALSE NEIGHBOUR: 'it returns false'. Refute it at one input. -/
def rlogZeroWrong : ChangeSpec := { name := "rlogZero", fn := fun _ => fun
  | [d1, d2] => { results := [.lit (.bool false)], args := [d1, d2] }
  | _ => none }
def RlogZeroWrongFalsely : Prop := rlogZeroRow.holds Try.pinned (OpenSpec.ofChange rlogZeroWrong)

/-- 'catenalaw18.AdoptPlays': WHATEVER THE INPUT: true; the input reads as it did. -/
def adoptPlaysSpec : ChangeSpec := { name := "adoptPlays", fn := fun _ => fun
  | [d1, d2, d3, d4] => { results := [.lit (.bool true)], args := [d1, d2, d3, d4] }
  | _ => none }
def adoptPlaysRow : OpenClaim := { program := "ythmnndbpadegnaa", sum := "5132bf19adadfcf2ea43b30f884e1bc2a8a0222921effd2910172ac2ad59e76c", func := "catena/catenalaw18.AdoptPlays", spec := "adoptPlays", plainKeys := false, apart := false }
def AdoptPlaysSaid : Prop := adoptPlaysRow.holds Try.pinned (OpenSpec.ofChange adoptPlaysSpec)

/-- ITS FALSE NEIGHBOUR: 'it returns false'. Refute it at one input. -/
def adoptPlaysWrong : ChangeSpec := { name := "adoptPlays", fn := fun _ => fun
  | [d1, d2, d3, d4] => { results := [.lit (.bool false)], args := [d1, d2, d3, d4] }
  | _ => none }
def AdoptPlaysWrongFalsely : Prop := adoptPlaysRow.holds Try.pinned (OpenSpec.ofChange adoptPlaysWrong)

/-- 'catenalaw18.AdoptAll': WHATEVER THE INPUT: true; the input reads as it did. -/
def adoptAllSpec : ChangeSpec := { name := "adoptAll", fn := fun _ => fun
  | [d1, d2, d3] => { results := [.lit (.bool true)], args := [d1, d2, d3] }
  | _ => none }
def adoptAllRow : OpenClaim := { program := "ythmnndbpadegnaa", sum := "5132bf19adadfcf2ea43b30f884e1bc2a8a0222921effd2910172ac2ad59e76c", func := "catena/catenalaw18.AdoptAll", spec := "adoptAll", plainKeys := false, apart := false }
def AdoptAllSaid : Prop := adoptAllRow.holds Try.pinned (OpenSpec.ofChange adoptAllSpec)

/-- ITS FALSE NEIGHBOUR: 'it returns false'. Refute it at one input. -/
def adoptAllWrong : ChangeSpec := { name := "adoptAll", fn := fun _ => fun
  | [d1, d2, d3] => { results := [.lit (.bool false)], args := [d1, d2, d3] }
  | _ => none }
def AdoptAllWrongFalsely : Prop := adoptAllRow.holds Try.pinned (OpenSpec.ofChange adoptAllWrong)

/-- 'catenalaw18.AdoptAgain': WHATEVER THE INPUT: true; the input reads as it did. -/
def adoptAgainSpec : ChangeSpec := { name := "adoptAgain", fn := fun _ => fun
  | [d1, d2, d3] => { results := [.lit (.bool true)], args := [d1, d2, d3] }
  | _ => none }
def adoptAgainRow : OpenClaim := { program := "ythmnndbpadegnaa", sum := "5132bf19adadfcf2ea43b30f884e1bc2a8a0222921effd2910172ac2ad59e76c", func := "catena/catenalaw18.AdoptAgain", spec := "adoptAgain", plainKeys := false, apart := false }
def AdoptAgainSaid : Prop := adoptAgainRow.holds Try.pinned (OpenSpec.ofChange adoptAgainSpec)

/-- ITS FALSE NEIGHBOUR: 'it returns false'. Refute it at one input. -/
def adoptAgainWrong : ChangeSpec := { name := "adoptAgain", fn := fun _ => fun
  | [d1, d2, d3] => { results := [.lit (.bool false)], args := [d1, d2, d3] }
  | _ => none }
def AdoptAgainWrongFalsely : Prop := adoptAgainRow.holds Try.pinned (OpenSpec.ofChange adoptAgainWrong)

/-- 'catenalaw18.AdoptAgreed': WHATEVER THE INPUT: true; the input reads as it did. -/
def adoptAgreedSpec : ChangeSpec := { name := "adoptAgreed", fn := fun _ => fun
  | [d1, d2] => { results := [.lit (.bool true)], args := [d1, d2] }
  | _ => none }
def adoptAgreedRow : OpenClaim := { program := "ythmnndbpadegnaa", sum := "5132bf19adadfcf2ea43b30f884e1bc2a8a0222921effd2910172ac2ad59e76c", func := "catena/catenalaw18.AdoptAgreed", spec := "adoptAgreed", plainKeys := false, apart := false }
def AdoptAgreedSaid : Prop := adoptAgreedRow.holds Try.pinned (OpenSpec.ofChange adoptAgreedSpec)

/-- ITS FALSE NEIGHBOUR: 'it returns false'. Refute it at one input. -/
def adoptAgreedWrong : ChangeSpec := { name := "adoptAgreed", fn := fun _ => fun
  | [d1, d2] => { results := [.lit (.bool false)], args := [d1, d2] }
  | _ => none }
def AdoptAgreedWrongFalsely : Prop := adoptAgreedRow.holds Try.pinned (OpenSpec.ofChange adoptAgreedWrong)

/-- 'catenalaw19.StampRises': WHATEVER THE INPUT: true; the input reads as it did. -/
def stampRisesSpec : ChangeSpec := { name := "stampRises", fn := fun _ => fun
  | [d1, d2, d3] => { results := [.lit (.bool true)], args := [d1, d2, d3] }
  | _ => none }
def stampRisesRow : OpenClaim := { program := "ythmnndbpadegnaa", sum := "5132bf19adadfcf2ea43b30f884e1bc2a8a0222921effd2910172ac2ad59e76c", func := "catena/catenalaw19.StampRises", spec := "stampRises", unfollowed := true, recurses := true, plainKeys := false, apart := false }
def StampRisesSaid : Prop := stampRisesRow.holds Try.pinned (OpenSpec.ofChange stampRisesSpec)

/-- ITS FALSE NEIGHBOUR: 'it returns false'. Refute it at one input. -/
def stampRisesWrong : ChangeSpec := { name := "stampRises", fn := fun _ => fun
  | [d1, d2, d3] => { results := [.lit (.bool false)], args := [d1, d2, d3] }
  | _ => none }
def StampRisesWrongFalsely : Prop := stampRisesRow.holds Try.pinned (OpenSpec.ofChange stampRisesWrong)

/- THE SECOND FORM. 'bulk': how many values and letters a reading holds, each counted each time it is reached (what is shared counts as often as it is met; a slice's spare places count too). A statement '..UptoSaid' is the law's where the arguments, and the package variables that the reading takes, are together of bulk at most 1048576: NARROWER than '..Said'. Prove '..Said' where nothing that the law and all that it calls make is longer than what came in: it says more and counts as full. Else prove '..UptoSaid'. A law counts once. -/
mutual
def uptoBulk {H : Type} : DataW H → Nat
  | .lit (.string bytes) => bytes.length + 1
  | .lit _ => 1
  | .nil => 1
  | .ptr d => uptoBulk d + 1
  | .slice elems spare => uptoBulkAll elems + uptoBulkAll spare + 1
  | .agg parts => uptoBulkAll parts + 1
  | .iface _ d => uptoBulk d + 1
  | .map entries => uptoBulkEntries entries + 1
  | .held _ => 1
def uptoBulkAll {H : Type} : List (DataW H) → Nat
  | [] => 0
  | d :: r => uptoBulk d + uptoBulkAll r
def uptoBulkEntries {H : Type} : List (Lit × DataW H) → Nat
  | [] => 0
  | x :: r => uptoBulkEntry x + uptoBulkEntries r
def uptoBulkEntry {H : Type} : Lit × DataW H → Nat
  | (.string bytes, d) => bytes.length + uptoBulk d + 1
  | (_, d) => uptoBulk d + 1
 end
def uptoSmall : (H : Type) → List (DataW H) → Bool := fun _ ds => decide (uptoBulkAll ds ≤ 1048576)
def OpenSpec.upto (s : _root_.Go.ChangeSpec) : _root_.Go.OpenSpec := { _root_.Go.OpenSpec.ofChange s with cond := some uptoSmall }

/-- 'catenalaw11.DiskPlays', WHERE WHAT IT READS IS OF BULK AT MOST 1048576: true; the input reads as it did. -/
def diskPlaysUptoRow : OpenClaim := { program := "ythmnndbpadegnaa", sum := "5132bf19adadfcf2ea43b30f884e1bc2a8a0222921effd2910172ac2ad59e76c", func := "catena/catenalaw11.DiskPlays", spec := "diskPlays", unfollowed := true, recurses := true, plainKeys := false, apart := false, narrowed := true }
def DiskPlaysUptoSaid : Prop := diskPlaysUptoRow.holds Try.pinned (OpenSpec.upto diskPlaysSpec)

/-- 'catenalaw17.RlogPlays', WHERE WHAT IT READS IS OF BULK AT MOST 1048576: true; the input reads as it did. -/
def rlogPlaysUptoRow : OpenClaim := { program := "ythmnndbpadegnaa", sum := "5132bf19adadfcf2ea43b30f884e1bc2a8a0222921effd2910172ac2ad59e76c", func := "catena/catenalaw17.RlogPlays", spec := "rlogPlays", unfollowed := true, recurses := true, plainKeys := false, apart := false, narrowed := true }
def RlogPlaysUptoSaid : Prop := rlogPlaysUptoRow.holds Try.pinned (OpenSpec.upto rlogPlaysSpec)

/-- 'catenalaw17.RlogRight', WHERE WHAT IT READS IS OF BULK AT MOST 1048576: true; the input reads as it did. -/
def rlogRightUptoRow : OpenClaim := { program := "ythmnndbpadegnaa", sum := "5132bf19adadfcf2ea43b30f884e1bc2a8a0222921effd2910172ac2ad59e76c", func := "catena/catenalaw17.RlogRight", spec := "rlogRight", unfollowed := true, recurses := true, plainKeys := false, apart := false, narrowed := true }
def RlogRightUptoSaid : Prop := rlogRightUptoRow.holds Try.pinned (OpenSpec.upto rlogRightSpec)

/-- 'catenalaw17.RlogThin', WHERE WHAT IT READS IS OF BULK AT MOST 1048576: true; the input reads as it did. -/
def rlogThinUptoRow : OpenClaim := { program := "ythmnndbpadegnaa", sum := "5132bf19adadfcf2ea43b30f884e1bc2a8a0222921effd2910172ac2ad59e76c", func := "catena/catenalaw17.RlogThin", spec := "rlogThin", unfollowed := true, recurses := true, plainKeys := false, apart := false, narrowed := true }
def RlogThinUptoSaid : Prop := rlogThinUptoRow.holds Try.pinned (OpenSpec.upto rlogThinSpec)

/-- 'catenalaw17.RlogZero', WHERE WHAT IT READS IS OF BULK AT MOST 1048576: true; the input reads as it did. -/
def rlogZeroUptoRow : OpenClaim := { program := "ythmnndbpadegnaa", sum := "5132bf19adadfcf2ea43b30f884e1bc2a8a0222921effd2910172ac2ad59e76c", func := "catena/catenalaw17.RlogZero", spec := "rlogZero", unfollowed := true, recurses := true, plainKeys := false, apart := false, narrowed := true }
def RlogZeroUptoSaid : Prop := rlogZeroUptoRow.holds Try.pinned (OpenSpec.upto rlogZeroSpec)

/-- 'catenalaw18.AdoptPlays', WHERE WHAT IT READS IS OF BULK AT MOST 1048576: true; the input reads as it did. -/
def adoptPlaysUptoRow : OpenClaim := { program := "ythmnndbpadegnaa", sum := "5132bf19adadfcf2ea43b30f884e1bc2a8a0222921effd2910172ac2ad59e76c", func := "catena/catenalaw18.AdoptPlays", spec := "adoptPlays", plainKeys := false, apart := false, narrowed := true }
def AdoptPlaysUptoSaid : Prop := adoptPlaysUptoRow.holds Try.pinned (OpenSpec.upto adoptPlaysSpec)

/-- 'catenalaw18.AdoptAll', WHERE WHAT IT READS IS OF BULK AT MOST 1048576: true; the input reads as it did. -/
def adoptAllUptoRow : OpenClaim := { program := "ythmnndbpadegnaa", sum := "5132bf19adadfcf2ea43b30f884e1bc2a8a0222921effd2910172ac2ad59e76c", func := "catena/catenalaw18.AdoptAll", spec := "adoptAll", plainKeys := false, apart := false, narrowed := true }
def AdoptAllUptoSaid : Prop := adoptAllUptoRow.holds Try.pinned (OpenSpec.upto adoptAllSpec)

/-- 'catenalaw18.AdoptAgain', WHERE WHAT IT READS IS OF BULK AT MOST 1048576: true; the input reads as it did. -/
def adoptAgainUptoRow : OpenClaim := { program := "ythmnndbpadegnaa", sum := "5132bf19adadfcf2ea43b30f884e1bc2a8a0222921effd2910172ac2ad59e76c", func := "catena/catenalaw18.AdoptAgain", spec := "adoptAgain", plainKeys := false, apart := false, narrowed := true }
def AdoptAgainUptoSaid : Prop := adoptAgainUptoRow.holds Try.pinned (OpenSpec.upto adoptAgainSpec)

/-- 'catenalaw18.AdoptAgreed', WHERE WHAT IT READS IS OF BULK AT MOST 1048576: true; the input reads as it did. -/
def adoptAgreedUptoRow : OpenClaim := { program := "ythmnndbpadegnaa", sum := "5132bf19adadfcf2ea43b30f884e1bc2a8a0222921effd2910172ac2ad59e76c", func := "catena/catenalaw18.AdoptAgreed", spec := "adoptAgreed", plainKeys := false, apart := false, narrowed := true }
def AdoptAgreedUptoSaid : Prop := adoptAgreedUptoRow.holds Try.pinned (OpenSpec.upto adoptAgreedSpec)

/-- 'catenalaw19.StampRises', WHERE WHAT IT READS IS OF BULK AT MOST 1048576: true; the input reads as it did. -/
def stampRisesUptoRow : OpenClaim := { program := "ythmnndbpadegnaa", sum := "5132bf19adadfcf2ea43b30f884e1bc2a8a0222921effd2910172ac2ad59e76c", func := "catena/catenalaw19.StampRises", spec := "stampRises", unfollowed := true, recurses := true, plainKeys := false, apart := false, narrowed := true }
def StampRisesUptoSaid : Prop := stampRisesUptoRow.holds Try.pinned (OpenSpec.upto stampRisesSpec)

end Rows
end Go.Proofs.Ythmnndbpadegnaa
