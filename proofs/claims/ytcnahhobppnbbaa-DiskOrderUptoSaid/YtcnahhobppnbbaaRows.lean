/-
  No cell of these rows narrows 'for every input' (looked for: loops, veiled, ifaces, maps, wideKeys, modest, calm, conditions, laid).
  DERIVED. THE GIVEN ROWS OF THIS SEAT. 12 by the template 'for every input the law returns true; each argument reads behind the call as it read before'; 0 by the template 'total and deterministic' (their statements: YtcnahhobppnbbaaTotals.lean).
  GIVEN WITH THE SEED: the statements are not yours to turn. If you find one false, say at which input.
  Laid BY PROGRAM, IN A SANDBOX (cutbox-rows.mjs): the forced cells as the released guide's own fill.sh prints them over the translation b6249b6aa70d797b… (all of the seat's roots in one cut). By AI agents, Wed Nov 11 2026. No macro, syntax, notation, axiom, sorry.
-/
import Derived.Test.YtcnahhobppnbbaaChecked
import GoSem.Claim
import GoSem.ClaimJoined
import GoSem.ClaimMapViews
import Derived.JoinedTies
import Derived.KernelRfl
namespace Go.Proofs.Ytcnahhobppnbbaa
/- THE CELL 'sum', in the pinned program and in every row, IS THE sha256 OF THE DUMP (.gsa) THAT YtcnahhobppnbbaaProg.lean LOADS. Nothing in Lean hashes anything: it is a label: what it is worth is what the hold of that sum in a sandbox is worth. -/
noncomputable def Try.pinned : Pinned := { name := "ytcnahhobppnbbaa", sum := "b6249b6aa70d797bb2ba2d0c9519fc93f6fff064af16bba60b61cb95f6ea2b3f", checked := Try.checked }
namespace Rows
def none {H : Type} : Left H := { results := [], args := [] }

/-- 'catenalaw11.DiskPlays': WHATEVER THE INPUT: true; the input reads as it did. -/
def diskPlaysSpec : ChangeSpec := { name := "diskPlays", fn := fun _ => fun
  | [d] => { results := [.lit (.bool true)], args := [d] }
  | _ => none }
def diskPlaysRow : OpenClaim := { program := "ytcnahhobppnbbaa", sum := "b6249b6aa70d797bb2ba2d0c9519fc93f6fff064af16bba60b61cb95f6ea2b3f", func := "catena/catenalaw11.DiskPlays", spec := "diskPlays", unfollowed := true, recurses := true, plainKeys := false, apart := false }
def DiskPlaysSaid : Prop := diskPlaysRow.holds Try.pinned (OpenSpec.ofChange diskPlaysSpec)

/-- ITS FALSE NEIGHBOUR: 'it returns false'. Refute it at one input. -/
def diskPlaysWrong : ChangeSpec := { name := "diskPlays", fn := fun _ => fun
  | [d] => { results := [.lit (.bool false)], args := [d] }
  | _ => none }
def DiskPlaysWrongFalsely : Prop := diskPlaysRow.holds Try.pinned (OpenSpec.ofChange diskPlaysWrong)

/-- 'catenalaw11.DiskSafe': WHATEVER THE INPUT: true; the input reads as it did. -/
def diskSafeSpec : ChangeSpec := { name := "diskSafe", fn := fun _ => fun
  | [d1, d2, d3] => { results := [.lit (.bool true)], args := [d1, d2, d3] }
  | _ => none }
def diskSafeRow : OpenClaim := { program := "ytcnahhobppnbbaa", sum := "b6249b6aa70d797bb2ba2d0c9519fc93f6fff064af16bba60b61cb95f6ea2b3f", func := "catena/catenalaw11.DiskSafe", spec := "diskSafe", recurses := true, plainKeys := false, apart := false }
def DiskSafeSaid : Prop := diskSafeRow.holds Try.pinned (OpenSpec.ofChange diskSafeSpec)

/-- ITS FALSE NEIGHBOUR: 'it returns false'. Refute it at one input. -/
def diskSafeWrong : ChangeSpec := { name := "diskSafe", fn := fun _ => fun
  | [d1, d2, d3] => { results := [.lit (.bool false)], args := [d1, d2, d3] }
  | _ => none }
def DiskSafeWrongFalsely : Prop := diskSafeRow.holds Try.pinned (OpenSpec.ofChange diskSafeWrong)

/-- 'catenalaw11.DiskOrder': WHATEVER THE INPUT: true; the input reads as it did. -/
def diskOrderSpec : ChangeSpec := { name := "diskOrder", fn := fun _ => fun
  | [d1, d2] => { results := [.lit (.bool true)], args := [d1, d2] }
  | _ => none }
def diskOrderRow : OpenClaim := { program := "ytcnahhobppnbbaa", sum := "b6249b6aa70d797bb2ba2d0c9519fc93f6fff064af16bba60b61cb95f6ea2b3f", func := "catena/catenalaw11.DiskOrder", spec := "diskOrder", recurses := true, plainKeys := false, apart := false }
def DiskOrderSaid : Prop := diskOrderRow.holds Try.pinned (OpenSpec.ofChange diskOrderSpec)

/-- ITS FALSE NEIGHBOUR: 'it returns false'. Refute it at one input. -/
def diskOrderWrong : ChangeSpec := { name := "diskOrder", fn := fun _ => fun
  | [d1, d2] => { results := [.lit (.bool false)], args := [d1, d2] }
  | _ => none }
def DiskOrderWrongFalsely : Prop := diskOrderRow.holds Try.pinned (OpenSpec.ofChange diskOrderWrong)

/-- 'catenalaw11.DiskZero': WHATEVER THE INPUT: true; the input reads as it did. -/
def diskZeroSpec : ChangeSpec := { name := "diskZero", fn := fun _ => fun
  | [d1, d2] => { results := [.lit (.bool true)], args := [d1, d2] }
  | _ => none }
def diskZeroRow : OpenClaim := { program := "ytcnahhobppnbbaa", sum := "b6249b6aa70d797bb2ba2d0c9519fc93f6fff064af16bba60b61cb95f6ea2b3f", func := "catena/catenalaw11.DiskZero", spec := "diskZero", unfollowed := true, recurses := true, plainKeys := false, apart := false }
def DiskZeroSaid : Prop := diskZeroRow.holds Try.pinned (OpenSpec.ofChange diskZeroSpec)

/-- ITS FALSE NEIGHBOUR: 'it returns false'. Refute it at one input. -/
def diskZeroWrong : ChangeSpec := { name := "diskZero", fn := fun _ => fun
  | [d1, d2] => { results := [.lit (.bool false)], args := [d1, d2] }
  | _ => none }
def DiskZeroWrongFalsely : Prop := diskZeroRow.holds Try.pinned (OpenSpec.ofChange diskZeroWrong)

/-- 'catenalaw17.RlogPlays': WHATEVER THE INPUT: true; the input reads as it did. -/
def rlogPlaysSpec : ChangeSpec := { name := "rlogPlays", fn := fun _ => fun
  | [d] => { results := [.lit (.bool true)], args := [d] }
  | _ => none }
def rlogPlaysRow : OpenClaim := { program := "ytcnahhobppnbbaa", sum := "b6249b6aa70d797bb2ba2d0c9519fc93f6fff064af16bba60b61cb95f6ea2b3f", func := "catena/catenalaw17.RlogPlays", spec := "rlogPlays", unfollowed := true, recurses := true, plainKeys := false, apart := false }
def RlogPlaysSaid : Prop := rlogPlaysRow.holds Try.pinned (OpenSpec.ofChange rlogPlaysSpec)

/-- ITS FALSE NEIGHBOUR: 'it returns false'. Refute it at one input. -/
def rlogPlaysWrong : ChangeSpec := { name := "rlogPlays", fn := fun _ => fun
  | [d] => { results := [.lit (.bool false)], args := [d] }
  | _ => none }
def RlogPlaysWrongFalsely : Prop := rlogPlaysRow.holds Try.pinned (OpenSpec.ofChange rlogPlaysWrong)

/-- 'catenalaw17.RlogRight': WHATEVER THE INPUT: true; the input reads as it did. -/
def rlogRightSpec : ChangeSpec := { name := "rlogRight", fn := fun _ => fun
  | [d] => { results := [.lit (.bool true)], args := [d] }
  | _ => none }
def rlogRightRow : OpenClaim := { program := "ytcnahhobppnbbaa", sum := "b6249b6aa70d797bb2ba2d0c9519fc93f6fff064af16bba60b61cb95f6ea2b3f", func := "catena/catenalaw17.RlogRight", spec := "rlogRight", unfollowed := true, recurses := true, plainKeys := false, apart := false }
def RlogRightSaid : Prop := rlogRightRow.holds Try.pinned (OpenSpec.ofChange rlogRightSpec)

/-- ITS FALSE NEIGHBOUR: 'it returns false'. Refute it at one input. -/
def rlogRightWrong : ChangeSpec := { name := "rlogRight", fn := fun _ => fun
  | [d] => { results := [.lit (.bool false)], args := [d] }
  | _ => none }
def RlogRightWrongFalsely : Prop := rlogRightRow.holds Try.pinned (OpenSpec.ofChange rlogRightWrong)

/-- 'catenalaw17.RlogThin': WHATEVER THE INPUT: true; the input reads as it did. -/
def rlogThinSpec : ChangeSpec := { name := "rlogThin", fn := fun _ => fun
  | [d1, d2, d3, d4] => { results := [.lit (.bool true)], args := [d1, d2, d3, d4] }
  | _ => none }
def rlogThinRow : OpenClaim := { program := "ytcnahhobppnbbaa", sum := "b6249b6aa70d797bb2ba2d0c9519fc93f6fff064af16bba60b61cb95f6ea2b3f", func := "catena/catenalaw17.RlogThin", spec := "rlogThin", unfollowed := true, recurses := true, plainKeys := false, apart := false }
def RlogThinSaid : Prop := rlogThinRow.holds Try.pinned (OpenSpec.ofChange rlogThinSpec)

/-- ITS FALSE NEIGHBOUR: 'it returns false'. Refute it at one input. -/
def rlogThinWrong : ChangeSpec := { name := "rlogThin", fn := fun _ => fun
  | [d1, d2, d3, d4] => { results := [.lit (.bool false)], args := [d1, d2, d3, d4] }
  | _ => none }
def RlogThinWrongFalsely : Prop := rlogThinRow.holds Try.pinned (OpenSpec.ofChange rlogThinWrong)

/-- 'catenalaw17.RlogZero': WHATEVER THE INPUT: true; the input reads as it did. -/
def rlogZeroSpec : ChangeSpec := { name := "rlogZero", fn := fun _ => fun
  | [d1, d2] => { results := [.lit (.bool true)], args := [d1, d2] }
  | _ => none }
def rlogZeroRow : OpenClaim := { program := "ytcnahhobppnbbaa", sum := "b6249b6aa70d797bb2ba2d0c9519fc93f6fff064af16bba60b61cb95f6ea2b3f", func := "catena/catenalaw17.RlogZero", spec := "rlogZero", unfollowed := true, recurses := true, plainKeys := false, apart := false }
def RlogZeroSaid : Prop := rlogZeroRow.holds Try.pinned (OpenSpec.ofChange rlogZeroSpec)

/-- ITS FALSE NEIGHBOUR: 'it returns false'. Refute it at one input. -/
def rlogZeroWrong : ChangeSpec := { name := "rlogZero", fn := fun _ => fun
  | [d1, d2] => { results := [.lit (.bool false)], args := [d1, d2] }
  | _ => none }
def RlogZeroWrongFalsely : Prop := rlogZeroRow.holds Try.pinned (OpenSpec.ofChange rlogZeroWrong)

/-- 'catenalaw19.StampRises': WHATEVER THE INPUT: true; the input reads as it did. -/
def stampRisesSpec : ChangeSpec := { name := "stampRises", fn := fun _ => fun
  | [d1, d2, d3] => { results := [.lit (.bool true)], args := [d1, d2, d3] }
  | _ => none }
def stampRisesRow : OpenClaim := { program := "ytcnahhobppnbbaa", sum := "b6249b6aa70d797bb2ba2d0c9519fc93f6fff064af16bba60b61cb95f6ea2b3f", func := "catena/catenalaw19.StampRises", spec := "stampRises", unfollowed := true, recurses := true, plainKeys := false, apart := false }
def StampRisesSaid : Prop := stampRisesRow.holds Try.pinned (OpenSpec.ofChange stampRisesSpec)

/-- ITS FALSE NEIGHBOUR: 'it returns false'. Refute it at one input. -/
def stampRisesWrong : ChangeSpec := { name := "stampRises", fn := fun _ => fun
  | [d1, d2, d3] => { results := [.lit (.bool false)], args := [d1, d2, d3] }
  | _ => none }
def StampRisesWrongFalsely : Prop := stampRisesRow.holds Try.pinned (OpenSpec.ofChange stampRisesWrong)

/-- 'catenalaw27.PlanPlays': WHATEVER THE INPUT: true; the input reads as it did. -/
def planPlaysSpec : ChangeSpec := { name := "planPlays", fn := fun _ => fun
  | [d1, d2, d3, d4, d5] => { results := [.lit (.bool true)], args := [d1, d2, d3, d4, d5] }
  | _ => none }
def planPlaysRow : OpenClaim := { program := "ytcnahhobppnbbaa", sum := "b6249b6aa70d797bb2ba2d0c9519fc93f6fff064af16bba60b61cb95f6ea2b3f", func := "catena/catenalaw27.PlanPlays", spec := "planPlays", unfollowed := true, recurses := true, plainKeys := false, apart := false }
def PlanPlaysSaid : Prop := planPlaysRow.holds Try.pinned (OpenSpec.ofChange planPlaysSpec)

/-- ITS FALSE NEIGHBOUR: 'it returns false'. Refute it at one input. -/
def planPlaysWrong : ChangeSpec := { name := "planPlays", fn := fun _ => fun
  | [d1, d2, d3, d4, d5] => { results := [.lit (.bool false)], args := [d1, d2, d3, d4, d5] }
  | _ => none }
def PlanPlaysWrongFalsely : Prop := planPlaysRow.holds Try.pinned (OpenSpec.ofChange planPlaysWrong)

/-- 'catenalaw27.PlanHead': WHATEVER THE INPUT: true; the input reads as it did. -/
def planHeadSpec : ChangeSpec := { name := "planHead", fn := fun _ => fun
  | [d1, d2, d3, d4, d5] => { results := [.lit (.bool true)], args := [d1, d2, d3, d4, d5] }
  | _ => none }
def planHeadRow : OpenClaim := { program := "ytcnahhobppnbbaa", sum := "b6249b6aa70d797bb2ba2d0c9519fc93f6fff064af16bba60b61cb95f6ea2b3f", func := "catena/catenalaw27.PlanHead", spec := "planHead", unfollowed := true, recurses := true, plainKeys := false, apart := false }
def PlanHeadSaid : Prop := planHeadRow.holds Try.pinned (OpenSpec.ofChange planHeadSpec)

/-- ITS FALSE NEIGHBOUR: 'it returns false'. Refute it at one input. -/
def planHeadWrong : ChangeSpec := { name := "planHead", fn := fun _ => fun
  | [d1, d2, d3, d4, d5] => { results := [.lit (.bool false)], args := [d1, d2, d3, d4, d5] }
  | _ => none }
def PlanHeadWrongFalsely : Prop := planHeadRow.holds Try.pinned (OpenSpec.ofChange planHeadWrong)

/-- 'catenalaw27.PlanAgain': WHATEVER THE INPUT: true; the input reads as it did. -/
def planAgainSpec : ChangeSpec := { name := "planAgain", fn := fun _ => fun
  | [d1, d2, d3, d4, d5] => { results := [.lit (.bool true)], args := [d1, d2, d3, d4, d5] }
  | _ => none }
def planAgainRow : OpenClaim := { program := "ytcnahhobppnbbaa", sum := "b6249b6aa70d797bb2ba2d0c9519fc93f6fff064af16bba60b61cb95f6ea2b3f", func := "catena/catenalaw27.PlanAgain", spec := "planAgain", unfollowed := true, recurses := true, plainKeys := false, apart := false }
def PlanAgainSaid : Prop := planAgainRow.holds Try.pinned (OpenSpec.ofChange planAgainSpec)

/-- ITS FALSE NEIGHBOUR: 'it returns false'. Refute it at one input. -/
def planAgainWrong : ChangeSpec := { name := "planAgain", fn := fun _ => fun
  | [d1, d2, d3, d4, d5] => { results := [.lit (.bool false)], args := [d1, d2, d3, d4, d5] }
  | _ => none }
def PlanAgainWrongFalsely : Prop := planAgainRow.holds Try.pinned (OpenSpec.ofChange planAgainWrong)

/- THE SECOND FORM. 'bulk': how many values and letters a reading holds, each counted each time it is reached (what is shared counts as often as it is met; a slice's spare places count too). A statement '..UptoSaid' is the law's where the arguments, and the package variables that the reading takes, are together of bulk at most 1048576: NARROWER than '..Said'. Prove '..Said' where nothing that the law and all that it calls make is longer than what came in: it says more and counts as full. Else prove '..UptoSaid'. A law counts once. -/
mutual
def uptoBulk {H : Type} : DataW H → Nat
  | .lit (.string bytes) => bytes.length + 1
  | .lit _ => 1
  | .nil => 1
  | .ptr d => uptoBulk d + 1
  | .slice elems spare => uptoBulkAll elems + uptoBulkAll spare + 1
  | .agg parts => uptoBulkAll parts + 1
  | .iface _ d => uptoBulk d + 1
  | .map entries => uptoBulkEntries entries + 1
  | .held _ => 1
def uptoBulkAll {H : Type} : List (DataW H) → Nat
  | [] => 0
  | d :: r => uptoBulk d + uptoBulkAll r
def uptoBulkEntries {H : Type} : List (Lit × DataW H) → Nat
  | [] => 0
  | x :: r => uptoBulkEntry x + uptoBulkEntries r
def uptoBulkEntry {H : Type} : Lit × DataW H → Nat
  | (.string bytes, d) => bytes.length + uptoBulk d + 1
  | (_, d) => uptoBulk d + 1
 end
def uptoSmall : (H : Type) → List (DataW H) → Bool := fun _ ds => decide (uptoBulkAll ds ≤ 1048576)
def OpenSpec.upto (s : _root_.Go.ChangeSpec) : _root_.Go.OpenSpec := { _root_.Go.OpenSpec.ofChange s with cond := some uptoSmall }

/-- 'catenalaw11.DiskPlays', WHERE WHAT IT READS IS OF BULK AT MOST 1048576: true; the input reads as it did. -/
def diskPlaysUptoRow : OpenClaim := { program := "ytcnahhobppnbbaa", sum := "b6249b6aa70d797bb2ba2d0c9519fc93f6fff064af16bba60b61cb95f6ea2b3f", func := "catena/catenalaw11.DiskPlays", spec := "diskPlays", unfollowed := true, recurses := true, plainKeys := false, apart := false, narrowed := true }
def DiskPlaysUptoSaid : Prop := diskPlaysUptoRow.holds Try.pinned (OpenSpec.upto diskPlaysSpec)

/-- 'catenalaw11.DiskSafe', WHERE WHAT IT READS IS OF BULK AT MOST 1048576: true; the input reads as it did. -/
def diskSafeUptoRow : OpenClaim := { program := "ytcnahhobppnbbaa", sum := "b6249b6aa70d797bb2ba2d0c9519fc93f6fff064af16bba60b61cb95f6ea2b3f", func := "catena/catenalaw11.DiskSafe", spec := "diskSafe", recurses := true, plainKeys := false, apart := false, narrowed := true }
def DiskSafeUptoSaid : Prop := diskSafeUptoRow.holds Try.pinned (OpenSpec.upto diskSafeSpec)

/-- 'catenalaw11.DiskOrder', WHERE WHAT IT READS IS OF BULK AT MOST 1048576: true; the input reads as it did. -/
def diskOrderUptoRow : OpenClaim := { program := "ytcnahhobppnbbaa", sum := "b6249b6aa70d797bb2ba2d0c9519fc93f6fff064af16bba60b61cb95f6ea2b3f", func := "catena/catenalaw11.DiskOrder", spec := "diskOrder", recurses := true, plainKeys := false, apart := false, narrowed := true }
def DiskOrderUptoSaid : Prop := diskOrderUptoRow.holds Try.pinned (OpenSpec.upto diskOrderSpec)

/-- 'catenalaw11.DiskZero', WHERE WHAT IT READS IS OF BULK AT MOST 1048576: true; the input reads as it did. -/
def diskZeroUptoRow : OpenClaim := { program := "ytcnahhobppnbbaa", sum := "b6249b6aa70d797bb2ba2d0c9519fc93f6fff064af16bba60b61cb95f6ea2b3f", func := "catena/catenalaw11.DiskZero", spec := "diskZero", unfollowed := true, recurses := true, plainKeys := false, apart := false, narrowed := true }
def DiskZeroUptoSaid : Prop := diskZeroUptoRow.holds Try.pinned (OpenSpec.upto diskZeroSpec)

/-- 'catenalaw17.RlogPlays', WHERE WHAT IT READS IS OF BULK AT MOST 1048576: true; the input reads as it did. -/
def rlogPlaysUptoRow : OpenClaim := { program := "ytcnahhobppnbbaa", sum := "b6249b6aa70d797bb2ba2d0c9519fc93f6fff064af16bba60b61cb95f6ea2b3f", func := "catena/catenalaw17.RlogPlays", spec := "rlogPlays", unfollowed := true, recurses := true, plainKeys := false, apart := false, narrowed := true }
def RlogPlaysUptoSaid : Prop := rlogPlaysUptoRow.holds Try.pinned (OpenSpec.upto rlogPlaysSpec)

/-- 'catenalaw17.RlogRight', WHERE WHAT IT READS IS OF BULK AT MOST 1048576: true; the input reads as it did. -/
def rlogRightUptoRow : OpenClaim := { program := "ytcnahhobppnbbaa", sum := "b6249b6aa70d797bb2ba2d0c9519fc93f6fff064af16bba60b61cb95f6ea2b3f", func := "catena/catenalaw17.RlogRight", spec := "rlogRight", unfollowed := true, recurses := true, plainKeys := false, apart := false, narrowed := true }
def RlogRightUptoSaid : Prop := rlogRightUptoRow.holds Try.pinned (OpenSpec.upto rlogRightSpec)

/-- 'catenalaw17.RlogThin', WHERE WHAT IT READS IS OF BULK AT MOST 1048576: true; the input reads as it did. -/
def rlogThinUptoRow : OpenClaim := { program := "ytcnahhobppnbbaa", sum := "b6249b6aa70d797bb2ba2d0c9519fc93f6fff064af16bba60b61cb95f6ea2b3f", func := "catena/catenalaw17.RlogThin", spec := "rlogThin", unfollowed := true, recurses := true, plainKeys := false, apart := false, narrowed := true }
def RlogThinUptoSaid : Prop := rlogThinUptoRow.holds Try.pinned (OpenSpec.upto rlogThinSpec)

/-- 'catenalaw17.RlogZero', WHERE WHAT IT READS IS OF BULK AT MOST 1048576: true; the input reads as it did. -/
def rlogZeroUptoRow : OpenClaim := { program := "ytcnahhobppnbbaa", sum := "b6249b6aa70d797bb2ba2d0c9519fc93f6fff064af16bba60b61cb95f6ea2b3f", func := "catena/catenalaw17.RlogZero", spec := "rlogZero", unfollowed := true, recurses := true, plainKeys := false, apart := false, narrowed := true }
def RlogZeroUptoSaid : Prop := rlogZeroUptoRow.holds Try.pinned (OpenSpec.upto rlogZeroSpec)

/-- 'catenalaw19.StampRises', WHERE WHAT IT READS IS OF BULK AT MOST 1048576: true; the input reads as it did. -/
def stampRisesUptoRow : OpenClaim := { program := "ytcnahhobppnbbaa", sum := "b6249b6aa70d797bb2ba2d0c9519fc93f6fff064af16bba60b61cb95f6ea2b3f", func := "catena/catenalaw19.StampRises", spec := "stampRises", unfollowed := true, recurses := true, plainKeys := false, apart := false, narrowed := true }
def StampRisesUptoSaid : Prop := stampRisesUptoRow.holds Try.pinned (OpenSpec.upto stampRisesSpec)

/-- 'catenalaw27.PlanPlays', WHERE WHAT IT READS IS OF BULK AT MOST 1048576: true; the input reads as it did. -/
def planPlaysUptoRow : OpenClaim := { program := "ytcnahhobppnbbaa", sum := "b6249b6aa70d797bb2ba2d0c9519fc93f6fff064af16bba60b61cb95f6ea2b3f", func := "catena/catenalaw27.PlanPlays", spec := "planPlays", unfollowed := true, recurses := true, plainKeys := false, apart := false, narrowed := true }
def PlanPlaysUptoSaid : Prop := planPlaysUptoRow.holds Try.pinned (OpenSpec.upto planPlaysSpec)

/-- 'catenalaw27.PlanHead', WHERE WHAT IT READS IS OF BULK AT MOST 1048576: true; the input reads as it did. -/
def planHeadUptoRow : OpenClaim := { program := "ytcnahhobppnbbaa", sum := "b6249b6aa70d797bb2ba2d0c9519fc93f6fff064af16bba60b61cb95f6ea2b3f", func := "catena/catenalaw27.PlanHead", spec := "planHead", unfollowed := true, recurses := true, plainKeys := false, apart := false, narrowed := true }
def PlanHeadUptoSaid : Prop := planHeadUptoRow.holds Try.pinned (OpenSpec.upto planHeadSpec)

/-- 'catenalaw27.PlanAgain', WHERE WHAT IT READS IS OF BULK AT MOST 1048576: true; the input reads as it did. -/
def planAgainUptoRow : OpenClaim := { program := "ytcnahhobppnbbaa", sum := "b6249b6aa70d797bb2ba2d0c9519fc93f6fff064af16bba60b61cb95f6ea2b3f", func := "catena/catenalaw27.PlanAgain", spec := "planAgain", unfollowed := true, recurses := true, plainKeys := false, apart := false, narrowed := true }
def PlanAgainUptoSaid : Prop := planAgainUptoRow.holds Try.pinned (OpenSpec.upto planAgainSpec)

end Rows
end Go.Proofs.Ytcnahhobppnbbaa
