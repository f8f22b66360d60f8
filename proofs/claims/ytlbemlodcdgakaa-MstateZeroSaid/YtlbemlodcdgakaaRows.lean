/-
  No cell of these rows narrows 'for every input' (looked for: loops, veiled, ifaces, maps, wideKeys, modest, calm, conditions, laid).
  DERIVED. THE GIVEN ROWS OF THIS SEAT. 6 by the template 'for every input the law returns true; each argument reads behind the call as it read before'; 0 by the template 'total and deterministic' (their statements: YtlbemlodcdgakaaTotals.lean).
  GIVEN WITH THE SEED: the statements are not yours to turn. If you find one false, say at which input.
  Laid BY PROGRAM, IN A SANDBOX (cutbox-rows.mjs): the forced cells as the released guide's own fill.sh prints them over the translation 8e6dffcb2234655e… (all of the seat's roots in one cut). By AI agents, Wed Nov 11 2026. No macro, syntax, notation, axiom, sorry.
-/
import Derived.Test.YtlbemlodcdgakaaChecked
import GoSem.Claim
import GoSem.ClaimJoined
import GoSem.ClaimMapViews
import Derived.JoinedTies
import Derived.KernelRfl
namespace Go.Proofs.Ytlbemlodcdgakaa
/- THE CELL 'sum', in the pinned program and in every row, IS THE sha256 OF THE DUMP (.gsa) THAT YtlbemlodcdgakaaProg.lean LOADS. Nothing in Lean hashes anything: it is a label: what it is worth is what the hold of that sum in a sandbox is worth. -/
noncomputable def Try.pinned : Pinned := { name := "ytlbemlodcdgakaa", sum := "8e6dffcb2234655eaea2154c1f8adf88950a2b402e96e3d3a03aee4ef9fe1c1f", checked := Try.checked }
namespace Rows
def none {H : Type} : Left H := { results := [], args := [] }

/-- 'catenalaw28.MstateAgain': WHATEVER THE INPUT: true; the input reads as it did. -/
def mstateAgainSpec : ChangeSpec := { name := "mstateAgain", fn := fun _ => fun
  | [d1, d2] => { results := [.lit (.bool true)], args := [d1, d2] }
  | _ => none }
def mstateAgainRow : OpenClaim := { program := "ytlbemlodcdgakaa", sum := "8e6dffcb2234655eaea2154c1f8adf88950a2b402e96e3d3a03aee4ef9fe1c1f", func := "catena/catenalaw28.MstateAgain", spec := "mstateAgain", unfollowed := true, recurses := true, plainKeys := false, apart := false }
def MstateAgainSaid : Prop := mstateAgainRow.holds Try.pinned (OpenSpec.ofChange mstateAgainSpec)

/-- ITS FALSE NEIGHBOUR: 'it returns false'. Refute it at one input. -/
def mstateAgainWrong : ChangeSpec := { name := "mstateAgain", fn := fun _ => fun
  | [d1, d2] => { results := [.lit (.bool false)], args := [d1, d2] }
  | _ => none }
def MstateAgainWrongFalsely : Prop := mstateAgainRow.holds Try.pinned (OpenSpec.ofChange mstateAgainWrong)

/-- 'catenalaw28.MstateNever': WHATEVER THE INPUT: true; the input reads as it did. -/
def mstateNeverSpec : ChangeSpec := { name := "mstateNever", fn := fun _ => fun
  | [d] => { results := [.lit (.bool true)], args := [d] }
  | _ => none }
def mstateNeverRow : OpenClaim := { program := "ytlbemlodcdgakaa", sum := "8e6dffcb2234655eaea2154c1f8adf88950a2b402e96e3d3a03aee4ef9fe1c1f", func := "catena/catenalaw28.MstateNever", spec := "mstateNever", unfollowed := true, recurses := true, plainKeys := false, apart := false }
def MstateNeverSaid : Prop := mstateNeverRow.holds Try.pinned (OpenSpec.ofChange mstateNeverSpec)

/-- ITS FALSE NEIGHBOUR: 'it returns false'. Refute it at one input. -/
def mstateNeverWrong : ChangeSpec := { name := "mstateNever", fn := fun _ => fun
  | [d] => { results := [.lit (.bool false)], args := [d] }
  | _ => none }
def MstateNeverWrongFalsely : Prop := mstateNeverRow.holds Try.pinned (OpenSpec.ofChange mstateNeverWrong)

/-- 'catenalaw28.MstateZero': WHATEVER THE INPUT: true; the input reads as it did. -/
def mstateZeroSpec : ChangeSpec := { name := "mstateZero", fn := fun _ => fun
  | [d] => { results := [.lit (.bool true)], args := [d] }
  | _ => none }
def mstateZeroRow : OpenClaim := { program := "ytlbemlodcdgakaa", sum := "8e6dffcb2234655eaea2154c1f8adf88950a2b402e96e3d3a03aee4ef9fe1c1f", func := "catena/catenalaw28.MstateZero", spec := "mstateZero", unfollowed := true, recurses := true, plainKeys := false, apart := false }
def MstateZeroSaid : Prop := mstateZeroRow.holds Try.pinned (OpenSpec.ofChange mstateZeroSpec)

/-- ITS FALSE NEIGHBOUR: 'it returns false'. Refute it at one input. -/
def mstateZeroWrong : ChangeSpec := { name := "mstateZero", fn := fun _ => fun
  | [d] => { results := [.lit (.bool false)], args := [d] }
  | _ => none }
def MstateZeroWrongFalsely : Prop := mstateZeroRow.holds Try.pinned (OpenSpec.ofChange mstateZeroWrong)

/-- 'catenalaw32.RelayPlays': WHATEVER THE INPUT: true; the input reads as it did. -/
def relayPlaysSpec : ChangeSpec := { name := "relayPlays", fn := fun _ => fun
  | [d1, d2, d3, d4, d5] => { results := [.lit (.bool true)], args := [d1, d2, d3, d4, d5] }
  | _ => none }
def relayPlaysRow : OpenClaim := { program := "ytlbemlodcdgakaa", sum := "8e6dffcb2234655eaea2154c1f8adf88950a2b402e96e3d3a03aee4ef9fe1c1f", func := "catena/catenalaw32.RelayPlays", spec := "relayPlays", unfollowed := true, recurses := true, plainKeys := false, apart := false }
def RelayPlaysSaid : Prop := relayPlaysRow.holds Try.pinned (OpenSpec.ofChange relayPlaysSpec)

/-- ITS FALSE NEIGHBOUR: 'it returns false'. Refute it at one input. -/
def relayPlaysWrong : ChangeSpec := { name := "relayPlays", fn := fun _ => fun
  | [d1, d2, d3, d4, d5] => { results := [.lit (.bool false)], args := [d1, d2, d3, d4, d5] }
  | _ => none }
def RelayPlaysWrongFalsely : Prop := relayPlaysRow.holds Try.pinned (OpenSpec.ofChange relayPlaysWrong)

/-- 'catenalaw32.RelayAgree': WHATEVER THE INPUT: true; the input reads as it did. -/
def relayAgreeSpec : ChangeSpec := { name := "relayAgree", fn := fun _ => fun
  | [d1, d2, d3] => { results := [.lit (.bool true)], args := [d1, d2, d3] }
  | _ => none }
def relayAgreeRow : OpenClaim := { program := "ytlbemlodcdgakaa", sum := "8e6dffcb2234655eaea2154c1f8adf88950a2b402e96e3d3a03aee4ef9fe1c1f", func := "catena/catenalaw32.RelayAgree", spec := "relayAgree", unfollowed := true, recurses := true, plainKeys := false, apart := false }
def RelayAgreeSaid : Prop := relayAgreeRow.holds Try.pinned (OpenSpec.ofChange relayAgreeSpec)

/-- ITS FALSE NEIGHBOUR: 'it returns false'. Refute it at one input. -/
def relayAgreeWrong : ChangeSpec := { name := "relayAgree", fn := fun _ => fun
  | [d1, d2, d3] => { results := [.lit (.bool false)], args := [d1, d2, d3] }
  | _ => none }
def RelayAgreeWrongFalsely : Prop := relayAgreeRow.holds Try.pinned (OpenSpec.ofChange relayAgreeWrong)

/-- 'catenalaw32.RelayMay': WHATEVER THE INPUT: true; the input reads as it did. -/
def relayMaySpec : ChangeSpec := { name := "relayMay", fn := fun _ => fun
  | [d1, d2, d3] => { results := [.lit (.bool true)], args := [d1, d2, d3] }
  | _ => none }
def relayMayRow : OpenClaim := { program := "ytlbemlodcdgakaa", sum := "8e6dffcb2234655eaea2154c1f8adf88950a2b402e96e3d3a03aee4ef9fe1c1f", func := "catena/catenalaw32.RelayMay", spec := "relayMay", unfollowed := true, recurses := true, plainKeys := false, apart := false }
def RelayMaySaid : Prop := relayMayRow.holds Try.pinned (OpenSpec.ofChange relayMaySpec)

/-- ITS FALSE NEIGHBOUR: 'it returns false'. Refute it at one input. -/
def relayMayWrong : ChangeSpec := { name := "relayMay", fn := fun _ => fun
  | [d1, d2, d3] => { results := [.lit (.bool false)], args := [d1, d2, d3] }
  | _ => none }
def RelayMayWrongFalsely : Prop := relayMayRow.holds Try.pinned (OpenSpec.ofChange relayMayWrong)

/- THE SECOND FORM. 'bulk': how many values and letters a reading holds, each counted each time it is reached (what is shared counts as often as it is met; a slice's spare places count too). A statement '..UptoSaid' is the law's where the arguments, and the package variables that the reading takes, are together of bulk at most 1048576: NARROWER than '..Said'. Prove '..Said' where nothing that the law and all that it calls make is longer than what came in: it says more and counts as full. Else prove '..UptoSaid'. A law counts once. -/
mutual
def uptoBulk {H : Type} : DataW H → Nat
  | .lit (.string bytes) => bytes.length + 1
  | .lit _ => 1
  | .nil => 1
  | .ptr d => uptoBulk d + 1
  | .slice elems spare => uptoBulkAll elems + uptoBulkAll spare + 1
  | .agg parts => uptoBulkAll parts + 1
  | .iface _ d => uptoBulk d + 1
  | .map entries => uptoBulkEntries entries + 1
  | .held _ => 1
def uptoBulkAll {H : Type} : List (DataW H) → Nat
  | [] => 0
  | d :: r => uptoBulk d + uptoBulkAll r
def uptoBulkEntries {H : Type} : List (Lit × DataW H) → Nat
  | [] => 0
  | x :: r => uptoBulkEntry x + uptoBulkEntries r
def uptoBulkEntry {H : Type} : Lit × DataW H → Nat
  | (.string bytes, d) => bytes.length + uptoBulk d + 1
  | (_, d) => uptoBulk d + 1
 end
def uptoSmall : (H : Type) → List (DataW H) → Bool := fun _ ds => decide (uptoBulkAll ds ≤ 1048576)
def OpenSpec.upto (s : _root_.Go.ChangeSpec) : _root_.Go.OpenSpec := { _root_.Go.OpenSpec.ofChange s with cond := some uptoSmall }

/-- 'catenalaw28.MstateAgain', WHERE WHAT IT READS IS OF BULK AT MOST 1048576: true; the input reads as it did. -/
def mstateAgainUptoRow : OpenClaim := { program := "ytlbemlodcdgakaa", sum := "8e6dffcb2234655eaea2154c1f8adf88950a2b402e96e3d3a03aee4ef9fe1c1f", func := "catena/catenalaw28.MstateAgain", spec := "mstateAgain", unfollowed := true, recurses := true, plainKeys := false, apart := false, narrowed := true }
def MstateAgainUptoSaid : Prop := mstateAgainUptoRow.holds Try.pinned (OpenSpec.upto mstateAgainSpec)

/-- 'catenalaw28.MstateNever', WHERE WHAT IT READS IS OF BULK AT MOST 1048576: true; the input reads as it did. -/
def mstateNeverUptoRow : OpenClaim := { program := "ytlbemlodcdgakaa", sum := "8e6dffcb2234655eaea2154c1f8adf88950a2b402e96e3d3a03aee4ef9fe1c1f", func := "catena/catenalaw28.MstateNever", spec := "mstateNever", unfollowed := true, recurses := true, plainKeys := false, apart := false, narrowed := true }
def MstateNeverUptoSaid : Prop := mstateNeverUptoRow.holds Try.pinned (OpenSpec.upto mstateNeverSpec)

/-- 'catenalaw28.MstateZero', WHERE WHAT IT READS IS OF BULK AT MOST 1048576: true; the input reads as it did. -/
def mstateZeroUptoRow : OpenClaim := { program := "ytlbemlodcdgakaa", sum := "8e6dffcb2234655eaea2154c1f8adf88950a2b402e96e3d3a03aee4ef9fe1c1f", func := "catena/catenalaw28.MstateZero", spec := "mstateZero", unfollowed := true, recurses := true, plainKeys := false, apart := false, narrowed := true }
def MstateZeroUptoSaid : Prop := mstateZeroUptoRow.holds Try.pinned (OpenSpec.upto mstateZeroSpec)

/-- 'catenalaw32.RelayPlays', WHERE WHAT IT READS IS OF BULK AT MOST 1048576: true; the input reads as it did. -/
def relayPlaysUptoRow : OpenClaim := { program := "ytlbemlodcdgakaa", sum := "8e6dffcb2234655eaea2154c1f8adf88950a2b402e96e3d3a03aee4ef9fe1c1f", func := "catena/catenalaw32.RelayPlays", spec := "relayPlays", unfollowed := true, recurses := true, plainKeys := false, apart := false, narrowed := true }
def RelayPlaysUptoSaid : Prop := relayPlaysUptoRow.holds Try.pinned (OpenSpec.upto relayPlaysSpec)

/-- 'catenalaw32.RelayAgree', WHERE WHAT IT READS IS OF BULK AT MOST 1048576: true; the input reads as it did. -/
def relayAgreeUptoRow : OpenClaim := { program := "ytlbemlodcdgakaa", sum := "8e6dffcb2234655eaea2154c1f8adf88950a2b402e96e3d3a03aee4ef9fe1c1f", func := "catena/catenalaw32.RelayAgree", spec := "relayAgree", unfollowed := true, recurses := true, plainKeys := false, apart := false, narrowed := true }
def RelayAgreeUptoSaid : Prop := relayAgreeUptoRow.holds Try.pinned (OpenSpec.upto relayAgreeSpec)

/-- 'catenalaw32.RelayMay', WHERE WHAT IT READS IS OF BULK AT MOST 1048576: true; the input reads as it did. -/
def relayMayUptoRow : OpenClaim := { program := "ytlbemlodcdgakaa", sum := "8e6dffcb2234655eaea2154c1f8adf88950a2b402e96e3d3a03aee4ef9fe1c1f", func := "catena/catenalaw32.RelayMay", spec := "relayMay", unfollowed := true, recurses := true, plainKeys := false, apart := false, narrowed := true }
def RelayMayUptoSaid : Prop := relayMayUptoRow.holds Try.pinned (OpenSpec.upto relayMaySpec)

end Rows
end Go.Proofs.Ytlbemlodcdgakaa
