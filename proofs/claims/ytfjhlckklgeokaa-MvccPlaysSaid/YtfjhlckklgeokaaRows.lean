/-
  No cell of these rows narrows 'for every input' (looked for: loops, veiled, ifaces, maps, wideKeys, modest, calm, conditions, laid).
  DERIVED. THE GIVEN ROWS OF THIS SEAT. 5 by the template 'for every input the law returns true; each argument reads behind the call as it read before'; 0 by the template 'total and deterministic' (their statements: YtfjhlckklgeokaaTotals.lean).
  GIVEN WITH THE SEED: the statements are not yours to turn. If you find one false, say at which input.
  Laid BY PROGRAM, IN A SANDBOX (cutbox-rows.mjs): the forced cells as the released guide's own fill.sh prints them over the translation 4164ae24e79f0e14… (all of the seat's roots in one cut). By AI agents, Wed Nov 11 2026. No macro, syntax, notation, axiom, sorry.
-/
import Derived.Test.YtfjhlckklgeokaaChecked
import GoSem.Claim
import GoSem.ClaimJoined
import GoSem.ClaimMapViews
import Derived.JoinedTies
import Derived.KernelRfl
namespace Go.Proofs.Ytfjhlckklgeokaa
/- THE CELL 'sum', in the pinned program and in every row, IS THE sha256 OF THE DUMP (.gsa) THAT YtfjhlckklgeokaaProg.lean LOADS. Nothing in Lean hashes anything: it is a label: what it is worth is what the hold of that sum in a sandbox is worth. -/
noncomputable def Try.pinned : Pinned := { name := "ytfjhlckklgeokaa", sum := "4164ae24e79f0e145b901db2d2e1cbac1eff719e96e00991552ca0105c4577ed", checked := Try.checked }
namespace Rows
def none {H : Type} : Left H := { results := [], args := [] }

/-- 'catenalaw16.MvccPlays': WHATEVER THE INPUT: true; the input reads as it did. -/
def mvccPlaysSpec : ChangeSpec := { name := "mvccPlays", fn := fun _ => fun
  | [d] => { results := [.lit (.bool true)], args := [d] }
  | _ => none }
def mvccPlaysRow : OpenClaim := { program := "ytfjhlckklgeokaa", sum := "4164ae24e79f0e145b901db2d2e1cbac1eff719e96e00991552ca0105c4577ed", func := "catena/catenalaw16.MvccPlays", spec := "mvccPlays", unfollowed := true, recurses := true, apart := false }
def MvccPlaysSaid : Prop := mvccPlaysRow.holds Try.pinned (OpenSpec.ofChange mvccPlaysSpec)

/-- ITS FALSE NEIGHBOUR: 'it returns false'. Refute it at one input. -/
def mvccPlaysWrong : ChangeSpec := { name := "mvccPlays", fn := fun _ => fun
  | [d] => { results := [.lit (.bool false)], args := [d] }
  | _ => none }
def MvccPlaysWrongFalsely : Prop := mvccPlaysRow.holds Try.pinned (OpenSpec.ofChange mvccPlaysWrong)

/-- 'catenalaw16.MvccStays': WHATEVER THE INPUT: true; the input reads as it did. -/
def mvccStaysSpec : ChangeSpec := { name := "mvccStays", fn := fun _ => fun
  | [d1, d2, d3, d4, d5] => { results := [.lit (.bool true)], args := [d1, d2, d3, d4, d5] }
  | _ => none }
def mvccStaysRow : OpenClaim := { program := "ytfjhlckklgeokaa", sum := "4164ae24e79f0e145b901db2d2e1cbac1eff719e96e00991552ca0105c4577ed", func := "catena/catenalaw16.MvccStays", spec := "mvccStays", unfollowed := true, recurses := true, apart := false }
def MvccStaysSaid : Prop := mvccStaysRow.holds Try.pinned (OpenSpec.ofChange mvccStaysSpec)

/-- ITS FALSE NEIGHBOUR: 'it returns false'. Refute it at one input. -/
def mvccStaysWrong : ChangeSpec := { name := "mvccStays", fn := fun _ => fun
  | [d1, d2, d3, d4, d5] => { results := [.lit (.bool false)], args := [d1, d2, d3, d4, d5] }
  | _ => none }
def MvccStaysWrongFalsely : Prop := mvccStaysRow.holds Try.pinned (OpenSpec.ofChange mvccStaysWrong)

/-- 'catenalaw16.MvccPages': WHATEVER THE INPUT: true; the input reads as it did. -/
def mvccPagesSpec : ChangeSpec := { name := "mvccPages", fn := fun _ => fun
  | [d1, d2, d3, d4, d5] => { results := [.lit (.bool true)], args := [d1, d2, d3, d4, d5] }
  | _ => none }
def mvccPagesRow : OpenClaim := { program := "ytfjhlckklgeokaa", sum := "4164ae24e79f0e145b901db2d2e1cbac1eff719e96e00991552ca0105c4577ed", func := "catena/catenalaw16.MvccPages", spec := "mvccPages", unfollowed := true, recurses := true, apart := false }
def MvccPagesSaid : Prop := mvccPagesRow.holds Try.pinned (OpenSpec.ofChange mvccPagesSpec)

/-- ITS FALSE NEIGHBOUR: 'it returns false'. Refute it at one input. -/
def mvccPagesWrong : ChangeSpec := { name := "mvccPages", fn := fun _ => fun
  | [d1, d2, d3, d4, d5] => { results := [.lit (.bool false)], args := [d1, d2, d3, d4, d5] }
  | _ => none }
def MvccPagesWrongFalsely : Prop := mvccPagesRow.holds Try.pinned (OpenSpec.ofChange mvccPagesWrong)

/-- 'catenalaw16.MvccState': WHATEVER THE INPUT: true; the input reads as it did. -/
def mvccStateSpec : ChangeSpec := { name := "mvccState", fn := fun _ => fun
  | [d1, d2] => { results := [.lit (.bool true)], args := [d1, d2] }
  | _ => none }
def mvccStateRow : OpenClaim := { program := "ytfjhlckklgeokaa", sum := "4164ae24e79f0e145b901db2d2e1cbac1eff719e96e00991552ca0105c4577ed", func := "catena/catenalaw16.MvccState", spec := "mvccState", unfollowed := true, recurses := true, apart := false }
def MvccStateSaid : Prop := mvccStateRow.holds Try.pinned (OpenSpec.ofChange mvccStateSpec)

/-- ITS FALSE NEIGHBOUR: 'it returns false'. Refute it at one input. -/
def mvccStateWrong : ChangeSpec := { name := "mvccState", fn := fun _ => fun
  | [d1, d2] => { results := [.lit (.bool false)], args := [d1, d2] }
  | _ => none }
def MvccStateWrongFalsely : Prop := mvccStateRow.holds Try.pinned (OpenSpec.ofChange mvccStateWrong)

/-- 'catenalaw16.MvccZero': WHATEVER THE INPUT: true; the input reads as it did. -/
def mvccZeroSpec : ChangeSpec := { name := "mvccZero", fn := fun _ => fun
  | [d1, d2, d3] => { results := [.lit (.bool true)], args := [d1, d2, d3] }
  | _ => none }
def mvccZeroRow : OpenClaim := { program := "ytfjhlckklgeokaa", sum := "4164ae24e79f0e145b901db2d2e1cbac1eff719e96e00991552ca0105c4577ed", func := "catena/catenalaw16.MvccZero", spec := "mvccZero", unfollowed := true, recurses := true, apart := false }
def MvccZeroSaid : Prop := mvccZeroRow.holds Try.pinned (OpenSpec.ofChange mvccZeroSpec)

/-- ITS FALSE NEIGHBOUR: 'it returns false'. Refute it at one input. -/
def mvccZeroWrong : ChangeSpec := { name := "mvccZero", fn := fun _ => fun
  | [d1, d2, d3] => { results := [.lit (.bool false)], args := [d1, d2, d3] }
  | _ => none }
def MvccZeroWrongFalsely : Prop := mvccZeroRow.holds Try.pinned (OpenSpec.ofChange mvccZeroWrong)

/- THE SECOND FORM. 'bulk': how many values and letters a reading holds, each counted each time it is reached (what is shared counts as often as it is met; a slice's spare places count too). A statement '..UptoSaid' is the law's where the arguments, and the package variables that the reading takes, are together of bulk at most 1048576: NARROWER than '..Said'. Prove '..Said' where nothing that the law and all that it calls make is longer than what came in: it says more and counts as full. Else prove '..UptoSaid'. A law counts once. -/
mutual
def uptoBulk {H : Type} : DataW H → Nat
  | .lit (.string bytes) => bytes.length + 1
  | .lit _ => 1
  | .nil => 1
  | .ptr d => uptoBulk d + 1
  | .slice elems spare => uptoBulkAll elems + uptoBulkAll spare + 1
  | .agg parts => uptoBulkAll parts + 1
  | .iface _ d => uptoBulk d + 1
  | .map entries => uptoBulkEntries entries + 1
  | .held _ => 1
def uptoBulkAll {H : Type} : List (DataW H) → Nat
  | [] => 0
  | d :: r => uptoBulk d + uptoBulkAll r
def uptoBulkEntries {H : Type} : List (Lit × DataW H) → Nat
  | [] => 0
  | x :: r => uptoBulkEntry x + uptoBulkEntries r
def uptoBulkEntry {H : Type} : Lit × DataW H → Nat
  | (.string bytes, d) => bytes.length + uptoBulk d + 1
  | (_, d) => uptoBulk d + 1
 end
def uptoSmall : (H : Type) → List (DataW H) → Bool := fun _ ds => decide (uptoBulkAll ds ≤ 1048576)
def OpenSpec.upto (s : _root_.Go.ChangeSpec) : _root_.Go.OpenSpec := { _root_.Go.OpenSpec.ofChange s with cond := some uptoSmall }

/-- 'catenalaw16.MvccPlays', WHERE WHAT IT READS IS OF BULK AT MOST 1048576: true; the input reads as it did. -/
def mvccPlaysUptoRow : OpenClaim := { program := "ytfjhlckklgeokaa", sum := "4164ae24e79f0e145b901db2d2e1cbac1eff719e96e00991552ca0105c4577ed", func := "catena/catenalaw16.MvccPlays", spec := "mvccPlays", unfollowed := true, recurses := true, apart := false, narrowed := true }
def MvccPlaysUptoSaid : Prop := mvccPlaysUptoRow.holds Try.pinned (OpenSpec.upto mvccPlaysSpec)

/-- 'catenalaw16.MvccStays', WHERE WHAT IT READS IS OF BULK AT MOST 1048576: true; the input reads as it did. -/
def mvccStaysUptoRow : OpenClaim := { program := "ytfjhlckklgeokaa", sum := "4164ae24e79f0e145b901db2d2e1cbac1eff719e96e00991552ca0105c4577ed", func := "catena/catenalaw16.MvccStays", spec := "mvccStays", unfollowed := true, recurses := true, apart := false, narrowed := true }
def MvccStaysUptoSaid : Prop := mvccStaysUptoRow.holds Try.pinned (OpenSpec.upto mvccStaysSpec)

/-- 'catenalaw16.MvccPages', WHERE WHAT IT READS IS OF BULK AT MOST 1048576: true; the input reads as it did. -/
def mvccPagesUptoRow : OpenClaim := { program := "ytfjhlckklgeokaa", sum := "4164ae24e79f0e145b901db2d2e1cbac1eff719e96e00991552ca0105c4577ed", func := "catena/catenalaw16.MvccPages", spec := "mvccPages", unfollowed := true, recurses := true, apart := false, narrowed := true }
def MvccPagesUptoSaid : Prop := mvccPagesUptoRow.holds Try.pinned (OpenSpec.upto mvccPagesSpec)

/-- 'catenalaw16.MvccState', WHERE WHAT IT READS IS OF BULK AT MOST 1048576: true; the input reads as it did. -/
def mvccStateUptoRow : OpenClaim := { program := "ytfjhlckklgeokaa", sum := "4164ae24e79f0e145b901db2d2e1cbac1eff719e96e00991552ca0105c4577ed", func := "catena/catenalaw16.MvccState", spec := "mvccState", unfollowed := true, recurses := true, apart := false, narrowed := true }
def MvccStateUptoSaid : Prop := mvccStateUptoRow.holds Try.pinned (OpenSpec.upto mvccStateSpec)

/-- 'catenalaw16.MvccZero', WHERE WHAT IT READS IS OF BULK AT MOST 1048576: true; the input reads as it did. -/
def mvccZeroUptoRow : OpenClaim := { program := "ytfjhlckklgeokaa", sum := "4164ae24e79f0e145b901db2d2e1cbac1eff719e96e00991552ca0105c4577ed", func := "catena/catenalaw16.MvccZero", spec := "mvccZero", unfollowed := true, recurses := true, apart := false, narrowed := true }
def MvccZeroUptoSaid : Prop := mvccZeroUptoRow.holds Try.pinned (OpenSpec.upto mvccZeroSpec)

end Rows
end Go.Proofs.Ytfjhlckklgeokaa
