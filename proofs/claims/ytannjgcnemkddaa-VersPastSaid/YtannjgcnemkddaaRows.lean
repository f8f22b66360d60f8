/-
  No cell of these rows narrows 'for every input' (looked for: loops, veiled, ifaces, maps, wideKeys, modest, calm, conditions, laid).
  DERIVED. THE GIVEN ROWS OF THIS SEAT. 12 by the template 'for every input the law returns true; each argument reads behind the call as it read before'; 0 by the template 'total and deterministic' (their statements: YtannjgcnemkddaaTotals.lean).
  GIVEN WITH THE SEED: the statements are not yours to turn. If you find one false, say at which input.
  Laid BY PROGRAM, IN A SANDBOX (cutbox-rows.mjs): the forced cells as the released guide's own fill.sh prints them over the translation adbec6c1d237c799… (all of the seat's roots in one cut). By AI agents, Wed Nov 11 2026. No macro, syntax, notation, axiom, sorry.
-/
import Derived.Test.YtannjgcnemkddaaChecked
import GoSem.Claim
import GoSem.ClaimJoined
import GoSem.ClaimMapViews
import Derived.JoinedTies
import Derived.KernelRfl
namespace Go.Proofs.Ytannjgcnemkddaa
/- THE CELL 'sum', in the pinned program and in every row, IS THE sha256 OF THE DUMP (.gsa) THAT YtannjgcnemkddaaProg.lean LOADS. Nothing in Lean hashes anything: it is a label: what it is worth is what the hold of that sum in a sandbox is worth. -/
noncomputable def Try.pinned : Pinned := { name := "ytannjgcnemkddaa", sum := "adbec6c1d237c799101058174206194a56f58c8618a486af28c00dca3448347a", checked := Try.checked }
namespace Rows
def none {H : Type} : Left H := { results := [], args := [] }

/-- 'catenalaw05.KeysPlays': WHATEVER THE INPUT: true; the input reads as it did. -/
def keysPlaysSpec : ChangeSpec := { name := "keysPlays", fn := fun _ => fun
  | [d1, d2, d3, d4] => { results := [.lit (.bool true)], args := [d1, d2, d3, d4] }
  | _ => none }
def keysPlaysRow : OpenClaim := { program := "ytannjgcnemkddaa", sum := "adbec6c1d237c799101058174206194a56f58c8618a486af28c00dca3448347a", func := "catena/catenalaw05.KeysPlays", spec := "keysPlays", recurses := true, apart := false }
def KeysPlaysSaid : Prop := keysPlaysRow.holds Try.pinned (OpenSpec.ofChange keysPlaysSpec)

/-- ITS FALSE NEIGHBOUR: 'it returns false'. Refute it at one input. -/
def keysPlaysWrong : ChangeSpec := { name := "keysPlays", fn := fun _ => fun
  | [d1, d2, d3, d4] => { results := [.lit (.bool false)], args := [d1, d2, d3, d4] }
  | _ => none }
def KeysPlaysWrongFalsely : Prop := keysPlaysRow.holds Try.pinned (OpenSpec.ofChange keysPlaysWrong)

/-- 'catenalaw05.KeysNext': WHATEVER THE INPUT: true; the input reads as it did. -/
def keysNextSpec : ChangeSpec := { name := "keysNext", fn := fun _ => fun
  | [d1, d2] => { results := [.lit (.bool true)], args := [d1, d2] }
  | _ => none }
def keysNextRow : OpenClaim := { program := "ytannjgcnemkddaa", sum := "adbec6c1d237c799101058174206194a56f58c8618a486af28c00dca3448347a", func := "catena/catenalaw05.KeysNext", spec := "keysNext", apart := false }
def KeysNextSaid : Prop := keysNextRow.holds Try.pinned (OpenSpec.ofChange keysNextSpec)

/-- ITS FALSE NEIGHBOUR: 'it returns false'. Refute it at one input. -/
def keysNextWrong : ChangeSpec := { name := "keysNext", fn := fun _ => fun
  | [d1, d2] => { results := [.lit (.bool false)], args := [d1, d2] }
  | _ => none }
def KeysNextWrongFalsely : Prop := keysNextRow.holds Try.pinned (OpenSpec.ofChange keysNextWrong)

/-- 'catenalaw05.KeysSets': WHATEVER THE INPUT: true; the input reads as it did. -/
def keysSetsSpec : ChangeSpec := { name := "keysSets", fn := fun _ => fun
  | [d1, d2] => { results := [.lit (.bool true)], args := [d1, d2] }
  | _ => none }
def keysSetsRow : OpenClaim := { program := "ytannjgcnemkddaa", sum := "adbec6c1d237c799101058174206194a56f58c8618a486af28c00dca3448347a", func := "catena/catenalaw05.KeysSets", spec := "keysSets", recurses := true, apart := false }
def KeysSetsSaid : Prop := keysSetsRow.holds Try.pinned (OpenSpec.ofChange keysSetsSpec)

/-- ITS FALSE NEIGHBOUR: 'it returns false'. Refute it at one input. -/
def keysSetsWrong : ChangeSpec := { name := "keysSets", fn := fun _ => fun
  | [d1, d2] => { results := [.lit (.bool false)], args := [d1, d2] }
  | _ => none }
def KeysSetsWrongFalsely : Prop := keysSetsRow.holds Try.pinned (OpenSpec.ofChange keysSetsWrong)

/-- 'catenalaw14.VersPlays': WHATEVER THE INPUT: true; the input reads as it did. -/
def versPlaysSpec : ChangeSpec := { name := "versPlays", fn := fun _ => fun
  | [d1, d2, d3] => { results := [.lit (.bool true)], args := [d1, d2, d3] }
  | _ => none }
def versPlaysRow : OpenClaim := { program := "ytannjgcnemkddaa", sum := "adbec6c1d237c799101058174206194a56f58c8618a486af28c00dca3448347a", func := "catena/catenalaw14.VersPlays", spec := "versPlays", apart := false }
def VersPlaysSaid : Prop := versPlaysRow.holds Try.pinned (OpenSpec.ofChange versPlaysSpec)

/-- ITS FALSE NEIGHBOUR: 'it returns false'. Refute it at one input. -/
def versPlaysWrong : ChangeSpec := { name := "versPlays", fn := fun _ => fun
  | [d1, d2, d3] => { results := [.lit (.bool false)], args := [d1, d2, d3] }
  | _ => none }
def VersPlaysWrongFalsely : Prop := versPlaysRow.holds Try.pinned (OpenSpec.ofChange versPlaysWrong)

/-- 'catenalaw14.VersPast': WHATEVER THE INPUT: true; the input reads as it did. -/
def versPastSpec : ChangeSpec := { name := "versPast", fn := fun _ => fun
  | [d1, d2, d3] => { results := [.lit (.bool true)], args := [d1, d2, d3] }
  | _ => none }
def versPastRow : OpenClaim := { program := "ytannjgcnemkddaa", sum := "adbec6c1d237c799101058174206194a56f58c8618a486af28c00dca3448347a", func := "catena/catenalaw14.VersPast", spec := "versPast", apart := false }
def VersPastSaid : Prop := versPastRow.holds Try.pinned (OpenSpec.ofChange versPastSpec)

/-- ITS FALSE NEIGHBOUR: 'it returns false'. Refute it at one input. -/
def versPastWrong : ChangeSpec := { name := "versPast", fn := fun _ => fun
  | [d1, d2, d3] => { results := [.lit (.bool false)], args := [d1, d2, d3] }
  | _ => none }
def VersPastWrongFalsely : Prop := versPastRow.holds Try.pinned (OpenSpec.ofChange versPastWrong)

/-- 'catenalaw14.VersPruned': WHATEVER THE INPUT: true; the input reads as it did. -/
def versPrunedSpec : ChangeSpec := { name := "versPruned", fn := fun _ => fun
  | [d1, d2, d3] => { results := [.lit (.bool true)], args := [d1, d2, d3] }
  | _ => none }
def versPrunedRow : OpenClaim := { program := "ytannjgcnemkddaa", sum := "adbec6c1d237c799101058174206194a56f58c8618a486af28c00dca3448347a", func := "catena/catenalaw14.VersPruned", spec := "versPruned", apart := false }
def VersPrunedSaid : Prop := versPrunedRow.holds Try.pinned (OpenSpec.ofChange versPrunedSpec)

/-- ITS FALSE NEIGHBOUR: 'it returns false'. Refute it at one input. -/
def versPrunedWrong : ChangeSpec := { name := "versPruned", fn := fun _ => fun
  | [d1, d2, d3] => { results := [.lit (.bool false)], args := [d1, d2, d3] }
  | _ => none }
def VersPrunedWrongFalsely : Prop := versPrunedRow.holds Try.pinned (OpenSpec.ofChange versPrunedWrong)

/-- 'catenalaw19.StampPlays': WHATEVER THE INPUT: true; the input reads as it did. -/
def stampPlaysSpec : ChangeSpec := { name := "stampPlays", fn := fun _ => fun
  | [d1, d2, d3, d4] => { results := [.lit (.bool true)], args := [d1, d2, d3, d4] }
  | _ => none }
def stampPlaysRow : OpenClaim := { program := "ytannjgcnemkddaa", sum := "adbec6c1d237c799101058174206194a56f58c8618a486af28c00dca3448347a", func := "catena/catenalaw19.StampPlays", spec := "stampPlays", unfollowed := true, recurses := true, apart := false }
def StampPlaysSaid : Prop := stampPlaysRow.holds Try.pinned (OpenSpec.ofChange stampPlaysSpec)

/-- ITS FALSE NEIGHBOUR: 'it returns false'. Refute it at one input. -/
def stampPlaysWrong : ChangeSpec := { name := "stampPlays", fn := fun _ => fun
  | [d1, d2, d3, d4] => { results := [.lit (.bool false)], args := [d1, d2, d3, d4] }
  | _ => none }
def StampPlaysWrongFalsely : Prop := stampPlaysRow.holds Try.pinned (OpenSpec.ofChange stampPlaysWrong)

/-- 'catenalaw25.LeasePlays': WHATEVER THE INPUT: true; the input reads as it did. -/
def leasePlaysSpec : ChangeSpec := { name := "leasePlays", fn := fun _ => fun
  | [d1, d2, d3] => { results := [.lit (.bool true)], args := [d1, d2, d3] }
  | _ => none }
def leasePlaysRow : OpenClaim := { program := "ytannjgcnemkddaa", sum := "adbec6c1d237c799101058174206194a56f58c8618a486af28c00dca3448347a", func := "catena/catenalaw25.LeasePlays", spec := "leasePlays", unfollowed := true, recurses := true, apart := false }
def LeasePlaysSaid : Prop := leasePlaysRow.holds Try.pinned (OpenSpec.ofChange leasePlaysSpec)

/-- ITS FALSE NEIGHBOUR: 'it returns false'. Refute it at one input. -/
def leasePlaysWrong : ChangeSpec := { name := "leasePlays", fn := fun _ => fun
  | [d1, d2, d3] => { results := [.lit (.bool false)], args := [d1, d2, d3] }
  | _ => none }
def LeasePlaysWrongFalsely : Prop := leasePlaysRow.holds Try.pinned (OpenSpec.ofChange leasePlaysWrong)

/-- 'catenalaw25.LeaseLasts': WHATEVER THE INPUT: true; the input reads as it did. -/
def leaseLastsSpec : ChangeSpec := { name := "leaseLasts", fn := fun _ => fun
  | [d1, d2, d3, d4] => { results := [.lit (.bool true)], args := [d1, d2, d3, d4] }
  | _ => none }
def leaseLastsRow : OpenClaim := { program := "ytannjgcnemkddaa", sum := "adbec6c1d237c799101058174206194a56f58c8618a486af28c00dca3448347a", func := "catena/catenalaw25.LeaseLasts", spec := "leaseLasts", unfollowed := true, recurses := true, apart := false }
def LeaseLastsSaid : Prop := leaseLastsRow.holds Try.pinned (OpenSpec.ofChange leaseLastsSpec)

/-- ITS FALSE NEIGHBOUR: 'it returns false'. Refute it at one input. -/
def leaseLastsWrong : ChangeSpec := { name := "leaseLasts", fn := fun _ => fun
  | [d1, d2, d3, d4] => { results := [.lit (.bool false)], args := [d1, d2, d3, d4] }
  | _ => none }
def LeaseLastsWrongFalsely : Prop := leaseLastsRow.holds Try.pinned (OpenSpec.ofChange leaseLastsWrong)

/-- 'catenalaw26.AgreePlays': WHATEVER THE INPUT: true; the input reads as it did. -/
def agreePlaysSpec : ChangeSpec := { name := "agreePlays", fn := fun _ => fun
  | [d1, d2, d3] => { results := [.lit (.bool true)], args := [d1, d2, d3] }
  | _ => none }
def agreePlaysRow : OpenClaim := { program := "ytannjgcnemkddaa", sum := "adbec6c1d237c799101058174206194a56f58c8618a486af28c00dca3448347a", func := "catena/catenalaw26.AgreePlays", spec := "agreePlays", apart := false }
def AgreePlaysSaid : Prop := agreePlaysRow.holds Try.pinned (OpenSpec.ofChange agreePlaysSpec)

/-- ITS FALSE NEIGHBOUR: 'it returns false'. Refute it at one input. -/
def agreePlaysWrong : ChangeSpec := { name := "agreePlays", fn := fun _ => fun
  | [d1, d2, d3] => { results := [.lit (.bool false)], args := [d1, d2, d3] }
  | _ => none }
def AgreePlaysWrongFalsely : Prop := agreePlaysRow.holds Try.pinned (OpenSpec.ofChange agreePlaysWrong)

/-- 'catenalaw26.AgreeNever': WHATEVER THE INPUT: true; the input reads as it did. -/
def agreeNeverSpec : ChangeSpec := { name := "agreeNever", fn := fun _ => fun
  | [d1, d2, d3] => { results := [.lit (.bool true)], args := [d1, d2, d3] }
  | _ => none }
def agreeNeverRow : OpenClaim := { program := "ytannjgcnemkddaa", sum := "adbec6c1d237c799101058174206194a56f58c8618a486af28c00dca3448347a", func := "catena/catenalaw26.AgreeNever", spec := "agreeNever", apart := false }
def AgreeNeverSaid : Prop := agreeNeverRow.holds Try.pinned (OpenSpec.ofChange agreeNeverSpec)

/-- ITS FALSE NEIGHBOUR: 'it returns false'. Refute it at one input. -/
def agreeNeverWrong : ChangeSpec := { name := "agreeNever", fn := fun _ => fun
  | [d1, d2, d3] => { results := [.lit (.bool false)], args := [d1, d2, d3] }
  | _ => none }
def AgreeNeverWrongFalsely : Prop := agreeNeverRow.holds Try.pinned (OpenSpec.ofChange agreeNeverWrong)

/-- 'catenalaw26.AgreeMore': WHATEVER THE INPUT: true; the input reads as it did. -/
def agreeMoreSpec : ChangeSpec := { name := "agreeMore", fn := fun _ => fun
  | [d1, d2, d3, d4] => { results := [.lit (.bool true)], args := [d1, d2, d3, d4] }
  | _ => none }
def agreeMoreRow : OpenClaim := { program := "ytannjgcnemkddaa", sum := "adbec6c1d237c799101058174206194a56f58c8618a486af28c00dca3448347a", func := "catena/catenalaw26.AgreeMore", spec := "agreeMore", apart := false }
def AgreeMoreSaid : Prop := agreeMoreRow.holds Try.pinned (OpenSpec.ofChange agreeMoreSpec)

/-- ITS FALSE NEIGHBOUR: 'it returns false'. Refute it at one input. -/
def agreeMoreWrong : ChangeSpec := { name := "agreeMore", fn := fun _ => fun
  | [d1, d2, d3, d4] => { results := [.lit (.bool false)], args := [d1, d2, d3, d4] }
  | _ => none }
def AgreeMoreWrongFalsely : Prop := agreeMoreRow.holds Try.pinned (OpenSpec.ofChange agreeMoreWrong)

/- THE SECOND FORM. 'bulk': how many values and letters a reading holds, each counted each time it is reached (what is shared counts as often as it is met; a slice's spare places count too). A statement '..UptoSaid' is the law's where the arguments, and the package variables that the reading takes, are together of bulk at most 1048576: NARROWER than '..Said'. Prove '..Said' where nothing that the law and all that it calls make is longer than what came in: it says more and counts as full. Else prove '..UptoSaid'. A law counts once. -/
mutual
def uptoBulk {H : Type} : DataW H → Nat
  | .lit (.string bytes) => bytes.length + 1
  | .lit _ => 1
  | .nil => 1
  | .ptr d => uptoBulk d + 1
  | .slice elems spare => uptoBulkAll elems + uptoBulkAll spare + 1
  | .agg parts => uptoBulkAll parts + 1
  | .iface _ d => uptoBulk d + 1
  | .map entries => uptoBulkEntries entries + 1
  | .held _ => 1
def uptoBulkAll {H : Type} : List (DataW H) → Nat
  | [] => 0
  | d :: r => uptoBulk d + uptoBulkAll r
def uptoBulkEntries {H : Type} : List (Lit × DataW H) → Nat
  | [] => 0
  | x :: r => uptoBulkEntry x + uptoBulkEntries r
def uptoBulkEntry {H : Type} : Lit × DataW H → Nat
  | (.string bytes, d) => bytes.length + uptoBulk d + 1
  | (_, d) => uptoBulk d + 1
 end
def uptoSmall : (H : Type) → List (DataW H) → Bool := fun _ ds => decide (uptoBulkAll ds ≤ 1048576)
def OpenSpec.upto (s : _root_.Go.ChangeSpec) : _root_.Go.OpenSpec := { _root_.Go.OpenSpec.ofChange s with cond := some uptoSmall }

/-- 'catenalaw05.KeysPlays', WHERE WHAT IT READS IS OF BULK AT MOST 1048576: true; the input reads as it did. -/
def keysPlaysUptoRow : OpenClaim := { program := "ytannjgcnemkddaa", sum := "adbec6c1d237c799101058174206194a56f58c8618a486af28c00dca3448347a", func := "catena/catenalaw05.KeysPlays", spec := "keysPlays", recurses := true, apart := false, narrowed := true }
def KeysPlaysUptoSaid : Prop := keysPlaysUptoRow.holds Try.pinned (OpenSpec.upto keysPlaysSpec)

/-- 'catenalaw05.KeysNext', WHERE WHAT IT READS IS OF BULK AT MOST 1048576: true; the input reads as it did. -/
def keysNextUptoRow : OpenClaim := { program := "ytannjgcnemkddaa", sum := "adbec6c1d237c799101058174206194a56f58c8618a486af28c00dca3448347a", func := "catena/catenalaw05.KeysNext", spec := "keysNext", apart := false, narrowed := true }
def KeysNextUptoSaid : Prop := keysNextUptoRow.holds Try.pinned (OpenSpec.upto keysNextSpec)

/-- 'catenalaw05.KeysSets', WHERE WHAT IT READS IS OF BULK AT MOST 1048576: true; the input reads as it did. -/
def keysSetsUptoRow : OpenClaim := { program := "ytannjgcnemkddaa", sum := "adbec6c1d237c799101058174206194a56f58c8618a486af28c00dca3448347a", func := "catena/catenalaw05.KeysSets", spec := "keysSets", recurses := true, apart := false, narrowed := true }
def KeysSetsUptoSaid : Prop := keysSetsUptoRow.holds Try.pinned (OpenSpec.upto keysSetsSpec)

/-- 'catenalaw14.VersPlays', WHERE WHAT IT READS IS OF BULK AT MOST 1048576: true; the input reads as it did. -/
def versPlaysUptoRow : OpenClaim := { program := "ytannjgcnemkddaa", sum := "adbec6c1d237c799101058174206194a56f58c8618a486af28c00dca3448347a", func := "catena/catenalaw14.VersPlays", spec := "versPlays", apart := false, narrowed := true }
def VersPlaysUptoSaid : Prop := versPlaysUptoRow.holds Try.pinned (OpenSpec.upto versPlaysSpec)

/-- 'catenalaw14.VersPast', WHERE WHAT IT READS IS OF BULK AT MOST 1048576: true; the input reads as it did. -/
def versPastUptoRow : OpenClaim := { program := "ytannjgcnemkddaa", sum := "adbec6c1d237c799101058174206194a56f58c8618a486af28c00dca3448347a", func := "catena/catenalaw14.VersPast", spec := "versPast", apart := false, narrowed := true }
def VersPastUptoSaid : Prop := versPastUptoRow.holds Try.pinned (OpenSpec.upto versPastSpec)

/-- 'catenalaw14.VersPruned', WHERE WHAT IT READS IS OF BULK AT MOST 1048576: true; the input reads as it did. -/
def versPrunedUptoRow : OpenClaim := { program := "ytannjgcnemkddaa", sum := "adbec6c1d237c799101058174206194a56f58c8618a486af28c00dca3448347a", func := "catena/catenalaw14.VersPruned", spec := "versPruned", apart := false, narrowed := true }
def VersPrunedUptoSaid : Prop := versPrunedUptoRow.holds Try.pinned (OpenSpec.upto versPrunedSpec)

/-- 'catenalaw19.StampPlays', WHERE WHAT IT READS IS OF BULK AT MOST 1048576: true; the input reads as it did. -/
def stampPlaysUptoRow : OpenClaim := { program := "ytannjgcnemkddaa", sum := "adbec6c1d237c799101058174206194a56f58c8618a486af28c00dca3448347a", func := "catena/catenalaw19.StampPlays", spec := "stampPlays", unfollowed := true, recurses := true, apart := false, narrowed := true }
def StampPlaysUptoSaid : Prop := stampPlaysUptoRow.holds Try.pinned (OpenSpec.upto stampPlaysSpec)

/-- 'catenalaw25.LeasePlays', WHERE WHAT IT READS IS OF BULK AT MOST 1048576: true; the input reads as it did. -/
def leasePlaysUptoRow : OpenClaim := { program := "ytannjgcnemkddaa", sum := "adbec6c1d237c799101058174206194a56f58c8618a486af28c00dca3448347a", func := "catena/catenalaw25.LeasePlays", spec := "leasePlays", unfollowed := true, recurses := true, apart := false, narrowed := true }
def LeasePlaysUptoSaid : Prop := leasePlaysUptoRow.holds Try.pinned (OpenSpec.upto leasePlaysSpec)

/-- 'catenalaw25.LeaseLasts', WHERE WHAT IT READS IS OF BULK AT MOST 1048576: true; the input reads as it did. -/
def leaseLastsUptoRow : OpenClaim := { program := "ytannjgcnemkddaa", sum := "adbec6c1d237c799101058174206194a56f58c8618a486af28c00dca3448347a", func := "catena/catenalaw25.LeaseLasts", spec := "leaseLasts", unfollowed := true, recurses := true, apart := false, narrowed := true }
def LeaseLastsUptoSaid : Prop := leaseLastsUptoRow.holds Try.pinned (OpenSpec.upto leaseLastsSpec)

/-- 'catenalaw26.AgreePlays', WHERE WHAT IT READS IS OF BULK AT MOST 1048576: true; the input reads as it did. -/
def agreePlaysUptoRow : OpenClaim := { program := "ytannjgcnemkddaa", sum := "adbec6c1d237c799101058174206194a56f58c8618a486af28c00dca3448347a", func := "catena/catenalaw26.AgreePlays", spec := "agreePlays", apart := false, narrowed := true }
def AgreePlaysUptoSaid : Prop := agreePlaysUptoRow.holds Try.pinned (OpenSpec.upto agreePlaysSpec)

/-- 'catenalaw26.AgreeNever', WHERE WHAT IT READS IS OF BULK AT MOST 1048576: true; the input reads as it did. -/
def agreeNeverUptoRow : OpenClaim := { program := "ytannjgcnemkddaa", sum := "adbec6c1d237c799101058174206194a56f58c8618a486af28c00dca3448347a", func := "catena/catenalaw26.AgreeNever", spec := "agreeNever", apart := false, narrowed := true }
def AgreeNeverUptoSaid : Prop := agreeNeverUptoRow.holds Try.pinned (OpenSpec.upto agreeNeverSpec)

/-- 'catenalaw26.AgreeMore', WHERE WHAT IT READS IS OF BULK AT MOST 1048576: true; the input reads as it did. -/
def agreeMoreUptoRow : OpenClaim := { program := "ytannjgcnemkddaa", sum := "adbec6c1d237c799101058174206194a56f58c8618a486af28c00dca3448347a", func := "catena/catenalaw26.AgreeMore", spec := "agreeMore", apart := false, narrowed := true }
def AgreeMoreUptoSaid : Prop := agreeMoreUptoRow.holds Try.pinned (OpenSpec.upto agreeMoreSpec)

end Rows
end Go.Proofs.Ytannjgcnemkddaa
