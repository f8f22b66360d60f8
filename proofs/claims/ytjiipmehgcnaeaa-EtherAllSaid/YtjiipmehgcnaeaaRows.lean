/-
  No cell of these rows narrows 'for every input' (looked for: loops, veiled, ifaces, maps, wideKeys, modest, calm, conditions, laid).
  DERIVED. THE GIVEN ROWS OF THIS SEAT. 12 by the template 'for every input the law returns true; each argument reads behind the call as it read before'; 0 by the template 'total and deterministic' (their statements: YtjiipmehgcnaeaaTotals.lean).
  GIVEN WITH THE SEED: the statements are not yours to turn. If you find one false, say at which input.
  Laid BY PROGRAM, IN A SANDBOX (cutbox-rows.mjs): the forced cells as the released guide's own fill.sh prints them over the translation 68bc7d329c6d06fa… (all of the seat's roots in one cut). By AI agents, Wed Nov 11 2026. No macro, syntax, notation, axiom, sorry.
-/
import Derived.Test.YtjiipmehgcnaeaaChecked
import GoSem.Claim
import GoSem.ClaimJoined
import GoSem.ClaimMapViews
import Derived.JoinedTies
import Derived.KernelRfl
namespace Go.Proofs.Ytjiipmehgcnaeaa
/- THE CELL 'sum', in the pinned program and in every row, IS THE sha256 OF THE DUMP (.gsa) THAT YtjiipmehgcnaeaaProg.lean LOADS. Nothing in Lean hashes anything: it is a label: what it is worth is what the hold of that sum in a sandbox is worth. -/
noncomputable def Try.pinned : Pinned := { name := "ytjiipmehgcnaeaa", sum := "68bc7d329c6d06faafa6d0afa41a5aee21090cda927c702b4e03e5b6d11de493", checked := Try.checked }
namespace Rows
def none {H : Type} : Left H := { results := [], args := [] }

/-- 'catenalaw05.KeysPlays': WHATEVER THE INPUT: true; the input reads as it did. -/
def keysPlaysSpec : ChangeSpec := { name := "keysPlays", fn := fun _ => fun
  | [d1, d2, d3, d4] => { results := [.lit (.bool true)], args := [d1, d2, d3, d4] }
  | _ => none }
def keysPlaysRow : OpenClaim := { program := "ytjiipmehgcnaeaa", sum := "68bc7d329c6d06faafa6d0afa41a5aee21090cda927c702b4e03e5b6d11de493", func := "catena/catenalaw05.KeysPlays", spec := "keysPlays", recurses := true, apart := false }
def KeysPlaysSaid : Prop := keysPlaysRow.holds Try.pinned (OpenSpec.ofChange keysPlaysSpec)

/-- ITS FALSE NEIGHBOUR: 'it returns false'. Refute it at one input. -/
def keysPlaysWrong : ChangeSpec := { name := "keysPlays", fn := fun _ => fun
  | [d1, d2, d3, d4] => { results := [.lit (.bool false)], args := [d1, d2, d3, d4] }
  | _ => none }
def KeysPlaysWrongFalsely : Prop := keysPlaysRow.holds Try.pinned (OpenSpec.ofChange keysPlaysWrong)

/-- 'catenalaw05.KeysSets': WHATEVER THE INPUT: true; the input reads as it did. -/
def keysSetsSpec : ChangeSpec := { name := "keysSets", fn := fun _ => fun
  | [d1, d2] => { results := [.lit (.bool true)], args := [d1, d2] }
  | _ => none }
def keysSetsRow : OpenClaim := { program := "ytjiipmehgcnaeaa", sum := "68bc7d329c6d06faafa6d0afa41a5aee21090cda927c702b4e03e5b6d11de493", func := "catena/catenalaw05.KeysSets", spec := "keysSets", recurses := true, apart := false }
def KeysSetsSaid : Prop := keysSetsRow.holds Try.pinned (OpenSpec.ofChange keysSetsSpec)

/-- ITS FALSE NEIGHBOUR: 'it returns false'. Refute it at one input. -/
def keysSetsWrong : ChangeSpec := { name := "keysSets", fn := fun _ => fun
  | [d1, d2] => { results := [.lit (.bool false)], args := [d1, d2] }
  | _ => none }
def KeysSetsWrongFalsely : Prop := keysSetsRow.holds Try.pinned (OpenSpec.ofChange keysSetsWrong)

/-- 'catenalaw11.DiskZero': WHATEVER THE INPUT: true; the input reads as it did. -/
def diskZeroSpec : ChangeSpec := { name := "diskZero", fn := fun _ => fun
  | [d1, d2] => { results := [.lit (.bool true)], args := [d1, d2] }
  | _ => none }
def diskZeroRow : OpenClaim := { program := "ytjiipmehgcnaeaa", sum := "68bc7d329c6d06faafa6d0afa41a5aee21090cda927c702b4e03e5b6d11de493", func := "catena/catenalaw11.DiskZero", spec := "diskZero", unfollowed := true, recurses := true, apart := false }
def DiskZeroSaid : Prop := diskZeroRow.holds Try.pinned (OpenSpec.ofChange diskZeroSpec)

/-- ITS FALSE NEIGHBOUR: 'it returns false'. Refute it at one input. -/
def diskZeroWrong : ChangeSpec := { name := "diskZero", fn := fun _ => fun
  | [d1, d2] => { results := [.lit (.bool false)], args := [d1, d2] }
  | _ => none }
def DiskZeroWrongFalsely : Prop := diskZeroRow.holds Try.pinned (OpenSpec.ofChange diskZeroWrong)

/-- 'catenalaw19.StampPlays': WHATEVER THE INPUT: true; the input reads as it did. -/
def stampPlaysSpec : ChangeSpec := { name := "stampPlays", fn := fun _ => fun
  | [d1, d2, d3, d4] => { results := [.lit (.bool true)], args := [d1, d2, d3, d4] }
  | _ => none }
def stampPlaysRow : OpenClaim := { program := "ytjiipmehgcnaeaa", sum := "68bc7d329c6d06faafa6d0afa41a5aee21090cda927c702b4e03e5b6d11de493", func := "catena/catenalaw19.StampPlays", spec := "stampPlays", unfollowed := true, recurses := true, apart := false }
def StampPlaysSaid : Prop := stampPlaysRow.holds Try.pinned (OpenSpec.ofChange stampPlaysSpec)

/-- ITS FALSE NEIGHBOUR: 'it returns false'. Refute it at one input. -/
def stampPlaysWrong : ChangeSpec := { name := "stampPlays", fn := fun _ => fun
  | [d1, d2, d3, d4] => { results := [.lit (.bool false)], args := [d1, d2, d3, d4] }
  | _ => none }
def StampPlaysWrongFalsely : Prop := stampPlaysRow.holds Try.pinned (OpenSpec.ofChange stampPlaysWrong)

/-- 'catenalaw19.StampRises': WHATEVER THE INPUT: true; the input reads as it did. -/
def stampRisesSpec : ChangeSpec := { name := "stampRises", fn := fun _ => fun
  | [d1, d2, d3] => { results := [.lit (.bool true)], args := [d1, d2, d3] }
  | _ => none }
def stampRisesRow : OpenClaim := { program := "ytjiipmehgcnaeaa", sum := "68bc7d329c6d06faafa6d0afa41a5aee21090cda927c702b4e03e5b6d11de493", func := "catena/catenalaw19.StampRises", spec := "stampRises", unfollowed := true, recurses := true, apart := false }
def StampRisesSaid : Prop := stampRisesRow.holds Try.pinned (OpenSpec.ofChange stampRisesSpec)

/-- ITS FALSE NEIGHBOUR: 'it returns false'. Refute it at one input. -/
def stampRisesWrong : ChangeSpec := { name := "stampRises", fn := fun _ => fun
  | [d1, d2, d3] => { results := [.lit (.bool false)], args := [d1, d2, d3] }
  | _ => none }
def StampRisesWrongFalsely : Prop := stampRisesRow.holds Try.pinned (OpenSpec.ofChange stampRisesWrong)

/-- 'catenalaw20.BoundMore': WHATEVER THE INPUT: true; the input reads as it did. -/
def boundMoreSpec : ChangeSpec := { name := "boundMore", fn := fun _ => fun
  | [d1, d2, d3, d4] => { results := [.lit (.bool true)], args := [d1, d2, d3, d4] }
  | _ => none }
def boundMoreRow : OpenClaim := { program := "ytjiipmehgcnaeaa", sum := "68bc7d329c6d06faafa6d0afa41a5aee21090cda927c702b4e03e5b6d11de493", func := "catena/catenalaw20.BoundMore", spec := "boundMore", apart := false }
def BoundMoreSaid : Prop := boundMoreRow.holds Try.pinned (OpenSpec.ofChange boundMoreSpec)

/-- ITS FALSE NEIGHBOUR: 'it returns false'. Refute it at one input. -/
def boundMoreWrong : ChangeSpec := { name := "boundMore", fn := fun _ => fun
  | [d1, d2, d3, d4] => { results := [.lit (.bool false)], args := [d1, d2, d3, d4] }
  | _ => none }
def BoundMoreWrongFalsely : Prop := boundMoreRow.holds Try.pinned (OpenSpec.ofChange boundMoreWrong)

/-- 'catenalaw21.EtherPlays': WHATEVER THE INPUT: true; the input reads as it did. -/
def etherPlaysSpec : ChangeSpec := { name := "etherPlays", fn := fun _ => fun
  | [d] => { results := [.lit (.bool true)], args := [d] }
  | _ => none }
def etherPlaysRow : OpenClaim := { program := "ytjiipmehgcnaeaa", sum := "68bc7d329c6d06faafa6d0afa41a5aee21090cda927c702b4e03e5b6d11de493", func := "catena/catenalaw21.EtherPlays", spec := "etherPlays", unfollowed := true, recurses := true, apart := false }
def EtherPlaysSaid : Prop := etherPlaysRow.holds Try.pinned (OpenSpec.ofChange etherPlaysSpec)

/-- ITS FALSE NEIGHBOUR: 'it returns false'. Refute it at one input. -/
def etherPlaysWrong : ChangeSpec := { name := "etherPlays", fn := fun _ => fun
  | [d] => { results := [.lit (.bool false)], args := [d] }
  | _ => none }
def EtherPlaysWrongFalsely : Prop := etherPlaysRow.holds Try.pinned (OpenSpec.ofChange etherPlaysWrong)

/-- 'catenalaw21.EtherFull': WHATEVER THE INPUT: true; the input reads as it did. -/
def etherFullSpec : ChangeSpec := { name := "etherFull", fn := fun _ => fun
  | [d1, d2] => { results := [.lit (.bool true)], args := [d1, d2] }
  | _ => none }
def etherFullRow : OpenClaim := { program := "ytjiipmehgcnaeaa", sum := "68bc7d329c6d06faafa6d0afa41a5aee21090cda927c702b4e03e5b6d11de493", func := "catena/catenalaw21.EtherFull", spec := "etherFull", apart := false }
def EtherFullSaid : Prop := etherFullRow.holds Try.pinned (OpenSpec.ofChange etherFullSpec)

/-- ITS FALSE NEIGHBOUR: 'it returns false'. Refute it at one input. -/
def etherFullWrong : ChangeSpec := { name := "etherFull", fn := fun _ => fun
  | [d1, d2] => { results := [.lit (.bool false)], args := [d1, d2] }
  | _ => none }
def EtherFullWrongFalsely : Prop := etherFullRow.holds Try.pinned (OpenSpec.ofChange etherFullWrong)

/-- 'catenalaw21.EtherAll': WHATEVER THE INPUT: true; the input reads as it did. -/
def etherAllSpec : ChangeSpec := { name := "etherAll", fn := fun _ => fun
  | [d1, d2] => { results := [.lit (.bool true)], args := [d1, d2] }
  | _ => none }
def etherAllRow : OpenClaim := { program := "ytjiipmehgcnaeaa", sum := "68bc7d329c6d06faafa6d0afa41a5aee21090cda927c702b4e03e5b6d11de493", func := "catena/catenalaw21.EtherAll", spec := "etherAll", apart := false }
def EtherAllSaid : Prop := etherAllRow.holds Try.pinned (OpenSpec.ofChange etherAllSpec)

/-- ITS FALSE NEIGHBOUR: 'it returns false'. Refute it at one input. -/
def etherAllWrong : ChangeSpec := { name := "etherAll", fn := fun _ => fun
  | [d1, d2] => { results := [.lit (.bool false)], args := [d1, d2] }
  | _ => none }
def EtherAllWrongFalsely : Prop := etherAllRow.holds Try.pinned (OpenSpec.ofChange etherAllWrong)

/-- 'catenalaw21.EtherZero': WHATEVER THE INPUT: true; the input reads as it did. -/
def etherZeroSpec : ChangeSpec := { name := "etherZero", fn := fun _ => fun
  | [d1, d2] => { results := [.lit (.bool true)], args := [d1, d2] }
  | _ => none }
def etherZeroRow : OpenClaim := { program := "ytjiipmehgcnaeaa", sum := "68bc7d329c6d06faafa6d0afa41a5aee21090cda927c702b4e03e5b6d11de493", func := "catena/catenalaw21.EtherZero", spec := "etherZero", unfollowed := true, recurses := true, apart := false }
def EtherZeroSaid : Prop := etherZeroRow.holds Try.pinned (OpenSpec.ofChange etherZeroSpec)

/-- ITS FALSE NEIGHBOUR: 'it returns false'. Refute it at one input. -/
def etherZeroWrong : ChangeSpec := { name := "etherZero", fn := fun _ => fun
  | [d1, d2] => { results := [.lit (.bool false)], args := [d1, d2] }
  | _ => none }
def EtherZeroWrongFalsely : Prop := etherZeroRow.holds Try.pinned (OpenSpec.ofChange etherZeroWrong)

/-- 'catenalaw25.LeasePlays': WHATEVER THE INPUT: true; the input reads as it did. -/
def leasePlaysSpec : ChangeSpec := { name := "leasePlays", fn := fun _ => fun
  | [d1, d2, d3] => { results := [.lit (.bool true)], args := [d1, d2, d3] }
  | _ => none }
def leasePlaysRow : OpenClaim := { program := "ytjiipmehgcnaeaa", sum := "68bc7d329c6d06faafa6d0afa41a5aee21090cda927c702b4e03e5b6d11de493", func := "catena/catenalaw25.LeasePlays", spec := "leasePlays", unfollowed := true, recurses := true, apart := false }
def LeasePlaysSaid : Prop := leasePlaysRow.holds Try.pinned (OpenSpec.ofChange leasePlaysSpec)

/-- ITS FALSE NEIGHBOUR: 'it returns false'. Refute it at one input. -/
def leasePlaysWrong : ChangeSpec := { name := "leasePlays", fn := fun _ => fun
  | [d1, d2, d3] => { results := [.lit (.bool false)], args := [d1, d2, d3] }
  | _ => none }
def LeasePlaysWrongFalsely : Prop := leasePlaysRow.holds Try.pinned (OpenSpec.ofChange leasePlaysWrong)

/-- 'catenalaw25.LeaseLasts': WHATEVER THE INPUT: true; the input reads as it did. -/
def leaseLastsSpec : ChangeSpec := { name := "leaseLasts", fn := fun _ => fun
  | [d1, d2, d3, d4] => { results := [.lit (.bool true)], args := [d1, d2, d3, d4] }
  | _ => none }
def leaseLastsRow : OpenClaim := { program := "ytjiipmehgcnaeaa", sum := "68bc7d329c6d06faafa6d0afa41a5aee21090cda927c702b4e03e5b6d11de493", func := "catena/catenalaw25.LeaseLasts", spec := "leaseLasts", unfollowed := true, recurses := true, apart := false }
def LeaseLastsSaid : Prop := leaseLastsRow.holds Try.pinned (OpenSpec.ofChange leaseLastsSpec)

/-- ITS FALSE NEIGHBOUR: 'it returns false'. Refute it at one input. -/
def leaseLastsWrong : ChangeSpec := { name := "leaseLasts", fn := fun _ => fun
  | [d1, d2, d3, d4] => { results := [.lit (.bool false)], args := [d1, d2, d3, d4] }
  | _ => none }
def LeaseLastsWrongFalsely : Prop := leaseLastsRow.holds Try.pinned (OpenSpec.ofChange leaseLastsWrong)

/- THE SECOND FORM. 'bulk': how many values and letters a reading holds, each counted each time it is reached (what is shared counts as often as it is met; a slice's spare places count too). A statement '..UptoSaid' is the law's where the arguments, and the package variables that the reading takes, are together of bulk at most 1048576: NARROWER than '..Said'. Prove '..Said' where nothing that the law and all that it calls make is longer than what came in: it says more and counts as full. Else prove '..UptoSaid'. A law counts once. -/
mutual
def uptoBulk {H : Type} : DataW H → Nat
  | .lit (.string bytes) => bytes.length + 1
  | .lit _ => 1
  | .nil => 1
  | .ptr d => uptoBulk d + 1
  | .slice elems spare => uptoBulkAll elems + uptoBulkAll spare + 1
  | .agg parts => uptoBulkAll parts + 1
  | .iface _ d => uptoBulk d + 1
  | .map entries => uptoBulkEntries entries + 1
  | .held _ => 1
def uptoBulkAll {H : Type} : List (DataW H) → Nat
  | [] => 0
  | d :: r => uptoBulk d + uptoBulkAll r
def uptoBulkEntries {H : Type} : List (Lit × DataW H) → Nat
  | [] => 0
  | x :: r => uptoBulkEntry x + uptoBulkEntries r
def uptoBulkEntry {H : Type} : Lit × DataW H → Nat
  | (.string bytes, d) => bytes.length + uptoBulk d + 1
  | (_, d) => uptoBulk d + 1
 end
def uptoSmall : (H : Type) → List (DataW H) → Bool := fun _ ds => decide (uptoBulkAll ds ≤ 1048576)
def OpenSpec.upto (s : _root_.Go.ChangeSpec) : _root_.Go.OpenSpec := { _root_.Go.OpenSpec.ofChange s with cond := some uptoSmall }

/-- 'catenalaw05.KeysPlays', WHERE WHAT IT READS IS OF BULK AT MOST 1048576: true; the input reads as it did. -/
def keysPlaysUptoRow : OpenClaim := { program := "ytjiipmehgcnaeaa", sum := "68bc7d329c6d06faafa6d0afa41a5aee21090cda927c702b4e03e5b6d11de493", func := "catena/catenalaw05.KeysPlays", spec := "keysPlays", recurses := true, apart := false, narrowed := true }
def KeysPlaysUptoSaid : Prop := keysPlaysUptoRow.holds Try.pinned (OpenSpec.upto keysPlaysSpec)

/-- 'catenalaw05.KeysSets', WHERE WHAT IT READS IS OF BULK AT MOST 1048576: true; the input reads as it did. -/
def keysSetsUptoRow : OpenClaim := { program := "ytjiipmehgcnaeaa", sum := "68bc7d329c6d06faafa6d0afa41a5aee21090cda927c702b4e03e5b6d11de493", func := "catena/catenalaw05.KeysSets", spec := "keysSets", recurses := true, apart := false, narrowed := true }
def KeysSetsUptoSaid : Prop := keysSetsUptoRow.holds Try.pinned (OpenSpec.upto keysSetsSpec)

/-- 'catenalaw11.DiskZero', WHERE WHAT IT READS IS OF BULK AT MOST 1048576: true; the input reads as it did. -/
def diskZeroUptoRow : OpenClaim := { program := "ytjiipmehgcnaeaa", sum := "68bc7d329c6d06faafa6d0afa41a5aee21090cda927c702b4e03e5b6d11de493", func := "catena/catenalaw11.DiskZero", spec := "diskZero", unfollowed := true, recurses := true, apart := false, narrowed := true }
def DiskZeroUptoSaid : Prop := diskZeroUptoRow.holds Try.pinned (OpenSpec.upto diskZeroSpec)

/-- 'catenalaw19.StampPlays', WHERE WHAT IT READS IS OF BULK AT MOST 1048576: true; the input reads as it did. -/
def stampPlaysUptoRow : OpenClaim := { program := "ytjiipmehgcnaeaa", sum := "68bc7d329c6d06faafa6d0afa41a5aee21090cda927c702b4e03e5b6d11de493", func := "catena/catenalaw19.StampPlays", spec := "stampPlays", unfollowed := true, recurses := true, apart := false, narrowed := true }
def StampPlaysUptoSaid : Prop := stampPlaysUptoRow.holds Try.pinned (OpenSpec.upto stampPlaysSpec)

/-- 'catenalaw19.StampRises', WHERE WHAT IT READS IS OF BULK AT MOST 1048576: true; the input reads as it did. -/
def stampRisesUptoRow : OpenClaim := { program := "ytjiipmehgcnaeaa", sum := "68bc7d329c6d06faafa6d0afa41a5aee21090cda927c702b4e03e5b6d11de493", func := "catena/catenalaw19.StampRises", spec := "stampRises", unfollowed := true, recurses := true, apart := false, narrowed := true }
def StampRisesUptoSaid : Prop := stampRisesUptoRow.holds Try.pinned (OpenSpec.upto stampRisesSpec)

/-- 'catenalaw20.BoundMore', WHERE WHAT IT READS IS OF BULK AT MOST 1048576: true; the input reads as it did. -/
def boundMoreUptoRow : OpenClaim := { program := "ytjiipmehgcnaeaa", sum := "68bc7d329c6d06faafa6d0afa41a5aee21090cda927c702b4e03e5b6d11de493", func := "catena/catenalaw20.BoundMore", spec := "boundMore", apart := false, narrowed := true }
def BoundMoreUptoSaid : Prop := boundMoreUptoRow.holds Try.pinned (OpenSpec.upto boundMoreSpec)

/-- 'catenalaw21.EtherPlays', WHERE WHAT IT READS IS OF BULK AT MOST 1048576: true; the input reads as it did. -/
def etherPlaysUptoRow : OpenClaim := { program := "ytjiipmehgcnaeaa", sum := "68bc7d329c6d06faafa6d0afa41a5aee21090cda927c702b4e03e5b6d11de493", func := "catena/catenalaw21.EtherPlays", spec := "etherPlays", unfollowed := true, recurses := true, apart := false, narrowed := true }
def EtherPlaysUptoSaid : Prop := etherPlaysUptoRow.holds Try.pinned (OpenSpec.upto etherPlaysSpec)

/-- 'catenalaw21.EtherFull', WHERE WHAT IT READS IS OF BULK AT MOST 1048576: true; the input reads as it did. -/
def etherFullUptoRow : OpenClaim := { program := "ytjiipmehgcnaeaa", sum := "68bc7d329c6d06faafa6d0afa41a5aee21090cda927c702b4e03e5b6d11de493", func := "catena/catenalaw21.EtherFull", spec := "etherFull", apart := false, narrowed := true }
def EtherFullUptoSaid : Prop := etherFullUptoRow.holds Try.pinned (OpenSpec.upto etherFullSpec)

/-- 'catenalaw21.EtherAll', WHERE WHAT IT READS IS OF BULK AT MOST 1048576: true; the input reads as it did. -/
def etherAllUptoRow : OpenClaim := { program := "ytjiipmehgcnaeaa", sum := "68bc7d329c6d06faafa6d0afa41a5aee21090cda927c702b4e03e5b6d11de493", func := "catena/catenalaw21.EtherAll", spec := "etherAll", apart := false, narrowed := true }
def EtherAllUptoSaid : Prop := etherAllUptoRow.holds Try.pinned (OpenSpec.upto etherAllSpec)

/-- 'catenalaw21.EtherZero', WHERE WHAT IT READS IS OF BULK AT MOST 1048576: true; the input reads as it did. -/
def etherZeroUptoRow : OpenClaim := { program := "ytjiipmehgcnaeaa", sum := "68bc7d329c6d06faafa6d0afa41a5aee21090cda927c702b4e03e5b6d11de493", func := "catena/catenalaw21.EtherZero", spec := "etherZero", unfollowed := true, recurses := true, apart := false, narrowed := true }
def EtherZeroUptoSaid : Prop := etherZeroUptoRow.holds Try.pinned (OpenSpec.upto etherZeroSpec)

/-- 'catenalaw25.LeasePlays', WHERE WHAT IT READS IS OF BULK AT MOST 1048576: true; the input reads as it did. -/
def leasePlaysUptoRow : OpenClaim := { program := "ytjiipmehgcnaeaa", sum := "68bc7d329c6d06faafa6d0afa41a5aee21090cda927c702b4e03e5b6d11de493", func := "catena/catenalaw25.LeasePlays", spec := "leasePlays", unfollowed := true, recurses := true, apart := false, narrowed := true }
def LeasePlaysUptoSaid : Prop := leasePlaysUptoRow.holds Try.pinned (OpenSpec.upto leasePlaysSpec)

/-- 'catenalaw25.LeaseLasts', WHERE WHAT IT READS IS OF BULK AT MOST 1048576: true; the input reads as it did. -/
def leaseLastsUptoRow : OpenClaim := { program := "ytjiipmehgcnaeaa", sum := "68bc7d329c6d06faafa6d0afa41a5aee21090cda927c702b4e03e5b6d11de493", func := "catena/catenalaw25.LeaseLasts", spec := "leaseLasts", unfollowed := true, recurses := true, apart := false, narrowed := true }
def LeaseLastsUptoSaid : Prop := leaseLastsUptoRow.holds Try.pinned (OpenSpec.upto leaseLastsSpec)

end Rows
end Go.Proofs.Ytjiipmehgcnaeaa
