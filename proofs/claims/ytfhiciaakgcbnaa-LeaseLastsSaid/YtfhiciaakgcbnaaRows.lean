/-
  No cell of these rows narrows 'for every input' (looked for: loops, veiled, ifaces, maps, wideKeys, modest, calm, conditions, laid).
  DERIVED. THE GIVEN ROWS OF THIS SEAT. 5 by the template 'for every input the law returns true; each argument reads behind the call as it read before'; 0 by the template 'total and deterministic' (their statements: YtfhiciaakgcbnaaTotals.lean).
  GIVEN WITH THE SEED: the statements are not yours to turn. If you find one false, say at which input.
  Laid BY PROGRAM, IN A SANDBOX (cutbox-rows.mjs): the forced cells as the released guide's own fill.sh prints them over the translation f6abd466c31c705a… (all of the seat's roots in one cut). By AI agents, Wed Nov 11 2026. No macro, syntax, notation, axiom, sorry.
-/
import Derived.Test.YtfhiciaakgcbnaaChecked
import GoSem.Claim
import GoSem.ClaimJoined
import GoSem.ClaimMapViews
import Derived.JoinedTies
import Derived.KernelRfl
namespace Go.Proofs.Ytfhiciaakgcbnaa
/- THE CELL 'sum', in the pinned program and in every row, IS THE sha256 OF THE DUMP (.gsa) THAT YtfhiciaakgcbnaaProg.lean LOADS. Nothing in Lean hashes anything: it is a label: what it is worth is what the hold of that sum in a sandbox is worth. -/
noncomputable def Try.pinned : Pinned := { name := "ytfhiciaakgcbnaa", sum := "f6abd466c31c705a038bdb8f386f52eb534a60cf7c088ceef36d05839cbb606b", checked := Try.checked }
namespace Rows
def none {H : Type} : Left H := { results := [], args := [] }

/-- 'catenalaw08.ItemLists': WHATEVER THE INPUT: true; the input reads as it did. -/
def itemListsSpec : ChangeSpec := { name := "itemLists", fn := fun _ => fun
  | [d] => { results := [.lit (.bool true)], args := [d] }
  | _ => none }
def itemListsRow : OpenClaim := { program := "ytfhiciaakgcbnaa", sum := "f6abd466c31c705a038bdb8f386f52eb534a60cf7c088ceef36d05839cbb606b", func := "catena/catenalaw08.ItemLists", spec := "itemLists", unfollowed := true, recurses := true, plainKeys := false, apart := false }
def ItemListsSaid : Prop := itemListsRow.holds Try.pinned (OpenSpec.ofChange itemListsSpec)

/-- ITS FALSE NEIGHBOUR: 'it returns false'. Refute it at one input. -/
def itemListsWrong : ChangeSpec := { name := "itemLists", fn := fun _ => fun
  | [d] => { results := [.lit (.bool false)], args := [d] }
  | _ => none }
def ItemListsWrongFalsely : Prop := itemListsRow.holds Try.pinned (OpenSpec.ofChange itemListsWrong)

/-- 'catenalaw19.StampRises': WHATEVER THE INPUT: true; the input reads as it did. -/
def stampRisesSpec : ChangeSpec := { name := "stampRises", fn := fun _ => fun
  | [d1, d2, d3] => { results := [.lit (.bool true)], args := [d1, d2, d3] }
  | _ => none }
def stampRisesRow : OpenClaim := { program := "ytfhiciaakgcbnaa", sum := "f6abd466c31c705a038bdb8f386f52eb534a60cf7c088ceef36d05839cbb606b", func := "catena/catenalaw19.StampRises", spec := "stampRises", unfollowed := true, recurses := true, plainKeys := false, apart := false }
def StampRisesSaid : Prop := stampRisesRow.holds Try.pinned (OpenSpec.ofChange stampRisesSpec)

/-- ITS FALSE NEIGHBOUR: 'it returns false'. Refute it at one input. -/
def stampRisesWrong : ChangeSpec := { name := "stampRises", fn := fun _ => fun
  | [d1, d2, d3] => { results := [.lit (.bool false)], args := [d1, d2, d3] }
  | _ => none }
def StampRisesWrongFalsely : Prop := stampRisesRow.holds Try.pinned (OpenSpec.ofChange stampRisesWrong)

/-- 'catenalaw21.EtherPlays': WHATEVER THE INPUT: true; the input reads as it did. -/
def etherPlaysSpec : ChangeSpec := { name := "etherPlays", fn := fun _ => fun
  | [d] => { results := [.lit (.bool true)], args := [d] }
  | _ => none }
def etherPlaysRow : OpenClaim := { program := "ytfhiciaakgcbnaa", sum := "f6abd466c31c705a038bdb8f386f52eb534a60cf7c088ceef36d05839cbb606b", func := "catena/catenalaw21.EtherPlays", spec := "etherPlays", unfollowed := true, recurses := true, plainKeys := false, apart := false }
def EtherPlaysSaid : Prop := etherPlaysRow.holds Try.pinned (OpenSpec.ofChange etherPlaysSpec)

/-- ITS FALSE NEIGHBOUR: 'it returns false'. Refute it at one input. -/
def etherPlaysWrong : ChangeSpec := { name := "etherPlays", fn := fun _ => fun
  | [d] => { results := [.lit (.bool false)], args := [d] }
  | _ => none }
def EtherPlaysWrongFalsely : Prop := etherPlaysRow.holds Try.pinned (OpenSpec.ofChange etherPlaysWrong)

/-- 'catenalaw25.LeasePlays': WHATEVER THE INPUT: true; the input reads as it did. -/
def leasePlaysSpec : ChangeSpec := { name := "leasePlays", fn := fun _ => fun
  | [d1, d2, d3] => { results := [.lit (.bool true)], args := [d1, d2, d3] }
  | _ => none }
def leasePlaysRow : OpenClaim := { program := "ytfhiciaakgcbnaa", sum := "f6abd466c31c705a038bdb8f386f52eb534a60cf7c088ceef36d05839cbb606b", func := "catena/catenalaw25.LeasePlays", spec := "leasePlays", unfollowed := true, recurses := true, plainKeys := false, apart := false }
def LeasePlaysSaid : Prop := leasePlaysRow.holds Try.pinned (OpenSpec.ofChange leasePlaysSpec)

/-- ITS FALSE NEIGHBOUR: 'it returns false'. Refute it at one input. -/
def leasePlaysWrong : ChangeSpec := { name := "leasePlays", fn := fun _ => fun
  | [d1, d2, d3] => { results := [.lit (.bool false)], args := [d1, d2, d3] }
  | _ => none }
def LeasePlaysWrongFalsely : Prop := leasePlaysRow.holds Try.pinned (OpenSpec.ofChange leasePlaysWrong)

/-- 'catenalaw25.LeaseLasts': WHATEVER THE INPUT: true; the input reads as it did. -/
def leaseLastsSpec : ChangeSpec := { name := "leaseLasts", fn := fun _ => fun
  | [d1, d2, d3, d4] => { results := [.lit (.bool true)], args := [d1, d2, d3, d4] }
  | _ => none }
def leaseLastsRow : OpenClaim := { program := "ytfhiciaakgcbnaa", sum := "f6abd466c31c705a038bdb8f386f52eb534a60cf7c088ceef36d05839cbb606b", func := "catena/catenalaw25.LeaseLasts", spec := "leaseLasts", unfollowed := true, recurses := true, plainKeys := false, apart := false }
def LeaseLastsSaid : Prop := leaseLastsRow.holds Try.pinned (OpenSpec.ofChange leaseLastsSpec)

/-- ITS FALSE NEIGHBOUR: 'it returns false'. Refute it at one input. -/
def leaseLastsWrong : ChangeSpec := { name := "leaseLasts", fn := fun _ => fun
  | [d1, d2, d3, d4] => { results := [.lit (.bool false)], args := [d1, d2, d3, d4] }
  | _ => none }
def LeaseLastsWrongFalsely : Prop := leaseLastsRow.holds Try.pinned (OpenSpec.ofChange leaseLastsWrong)

/- THE SECOND FORM. 'bulk': how many values and letters a reading holds, each counted each time it is reached (what is shared counts as often as it is met; a slice's spare places count too). A statement '..UptoSaid' is the law's where the arguments, and the package variables that the reading takes, are together of bulk at most 1048576: NARROWER than '..Said'. Prove '..Said' where nothing that the law and all that it calls make is longer than what came in: it says more and counts as full. Else prove '..UptoSaid'. A law counts once. -/
mutual
def uptoBulk {H : Type} : DataW H → Nat
  | .lit (.string bytes) => bytes.length + 1
  | .lit _ => 1
  | .nil => 1
  | .ptr d => uptoBulk d + 1
  | .slice elems spare => uptoBulkAll elems + uptoBulkAll spare + 1
  | .agg parts => uptoBulkAll parts + 1
  | .iface _ d => uptoBulk d + 1
  | .map entries => uptoBulkEntries entries + 1
  | .held _ => 1
def uptoBulkAll {H : Type} : List (DataW H) → Nat
  | [] => 0
  | d :: r => uptoBulk d + uptoBulkAll r
def uptoBulkEntries {H : Type} : List (Lit × DataW H) → Nat
  | [] => 0
  | x :: r => uptoBulkEntry x + uptoBulkEntries r
def uptoBulkEntry {H : Type} : Lit × DataW H → Nat
  | (.string bytes, d) => bytes.length + uptoBulk d + 1
  | (_, d) => uptoBulk d + 1
 end
def uptoSmall : (H : Type) → List (DataW H) → Bool := fun _ ds => decide (uptoBulkAll ds ≤ 1048576)
def OpenSpec.upto (s : _root_.Go.ChangeSpec) : _root_.Go.OpenSpec := { _root_.Go.OpenSpec.ofChange s with cond := some uptoSmall }

/-- 'catenalaw08.ItemLists', WHERE WHAT IT READS IS OF BULK AT MOST 1048576: true; the input reads as it did. -/
def itemListsUptoRow : OpenClaim := { program := "ytfhiciaakgcbnaa", sum := "f6abd466c31c705a038bdb8f386f52eb534a60cf7c088ceef36d05839cbb606b", func := "catena/catenalaw08.ItemLists", spec := "itemLists", unfollowed := true, recurses := true, plainKeys := false, apart := false, narrowed := true }
def ItemListsUptoSaid : Prop := itemListsUptoRow.holds Try.pinned (OpenSpec.upto itemListsSpec)

/-- 'catenalaw19.StampRises', WHERE WHAT IT READS IS OF BULK AT MOST 1048576: true; the input reads as it did. -/
def stampRisesUptoRow : OpenClaim := { program := "ytfhiciaakgcbnaa", sum := "f6abd466c31c705a038bdb8f386f52eb534a60cf7c088ceef36d05839cbb606b", func := "catena/catenalaw19.StampRises", spec := "stampRises", unfollowed := true, recurses := true, plainKeys := false, apart := false, narrowed := true }
def StampRisesUptoSaid : Prop := stampRisesUptoRow.holds Try.pinned (OpenSpec.upto stampRisesSpec)

/-- 'catenalaw21.EtherPlays', WHERE WHAT IT READS IS OF BULK AT MOST 1048576: true; the input reads as it did. -/
def etherPlaysUptoRow : OpenClaim := { program := "ytfhiciaakgcbnaa", sum := "f6abd466c31c705a038bdb8f386f52eb534a60cf7c088ceef36d05839cbb606b", func := "catena/catenalaw21.EtherPlays", spec := "etherPlays", unfollowed := true, recurses := true, plainKeys := false, apart := false, narrowed := true }
def EtherPlaysUptoSaid : Prop := etherPlaysUptoRow.holds Try.pinned (OpenSpec.upto etherPlaysSpec)

/-- 'catenalaw25.LeasePlays', WHERE WHAT IT READS IS OF BULK AT MOST 1048576: true; the input reads as it did. -/
def leasePlaysUptoRow : OpenClaim := { program := "ytfhiciaakgcbnaa", sum := "f6abd466c31c705a038bdb8f386f52eb534a60cf7c088ceef36d05839cbb606b", func := "catena/catenalaw25.LeasePlays", spec := "leasePlays", unfollowed := true, recurses := true, plainKeys := false, apart := false, narrowed := true }
def LeasePlaysUptoSaid : Prop := leasePlaysUptoRow.holds Try.pinned (OpenSpec.upto leasePlaysSpec)

/-- 'catenalaw25.LeaseLasts', WHERE WHAT IT READS IS OF BULK AT MOST 1048576: true; the input reads as it did. -/
def leaseLastsUptoRow : OpenClaim := { program := "ytfhiciaakgcbnaa", sum := "f6abd466c31c705a038bdb8f386f52eb534a60cf7c088ceef36d05839cbb606b", func := "catena/catenalaw25.LeaseLasts", spec := "leaseLasts", unfollowed := true, recurses := true, plainKeys := false, apart := false, narrowed := true }
def LeaseLastsUptoSaid : Prop := leaseLastsUptoRow.holds Try.pinned (OpenSpec.upto leaseLastsSpec)

end Rows
end Go.Proofs.Ytfhiciaakgcbnaa
