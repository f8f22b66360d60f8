/-
  No cell of these rows narrows 'for every input' (looked for: loops, veiled, ifaces, maps, wideKeys, modest, calm, conditions, laid).
  DERIVED. THE GIVEN ROWS OF THIS SEAT. 2 by the template 'for every input the law returns true; each argument reads behind the call as it read before'; 0 by the template 'total and deterministic' (their statements: YtcbagajjgbfgdaaGreatTotals.lean).
  GIVEN WITH THE SEED: the statements are not yours to turn. If you find one false, say at which input.
  Laid BY PROGRAM, IN A SANDBOX (cutbox-rows.mjs): the forced cells as the released guide's own fill.sh prints them over the translation d83199f0429c6ddf… (all of the seat's roots in one cut). By AI agents, Wed Nov 11 2026. No macro, syntax, notation, axiom, sorry.
-/
import Derived.Test.YtcbagajjgbfgdaaGreatChecked
import GoSem.Claim
import GoSem.ClaimJoined
import GoSem.ClaimMapViews
import Derived.JoinedTies
import Derived.KernelRfl
namespace Go.Proofs.YtcbagajjgbfgdaaGreat
/- THE CELL 'sum', in the pinned program and in every row, IS THE sha256 OF THE DUMP (.gsa) THAT YtcbagajjgbfgdaaGreatProg.lean LOADS. Nothing in Lean hashes anything: it is a label: what it is worth is what the hold of that sum in a sandbox is worth. -/
noncomputable def Tryz.pinned : Pinned := { name := "ytcbagajjgbfgdaagreat", sum := "d83199f0429c6ddf1a7c3fa8a22e2d7008d2061f5cf12efe432e25fc6085c08d", checked := Tryz.checked }
namespace Rows
def none {H : Type} : Left H := { results := [], args := [] }

/-- 'catenalaw09.MessPuts': WHATEVER THE INPUT: true; the input reads as it did. -/
def messPutsSpec : ChangeSpec := { name := "messPuts", fn := fun _ => fun
  | [d1, d2] => { results := [.lit (.bool true)], args := [d1, d2] }
  | _ => none }
def messPutsRow : OpenClaim := { program := "ytcbagajjgbfgdaagreat", sum := "d83199f0429c6ddf1a7c3fa8a22e2d7008d2061f5cf12efe432e25fc6085c08d", func := "catena/catenalaw09.MessPuts", spec := "messPuts", unfollowed := true, recurses := true, apart := false }
def MessPutsSaid : Prop := messPutsRow.holds Tryz.pinned (OpenSpec.ofChange messPutsSpec)

/-- ITS FALSE NEIGHBOUR: 'it returns false'. Refute it at one input. -/
def messPutsWrong : ChangeSpec := { name := "messPuts", fn := fun _ => fun
  | [d1, d2] => { results := [.lit (.bool false)], args := [d1, d2] }
  | _ => none }
def MessPutsWrongFalsely : Prop := messPutsRow.holds Tryz.pinned (OpenSpec.ofChange messPutsWrong)

/-- 'catenalaw09.MessReads': WHATEVER THE INPUT: true; the input reads as it did. -/
def messReadsSpec : ChangeSpec := { name := "messReads", fn := fun _ => fun
  | [d] => { results := [.lit (.bool true)], args := [d] }
  | _ => none }
def messReadsRow : OpenClaim := { program := "ytcbagajjgbfgdaagreat", sum := "d83199f0429c6ddf1a7c3fa8a22e2d7008d2061f5cf12efe432e25fc6085c08d", func := "catena/catenalaw09.MessReads", spec := "messReads", unfollowed := true, recurses := true, apart := false }
def MessReadsSaid : Prop := messReadsRow.holds Tryz.pinned (OpenSpec.ofChange messReadsSpec)

/-- ITS FALSE NEIGHBOUR: 'it returns false'. Refute it at one input. -/
def messReadsWrong : ChangeSpec := { name := "messReads", fn := fun _ => fun
  | [d] => { results := [.lit (.bool false)], args := [d] }
  | _ => none }
def MessReadsWrongFalsely : Prop := messReadsRow.holds Tryz.pinned (OpenSpec.ofChange messReadsWrong)

/- THE SECOND FORM. 'bulk': how many values and letters a reading holds, each counted each time it is reached (what is shared counts as often as it is met; a slice's spare places count too). A statement '..UptoSaid' is the law's where the arguments, and the package variables that the reading takes, are together of bulk at most 1048576: NARROWER than '..Said'. Prove '..Said' where nothing that the law and all that it calls make is longer than what came in: it says more and counts as full. Else prove '..UptoSaid'. A law counts once. -/
mutual
def uptoBulk {H : Type} : DataW H → Nat
  | .lit (.string bytes) => bytes.length + 1
  | .lit _ => 1
  | .nil => 1
  | .ptr d => uptoBulk d + 1
  | .slice elems spare => uptoBulkAll elems + uptoBulkAll spare + 1
  | .agg parts => uptoBulkAll parts + 1
  | .iface _ d => uptoBulk d + 1
  | .map entries => uptoBulkEntries entries + 1
  | .held _ => 1
def uptoBulkAll {H : Type} : List (DataW H) → Nat
  | [] => 0
  | d :: r => uptoBulk d + uptoBulkAll r
def uptoBulkEntries {H : Type} : List (Lit × DataW H) → Nat
  | [] => 0
  | x :: r => uptoBulkEntry x + uptoBulkEntries r
def uptoBulkEntry {H : Type} : Lit × DataW H → Nat
  | (.string bytes, d) => bytes.length + uptoBulk d + 1
  | (_, d) => uptoBulk d + 1
 end
def uptoSmall : (H : Type) → List (DataW H) → Bool := fun _ ds => decide (uptoBulkAll ds ≤ 1048576)
def OpenSpec.upto (s : _root_.Go.ChangeSpec) : _root_.Go.OpenSpec := { _root_.Go.OpenSpec.ofChange s with cond := some uptoSmall }

/-- 'catenalaw09.MessPuts', WHERE WHAT IT READS IS OF BULK AT MOST 1048576: true; the input reads as it did. -/
def messPutsUptoRow : OpenClaim := { program := "ytcbagajjgbfgdaagreat", sum := "d83199f0429c6ddf1a7c3fa8a22e2d7008d2061f5cf12efe432e25fc6085c08d", func := "catena/catenalaw09.MessPuts", spec := "messPuts", unfollowed := true, recurses := true, apart := false, narrowed := true }
def MessPutsUptoSaid : Prop := messPutsUptoRow.holds Tryz.pinned (OpenSpec.upto messPutsSpec)

/-- 'catenalaw09.MessReads', WHERE WHAT IT READS IS OF BULK AT MOST 1048576: true; the input reads as it did. -/
def messReadsUptoRow : OpenClaim := { program := "ytcbagajjgbfgdaagreat", sum := "d83199f0429c6ddf1a7c3fa8a22e2d7008d2061f5cf12efe432e25fc6085c08d", func := "catena/catenalaw09.MessReads", spec := "messReads", unfollowed := true, recurses := true, apart := false, narrowed := true }
def MessReadsUptoSaid : Prop := messReadsUptoRow.holds Tryz.pinned (OpenSpec.upto messReadsSpec)

end Rows
end Go.Proofs.YtcbagajjgbfgdaaGreat
