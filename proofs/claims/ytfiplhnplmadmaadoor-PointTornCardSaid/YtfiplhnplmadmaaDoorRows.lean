/-
  NARROWER THAN 'FOR EVERY INPUT', by the rows' own cells (each row's printed sentence says how): WalKeeps: laid · WalZero: laid · PointKeeps: laid · PointTorn: laid · PointZero: laid.
  DERIVED. THE GIVEN ROWS OF THIS SEAT. 5 by the template 'for every input the law returns true; each argument reads behind the call as it read before'; 0 by the template 'total and deterministic' (their statements: YtfiplhnplmadmaaDoorTotals.lean).
  GIVEN WITH THE SEED: the statements are not yours to turn. If you find one false, say at which input.
  Laid BY PROGRAM, IN A SANDBOX (cutbox-rows.mjs): the forced cells as the released guide's own fill.sh prints them over the translation 327f477109e80c3a… (all of the seat's roots in one cut). By AI agents, Wed Nov 11 2026. No macro, syntax, notation, axiom, sorry.
-/
import Derived.Test.YtfiplhnplmadmaaDoorChecked
import GoSem.Claim
import GoSem.ClaimJoined
import GoSem.ClaimMapViews
import Derived.JoinedTies
import Derived.KernelRfl
namespace Go.Proofs.YtfiplhnplmadmaaDoor
/- THE CELL 'sum', in the pinned program and in every row, IS THE sha256 OF THE DUMP (.gsa) THAT YtfiplhnplmadmaaDoorProg.lean LOADS. Nothing in Lean hashes anything: it is a label: what it is worth is what the hold of that sum in a sandbox is worth. -/
noncomputable def Tryd.pinned : Pinned := { name := "ytfiplhnplmadmaadoor", sum := "327f477109e80c3a4d2009543f04f4714fd0c1c987dc8f99de4ff8faabbaffb6", checked := Tryd.checked }
namespace Rows
def none {H : Type} : Left H := { results := [], args := [] }

/- WHAT THE LISTED PACKAGE-LEVEL VARIABLES READ AS WHEN THE CALL BEGINS. Each datum BY PROGRAM (the guide's laid-datum.mjs) off the statement by which the dump's own 'gosem.cut.vars' lays the variable. In a bare row this is a premise. The card (YtfiplhnplmadmaaDoorCards.lean) ties it to the program's text. -/
def laid_catena_sum_halves {H : Type} : DataW H := .agg [.lit (.int .u32 0), .lit (.int .u32 498536548), .lit (.int .u32 997073096), .lit (.int .u32 651767980), .lit (.int .u32 1994146192), .lit (.int .u32 1802195444), .lit (.int .u32 1303535960), .lit (.int .u32 1342533948), .lit (.int .u32 3988292384), .lit (.int .u32 4027552580), .lit (.int .u32 3604390888), .lit (.int .u32 3412177804), .lit (.int .u32 2607071920), .lit (.int .u32 2262029012), .lit (.int .u32 2685067896), .lit (.int .u32 3183342108)]

/-- 'catenalaw12.WalKeeps': WHATEVER THE INPUT: true; the input reads as it did. -/
def walKeepsSpec : ChangeSpec := { name := "walKeeps", fn := fun _ => fun
  | [d] => { results := [.lit (.bool true)], args := [d] }
  | _ => none }
def walKeepsRow : OpenClaim := { program := "ytfiplhnplmadmaadoor", sum := "327f477109e80c3a4d2009543f04f4714fd0c1c987dc8f99de4ff8faabbaffb6", func := "catena/catenalaw12.WalKeeps", spec := "walKeeps", unfollowed := true, recurses := true, named := ["catena/sum.halves"], apart := false, laid := [("catena/sum.halves", laid_catena_sum_halves)] }
def WalKeepsSaid : Prop := walKeepsRow.holds Tryd.pinned (OpenSpec.ofChange walKeepsSpec)

/-- ITS FALSE NEIGHBOUR: 'it returns false'. Refute it at one input. -/
def walKeepsWrong : ChangeSpec := { name := "walKeeps", fn := fun _ => fun
  | [d] => { results := [.lit (.bool false)], args := [d] }
  | _ => none }
def WalKeepsWrongFalsely : Prop := walKeepsRow.holds Tryd.pinned (OpenSpec.ofChange walKeepsWrong)

/-- 'catenalaw12.WalZero': WHATEVER THE INPUT: true; the input reads as it did. -/
def walZeroSpec : ChangeSpec := { name := "walZero", fn := fun _ => fun
  | [d1, d2] => { results := [.lit (.bool true)], args := [d1, d2] }
  | _ => none }
def walZeroRow : OpenClaim := { program := "ytfiplhnplmadmaadoor", sum := "327f477109e80c3a4d2009543f04f4714fd0c1c987dc8f99de4ff8faabbaffb6", func := "catena/catenalaw12.WalZero", spec := "walZero", unfollowed := true, recurses := true, named := ["catena/sum.halves"], apart := false, laid := [("catena/sum.halves", laid_catena_sum_halves)] }
def WalZeroSaid : Prop := walZeroRow.holds Tryd.pinned (OpenSpec.ofChange walZeroSpec)

/-- ITS FALSE NEIGHBOUR: 'it returns false'. Refute it at one input. -/
def walZeroWrong : ChangeSpec := { name := "walZero", fn := fun _ => fun
  | [d1, d2] => { results := [.lit (.bool false)], args := [d1, d2] }
  | _ => none }
def WalZeroWrongFalsely : Prop := walZeroRow.holds Tryd.pinned (OpenSpec.ofChange walZeroWrong)

/-- 'catenalaw13.PointKeeps': WHATEVER THE INPUT: true; the input reads as it did. -/
def pointKeepsSpec : ChangeSpec := { name := "pointKeeps", fn := fun _ => fun
  | [d] => { results := [.lit (.bool true)], args := [d] }
  | _ => none }
def pointKeepsRow : OpenClaim := { program := "ytfiplhnplmadmaadoor", sum := "327f477109e80c3a4d2009543f04f4714fd0c1c987dc8f99de4ff8faabbaffb6", func := "catena/catenalaw13.PointKeeps", spec := "pointKeeps", unfollowed := true, recurses := true, named := ["catena/sum.halves"], apart := false, laid := [("catena/sum.halves", laid_catena_sum_halves)] }
def PointKeepsSaid : Prop := pointKeepsRow.holds Tryd.pinned (OpenSpec.ofChange pointKeepsSpec)

/-- ITS FALSE NEIGHBOUR: 'it returns false'. Refute it at one input. -/
def pointKeepsWrong : ChangeSpec := { name := "pointKeeps", fn := fun _ => fun
  | [d] => { results := [.lit (.bool false)], args := [d] }
  | _ => none }
def PointKeepsWrongFalsely : Prop := pointKeepsRow.holds Tryd.pinned (OpenSpec.ofChange pointKeepsWrong)

/-- 'catenalaw13.PointTorn': WHATEVER THE INPUT: true; the input reads as it did. -/
def pointTornSpec : ChangeSpec := { name := "pointTorn", fn := fun _ => fun
  | [d1, d2, d3] => { results := [.lit (.bool true)], args := [d1, d2, d3] }
  | _ => none }
def pointTornRow : OpenClaim := { program := "ytfiplhnplmadmaadoor", sum := "327f477109e80c3a4d2009543f04f4714fd0c1c987dc8f99de4ff8faabbaffb6", func := "catena/catenalaw13.PointTorn", spec := "pointTorn", unfollowed := true, recurses := true, named := ["catena/sum.halves"], apart := false, laid := [("catena/sum.halves", laid_catena_sum_halves)] }
def PointTornSaid : Prop := pointTornRow.holds Tryd.pinned (OpenSpec.ofChange pointTornSpec)

/-- ITS FALSE NEIGHBOUR: 'it returns false'. Refute it at one input. -/
def pointTornWrong : ChangeSpec := { name := "pointTorn", fn := fun _ => fun
  | [d1, d2, d3] => { results := [.lit (.bool false)], args := [d1, d2, d3] }
  | _ => none }
def PointTornWrongFalsely : Prop := pointTornRow.holds Tryd.pinned (OpenSpec.ofChange pointTornWrong)

/-- 'catenalaw13.PointZero': WHATEVER THE INPUT: true; the input reads as it did. -/
def pointZeroSpec : ChangeSpec := { name := "pointZero", fn := fun _ => fun
  | [d1, d2] => { results := [.lit (.bool true)], args := [d1, d2] }
  | _ => none }
def pointZeroRow : OpenClaim := { program := "ytfiplhnplmadmaadoor", sum := "327f477109e80c3a4d2009543f04f4714fd0c1c987dc8f99de4ff8faabbaffb6", func := "catena/catenalaw13.PointZero", spec := "pointZero", unfollowed := true, recurses := true, named := ["catena/sum.halves"], apart := false, laid := [("catena/sum.halves", laid_catena_sum_halves)] }
def PointZeroSaid : Prop := pointZeroRow.holds Tryd.pinned (OpenSpec.ofChange pointZeroSpec)

/-- ITS FALSE NEIGHBOUR: 'it returns false'. Refute it at one input. -/
def pointZeroWrong : ChangeSpec := { name := "pointZero", fn := fun _ => fun
  | [d1, d2] => { results := [.lit (.bool false)], args := [d1, d2] }
  | _ => none }
def PointZeroWrongFalsely : Prop := pointZeroRow.holds Tryd.pinned (OpenSpec.ofChange pointZeroWrong)

/- THE SECOND FORM. 'bulk': how many values and letters a reading holds, each counted each time it is reached (what is shared counts as often as it is met; a slice's spare places count too). A statement '..UptoSaid' is the law's where the arguments, and the package variables that the reading takes, are together of bulk at most 1048576: NARROWER than '..Said'. Prove '..Said' where nothing that the law and all that it calls make is longer than what came in: it says more and counts as full. Else prove '..UptoSaid'. A law counts once. -/
mutual
def uptoBulk {H : Type} : DataW H → Nat
  | .lit (.string bytes) => bytes.length + 1
  | .lit _ => 1
  | .nil => 1
  | .ptr d => uptoBulk d + 1
  | .slice elems spare => uptoBulkAll elems + uptoBulkAll spare + 1
  | .agg parts => uptoBulkAll parts + 1
  | .iface _ d => uptoBulk d + 1
  | .map entries => uptoBulkEntries entries + 1
  | .held _ => 1
def uptoBulkAll {H : Type} : List (DataW H) → Nat
  | [] => 0
  | d :: r => uptoBulk d + uptoBulkAll r
def uptoBulkEntries {H : Type} : List (Lit × DataW H) → Nat
  | [] => 0
  | x :: r => uptoBulkEntry x + uptoBulkEntries r
def uptoBulkEntry {H : Type} : Lit × DataW H → Nat
  | (.string bytes, d) => bytes.length + uptoBulk d + 1
  | (_, d) => uptoBulk d + 1
 end
def uptoSmall : (H : Type) → List (DataW H) → Bool := fun _ ds => decide (uptoBulkAll ds ≤ 1048576)
def OpenSpec.upto (s : _root_.Go.ChangeSpec) : _root_.Go.OpenSpec := { _root_.Go.OpenSpec.ofChange s with cond := some uptoSmall }

/-- 'catenalaw12.WalKeeps', WHERE WHAT IT READS IS OF BULK AT MOST 1048576: true; the input reads as it did. -/
def walKeepsUptoRow : OpenClaim := { program := "ytfiplhnplmadmaadoor", sum := "327f477109e80c3a4d2009543f04f4714fd0c1c987dc8f99de4ff8faabbaffb6", func := "catena/catenalaw12.WalKeeps", spec := "walKeeps", unfollowed := true, recurses := true, named := ["catena/sum.halves"], apart := false, laid := [("catena/sum.halves", laid_catena_sum_halves)], narrowed := true }
def WalKeepsUptoSaid : Prop := walKeepsUptoRow.holds Tryd.pinned (OpenSpec.upto walKeepsSpec)

/-- 'catenalaw12.WalZero', WHERE WHAT IT READS IS OF BULK AT MOST 1048576: true; the input reads as it did. -/
def walZeroUptoRow : OpenClaim := { program := "ytfiplhnplmadmaadoor", sum := "327f477109e80c3a4d2009543f04f4714fd0c1c987dc8f99de4ff8faabbaffb6", func := "catena/catenalaw12.WalZero", spec := "walZero", unfollowed := true, recurses := true, named := ["catena/sum.halves"], apart := false, laid := [("catena/sum.halves", laid_catena_sum_halves)], narrowed := true }
def WalZeroUptoSaid : Prop := walZeroUptoRow.holds Tryd.pinned (OpenSpec.upto walZeroSpec)

/-- 'catenalaw13.PointKeeps', WHERE WHAT IT READS IS OF BULK AT MOST 1048576: true; the input reads as it did. -/
def pointKeepsUptoRow : OpenClaim := { program := "ytfiplhnplmadmaadoor", sum := "327f477109e80c3a4d2009543f04f4714fd0c1c987dc8f99de4ff8faabbaffb6", func := "catena/catenalaw13.PointKeeps", spec := "pointKeeps", unfollowed := true, recurses := true, named := ["catena/sum.halves"], apart := false, laid := [("catena/sum.halves", laid_catena_sum_halves)], narrowed := true }
def PointKeepsUptoSaid : Prop := pointKeepsUptoRow.holds Tryd.pinned (OpenSpec.upto pointKeepsSpec)

/-- 'catenalaw13.PointTorn', WHERE WHAT IT READS IS OF BULK AT MOST 1048576: true; the input reads as it did. -/
def pointTornUptoRow : OpenClaim := { program := "ytfiplhnplmadmaadoor", sum := "327f477109e80c3a4d2009543f04f4714fd0c1c987dc8f99de4ff8faabbaffb6", func := "catena/catenalaw13.PointTorn", spec := "pointTorn", unfollowed := true, recurses := true, named := ["catena/sum.halves"], apart := false, laid := [("catena/sum.halves", laid_catena_sum_halves)], narrowed := true }
def PointTornUptoSaid : Prop := pointTornUptoRow.holds Tryd.pinned (OpenSpec.upto pointTornSpec)

/-- 'catenalaw13.PointZero', WHERE WHAT IT READS IS OF BULK AT MOST 1048576: true; the input reads as it did. -/
def pointZeroUptoRow : OpenClaim := { program := "ytfiplhnplmadmaadoor", sum := "327f477109e80c3a4d2009543f04f4714fd0c1c987dc8f99de4ff8faabbaffb6", func := "catena/catenalaw13.PointZero", spec := "pointZero", unfollowed := true, recurses := true, named := ["catena/sum.halves"], apart := false, laid := [("catena/sum.halves", laid_catena_sum_halves)], narrowed := true }
def PointZeroUptoSaid : Prop := pointZeroUptoRow.holds Tryd.pinned (OpenSpec.upto pointZeroSpec)

end Rows
end Go.Proofs.YtfiplhnplmadmaaDoor
