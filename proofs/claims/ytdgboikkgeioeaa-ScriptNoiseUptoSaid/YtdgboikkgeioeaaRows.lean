/-
  No cell of these rows narrows 'for every input' (looked for: loops, veiled, ifaces, maps, wideKeys, modest, calm, conditions, laid).
  DERIVED. THE GIVEN ROWS OF THIS SEAT. 5 by the template 'for every input the law returns true; each argument reads behind the call as it read before'; 0 by the template 'total and deterministic' (their statements: YtdgboikkgeioeaaTotals.lean).
  GIVEN WITH THE SEED: the statements are not yours to turn. If you find one false, say at which input.
  Laid BY PROGRAM, IN A SANDBOX (cutbox-rows.mjs): the forced cells as the released guide's own fill.sh prints them over the translation fe6bc87033b7ff96… (all of the seat's roots in one cut). By AI agents, Wed Nov 11 2026. No macro, syntax, notation, axiom, sorry.
-/
import Derived.Test.YtdgboikkgeioeaaChecked
import GoSem.Claim
import GoSem.ClaimJoined
import GoSem.ClaimMapViews
import Derived.JoinedTies
import Derived.KernelRfl
namespace Go.Proofs.Ytdgboikkgeioeaa
/- THE CELL 'sum', in the pinned program and in every row, IS THE sha256 OF THE DUMP (.gsa) THAT YtdgboikkgeioeaaProg.lean LOADS. Nothing in Lean hashes anything: it is a label: what it is worth is what the hold of that sum in a sandbox is worth. -/
noncomputable def Try.pinned : Pinned := { name := "ytdgboikkgeioeaa", sum := "fe6bc87033b7ff964dd5706f661b18efff0c71ef7c2a3a793e7645d99b5660b2", checked := Try.checked }
namespace Rows
def none {H : Type} : Left H := { results := [], args := [] }

/-- 'catenalaw38.JudgeState': WHATEVER THE INPUT: true; the input reads as it did. -/
def judgeStateSpec : ChangeSpec := { name := "judgeState", fn := fun _ => fun
  | [d1, d2, d3] => { results := [.lit (.bool true)], args := [d1, d2, d3] }
  | _ => none }
def judgeStateRow : OpenClaim := { program := "ytdgboikkgeioeaa", sum := "fe6bc87033b7ff964dd5706f661b18efff0c71ef7c2a3a793e7645d99b5660b2", func := "catena/catenalaw38.JudgeState", spec := "judgeState", inPlace := ["internal/bytealg.abigen_runtime_cmpstring"], unfollowed := true, recurses := true, apart := false }
def JudgeStateSaid : Prop := judgeStateRow.holds Try.pinned (OpenSpec.ofChange judgeStateSpec)

/-- ITS FALSE NEIGHBOUR: 'it returns false'. Refute it at one input. -/
def judgeStateWrong : ChangeSpec := { name := "judgeState", fn := fun _ => fun
  | [d1, d2, d3] => { results := [.lit (.bool false)], args := [d1, d2, d3] }
  | _ => none }
def JudgeStateWrongFalsely : Prop := judgeStateRow.holds Try.pinned (OpenSpec.ofChange judgeStateWrong)

/-- 'catenalaw38.JudgeFollows': WHATEVER THE INPUT: true; the input reads as it did. -/
def judgeFollowsSpec : ChangeSpec := { name := "judgeFollows", fn := fun _ => fun
  | [d1, d2, d3, d4, d5, d6] => { results := [.lit (.bool true)], args := [d1, d2, d3, d4, d5, d6] }
  | _ => none }
def judgeFollowsRow : OpenClaim := { program := "ytdgboikkgeioeaa", sum := "fe6bc87033b7ff964dd5706f661b18efff0c71ef7c2a3a793e7645d99b5660b2", func := "catena/catenalaw38.JudgeFollows", spec := "judgeFollows", inPlace := ["internal/bytealg.abigen_runtime_cmpstring"], unfollowed := true, recurses := true, apart := false }
def JudgeFollowsSaid : Prop := judgeFollowsRow.holds Try.pinned (OpenSpec.ofChange judgeFollowsSpec)

/-- ITS FALSE NEIGHBOUR: 'it returns false'. Refute it at one input. -/
def judgeFollowsWrong : ChangeSpec := { name := "judgeFollows", fn := fun _ => fun
  | [d1, d2, d3, d4, d5, d6] => { results := [.lit (.bool false)], args := [d1, d2, d3, d4, d5, d6] }
  | _ => none }
def JudgeFollowsWrongFalsely : Prop := judgeFollowsRow.holds Try.pinned (OpenSpec.ofChange judgeFollowsWrong)

/-- 'catenalaw40.ScriptPuts': WHATEVER THE INPUT: true; the input reads as it did. -/
def scriptPutsSpec : ChangeSpec := { name := "scriptPuts", fn := fun _ => fun
  | [d1, d2] => { results := [.lit (.bool true)], args := [d1, d2] }
  | _ => none }
def scriptPutsRow : OpenClaim := { program := "ytdgboikkgeioeaa", sum := "fe6bc87033b7ff964dd5706f661b18efff0c71ef7c2a3a793e7645d99b5660b2", func := "catena/catenalaw40.ScriptPuts", spec := "scriptPuts", unfollowed := true, recurses := true, apart := false }
def ScriptPutsSaid : Prop := scriptPutsRow.holds Try.pinned (OpenSpec.ofChange scriptPutsSpec)

/-- ITS FALSE NEIGHBOUR: 'it returns false'. Refute it at one input. -/
def scriptPutsWrong : ChangeSpec := { name := "scriptPuts", fn := fun _ => fun
  | [d1, d2] => { results := [.lit (.bool false)], args := [d1, d2] }
  | _ => none }
def ScriptPutsWrongFalsely : Prop := scriptPutsRow.holds Try.pinned (OpenSpec.ofChange scriptPutsWrong)

/-- 'catenalaw40.ScriptBack': WHATEVER THE INPUT: true; the input reads as it did. -/
def scriptBackSpec : ChangeSpec := { name := "scriptBack", fn := fun _ => fun
  | [d1, d2] => { results := [.lit (.bool true)], args := [d1, d2] }
  | _ => none }
def scriptBackRow : OpenClaim := { program := "ytdgboikkgeioeaa", sum := "fe6bc87033b7ff964dd5706f661b18efff0c71ef7c2a3a793e7645d99b5660b2", func := "catena/catenalaw40.ScriptBack", spec := "scriptBack", unfollowed := true, recurses := true, apart := false }
def ScriptBackSaid : Prop := scriptBackRow.holds Try.pinned (OpenSpec.ofChange scriptBackSpec)

/-- ITS FALSE NEIGHBOUR: 'it returns false'. Refute it at one input. -/
def scriptBackWrong : ChangeSpec := { name := "scriptBack", fn := fun _ => fun
  | [d1, d2] => { results := [.lit (.bool false)], args := [d1, d2] }
  | _ => none }
def ScriptBackWrongFalsely : Prop := scriptBackRow.holds Try.pinned (OpenSpec.ofChange scriptBackWrong)

/-- 'catenalaw40.ScriptNoise': WHATEVER THE INPUT: true; the input reads as it did. -/
def scriptNoiseSpec : ChangeSpec := { name := "scriptNoise", fn := fun _ => fun
  | [d1, d2, d3] => { results := [.lit (.bool true)], args := [d1, d2, d3] }
  | _ => none }
def scriptNoiseRow : OpenClaim := { program := "ytdgboikkgeioeaa", sum := "fe6bc87033b7ff964dd5706f661b18efff0c71ef7c2a3a793e7645d99b5660b2", func := "catena/catenalaw40.ScriptNoise", spec := "scriptNoise", unfollowed := true, recurses := true, apart := false }
def ScriptNoiseSaid : Prop := scriptNoiseRow.holds Try.pinned (OpenSpec.ofChange scriptNoiseSpec)

/-- ITS FALSE NEIGHBOUR: 'it returns false'. Refute it at one input. -/
def scriptNoiseWrong : ChangeSpec := { name := "scriptNoise", fn := fun _ => fun
  | [d1, d2, d3] => { results := [.lit (.bool false)], args := [d1, d2, d3] }
  | _ => none }
def ScriptNoiseWrongFalsely : Prop := scriptNoiseRow.holds Try.pinned (OpenSpec.ofChange scriptNoiseWrong)

/- THE SECOND FORM. 'bulk': how many values and letters a reading holds, each counted each time it is reached (what is shared counts as often as it is met; a slice's spare places count too). A statement '..UptoSaid' is the law's where the arguments, and the package variables that the reading takes, are together of bulk at most 1048576: NARROWER than '..Said'. Prove '..Said' where nothing that the law and all that it calls make is longer than what came in: it says more and counts as full. Else prove '..UptoSaid'. A law counts once. -/
mutual
def uptoBulk {H : Type} : DataW H → Nat
  | .lit (.string bytes) => bytes.length + 1
  | .lit _ => 1
  | .nil => 1
  | .ptr d => uptoBulk d + 1
  | .slice elems spare => uptoBulkAll elems + uptoBulkAll spare + 1
  | .agg parts => uptoBulkAll parts + 1
  | .iface _ d => uptoBulk d + 1
  | .map entries => uptoBulkEntries entries + 1
  | .held _ => 1
def uptoBulkAll {H : Type} : List (DataW H) → Nat
  | [] => 0
  | d :: r => uptoBulk d + uptoBulkAll r
def uptoBulkEntries {H : Type} : List (Lit × DataW H) → Nat
  | [] => 0
  | x :: r => uptoBulkEntry x + uptoBulkEntries r
def uptoBulkEntry {H : Type} : Lit × DataW H → Nat
  | (.string bytes, d) => bytes.length + uptoBulk d + 1
  | (_, d) => uptoBulk d + 1
 end
def uptoSmall : (H : Type) → List (DataW H) → Bool := fun _ ds => decide (uptoBulkAll ds ≤ 1048576)
def OpenSpec.upto (s : _root_.Go.ChangeSpec) : _root_.Go.OpenSpec := { _root_.Go.OpenSpec.ofChange s with cond := some uptoSmall }

/-- 'catenalaw38.JudgeState', WHERE WHAT IT READS IS OF BULK AT MOST 1048576: true; the input reads as it did. -/
def judgeStateUptoRow : OpenClaim := { program := "ytdgboikkgeioeaa", sum := "fe6bc87033b7ff964dd5706f661b18efff0c71ef7c2a3a793e7645d99b5660b2", func := "catena/catenalaw38.JudgeState", spec := "judgeState", inPlace := ["internal/bytealg.abigen_runtime_cmpstring"], unfollowed := true, recurses := true, apart := false, narrowed := true }
def JudgeStateUptoSaid : Prop := judgeStateUptoRow.holds Try.pinned (OpenSpec.upto judgeStateSpec)

/-- 'catenalaw38.JudgeFollows', WHERE WHAT IT READS IS OF BULK AT MOST 1048576: true; the input reads as it did. -/
def judgeFollowsUptoRow : OpenClaim := { program := "ytdgboikkgeioeaa", sum := "fe6bc87033b7ff964dd5706f661b18efff0c71ef7c2a3a793e7645d99b5660b2", func := "catena/catenalaw38.JudgeFollows", spec := "judgeFollows", inPlace := ["internal/bytealg.abigen_runtime_cmpstring"], unfollowed := true, recurses := true, apart := false, narrowed := true }
def JudgeFollowsUptoSaid : Prop := judgeFollowsUptoRow.holds Try.pinned (OpenSpec.upto judgeFollowsSpec)

/-- 'catenalaw40.ScriptPuts', WHERE WHAT IT READS IS OF BULK AT MOST 1048576: true; the input reads as it did. -/
def scriptPutsUptoRow : OpenClaim := { program := "ytdgboikkgeioeaa", sum := "fe6bc87033b7ff964dd5706f661b18efff0c71ef7c2a3a793e7645d99b5660b2", func := "catena/catenalaw40.ScriptPuts", spec := "scriptPuts", unfollowed := true, recurses := true, apart := false, narrowed := true }
def ScriptPutsUptoSaid : Prop := scriptPutsUptoRow.holds Try.pinned (OpenSpec.upto scriptPutsSpec)

/-- 'catenalaw40.ScriptBack', WHERE WHAT IT READS IS OF BULK AT MOST 1048576: true; the input reads as it did. -/
def scriptBackUptoRow : OpenClaim := { program := "ytdgboikkgeioeaa", sum := "fe6bc87033b7ff964dd5706f661b18efff0c71ef7c2a3a793e7645d99b5660b2", func := "catena/catenalaw40.ScriptBack", spec := "scriptBack", unfollowed := true, recurses := true, apart := false, narrowed := true }
def ScriptBackUptoSaid : Prop := scriptBackUptoRow.holds Try.pinned (OpenSpec.upto scriptBackSpec)

/-- 'catenalaw40.ScriptNoise', WHERE WHAT IT READS IS OF BULK AT MOST 1048576: true; the input reads as it did. -/
def scriptNoiseUptoRow : OpenClaim := { program := "ytdgboikkgeioeaa", sum := "fe6bc87033b7ff964dd5706f661b18efff0c71ef7c2a3a793e7645d99b5660b2", func := "catena/catenalaw40.ScriptNoise", spec := "scriptNoise", unfollowed := true, recurses := true, apart := false, narrowed := true }
def ScriptNoiseUptoSaid : Prop := scriptNoiseUptoRow.holds Try.pinned (OpenSpec.upto scriptNoiseSpec)

end Rows
end Go.Proofs.Ytdgboikkgeioeaa
