/- Configurations: members, places. Conditions: none. -/
import Derived.Test.YtlbemlodcdgakaaSlSh
import Derived.Laws.StructEq
import Derived.Laws.Pointers
import Derived.Deep.QuietTactic
import Derived.BigQuiet
namespace Go.Proofs.Ytlbemlodcdgakaa
open Go.RowKit Go.PlainAid

/-- A member: Id, Serial. -/
abbrev MemT := Int × Int
def memE (m : MemT) : List Value := [.int .i64 m.1, .int .i64 m.2]
def memOk (m : MemT) : Prop := (-9223372036854775808 ≤ m.1 ∧ m.1 ≤ 9223372036854775807) ∧ (-9223372036854775808 ≤ m.2 ∧ m.2 ≤ 9223372036854775807)
structure ConfT where
  ep : Int
  mv : Value
  ms : List MemT
  fl : Int
instance : Inhabited ConfT := ⟨⟨0, .slice none 0 0, [], 0⟩⟩
def confV (c : ConfT) : Value := .agg #[.int .i64 c.ep, c.mv, .int .u64 c.fl]
structure ConfOk (w : World) (c : ConfT) : Prop where
  ms : SliceOf memE 2 w c.mv c.ms
  each : ∀ m ∈ c.ms, memOk m
  e0 : -9223372036854775808 ≤ c.ep
  e1 : c.ep ≤ 9223372036854775807
  f0 : 0 ≤ c.fl
  f1 : c.fl < 18446744073709551616
theorem ConfOk.below {w w' : World} {c : ConfT} (h : ConfOk w c) (hb : Below w.heap.size w w') : ConfOk w' c := ⟨h.ms.below hb, h.each, h.e0, h.e1, h.f0, h.f1⟩
/-- The place of the first member of which P holds. -/
def fndF (P : MemT → Bool) : List MemT → Nat → Int
  | [], _ => -1
  | m :: r, i => if P m then (i : Int) else fndF P r (i + 1)
theorem fndF_cons {P : MemT → Bool} {l : List MemT} {i : Nat} (h : i < l.length) : fndF P (l.drop i) i = if P l[i] then (i : Int) else fndF P (l.drop (i + 1)) (i + 1) := by
  rw [List.drop_eq_getElem_cons h]; rfl
theorem fndF_end {P : MemT → Bool} {l : List MemT} {i : Nat} (h : l.length ≤ i) : fndF P (l.drop i) i = -1 := by
  rw [List.drop_eq_nil_of_le h]; rfl
def fnd (P : MemT → Bool) (l : List MemT) : Int := fndF P l 0
end Go.Proofs.Ytlbemlodcdgakaa
