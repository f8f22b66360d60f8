/- A text's bytes, by the index. Conditions: none. -/
import Derived.Test.YtlbemlodcdgakaaPexDSh
import Derived.Test.YtlbemlodcdgakaaButSh
import Derived.Maps.RangeRun
import Derived.Laws.RangeString
import Derived.Laws.Strings
import Derived.MapKept
namespace Go.Proofs.Ytlbemlodcdgakaa
open Go.RowKit Go.PlainAid Go.ChangeMaps
def byteAt (s : ByteArray) (i : Nat) : Int := ((s.data[i]?.getD 0).toNat : Int)
section
variable {P : Program} {n : Nat} {m : List (Nat × Value)} {w x : World} {o : Oper} {r pos : Nat} {s : ByteArray} {q : Operand} {t : TypeId}
theorem byteAt_get {k : Nat} (h : k < s.size) : byteAt s k = ((s[k]'h).toNat : Int) := by
  unfold byteAt
  have : s.data[k]? = some (s[k]'h) := Array.getElem?_eq_getElem h
  rw [this]; rfl
theorem rn_indexStr {r : Operand} {k : IntKind} {i : Int} {j : Nat} (ho : o.op = .index t q r) (hq : ev m q = some (.string s)) (hr : ev m r = some (.int k i)) (ht : P.underlying t = some .string) (hij : i = (j : Nat)) (hj : j < s.size) : (execOp (lk m) o).run P w = .ok (.value (.int .u8 (byteAt s j))) w := by
  subst hij
  unfold execOp
  simp only [ho, lk_ev hq, lk_ev hr, Sem.run_bind, run_index_string w t s k _ ht]
  simp [hj, byteAt_get hj]
end
end Go.Proofs.Ytlbemlodcdgakaa
