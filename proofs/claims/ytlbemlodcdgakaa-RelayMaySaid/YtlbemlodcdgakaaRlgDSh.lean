/- Package rlog: Stamp, Find, Top, Len, Stamped. Conditions: at most 100 entries, 20 operations each. -/
import Derived.Test.YtlbemlodcdgakaaRlgCSh
namespace Go.Proofs.Ytlbemlodcdgakaa
open Go.RowKit Go.PlainAid
set_option linter.unusedVariables false


def e0 (e : EntT) : EntT := { e with ops := .slice none 0 0 }
def stE (L : List EntT) (i ts : Int) : Int := if i < 0 ∨ (L.length : Int) ≤ i then 1 else if ts = 0 then 5 else if i ≠ ((stN L : Nat) : Int) ∨ ts ≤ lastT L then 18 else 0
def stL (L : List EntT) (i ts : Int) : List EntT := if stE L i ts = 0 then rsL L i.toNat ts (i.toNat + 1) else L
section
variable {L : List EntT} {i ts : Int}
theorem stL_no (h : stE L i ts ≠ 0) : stL L i ts = L := by unfold stL; rw [if_neg h]
theorem stL_ok (h : stE L i ts = 0) {y : EntT} (hy : L[i.toNat]? = some y) : stL L i ts = L.set i.toNat { y with ts := ts } := by unfold stL; rw [if_pos h, rsL_1 hy]
theorem stL_nm : (stL L i ts).map nmE = L.map nmE := by unfold stL; split; exact rsL_nm _ _ _ _; rfl
end
theorem e0_snoc {A B : List EntT} {k : Nat} {y z : EntT} (h : A.map e0 = (B.take k).map e0) (hy : B[k]? = some y) (e : e0 z = e0 y) : (A ++ [z]).map e0 = (B.take (k + 1)).map e0 := by
  rw [takeE hy, List.map_append, List.map_append, h]; simp [e]

end Go.Proofs.Ytlbemlodcdgakaa
