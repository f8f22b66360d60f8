/- The document's log: Set. Conditions: at most 100 entries, 20 operations each. -/
import Derived.Test.YtlbemlodcdgakaaRlgFSh
import Derived.Test.YtlbemlodcdgakaaRlgHSh
namespace Go.Proofs.Ytlbemlodcdgakaa
open Go.RowKit Go.PlainAid
set_option linter.unusedVariables false


/-- What Set makes of the entries, as far as anybody sees. -/
def setL (L : List EntT) (i c r : Int) (l : List OpT) (ts : Int) : List EntT :=
  if setE L i c r l ts ≠ 0 then L else if (L[i.toNat]?).map nmE = some (c, r) then restF L i.toNat ts else L.take i.toNat ++ [EntT.mk c r (.slice none 0 0) l ts]
section
variable {L Lk X Mk : List EntT} {i k : Nat} {y y0 : EntT} {q : Int × Int} {c r ts : Int} {l : List OpT} {n : Int}
theorem setL_no (h : setE L n c r l ts ≠ 0) : setL L n c r l ts = L := by unfold setL; rw [if_pos h]
theorem setL_tw (h : setE L n c r l ts = 0) (h2 : (L[n.toNat]?).map nmE = some (c, r)) : setL L n c r l ts = restF L n.toNat ts := by unfold setL; rw [if_neg (by rw [h]; simp), if_pos h2]
theorem setL_nw (h : setE L n c r l ts = 0) (h2 : ¬ (L[n.toNat]?).map nmE = some (c, r)) : setL L n c r l ts = L.take n.toNat ++ [EntT.mk c r (.slice none 0 0) l ts] := by unfold setL; rw [if_neg (by rw [h]; simp), if_neg h2]
end
end Go.Proofs.Ytlbemlodcdgakaa
