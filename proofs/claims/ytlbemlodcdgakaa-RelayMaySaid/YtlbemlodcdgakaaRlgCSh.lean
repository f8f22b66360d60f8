/- Package rlog: Set. Conditions: at most 100 entries, 20 operations each. -/
import Derived.Test.YtlbemlodcdgakaaRlgASh
namespace Go.Proofs.Ytlbemlodcdgakaa
open Go.RowKit Go.PlainAid
set_option linter.unusedVariables false


def setE (L : List EntT) (i : Int) (c r : Int) (l : List OpT) (ts : Int) : Int :=
  if i < 0 ∨ (L.length : Int) < i then 1 else if chkB c r l ≠ 0 then chkB c r l else if 100 ≤ i then 6
  else if (findN (L.take i.toNat) (c, r)).isSome = true then 18 else if badT (L.take i.toNat) (EntT.mk c r (.slice none 0 0) l ts) = true then 18 else 0
section
variable {L : List EntT} {i c r ts : Int} {l : List OpT} {v : Value} {f : Int}
theorem badM_0 {l : List EntT} {i : Nat} {y : EntT} (h : i = 0) : badT (l.take i) y = false := by subst h; simp [badT]
end

end Go.Proofs.Ytlbemlodcdgakaa
