/- Ranges over maps that the call made: what is still to come, whichever comes next. Conditions: none. -/
import Derived.Test.YtlbemlodcdgakaaMapCSh
import Derived.Maps.RangeRun
import Derived.MapKept
namespace Go.Proofs.Ytlbemlodcdgakaa
open Go.RowKit Go.ChangeMaps

section
variable {K : Type} {P : Program} {n : Nat} {m : List (Nat × Value)} {w x : World} {o : Oper} {B r : Nat} {l left : List (K × Value)} {kv : K → Value} {kt e t : TypeId} {q : Operand}
/-- Block r ranges over the map at B; left is still to come. -/
def IterB (kv : K → Value) (w : World) (r B : Nat) (left : List (K × Value)) : Prop :=
  ∃ es clock since seen c0, w.heap[B]? = some (.map es clock) ∧ w.heap[r]? = some (.mapIter (some B) since seen c0) ∧ since ≤ c0 ∧ c0 = clock ∧ (∀ e ∈ es.toList, e.born < since) ∧ (es.toList.map (·.born)).Nodup ∧
    (es.toList.filter fun e => !seen.contains e.born).map (fun e => (e.key, e.val)) = left.map (fun p => (kv p.1, p.2))
theorem IterB.lt (h : IterB kv w r B left) : r < w.heap.size := by obtain ⟨_, _, _, _, _, _, h, _⟩ := h; exact (Array.getElem?_eq_some_iff.1 h).1
theorem IterB.kept {row : Option Nat} (h : IterB kv w r B left) (hg : w.grownBy x row) (h1 : row ≠ some B) (h2 : row ≠ some r) : IterB kv x r B left := by
  obtain ⟨es, c, s, sn, c0, a1, a2, a3⟩ := h
  exact ⟨es, c, s, sn, c0, by rw [hg.block B (Array.getElem?_eq_some_iff.1 a1).1 (fun e => h1 e.symm)]; exact a1, by rw [hg.block r (Array.getElem?_eq_some_iff.1 a2).1 (fun e => h2 e.symm)]; exact a2, a3⟩
theorem IterB.row {B' : Nat} {T : TypeId} {sz k : Nat} {v : Value} {xs : List Value} (h : IterB kv w r B left) (hr : w.ownsRow B' T sz v k xs) : v.ownBlock ≠ some B ∧ v.ownBlock ≠ some r := by
  obtain ⟨es, c, s, sn, c0, a1, a2, _⟩ := h
  rcases hr.2 with ⟨rfl, _⟩ | ⟨g1, _, _, rfl, _, hg1, _⟩
  · simp [Value.ownBlock]
  · constructor
    · intro e1
      simp [Value.ownBlock] at e1
      subst e1; rw [a1] at hg1; cases hg1
    · intro e1
      simp [Value.ownBlock] at e1
      subst e1; rw [a2] at hg1; cases hg1
end
end Go.Proofs.Ytlbemlodcdgakaa
