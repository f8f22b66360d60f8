/- Maps that the call makes: a list of keys and values; lookups, stores, deletes, lengths. Conditions: none. -/
import Derived.Test.YtlbemlodcdgakaaPexCSh
import Derived.StringKeys
namespace Go.Proofs.Ytlbemlodcdgakaa
open Go.RowKit

section
variable {K : Type} [DecidableEq K]
/-- The place and the value of a key. -/
def lookK (a : K) : List (K × Value) → Nat → Option (Nat × Value)
  | [], _ => none
  | p :: r, i => if a = p.1 then some (i, p.2) else lookK a r (i + 1)
def getK (l : List (K × Value)) (a : K) : Option Value := (lookK a l 0).map (·.2)
theorem lookK_shift (a : K) : ∀ (l : List (K × Value)) (i j : Nat), lookK a l (i + j) = (lookK a l j).map fun p => (i + p.1, p.2)
  | [], _, _ => rfl
  | p :: r, i, j => by
    unfold lookK
    split
    · rfl
    · rw [Nat.add_assoc]; exact lookK_shift a r i (j + 1)
theorem getK_cons (p : K × Value) (l : List (K × Value)) (b : K) : getK (p :: l) b = if b = p.1 then some p.2 else getK l b := by
  simp only [getK, lookK]
  split
  · rfl
  · rw [show (0 : Nat) + 1 = 1 + 0 from rfl, lookK_shift]; cases lookK b l 0 <;> rfl
@[simp] theorem getK_nil (b : K) : getK ([] : List (K × Value)) b = none := rfl
end

section
variable {K : Type}
variable {P : Program} {n : Nat} {m : List (Nat × Value)} {w x : World} {o : Oper} {B : Nat} {l : List (K × Value)} {kv : K → Value} {kt e t : TypeId} {q r : Operand} {a : K}
/-- Block B is a map that holds just these entries. -/
def MapB (kv : K → Value) (w : World) (B : Nat) (l : List (K × Value)) : Prop :=
  ∃ es clock, w.heap[B]? = some (.map es clock) ∧ es.toList.map (fun e => (e.key, e.val)) = l.map (fun p => (kv p.1, p.2)) ∧ (l.map (·.1)).Nodup ∧ (es.toList.map (·.born)).Nodup ∧ ∀ e ∈ es.toList, e.born < clock
theorem MapB.lt (h : MapB kv w B l) : B < w.heap.size := by obtain ⟨_, _, h, _⟩ := h; exact (Array.getElem?_eq_some_iff.1 h).1
theorem MapB.keys (h : MapB kv w B l) : (l.map (·.1)).Nodup := by obtain ⟨_, _, _, _, h, _⟩ := h; exact h
theorem MapB.kept {row : Option Nat} (h : MapB kv w B l) (hg : w.grownBy x row) (hne : row ≠ some B) : MapB kv x B l := by
  obtain ⟨es, c, h1, h2⟩ := h
  exact ⟨es, c, by rw [hg.block B (Array.getElem?_eq_some_iff.1 h1).1 (fun e => hne e.symm)]; exact h1, h2⟩
theorem MapB.below (h : MapB kv w B l) (hb : Below w.heap.size w x) : MapB kv x B l := h.kept (below_grown hb) (by simp)
end

section
variable {K : Type} [DecidableEq K]
variable {P : Program} {n : Nat} {m : List (Nat × Value)} {w x : World} {o : Oper} {B : Nat} {l : List (K × Value)} {kv : K → Value} {kt e t : TypeId} {q r : Operand} {a : K}
end
end Go.Proofs.Ytlbemlodcdgakaa
