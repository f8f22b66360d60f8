/- The timestamps that come, in numbers. No conditions. -/
import Derived.Test.YthmnndbpadegnaaStmA
namespace Go.Proofs.Ythmnndbpadegnaa
open Go.RowKit

/-- A place and its timestamp. -/
abbrev Stp := Int × Int
/-- From place i behind the timestamp a: l is noted; then it stands at place i' behind a'. -/
def SRun (L n f : Int) : Int → Int → List Stp → Int → Int → Prop
  | i, a, [], i', a' => i' = i ∧ a' = a
  | i, a, x :: l, i', a' => (i < n ∧ i < L) ∧ (nxT a f).2 = 0 ∧ x = (i, (nxT a f).1) ∧ SRun L n f (i + 1) (nxT a f).1 l i' a'
def SEnds (L n f : Int) (i a : Int) : Prop := ¬ (i < n ∧ i < L) ∨ (nxT a f).2 ≠ 0
theorem SRun.snoc {L n f : Int} : ∀ {l : List Stp} {i a i' a' : Int}, SRun L n f i a l i' a' → (i' < n ∧ i' < L) → (nxT a' f).2 = 0 → SRun L n f i a (l ++ [(i', (nxT a' f).1)]) (i' + 1) (nxT a' f).1
  | [], i, a, i', a', h, h1, h2 => by
    obtain ⟨rfl, rfl⟩ := h
    exact ⟨h1, h2, rfl, rfl, rfl⟩
  | x :: l, i, a, i', a', h, h1, h2 => ⟨h.1, h.2.1, h.2.2.1, SRun.snoc h.2.2.2 h1 h2⟩
theorem srun_det {L n f : Int} : ∀ {l l' : List Stp} {i a j b j' b' : Int}, SRun L n f i a l j b → SEnds L n f j b → SRun L n f i a l' j' b' → SEnds L n f j' b' → l = l'
  | [], [], _, _, _, _, _, _, _, _, _, _ => rfl
  | [], x :: l', i, a, j, b, j', b', h, k, h', k' => by
    obtain ⟨rfl, rfl⟩ := h
    rcases k with k | k
    · exact absurd h'.1 k
    · exact absurd h'.2.1 k
  | x :: l, [], i, a, j, b, j', b', h, k, h', k' => by
    obtain ⟨rfl, rfl⟩ := h'
    rcases k' with k | k
    · exact absurd h.1 k
    · exact absurd h.2.1 k
  | x :: l, x' :: l', i, a, j, b, j', b', h, k, h', k' => by
    obtain ⟨_, _, rfl, h4⟩ := h
    obtain ⟨_, _, rfl, g4⟩ := h'
    rw [srun_det h4 k g4 k']
theorem SRun.place {L n f : Int} : ∀ {l : List Stp} {i a i' a' : Int}, SRun L n f i a l i' a' → i' = i + l.length ∧ (i ≤ L → i' ≤ L)
  | [], i, a, i', a', h => by
    obtain ⟨rfl, rfl⟩ := h
    exact ⟨by simp, fun h => h⟩
  | x :: l, i, a, i', a', h => by
    obtain ⟨h1, h2⟩ := SRun.place h.2.2.2
    refine ⟨by rw [List.length_cons]; omega, fun _ => h2 (by have := h.1.2; omega)⟩
theorem nxT_bd {a f : Int} (ha : 0 ≤ a) (ha1 : a ≤ topT) (hf : 0 ≤ f) (hf1 : f ≤ topT) : 0 ≤ (nxT a f).1 ∧ (nxT a f).1 ≤ topT := by
  unfold nxT
  split
  · exact ⟨by omega, by unfold topT; omega⟩
  · rename_i h
    dsimp only
    split <;> omega
theorem SRun.bd {L n f : Int} (hf : 0 ≤ f) (hf1 : f ≤ topT) : ∀ {l : List Stp} {i a i' a' : Int}, SRun L n f i a l i' a' → 0 ≤ a → a ≤ topT → 0 ≤ a' ∧ a' ≤ topT
  | [], i, a, i', a', h, h0, h1 => by
    obtain ⟨rfl, rfl⟩ := h
    exact ⟨h0, h1⟩
  | x :: l, i, a, i', a', h, h0, h1 => by
    obtain ⟨b0, b1⟩ := nxT_bd h0 h1 hf hf1
    exact SRun.bd hf hf1 h.2.2.2 b0 b1
end Go.Proofs.Ythmnndbpadegnaa
