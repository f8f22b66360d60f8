/- Frames one behind the other, in numbers. No conditions. -/
import Derived.Test.YtlchdphgnmcaeaaDoorFrameEa
namespace Go.Proofs.YtlchdphgnmcaeaaDoor
open Go.RowKit

/-- l are the texts of the frames from a on, b is the place behind them. -/
def Run (s : ByteArray) : Int → List ByteArray → Int → Prop
  | a, [], b => b = a
  | a, t :: l, b => a < (s.size : Int) ∧ (nextR s a).2.2 = 0 ∧ t = (nextR s a).1 ∧ Run s (nextR s a).2.1 l b
/-- What is told where it stops. -/
def Ends (s : ByteArray) (b e : Int) : Prop := ((s.size : Int) ≤ b ∧ e = 0) ∨ (b < (s.size : Int) ∧ e = (nextR s b).2.2 ∧ e ≠ 0)
theorem Run.snoc {s : ByteArray} : ∀ {l : List ByteArray} {a b : Int}, Run s a l b → b < (s.size : Int) → (nextR s b).2.2 = 0 → Run s a (l ++ [(nextR s b).1]) (nextR s b).2.1
  | [], a, b, h, h1, h2 => by
    obtain rfl : b = a := h
    exact ⟨h1, h2, rfl, rfl⟩
  | t :: l, a, b, h, h1, h2 => ⟨h.1, h.2.1, h.2.2.1, Run.snoc h.2.2.2 h1 h2⟩
theorem run_det {s : ByteArray} : ∀ {l l' : List ByteArray} {a b b' e e' : Int}, Run s a l b → Ends s b e → Run s a l' b' → Ends s b' e' → l = l' ∧ b = b' ∧ e = e'
  | [], [], a, b, b', e, e', h, k, h', k' => by
    obtain rfl : b = a := h
    obtain rfl : b' = b := h'
    refine ⟨rfl, rfl, ?_⟩
    rcases k with ⟨k1, k2⟩ | ⟨k1, k2, k3⟩ <;> rcases k' with ⟨j1, j2⟩ | ⟨j1, j2, j3⟩ <;> omega
  | [], t :: l', a, b, b', e, e', h, k, h', k' => by
    obtain rfl : b = a := h
    obtain ⟨g1, g2, _, _⟩ := h'
    rcases k with ⟨k1, k2⟩ | ⟨k1, k2, k3⟩ <;> omega
  | t :: l, [], a, b, b', e, e', h, k, h', k' => by
    obtain rfl : b' = a := h'
    obtain ⟨g1, g2, _, _⟩ := h
    rcases k' with ⟨k1, k2⟩ | ⟨k1, k2, k3⟩ <;> omega
  | t :: l, t' :: l', a, b, b', e, e', h, k, h', k' => by
    obtain ⟨g1, g2, rfl, g4⟩ := h
    obtain ⟨f1, f2, rfl, f4⟩ := h'
    obtain ⟨r1, r2, r3⟩ := run_det g4 k f4 k'
    exact ⟨by rw [r1], r2, r3⟩
theorem next_adv (s : ByteArray) (a : Int) (h : (nextR s a).2.2 = 0) : 0 ≤ a ∧ a + 4 < (nextR s a).2.1 ∧ (nextR s a).2.1 ≤ (s.size : Int) := by
  by_cases hg : (getR s a).2.2 = 0
  · obtain ⟨k, rfl⟩ := getR_nat s a hg
    obtain ⟨h1, h2, h3, h4⟩ := getR_go s k hg
    have hR : nextR s k = nextG s k (getR s k).2.1.toNat (getR s k).1.toNat := if_pos hg
    rw [hR] at h ⊢
    unfold nextG at h ⊢
    split at h
    · simp at h
    · rename_i hn
      rw [if_neg hn]
      split at h
      · simp at h
      · rename_i hsz
        rw [if_neg hsz]
        split at h
        · rename_i hq
          rw [if_pos hq]
          refine ⟨by omega, ?_, ?_⟩
          · show (k : Int) + 4 < (((getR s k).2.1.toNat + 4 + (getR s k).1.toNat : Nat) : Int)
            omega
          · show (((getR s k).2.1.toNat + 4 + (getR s k).1.toNat : Nat) : Int) ≤ _
            omega
        · simp at h
  · rw [show nextR s a = (⟨#[]⟩, 0, (getR s a).2.2) from if_neg hg] at h
    exact absurd h hg
theorem Run.bound {s : ByteArray} : ∀ {l : List ByteArray} {a b : Int}, Run s a l b → 0 ≤ a → a ≤ (s.size : Int) → a + l.length ≤ b ∧ b ≤ (s.size : Int)
  | [], a, b, h, h0, h1 => by
    obtain rfl : b = a := h
    exact ⟨by simp, h1⟩
  | t :: l, a, b, h, h0, h1 => by
    obtain ⟨g1, g2, _, g4⟩ := h
    obtain ⟨n1, n2, n3⟩ := next_adv s a g2
    obtain ⟨m1, m2⟩ := Run.bound g4 (by omega) n3
    refine ⟨?_, m2⟩
    rw [List.length_cons]; omega
end Go.Proofs.YtlchdphgnmcaeaaDoor
