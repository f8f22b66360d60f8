/- Package conf and the document's own: who stands ahead and behind. Conditions: none. -/
import Derived.Test.YtcnahhobppnbbaaConfB
namespace Go.Proofs.Ytcnahhobppnbbaa
open Go.RowKit Go.PlainAid

theorem fnd_i64 (P : MemT → Bool) (l : List MemT) (h : l.length ≤ 9223372036854775807) : -1 ≤ fnd P l ∧ fnd P l < 9223372036854775807 := by
  rcases fnd_bd P l with h1 | h1 <;> omega
theorem SliceOf.len_le {α : Type} {enc : α → List Value} {sz : Nat} {w : World} {v : Value} {l : List α} (h : SliceOf enc sz w v l) : l.length ≤ 9223372036854775807 := by
  obtain ⟨_, _, _, h1, h2, _⟩ := h; omega
theorem two_boxed (w : World) (c : ConfT) (m : MemT) : Below w.heap.size w ((w.alloc (.cells #[.int .i64 c.ep, c.mv, .int .u64 c.fl] 91)).alloc (.cells #[.int .i64 m.1, .int .i64 m.2] 114)) ∧
    HA w.heap.size c m ((w.alloc (.cells #[.int .i64 c.ep, c.mv, .int .u64 c.fl] 91)).alloc (.cells #[.int .i64 m.1, .int .i64 m.2] 114)) := by
  refine ⟨((Below.refl _ _).alloc (Nat.le_refl _) _).alloc (by simp) _, ?_⟩
  unfold HA
  refine ⟨by simp, by simp, by simp, by simp, by simp⟩
-- left out here

























-- left out here











































-- left out here











































-- left out here











































end Go.Proofs.Ytcnahhobppnbbaa
