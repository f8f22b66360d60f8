/- The document's log: Copy, Stamp. Conditions: at most 100 entries, 20 operations each. -/
import Derived.Test.YtlbemlodcdgakaaRlgDSh
namespace Go.Proofs.Ytlbemlodcdgakaa
open Go.RowKit Go.PlainAid
set_option linter.unusedVariables false


/-- The document's log. -/
structure RgP (S : Nat → Prop) (n : Nat) (w : World) (b : Nat) (u : Value) (L : List EntT) : Prop where
  blk : Blk w b 136 #[u]
  row : w.ownsRow 0 38 4 u L.length (L.flatMap entE)
  ents : EntsK S n w L
  sb : S b ∨ n ≤ b
  su : InS S n u
  len : L.length ≤ 100
theorem EntsK.low {S : Nat → Prop} {n m : Nat} {w : World} {L : List EntT} (h : EntsK (fun _ => False) m w L) (hn : n ≤ m) : EntsK S n w L := fun e he =>
  ⟨(h e he).row, fun i hi => by rcases (h e he).ins i hi with q | q; exact absurd q id; exact .inr (by omega), (h e he).len, (h e he).each, (h e he).ts0, (h e he).ts1, (h e he).cl, (h e he).rq⟩
theorem e0_at {A B : List EntT} {i : Nat} {y : EntT} (h : A.map e0 = B.map e0) (hy : A[i]? = some y) : ∃ z, B[i]? = some z ∧ e0 z = e0 y := by
  have := congrArg (·[i]?) h
  simp only [List.getElem?_map, hy, Option.map_some] at this
  rw [eq_comm, Option.map_eq_some_iff] at this
  exact this
theorem e0_f {α : Type} {f : EntT → α} (hf : ∀ e, f (e0 e) = f e) {A B : List EntT} (h : A.map e0 = B.map e0) : A.map f = B.map f := by
  have := congrArg (List.map f) h
  simp only [List.map_map] at this
  rwa [show f ∘ e0 = f from funext hf] at this
theorem e0_ts {y z : EntT} (h : e0 z = e0 y) : z.ts = y.ts ∧ z.client = y.client ∧ z.req = y.req ∧ z.opl = y.opl := by
  unfold e0 at h
  simp only [EntT.mk.injEq] at h
  exact ⟨h.2.2.2.2, h.1, h.2.1, h.2.2.2.1⟩
end Go.Proofs.Ytlbemlodcdgakaa
