/- Objects with a footprint: what holds of them depends on the blocks in S alone; a call turns S, and what it makes joins it. Conditions: none. -/
import Derived.Test.YtlbemlodcdgakaaPexUSh
namespace Go.Proofs.Ytlbemlodcdgakaa
open Go.RowKit Go.PlainAid
set_option linter.unusedVariables false

/-- S' holds what S held, and what was made since; nothing but S was turned. -/
structure Grew (S S' : Nat → Prop) (w x : World) : Prop where
  sub : ∀ q, S' q → S q ∨ w.heap.size ≤ q
  but : But S w x
section
variable {S S' D : Nat → Prop} {n N : Nat} {w x : World} {v u : Value} {T e : TypeId} {cs : Array Value} {B sz k : Nat} {xs : List Value}
theorem Grew.lo {n0 : Nat} (h : Grew S S' w x) (hlo : ∀ q, S q → n0 ≤ q) (hn : n0 ≤ w.heap.size) : ∀ q, S' q → n0 ≤ q := fun q hq => by
  rcases h.sub q hq with k | k
  · exact hlo q k
  · omega
theorem Grew.off (h : Grew S S' w x) (hN : ¬ S N) (hl : N < w.heap.size) : ¬ S' N := fun hq => by
  rcases h.sub N hq with k | k
  · exact hN k
  · omega
theorem Blk.butS (h : Blk w N T cs) (hb : But S w x) (hn : ¬ S N) : Blk x N T cs := by
  have hl := h.lt
  unfold Blk at h ⊢
  rw [hb.block N hl hn]; exact h
theorem row_block {i : Nat} (h : w.ownsRow B e sz v k xs) (hi : v.ownBlock = some i) : ∃ cs, w.heap[i]? = some (.cells cs e (0, 0)) := by
  rcases h.2 with ⟨rfl, _⟩ | ⟨g, c, cur, rfl, _, hh, _⟩
  · simp [Value.ownBlock] at hi
  · simp only [Value.ownBlock, Option.some.injEq] at hi; subst hi; exact ⟨_, hh⟩
theorem row_sameL (h : w.ownsRow B e sz v k xs) (hk : ∀ i, v.ownBlock = some i → x.heap[i]? = w.heap[i]?) : x.ownsRow B e sz v k xs := by
  refine ⟨h.1, ?_⟩
  rcases h.2 with h1 | ⟨g, c, cur, rfl, hg, hh, h3⟩
  · exact .inl h1
  · exact .inr ⟨g, c, cur, rfl, hg, by rw [hk g rfl]; exact hh, h3⟩
theorem MapB.butS {K : Type} [DecidableEq K] {kv : K → Value} {l : List (K × Value)} (h : MapB kv w B l) (hb : But S w x) (hn : ¬ S B) : MapB kv x B l := by
  have hl := h.lt
  obtain ⟨es, cl, h1, h2⟩ := h
  exact ⟨es, cl, by rw [hb.block B hl hn]; exact h1, h2⟩
theorem MapO.butS {K V : Type} [DecidableEq K] {kv : K → Value} {enc : V → Value} {g : K → Option V} {c : Nat} (h : MapO kv enc w B g c) (hb : But S w x) (hn : ¬ S B) : MapO kv enc x B g c := by
  obtain ⟨l, h1, h2⟩ := h; exact ⟨l, h1.butS hb hn, h2⟩
theorem MapG.butS {K V : Type} [DecidableEq K] {kv : K → Value} {enc : V → Value} {z : V} {g : K → V} (h : MapG kv enc z w B g) (hb : But S w x) (hn : ¬ S B) : MapG kv enc z x B g := by
  obtain ⟨l, h1, h2⟩ := h; exact ⟨l, h1.butS hb hn, h2⟩
/-- A slice that came in ahead of all that S has. -/
theorem sl_off {α : Type} {enc : α → List Value} {l : List α} (h : SliceOf enc sz w v l) (hne : ∀ y ∈ l, enc y ≠ []) (hlo : ∀ q, S q → w.heap.size ≤ q) : l ≠ [] → ∀ k, v.ownBlock = some k → ¬ S k := by
  intro hl k hk hq
  obtain ⟨ao, cap, rfl, h1, h2, h3, h4⟩ := h
  cases l with
  | nil => exact hl rfl
  | cons y r =>
    obtain ⟨b, off, rfl, hr⟩ := h4 0 (by simp)
    have hy := hne y (by simp)
    have hne0 : 0 < (enc y).length := by cases he : enc y with | nil => exact absurd he hy | cons a t => simp
    have hc := hr 0 _ (List.getElem?_eq_getElem hne0)
    have hlt := World.block_lt_of_cell? w _ hc
    simp only [Value.ownBlock, Option.some.injEq] at hk
    have := hlo k hq
    simp at hlt
    omega
end
end Go.Proofs.Ytlbemlodcdgakaa
