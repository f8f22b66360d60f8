/- Package rlog: one that nobody made; the log as one object. Conditions: at most 100 entries, 20 operations each. -/
import Derived.Test.YtlbemlodcdgakaaRlgDSh
import Derived.Test.YtlbemlodcdgakaaGoSh
namespace Go.Proofs.Ytlbemlodcdgakaa
open Go.RowKit Go.PlainAid
set_option linter.unusedVariables false

def TyL (w : World) (k : Nat) : Prop := (∃ cs T fr, w.heap[k]? = some (.cells cs T fr) ∧ (T = 172 ∨ T = 38 ∨ T = 201 ∨ T = 136)) ∨ ∃ es cl, w.heap[k]? = some (.map es cl)
/-- A type that is none of a log's parts. -/
def offL (T : TypeId) : Prop := T ≠ 172 ∧ T ≠ 38 ∧ T ≠ 201 ∧ T ≠ 136
instance (T : TypeId) : Decidable (offL T) := by unfold offL; infer_instance
theorem not_tyL {w : World} {N : Nat} {T : TypeId} {cs : Array Value} (hb : w.heap[N]? = some (.cells cs T (0, 0))) (hT : offL T) : ¬ TyL w N := by
  rintro (⟨cs', T', fr, h1, h2⟩ | ⟨es, cl, h1⟩)
  · rw [hb] at h1
    simp only [Option.some.injEq, Obj.cells.injEq] at h1
    obtain ⟨_, rfl, _⟩ := h1
    rcases h2 with q | q | q | q
    · exact hT.1 q
    · exact hT.2.1 q
    · exact hT.2.2.1 q
    · exact hT.2.2.2 q
  · rw [hb] at h1; cases h1
/-- Blocks that were there, each of a type that a log's parts have. -/
def OfL (S : Nat → Prop) (w : World) : Prop := ∀ q, S q → q < w.heap.size ∧ TyL w q
/-- A log that was made: its parts are in S. -/
def LObj (S : Nat → Prop) (w : World) (b : Nat) (L : List EntT) : Prop := OfL S w ∧ ∃ M u, LgP S w.heap.size w b M u L
section
variable {S S' D : Nat → Prop} {n : Nat} {w x : World} {b M N : Nat} {u v : Value} {L : List EntT} {cs : Array Value} {T e : TypeId} {B sz k : Nat} {xs : List Value}
theorem ins_in (h : InS S w.heap.size v) (hr : w.ownsRow B e sz v k xs) : ∀ i, v.ownBlock = some i → S i := fun i hi => by
  rcases h i hi with q | q
  · exact q
  · have := (hr.lt i hi).2; omega
/-- All that is the log's is as it was: so is the log. -/
theorem LObj.keep (h : LObj S w b L) (hs : w.heap.size ≤ x.heap.size) (hk : ∀ q, S q → x.heap[q]? = w.heap[q]?) : LObj S x b L := by
  obtain ⟨hS, M, u, h⟩ := h
  have hb : S b := by
    rcases h.sb with q | q
    · exact q
    · have := h.blk.lt; omega
  have hty : OfL S x := fun q hq => ⟨by have := (hS q hq).1; omega, by
    have h1 := (hS q hq).2
    unfold TyL at h1 ⊢
    rw [hk q hq]; exact h1⟩
  have up : ∀ {v : Value}, (∀ i, v.ownBlock = some i → S i) → InS S x.heap.size v := fun hv i hi => .inl (hv i hi)
  refine ⟨hty, M, u, ?_, ?_, row_sameL h.row (fun i hi => hk i (ins_in h.su h.row i hi)), fun e he => ⟨row_sameL (h.ents e he).row (fun i hi => hk i (ins_in (h.ents e he).ins (h.ents e he).row i hi)), up (ins_in (h.ents e he).ins (h.ents e he).row), (h.ents e he).len, (h.ents e he).each, (h.ents e he).ts0, (h.ents e he).ts1, (h.ents e he).cl, (h.ents e he).rq⟩, .inl hb, ?_, up (ins_in h.su h.row), h.uq, h.len⟩
  · have hB := h.blk
    unfold Blk at hB ⊢
    rw [hk b hb]; exact hB
  · obtain ⟨c, hm⟩ := h.map
    have hM : S M := by
      rcases h.sM with q | q
      · exact q
      · have := hm.lt; omega
    obtain ⟨l, ⟨es, cl, h1, h2⟩, h3⟩ := hm
    exact ⟨c, l, ⟨es, cl, by rw [hk M hM]; exact h1, h2⟩, h3⟩
  · obtain ⟨c, hm⟩ := h.map
    rcases h.sM with q | q
    · exact .inl q
    · have := hm.lt; omega
theorem LObj.gr {row : Option Nat} (h : LObj S w b L) (hg : w.grownBy x row) (hr : ∀ k, row = some k → ¬ S k) : LObj S x b L :=
  h.keep hg.size fun k hk => hg.block k (h.1 k hk).1 (fun e => hr k e.symm hk)
theorem LObj.new (h : LObj S w b L) (hg : w.grownBy x none) : LObj S x b L := h.gr hg (fun k e => by cases e)
theorem LObj.call (h : LObj S w b L) (hb : Below w.heap.size w x) : LObj S x b L := h.new (below_grown hb)
theorem LObj.at (h : LObj S w b L) (hb : Blk w N T cs) (hT : offL T) (hg : w.grownBy x (some N)) : LObj S x b L := h.gr hg (fun k e => by cases e; exact fun hS => not_tyL hb hT (h.1 N hS).2)
theorem LObj.row (h : LObj S w b L) (hr : w.ownsRow B e sz v k xs) (hT : offL e) (hg : w.grownBy x v.ownBlock) : LObj S x b L :=
  h.gr hg (fun k e hS => by obtain ⟨cs, hc⟩ := row_block hr e; exact not_tyL hc hT (h.1 k hS).2)
theorem LObj.but (h : LObj S w b L) (hd : ∀ q, S q → D q → False) (hb : But D w x) : LObj S x b L := h.keep hb.size fun k hk => hb.block k (h.1 k hk).1 (fun q => hd k hk q)
end
end Go.Proofs.Ytlbemlodcdgakaa
