/- Package conf and the document's own: places, who stands ahead and behind. Conditions: none. -/
import Derived.Test.YteioaaegooebpaaConfA
import Derived.Deep.RegionHeld3
namespace Go.Proofs.Yteioaaegooebpaa
open Go.RowKit Go.PlainAid

/-- The Id at a place. -/
def idAtI (l : List MemT) (i : Int) : Int := if 0 ≤ i ∧ i < l.length then (l.getD i.toNat (0, 0)).1 else -1
theorem idAtI_at {l : List MemT} {k : Nat} (h : k < l.length) : idAtI l k = l[k].1 := by
  unfold idAtI; rw [if_pos (by omega), Int.toNat_natCast]; simp [List.getD, h]
theorem idAtI_no {l : List MemT} {i : Int} (h : i < 0 ∨ (l.length : Int) ≤ i) : idAtI l i = -1 := by
  unfold idAtI; rw [if_neg (by omega)]
def aheadI (l : List MemT) (m : MemT) : Int := idAtI l (fnd (· == m) l - 1)
def behindI (l : List MemT) (m : MemT) : Int := if fnd (· == m) l < 0 then -1 else idAtI l (fnd (· == m) l + 1)
-- left out here







































-- left out here







































def HA (n : Nat) (c : ConfT) (m : MemT) (w' : World) : Prop := w'.cell? ⟨n, 0, none⟩ = some (.int .i64 c.ep) ∧ w'.cell? ⟨n, 1, none⟩ = some c.mv ∧ w'.cell? ⟨n, 2, none⟩ = some (.int .u64 c.fl) ∧ w'.cell? ⟨n + 1, 0, none⟩ = some (.int .i64 m.1) ∧ w'.cell? ⟨n + 1, 1, none⟩ = some (.int .i64 m.2)
theorem HA.step {n : Nat} {c : ConfT} {m : MemT} {w1 w2 : World} (h : w1.cell? ⟨n, 0, none⟩ = some (.int .i64 c.ep) ∧ w1.cell? ⟨n, 1, none⟩ = some c.mv ∧ w1.cell? ⟨n, 2, none⟩ = some (.int .u64 c.fl) ∧ w1.cell? ⟨n + 1, 0, none⟩ = some (.int .i64 m.1) ∧ w1.cell? ⟨n + 1, 1, none⟩ = some (.int .i64 m.2)) (hb : Below w1.heap.size w1 w2) : HA n c m w2 :=
  ⟨cell_below hb h.1, cell_below hb h.2.1, cell_below hb h.2.2.1, cell_below hb h.2.2.2.1, cell_below hb h.2.2.2.2⟩
-- left out here















-- left out here




















-- left out here















-- left out here




















-- left out here































































end Go.Proofs.Yteioaaegooebpaa
