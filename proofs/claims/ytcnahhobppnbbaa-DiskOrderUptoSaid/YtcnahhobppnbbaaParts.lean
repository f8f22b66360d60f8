/- Parts that came in: a kind, a number, a big number, a text, a flag. Conditions: none. -/
import Derived.Test.YtcnahhobppnbbaaOpen
import Derived.Test.YtcnahhobppnbbaaBulk
import Derived.Test.YtcnahhobppnbbaaLib
namespace Go.Proofs.Ytcnahhobppnbbaa
open Go.RowKit Go.ChangeShapes Go.WideShapes Go.Deep

structure PartT where
  k : Int
  n : Int
  b : Int
  s : ByteArray
  f : Bool
instance : Inhabited PartT := ⟨⟨0, 0, 0, ⟨#[]⟩, false⟩⟩
def partE (p : PartT) : List Value := [.int .i64 p.k, .int .i64 p.n, .int .u64 p.b, .string p.s, .bool p.f]
structure PartOk (m : Nat) (p : PartT) : Prop where
  n0 : -9223372036854775808 ≤ p.n
  n1 : p.n ≤ 9223372036854775807
  b0 : 0 ≤ p.b
  b1 : p.b < 18446744073709551616
  s1 : p.s.size ≤ m
section
variable {H : Type} {enc : TypeId × Value → H} {P : Program} {w : World} {base : Nat} {spare : Nat → Bool} {held : Bool}
/-- A slice, each element of which is known together with its reading's bulk. -/
theorem open_rows_bulk {α : Type} [Inhabited α] {t e : TypeId} {fuel : Nat} {cs : List Value} {x : DataW H × List MemPlace} (E : α → List Value) (sz : Nat) (good : Nat → α → Prop) (mono : ∀ m k a, m ≤ k → good m a → good k a)
    (ht : P.underlying t = some (.slice e)) (hC : P.cellsOf e = sz) (hpos : 0 < sz)
    (elem : ∀ n cs x, DataW.trod enc P w base spare held n e cs = some x → ∃ a : α, cs = E a ∧ good (Rows.uptoBulk x.1) a)
    (h : DataW.trod enc P w base spare held fuel t cs = some x) :
    ∃ (l : List α) (v : Value), cs = [v] ∧ SliceOf E sz w v l ∧ ∀ a ∈ l, good (Rows.uptoBulk x.1) a := by
  rcases open_slice ht h with ⟨hcs, _⟩ | ⟨a, len, cap, m, n, D, Pl, hcs, _, hl, hm, hmm, hx, hi⟩
  · exact ⟨[], _, hcs, SliceOf.nil _ _ _, by simp⟩
  · have hlm : len ≤ m := by rw [hmm]; split <;> omega
    rw [hC] at hi
    obtain ⟨f, hf⟩ := choose_lt (α := α) (n := len) (p := fun i y => (∀ j u, (E y)[j]? = some u → w.cell? ((a.add (i * sz)).add j) = some u) ∧ good (Rows.uptoBulk (D i)) y ∧ (E y).length = sz) (fun i hilt => by
      obtain ⟨cs', hc, ht'⟩ := hi i (by omega)
      obtain ⟨y, rfl, hg⟩ := elem n cs' _ ht'
      obtain ⟨_, hcl, hat⟩ := World.cells?_some hc
      exact ⟨y, fun j u hu => by
        have hj : j < (E y).length := (List.getElem?_eq_some_iff.1 hu).1
        rw [hat j (by omega), hu], hg, hcl⟩)
    refine ⟨(List.range len).map f, _, hcs, ⟨some a, cap, by simp, by simpa using hl, by unfold maxLen at hm; omega, fun h => (by cases h), fun j hj => ?_⟩, fun y hy => ?_⟩
    · have hj' : j < len := by simpa using hj
      obtain ⟨b, off, spot⟩ := a
      have hspot : spot = none := by
        obtain ⟨h1, _, h3⟩ := hf 0 (by omega)
        have hc0 := h1 0 _ (List.getElem?_eq_getElem (show 0 < (E (f 0)).length by omega))
        simpa [Addr.add] using World.cell?_spot hc0
      subst hspot
      refine ⟨b, off, rfl, fun i u hu => ?_⟩
      have := (hf j hj').1 i u (by simpa using hu)
      rw [Addr.add_lit, Addr.add_lit] at this
      exact this
    · obtain ⟨i, hi', rfl⟩ := List.mem_map.1 hy
      have hil := List.mem_range.1 hi'
      refine mono _ _ _ ?_ (hf i hil).2.1
      subst hx
      have h1 : Rows.uptoBulk (D i) ≤ Rows.uptoBulkAll ((List.range len).map D) := bulk_mem (j := i) (by simp [hil])
      have e : Rows.uptoBulk (H := H) (.slice ((List.range len).map D) ((List.range (m - len)).map fun j => D (len + j))) = Rows.uptoBulkAll ((List.range len).map D) + Rows.uptoBulkAll ((List.range (m - len)).map fun j => D (len + j)) + 1 := by simp [Rows.uptoBulk]
      show _ ≤ Rows.uptoBulk (H := H) (.slice ((List.range len).map D) ((List.range (m - len)).map fun j => D (len + j)))
      rw [e]; omega
-- left out here































theorem PartOk.mono {m k : Nat} {p : PartT} (h : m ≤ k) (hp : PartOk m p) : PartOk k p := ⟨hp.n0, hp.n1, hp.b0, hp.b1, Nat.le_trans hp.s1 h⟩
-- left out here


end
end Go.Proofs.Ytcnahhobppnbbaa
