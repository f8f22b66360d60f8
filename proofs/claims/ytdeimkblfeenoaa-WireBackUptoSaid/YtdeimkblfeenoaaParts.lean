/- Parts that came in: a kind, a number, a big number, a text, a flag. Conditions: none. -/
import Derived.Test.YtdeimkblfeenoaaOpen
import Derived.Test.YtdeimkblfeenoaaBulk
import Derived.Test.YtdeimkblfeenoaaLib
namespace Go.Proofs.Ytdeimkblfeenoaa
open Go.RowKit Go.ChangeShapes Go.WideShapes Go.Deep

structure PartT where
  k : Int
  n : Int
  b : Int
  s : ByteArray
  f : Bool
instance : Inhabited PartT := ⟨⟨0, 0, 0, ⟨#[]⟩, false⟩⟩
def partE (p : PartT) : List Value := [.int .i64 p.k, .int .i64 p.n, .int .u64 p.b, .string p.s, .bool p.f]
structure PartOk (m : Nat) (p : PartT) : Prop where
  n0 : -9223372036854775808 ≤ p.n
  n1 : p.n ≤ 9223372036854775807
  b0 : 0 ≤ p.b
  b1 : p.b < 18446744073709551616
  s1 : p.s.size ≤ m
section
variable {H : Type} {enc : TypeId × Value → H} {P : Program} {w : World} {base : Nat} {spare : Nat → Bool} {held : Bool}
/-- A slice, each element of which is known together with its reading's bulk. -/
theorem open_rows_bulk {α : Type} [Inhabited α] {t e : TypeId} {fuel : Nat} {cs : List Value} {x : DataW H × List MemPlace} (E : α → List Value) (sz : Nat) (good : Nat → α → Prop) (mono : ∀ m k a, m ≤ k → good m a → good k a)
    (ht : P.underlying t = some (.slice e)) (hC : P.cellsOf e = sz) (hpos : 0 < sz)
    (elem : ∀ n cs x, DataW.trod enc P w base spare held n e cs = some x → ∃ a : α, cs = E a ∧ good (Rows.uptoBulk x.1) a)
    (h : DataW.trod enc P w base spare held fuel t cs = some x) :
    ∃ (l : List α) (v : Value), cs = [v] ∧ SliceOf E sz w v l ∧ ∀ a ∈ l, good (Rows.uptoBulk x.1) a := by
  rcases open_slice ht h with ⟨hcs, _⟩ | ⟨a, len, cap, m, n, D, Pl, hcs, _, hl, hm, hmm, hx, hi⟩
  · exact ⟨[], _, hcs, SliceOf.nil _ _ _, by simp⟩
  · have hlm : len ≤ m := by rw [hmm]; split <;> omega
    rw [hC] at hi
    obtain ⟨f, hf⟩ := choose_lt (α := α) (n := len) (p := fun i y => (∀ j u, (E y)[j]? = some u → w.cell? ((a.add (i * sz)).add j) = some u) ∧ good (Rows.uptoBulk (D i)) y ∧ (E y).length = sz) (fun i hilt => by
      obtain ⟨cs', hc, ht'⟩ := hi i (by omega)
      obtain ⟨y, rfl, hg⟩ := elem n cs' _ ht'
      obtain ⟨_, hcl, hat⟩ := World.cells?_some hc
      exact ⟨y, fun j u hu => by
        have hj : j < (E y).length := (List.getElem?_eq_some_iff.1 hu).1
        rw [hat j (by omega), hu], hg, hcl⟩)
    refine ⟨(List.range len).map f, _, hcs, ⟨some a, cap, by simp, by simpa using hl, by unfold maxLen at hm; omega, fun h => (by cases h), fun j hj => ?_⟩, fun y hy => ?_⟩
    · have hj' : j < len := by simpa using hj
      obtain ⟨b, off, spot⟩ := a
      have hspot : spot = none := by
        obtain ⟨h1, _, h3⟩ := hf 0 (by omega)
        have hc0 := h1 0 _ (List.getElem?_eq_getElem (show 0 < (E (f 0)).length by omega))
        simpa [Addr.add] using World.cell?_spot hc0
      subst hspot
      refine ⟨b, off, rfl, fun i u hu => ?_⟩
      have := (hf j hj').1 i u (by simpa using hu)
      rw [Addr.add_lit, Addr.add_lit] at this
      exact this
    · obtain ⟨i, hi', rfl⟩ := List.mem_map.1 hy
      have hil := List.mem_range.1 hi'
      refine mono _ _ _ ?_ (hf i hil).2.1
      subst hx
      have h1 : Rows.uptoBulk (D i) ≤ Rows.uptoBulkAll ((List.range len).map D) := bulk_mem (j := i) (by simp [hil])
      have e : Rows.uptoBulk (H := H) (.slice ((List.range len).map D) ((List.range (m - len)).map fun j => D (len + j))) = Rows.uptoBulkAll ((List.range len).map D) + Rows.uptoBulkAll ((List.range (m - len)).map fun j => D (len + j)) + 1 := by simp [Rows.uptoBulk]
      show _ ≤ Rows.uptoBulk (H := H) (.slice ((List.range len).map D) ((List.range (m - len)).map fun j => D (len + j)))
      rw [e]; omega
set_option maxRecDepth 10000 in
theorem elem_part (n : Nat) (cs : List Value) (x : DataW H × List MemPlace) (h : DataW.trod enc Try.prog w base spare held n 30 cs = some x) : ∃ p, cs = partE p ∧ PartOk (Rows.uptoBulk x.1) p := by
  obtain ⟨xs, m, _, hx, hl, hxl, hf⟩ := DataW.trod_struct Try.underlying30 h
  have hl5 : cs.length = 5 := hl
  have hx5 : xs.length = 5 := hxl
  clear hl hxl
  match cs, hl5, xs, hx5 with
  | [c0, c1, c2, c3, c4], _, [x0, x1, x2, x3, x4], _ =>
    have h0 := hf 0 _ rfl
    have h1 := hf 1 _ rfl
    have h2 := hf 2 _ rfl
    have h3 := hf 3 _ rfl
    have h4 := hf 4 _ rfl
    have h0' : DataW.trod enc Try.prog w base spare held m 3 [c0] = some x0 := h0
    have h1' : DataW.trod enc Try.prog w base spare held m 3 [c1] = some x1 := h1
    have h2' : DataW.trod enc Try.prog w base spare held m 28 [c2] = some x2 := h2
    have h3' : DataW.trod enc Try.prog w base spare held m 9 [c3] = some x3 := h3
    have h4' : DataW.trod enc Try.prog w base spare held m 4 [c4] = some x4 := h4
    obtain ⟨a, e0, _, w0⟩ := DataW.trod_int Try.underlying3 h0'
    obtain ⟨b, e1, _, w1⟩ := DataW.trod_int Try.underlying3 h1'
    obtain ⟨c, e2, _, w2⟩ := DataW.trod_int Try.underlying28 h2'
    obtain ⟨d, e3, y3, w3⟩ := DataW.trod_string Try.underlying9 h3'
    obtain ⟨f, e4, _⟩ := DataW.trod_bool Try.underlying4 h4'
    simp only [List.cons.injEq, and_true] at e0 e1 e2 e3 e4
    subst e0 e1 e2 e3 e4
    have k1 := wf_i64 w1; have k2 := wf_u64 w2
    refine ⟨⟨a, b, c, d, f⟩, rfl, ⟨k1.1, k1.2, k2.1, k2.2, ?_⟩⟩
    rw [hx]
    simp only [List.map_cons, List.map_nil]
    rw [y3]
    simp [Rows.uptoBulk, Rows.uptoBulkAll]
    omega
theorem PartOk.mono {m k : Nat} {p : PartT} (h : m ≤ k) (hp : PartOk m p) : PartOk k p := ⟨hp.n0, hp.n1, hp.b0, hp.b1, Nat.le_trans hp.s1 h⟩
theorem open_parts {fuel : Nat} {cs : List Value} {x : DataW H × List MemPlace} (h : DataW.trod enc Try.prog w base spare held fuel 22 cs = some x) :
    ∃ (l : List PartT) (v : Value), cs = [v] ∧ SliceOf partE 5 w v l ∧ ∀ p ∈ l, PartOk (Rows.uptoBulk x.1) p :=
  open_rows_bulk partE 5 PartOk (fun _ _ _ h => PartOk.mono h) Try.underlying22 (by kernel_rfl) (by omega) elem_part h
end
end Go.Proofs.Ytdeimkblfeenoaa
