/- Entries of a log that came in (over the texts of ops): a batch (client, request, operations), a timestamp; with how much they hold. Conditions: none. -/
import Derived.Test.YtlbemlodcdgakaaRlgOSh
import Derived.Test.YtlbemlodcdgakaaOpenSh
import Derived.Test.YtlbemlodcdgakaaStrsSh
namespace Go.Proofs.Ytlbemlodcdgakaa
open Go.RowKit Go.ChangeShapes Go.WideShapes Go.Deep Go.PlainAid

def opOk (o : OpT) : Prop := o.1.size ≤ 9223372036854775807 ∧ o.2.1.size ≤ 9223372036854775807
/-- An entry: client, request, the operations' slice as a value and as a list, timestamp. -/
structure EntT where
  client : Int
  req : Int
  ops : Value
  opl : List OpT
  ts : Int
instance : Inhabited EntT := ⟨⟨0, 0, .slice none 0 0, [], 0⟩⟩
def entE (e : EntT) : List Value := [.int .i64 e.client, .int .i64 e.req, e.ops, .int .u64 e.ts]
/-- What is known of an entry that came in. -/
structure EntOk (w : World) (e : EntT) : Prop where
  ops : SliceOf opE 3 w e.ops e.opl
  each : ∀ o ∈ e.opl, opOk o
  ts0 : 0 ≤ e.ts
  ts1 : e.ts < 18446744073709551616
  cl : (Lit.int .i64 e.client).wf = true
  rq : (Lit.int .i64 e.req).wf = true
theorem EntOk.below {w w' : World} {e : EntT} (h : EntOk w e) (hb : Below w.heap.size w w') : EntOk w' e := ⟨h.ops.below hb, h.each, h.ts0, h.ts1, h.cl, h.rq⟩
section
variable {H : Type} {enc : TypeId × Value → H} {w : World} {base : Nat} {spare : Nat → Bool} {held : Bool}
set_option maxRecDepth 10000 in
theorem elem_opS (n : Nat) (cs : List Value) (x : DataW H × List MemPlace) (h : DataW.trod enc Try.prog w base spare held n 201 cs = some x) : ∃ p : OpT, cs = opE p ∧ opOk p := by
  obtain ⟨hl, m, hf⟩ := trod_fields Try.underlying201 (by kernel_rfl) (by kernel_rfl) h
  have hl3 : cs.length = 3 := hl
  clear hl
  match cs, hl3 with
  | [c0, c1, c2], _ =>
    obtain ⟨_, y0, e0, h0⟩ := hf 0 _ rfl
    obtain ⟨_, y1, e1, h1⟩ := hf 1 _ rfl
    obtain ⟨_, y2, e2, h2⟩ := hf 2 _ rfl
    cases e0; cases e1; cases e2
    obtain ⟨a, e0, _, w0⟩ := DataW.trod_string Try.underlying9 h0
    obtain ⟨b, e1, _, w1⟩ := DataW.trod_string Try.underlying9 h1
    obtain ⟨c, e2, _⟩ := DataW.trod_bool Try.underlying4 h2
    simp only [List.cons.injEq, and_true] at e0 e1 e2
    subst e0 e1 e2
    exact ⟨(a, b, c), rfl, by unfold maxLen at w0; exact w0, by unfold maxLen at w1; exact w1⟩
end
section
variable {H : Type} {enc : TypeId × Value → H} {P : Program} {w : World} {base : Nat} {spare : Nat → Bool} {held : Bool}
theorem weights_all_le {R : Nat} {e : TypeId} {D : List (DataW H)} (h : ∀ n ∈ DataW.weightsAll P e D, n ≤ R) {d : DataW H} (hd : d ∈ D) : ∀ n ∈ d.weights P e, n ≤ R := fun n hn => h n (weights_all_mem hd n hn)
/-- A slice within the form's reach, each element of which is known together with its reading's reach. -/
theorem open_rows_sz {α : Type} [Inhabited α] {t e : TypeId} {fuel : Nat} {cs : List Value} {x : DataW H × List MemPlace} (E : α → List Value) (sz : Nat) (good : α → Prop)
    (ht : P.underlying t = some (.slice e)) (hC : P.cellsOf e = sz) (hpos : 0 < sz) (hw : ∀ n ∈ x.1.weights P t, n ≤ reachBytes)
    (elem : ∀ n cs y, DataW.trod enc P w base spare held n e cs = some y → (∀ n ∈ y.1.weights P e, n ≤ reachBytes) → ∃ a : α, cs = E a ∧ good a)
    (h : DataW.trod enc P w base spare held fuel t cs = some x) :
    ∃ (l : List α) (v : Value), cs = [v] ∧ SliceOf E sz w v l ∧ (∀ a ∈ l, good a) ∧ l.length * P.bytesOf e ≤ reachBytes := by
  rcases open_slice ht h with ⟨hcs, _⟩ | ⟨a, len, cap, m, n, D, Pl, hcs, _, hl, hm, hmm, hx, hi⟩
  · exact ⟨[], _, hcs, SliceOf.nil _ _ _, by simp, by simp⟩
  · have hlm : len ≤ m := by rw [hmm]; split <;> omega
    rw [hC] at hi
    subst hx
    have hw1 : ∀ n, n ∈ DataW.weights (H := H) P t (.slice ((List.range len).map D) ((List.range (m - len)).map fun j => D (len + j))) → n ≤ reachBytes := hw
    unfold DataW.weights at hw1
    rw [ht] at hw1
    simp only [List.mem_cons, List.mem_append, List.length_map, List.length_range] at hw1
    obtain ⟨f, hf⟩ := choose_lt (α := α) (n := len) (p := fun i y => (∀ j u, (E y)[j]? = some u → w.cell? ((a.add (i * sz)).add j) = some u) ∧ good y ∧ (E y).length = sz) (fun i hilt => by
      obtain ⟨cs', hc, ht'⟩ := hi i (by omega)
      obtain ⟨y, rfl, hg⟩ := elem n cs' _ ht' (weights_all_le (D := (List.range len).map D) (fun n hn => hw1 n (.inr (.inl hn))) (List.mem_map.2 ⟨i, List.mem_range.2 hilt, rfl⟩))
      obtain ⟨_, hcl, hat⟩ := World.cells?_some hc
      exact ⟨y, fun j u hu => by
        have hj : j < (E y).length := (List.getElem?_eq_some_iff.1 hu).1
        rw [hat j (by omega), hu], hg, hcl⟩)
    refine ⟨(List.range len).map f, _, hcs, ⟨some a, cap, by simp, by simpa using hl, by unfold maxLen at hm; omega, fun h => (by cases h), fun j hj => ?_⟩, fun y hy => ?_, ?_⟩
    · have hj' : j < len := by simpa using hj
      obtain ⟨b, off, spot⟩ := a
      have hspot : spot = none := by
        obtain ⟨h1, _, h3⟩ := hf 0 (by omega)
        have hc0 := h1 0 _ (List.getElem?_eq_getElem (show 0 < (E (f 0)).length by omega))
        simpa [Addr.add] using World.cell?_spot hc0
      subst hspot
      refine ⟨b, off, rfl, fun i u hu => ?_⟩
      have := (hf j hj').1 i u (by simpa using hu)
      rw [Addr.add_lit, Addr.add_lit] at this
      exact this
    · obtain ⟨i, hi', rfl⟩ := List.mem_map.1 hy
      exact (hf i (List.mem_range.1 hi')).2.1
    · have h0 := hw1 _ (.inl rfl)
      rw [List.length_map, List.length_range]
      exact Nat.le_trans (Nat.mul_le_mul_right _ (by omega)) h0
end
section
variable {H : Type} {enc : TypeId × Value → H} {w : World} {base : Nat} {spare : Nat → Bool} {held : Bool}
/-- An entry that came in, and how many operations it can have. -/
def EntOkS (w : World) (e : EntT) : Prop := EntOk w e ∧ e.opl.length ≤ 3518437208883
set_option maxRecDepth 10000 in
theorem elem_ent_sz (n : Nat) (cs : List Value) (x : DataW H × List MemPlace) (h : DataW.trod enc Try.prog w base spare held n 38 cs = some x) (hw : ∀ n ∈ x.1.weights Try.prog 38, n ≤ reachBytes) : ∃ e, cs = entE e ∧ EntOkS w e := by
  obtain ⟨xs, m, _, hx, hl, hxl, hf⟩ := DataW.trod_struct Try.underlying38 h
  have hl4 : cs.length = 4 := hl
  have hx2 : xs.length = 2 := hxl
  clear hl hxl
  match cs, hl4, xs, hx2 with
  | [c0, c1, c2, c3], _, [y0, y1], _ =>
    have h0' : DataW.trod enc Try.prog w base spare held m 36 [c0, c1, c2] = some y0 := hf 0 _ rfl
    have h1' : DataW.trod enc Try.prog w base spare held m 29 [c3] = some y1 := hf 1 _ rfl
    obtain ⟨ts, e3, _, w3⟩ := DataW.trod_int Try.underlying29 h1'
    have hw0 : ∀ n ∈ y0.1.weights Try.prog 36, n ≤ reachBytes := fun n hn => hw n (by
      have e1 : x.1 = .agg [y0.1, y1.1] := by rw [hx]; rfl
      rw [e1]
      unfold DataW.weights
      rw [Try.underlying38]
      exact DataW.weights_mem_each (j := 0) rfl rfl n hn)
    obtain ⟨zs, m2, _, hz, hzl0, hzl, hg⟩ := DataW.trod_struct Try.underlying36 h0'
    have hz3 : zs.length = 3 := hzl
    match zs, hz3 with
    | [z0, z1, z2], _ =>
      have g0 : DataW.trod enc Try.prog w base spare held m2 3 [c0] = some z0 := hg 0 _ rfl
      have g1 : DataW.trod enc Try.prog w base spare held m2 3 [c1] = some z1 := hg 1 _ rfl
      have g2 : DataW.trod enc Try.prog w base spare held m2 34 [c2] = some z2 := hg 2 _ rfl
      have hw2 : ∀ n ∈ z2.1.weights Try.prog 34, n ≤ reachBytes := fun n hn => hw0 n (by
        have e1 : y0.1 = .agg [z0.1, z1.1, z2.1] := by rw [hz]; rfl
        rw [e1]
        unfold DataW.weights
        rw [Try.underlying36]
        exact DataW.weights_mem_each (j := 2) rfl rfl n hn)
      obtain ⟨a, e0, _, w0⟩ := DataW.trod_int Try.underlying3 g0
      obtain ⟨b, e1, _, w1⟩ := DataW.trod_int Try.underlying3 g1
      obtain ⟨l, v, e2, hs, hall, hsz⟩ := open_rows_sz opE 3 opOk Try.underlying34 (by kernel_rfl) (by omega) hw2 (fun n cs y h _ => elem_opS n cs y h) g2
      rw [show Try.prog.bytesOf 201 = 40 by kernel_rfl] at hsz
      simp only [List.cons.injEq, and_true] at e0 e1 e2 e3
      subst e0 e1 e2 e3
      have := wf_u64 w3
      exact ⟨⟨a, b, c2, l, ts⟩, rfl, ⟨hs, hall, this.1, this.2, w0, w1⟩, by unfold reachBytes at hsz; show l.length ≤ _; omega⟩
theorem open_ents_sz {fuel : Nat} {cs : List Value} {x : DataW H × List MemPlace} (hw : ∀ n ∈ x.1.weights Try.prog 69, n ≤ reachBytes) (h : DataW.trod enc Try.prog w base spare held fuel 69 cs = some x) :
    ∃ (l : List EntT) (v : Value), cs = [v] ∧ SliceOf entE 4 w v l ∧ (∀ p ∈ l, EntOkS w p) ∧ l.length ≤ 2932031007403 := by
  obtain ⟨l, v, h1, h2, h3, h4⟩ := open_rows_sz entE 4 (EntOkS w) Try.underlying69 (by kernel_rfl) (by omega) hw elem_ent_sz h
  rw [show Try.prog.bytesOf 38 = 48 by kernel_rfl] at h4
  exact ⟨l, v, h1, h2, h3, by unfold reachBytes at h4; omega⟩
end

end Go.Proofs.Ytlbemlodcdgakaa
