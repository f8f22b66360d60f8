/- Slices that are read, whatever their elements: their cells; a struct that is loaded out of one; an append from one. Conditions: none. -/
import Derived.Test.YtfjhlckklgeokaaLib
import Derived.Deep.MidRow
import Derived.Laws.AppendOwnNone
namespace Go.Proofs.Ytfjhlckklgeokaa
open Go.RowKit

/-- The slice v reads as the list l: each element's cells are what enc says, sz of them. -/
def SliceOf {α : Type} (enc : α → List Value) (sz : Nat) (w : World) (v : Value) (l : List α) : Prop :=
  ∃ ao cap, v = .slice ao l.length cap ∧ l.length ≤ cap ∧ cap ≤ 9223372036854775807 ∧ (ao = none → l.length = 0 ∧ cap = 0) ∧
    ∀ j (h : j < l.length), ∃ b off, ao = some ⟨b, off, none⟩ ∧ w.rangeAt b (off + j * sz) (enc l[j])

theorem SliceOf.below {α : Type} {enc : α → List Value} {sz : Nat} {w w' : World} {v : Value} {l : List α} (h : SliceOf enc sz w v l) (hb : Below w.heap.size w w') : SliceOf enc sz w' v l := by
  obtain ⟨ao, cap, hv, h1, h2, h3, h4⟩ := h
  refine ⟨ao, cap, hv, h1, h2, h3, fun j hj => ?_⟩
  obtain ⟨b, off, e, hr⟩ := h4 j hj
  exact ⟨b, off, e, fun i u hu => cell_below hb (hr i u hu)⟩
theorem SliceOf.nil {α : Type} (enc : α → List Value) (sz : Nat) (w : World) : SliceOf enc sz w (.slice none 0 0) ([] : List α) :=
  ⟨none, 0, rfl, by simp, by omega, fun _ => ⟨rfl, rfl⟩, fun j hj => absurd hj (by simp)⟩
/-- One integer a cell. -/
def intE (k : IntKind) (n : Int) : List Value := [.int k n]
theorem SliceOf.ints {k : IntKind} {w : World} {a : Option Addr} {len cap : Nat} {zs : List Int} (h : IsRow k w a len cap zs) : SliceOf (intE k) 1 w (.slice a len cap) (zs.take len) ∧ ∀ n ∈ zs.take len, (Lit.int k n).wf = true := by
  rcases h with ⟨rfl, rfl, rfl, rfl⟩ | ⟨x, rfl, hl, hm, hz, hcell, hwz⟩
  · exact ⟨SliceOf.nil _ _ _, by simp⟩
  · have hlen : (zs.take len).length = len := by rw [List.length_take]; omega
    refine ⟨⟨some x, cap, by rw [hlen], by omega, by unfold maxLen at hm; omega, fun h => (by cases h), fun j hj => ?_⟩, fun n hn => hwz n (List.mem_of_mem_take hn)⟩
    obtain ⟨b, off, spot⟩ := x
    have hspot : spot = none := by
      have hc0 := hcell 0 (by omega)
      simpa [Addr.add] using World.cell?_spot hc0
    subst hspot
    refine ⟨b, off, rfl, fun i u hu => ?_⟩
    have hc := hcell j (by omega)
    rw [Addr.add_lit] at hc
    match i, hu with
    | 0, hu =>
      simp [intE] at hu; subst hu
      rw [Nat.mul_one, Nat.add_zero, hc]
      simp [List.getD, List.getElem?_eq_getElem (show j < zs.length by omega)]
/-- The cells of rows of one size, one behind the other. -/
theorem flat_at {α : Type} {enc : α → List Value} {size : Nat} : ∀ (l : List α) (q r : Nat) (hql : q < l.length), (∀ y ∈ l, (enc y).length = size) → r < size → (l.flatMap enc)[q * size + r]? = (enc l[q])[r]?
  | [], q, r, hql, _, _ => absurd hql (by simp)
  | y :: l, 0, r, _, hy, hr => by
    rw [List.flatMap_cons, Nat.zero_mul, Nat.zero_add, List.getElem?_append_left (by rw [hy y (by simp)]; exact hr)]; rfl
  | y :: l, q + 1, r, hql, hy, hr => by
    rw [List.flatMap_cons, List.getElem?_append_right (by rw [hy y (by simp), Nat.add_mul]; omega), hy y (by simp), show (q + 1) * size + r - size = q * size + r by rw [Nat.add_mul]; omega]
    exact flat_at l q r (by simpa using hql) (fun z hz => hy z (by simp [hz])) hr
theorem flat_len {α : Type} {enc : α → List Value} {size : Nat} : ∀ (l : List α), (∀ y ∈ l, (enc y).length = size) → (l.flatMap enc).length = l.length * size
  | [], _ => by simp
  | y :: l, hy => by rw [List.flatMap_cons, List.length_append, hy y (by simp), flat_len l (fun z hz => hy z (by simp [hz])), List.length_cons, Nat.add_mul]; omega
/-- A row of the call's own. -/
theorem SliceOf.own {α : Type} {enc : α → List Value} {sz : Nat} {w : World} {B : Nat} {e : TypeId} {v : Value} {l : List α} (h : w.ownsRow B e sz v l.length (l.flatMap enc)) (hsz : ∀ x ∈ l, (enc x).length = sz) : SliceOf enc sz w v l := by
  rcases h.2 with ⟨hv, hn⟩ | ⟨g, cap, cur, hv, hg, _, hnc, hcm, _⟩
  · obtain rfl : l = [] := List.eq_nil_of_length_eq_zero hn
    rw [hv]; exact SliceOf.nil _ _ _
  · refine ⟨some ⟨g, 0, none⟩, cap, hv, hnc, by unfold maxLen at hcm; omega, fun h => by (cases h), fun j hj => ⟨g, 0, rfl, fun i u hu => ?_⟩⟩
    have hi : i < sz := by rw [← hsz _ (List.getElem_mem hj)]; exact (List.getElem?_eq_some_iff.1 hu).1
    have hlt : j * sz + i < l.length * sz := by
      have : (j + 1) * sz ≤ l.length * sz := Nat.mul_le_mul_right _ hj
      rw [Nat.add_mul] at this; omega
    have hc := h.cells (g := g) (by rw [hv]; rfl) (j * sz + i) u
    rw [Addr.add_lit] at hc
    rw [Nat.zero_add]; rw [Nat.zero_add] at hc
    exact hc (by rw [flat_at l j i hj hsz hi]; exact hu)

theorem one_cell_at {w : World} {n : Nat} (h : w.heap.size = n) (v : Value) (T : TypeId) : ∀ (j : Nat) u, [v][j]? = some u → (w.alloc (.cells #[v] T)).cell? ((⟨n, 0, none⟩ : Addr).add j) = some u := by
  subst h; exact one_cell w v T
/-- A row that was just built of cells. -/
theorem row_built (w : World) (cur : Array Value) (e : TypeId) (sz n B : Nat) (hB : B ≤ w.heap.size) (hn : cur.size = n * sz) (hm : n ≤ maxLen) :
    (w.alloc (.cells cur e)).ownsRow B e sz (.slice (some ⟨w.heap.size, 0, none⟩) n n) n cur.toList :=
  ⟨by simpa using hn, .inr ⟨w.heap.size, n, cur, rfl, hB, heap_alloc_new w _, Nat.le_refl _, hm, hn, by rw [List.take_of_length_le (by simp [hn])]⟩⟩
/-- 'append(out, src...)', out the call's own, src any slice that reads as news: nil, empty or not. -/
theorem wpList_append_src {P : Program} {w : World} {ops : Array Oper} {rest : List Oper} {o : Oper} {a : Act} {Q : Exit → Act → World → Prop} (hgd : o.guard = none) (s x : Operand) (t : TypeId)
    (ho : o.op = .call { callee := .builtin .append, args := #[s, x], argTypes := #[t, t] })
    (base : Nat) (e : TypeId) (i : TypeInfo) (z : Value) (size bytes : Nat) (ht : P.underlying t = some (.slice e)) (hi : P.info? e = some i) (hz : i.zero = some z)
    (hsize : i.size = size) (hby : i.bytes = bytes) (hzs : z.cells.size = size) (hsz : 0 < size)
    (v : Value) (n : Nat) (xs : List Value) (hs : a.eval s = v) (hown : w.ownsRow base e size v n xs)
    {α : Type} (enc : α → List Value) (l : List α) (vs : Value) (hx : a.eval x = vs) (hsl : SliceOf enc size w vs l) (hen : ∀ y ∈ l, (enc y).length = size ∧ ∀ u ∈ enc y, u.oneCell' = true)
    (h63 : n + l.length ≤ maxLen) (hbytes : (n + l.length) * bytes ≤ 140737488355328) (hbase : base ≤ w.heap.size)
    (h : ∀ v' w', w'.ownsRow base e size v' (n + l.length) (xs ++ l.flatMap enc) → w.grownBy w' v.ownBlock → wpList P ops Q rest (a.put o.dst v') w') : wpList P ops Q (o :: rest) a w := by
  obtain ⟨ao, cap, rfl, _, _, hnil, hcell⟩ := hsl
  have hl := flat_len l (fun y hy => (hen y hy).1)
  cases ao with
  | none =>
    obtain ⟨e0, e1⟩ := hnil rfl
    obtain rfl : l = [] := List.eq_nil_of_length_eq_zero e0
    subst e1
    exact wpList_append_own_none hgd s x t ho base e i size ht hi v n xs hs hown (by simpa using hx) (h v w (by simpa using hown) (World.grownBy.refl _ _))
  | some ad =>
    refine wpList_append_own _ hgd s x t ho base e i z size bytes ht hi hz hsize hby hzs hsz v n xs hs hown ad l.length cap (l.flatMap enc) hx hl ?_ ?_ h63 hbytes hbase (fun v' w' h1 h2 _ => h v' w' h1 h2)
    · intro j u hu
      have hj : j < l.length * size := by rw [← hl]; exact (List.getElem?_eq_some_iff.1 hu).1
      have hq : j / size < l.length := Nat.div_lt_of_lt_mul (by rw [Nat.mul_comm]; exact hj)
      obtain ⟨b, off, hb, hr⟩ := hcell _ hq
      cases hb
      rw [Addr.add_lit]
      have hdm : j / size * size + j % size = j := by rw [Nat.mul_comm]; exact Nat.div_add_mod j size
      have hr' := hr (j % size) u
      rw [Nat.add_assoc, hdm] at hr'
      refine hr' ?_
      rw [← flat_at l (j / size) (j % size) hq (fun y hy => (hen y hy).1) (Nat.mod_lt _ hsz), hdm]; exact hu
    · intro u hu
      obtain ⟨y, hy, huy⟩ := List.mem_flatMap.1 hu
      exact (hen y hy).2 u huy
end Go.Proofs.Ytfjhlckklgeokaa
