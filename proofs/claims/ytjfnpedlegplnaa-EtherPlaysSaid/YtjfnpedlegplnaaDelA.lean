/- A row of the call's own out of which an element is struck. Conditions: none. -/
import Derived.Test.YtjfnpedlegplnaaApp
import Derived.Lib.LazyBuf
import Derived.Shelf.RegionOpenPlain
import Derived.RangeFuncBox
namespace Go.Proofs.Ytjfnpedlegplnaa
open Go.RowKit Go.PlainAid Go.Shelf

theorem own_rowIs {w : World} {base g n cap sz : Nat} {e : TypeId} {xs : List Value} (h : w.ownsRow base e sz (.slice (some ⟨g, 0, none⟩) n cap) n xs) :
    ∃ f, w.rowIs g e (cap * sz) f ∧ (∀ j, j < n * sz → xs[j]? = some (f j)) ∧ base ≤ g ∧ n ≤ cap ∧ cap ≤ maxLen := by
  obtain ⟨hl, h2⟩ := h
  rcases h2 with ⟨h2, _⟩ | ⟨g', cap', cur, hv, hg, hb, hn, hc, hsz, ht⟩
  · cases h2
  · cases hv
    refine ⟨fun j => cur[j]?.getD default, ⟨cur, hb, hsz, fun i hi => ?_⟩, fun j hj => ?_, hg, hn, hc⟩
    · show _ = some (cur[i]?.getD default)
      rw [Array.getElem?_eq_getElem (by omega)]; rfl
    · have hjc : j < cur.size := by rw [hsz]; exact Nat.lt_of_lt_of_le hj (Nat.mul_le_mul_right _ hn)
      show _ = some (cur[j]?.getD default)
      rw [← ht, List.getElem?_take_of_lt hj, Array.getElem?_toList, Array.getElem?_eq_getElem hjc]; rfl
theorem rowIs_own {w : World} {base g n cap sz : Nat} {e : TypeId} {xs : List Value} {f : Nat → Value} (h : w.rowIs g e (cap * sz) f) (hl : xs.length = n * sz) (hx : ∀ j, j < n * sz → xs[j]? = some (f j)) (hg : base ≤ g) (hn : n ≤ cap) (hc : cap ≤ maxLen) :
    w.ownsRow base e sz (.slice (some ⟨g, 0, none⟩) n cap) n xs := by
  obtain ⟨cur, hb, hsz, hf⟩ := h
  refine ⟨hl, .inr ⟨g, cap, cur, rfl, hg, hb, hn, hc, hsz, ?_⟩⟩
  have hle : n * sz ≤ cap * sz := Nat.mul_le_mul_right _ hn
  apply List.ext_getElem?
  intro j
  by_cases hj : j < n * sz
  · rw [List.getElem?_take_of_lt hj, Array.getElem?_toList, hf j (by omega), hx j hj]
  · rw [List.getElem?_take_eq_none (by omega), List.getElem?_eq_none (by omega)]
theorem rowIs_cell {w : World} {g n : Nat} {e : TypeId} {f : Nat → Value} (h : w.rowIs g e n f) {j : Nat} (hj : j < n) : w.cell? ⟨g, j, none⟩ = some (f j) ∧ w.frozen? ⟨g, j, none⟩ = false := by
  obtain ⟨cur, hb, hsz, hf⟩ := h
  exact ⟨by simp [World.cell?, hb, hf j hj], by simp [World.frozen?, hb]⟩
theorem flatE_len {α : Type} {enc : α → List Value} {size : Nat} (l : List α) (h : ∀ y, (enc y).length = size) : (l.flatMap enc).length = l.length * size := flat_len l (fun y _ => h y)
/-- What is left when the element i is struck: the row as it lies. -/
theorem struck {α : Type} {enc : α → List Value} {sz : Nat} (hE : ∀ y, (enc y).length = sz) {l : List α} {i p n : Nat} (hn : l.length = n) (hi : i < n) (hp : p + 1 = n) {f : Nat → Value} (hf : ∀ j, j < n * sz → (l.flatMap enc)[j]? = some (f j)) (zs : List Value) :
    ∀ j, j < p * sz → ((l.take i ++ l.drop (i + 1)).flatMap enc)[j]? = some ((fun j => if p * sz ≤ j ∧ j < p * sz + zs.length then zs[j - p * sz]?.getD default else (if i * sz ≤ j ∧ j < i * sz + ((l.drop (i + 1)).flatMap enc).length then ((l.drop (i + 1)).flatMap enc)[j - i * sz]?.getD default else f j)) j) := by
  intro j hj
  have hpn : n * sz = p * sz + sz := by rw [← hp, Nat.add_mul, Nat.one_mul]
  have hld : ((l.drop (i + 1)).flatMap enc).length = (n - (i + 1)) * sz := by rw [flatE_len _ hE, List.length_drop, hn]
  have hlt : ((l.take i).flatMap enc).length = i * sz := by rw [flatE_len _ hE, List.length_take, hn, Nat.min_eq_left (by omega)]
  have hsum : i * sz + (n - (i + 1)) * sz = p * sz := by rw [← Nat.add_mul]; congr 1; omega
  dsimp only
  rw [if_neg (by omega), List.flatMap_append]
  by_cases h : i * sz ≤ j
  · rw [List.getElem?_append_right (by omega), hlt, if_pos ⟨h, by omega⟩]
    rw [List.getElem?_eq_getElem (by omega)]; rfl
  · rw [List.getElem?_append_left (by omega), if_neg (by omega)]
    have hsplit : l.flatMap enc = (l.take i).flatMap enc ++ (l.drop i).flatMap enc := by rw [← List.flatMap_append, List.take_append_drop]
    have := hf j (by omega)
    rw [hsplit, List.getElem?_append_left (by omega)] at this
    exact this
/-- 'clear(s)', s a slice of one element. -/
theorem run_clear_one {P : Program} (w : World) (t e ty : TypeId) (z : Value) (ht : P.underlying t = some (.slice e)) (hv : ∀ w, (zeroValue e).run P w = .ok z w) (zs : List Value) (hz : (Builtin.zeroCells z.cells 1).toList = zs) (h1 : ∀ v ∈ zs, v.oneCell' = true) (b o c : Nat)
    (hc : ∀ j, j < zs.length → (w.cell? ⟨b, o + j, none⟩).isSome = true) (hf : ∀ j, j < zs.length → w.frozen? ⟨b, o + j, none⟩ = false) :
    (Builtin.clear_ #[t] ty #[.slice (some ⟨b, o, none⟩) 1 c]).run P w = .ok (.tuple #[]) (w.setCells b o zs) := by
  have hst := run_storeCells_cells (P := P) b o zs 0 w (by simpa using hc) (by simpa using hf) h1
  simp only [Nat.add_zero] at hst
  simp [Builtin.clear_, run_underlying ht, hv, hz, hst]
theorem setCell_grown (w : World) (b o : Nat) (v : Value) : w.grownBy (w.setCell ⟨b, o, none⟩ v) (some b) :=
  ⟨rfl, rfl, rfl, (KeepsWalks.setCell w ⟨b, o, none⟩ v).size, fun k _ hk => Below.heap_setCell _ _ _ k (fun e => hk (by rw [e]))⟩
theorem setCells_grown (b : Nat) : ∀ (vs : List Value) (o : Nat) (w : World), w.grownBy (w.setCells b o vs) (some b)
  | [], _, _ => World.grownBy.refl _ _
  | v :: r, o, w => (setCell_grown w b o v).trans (setCells_grown b r (o + 1) _)
end Go.Proofs.Ytjfnpedlegplnaa
