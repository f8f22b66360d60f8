/- slices.SortFunc on a row of structs that the call owns: what the row holds behind it. Conditions: none. -/
import Derived.Test.YteioaaegooebpaaPexD
import Derived.Shelf.SlSortCmp.WholeK
namespace Go.Proofs.Yteioaaegooebpaa
open Go.RowKit Go.Sort Go.Shelf

section
variable {α : Type} [Inhabited α] {enc : α → List Value} {k : Nat}
theorem flatK_at (hk : ∀ x, (enc x).length = k) : ∀ (l : List α) (t : Nat), t < l.length * k → (l.flatMap enc)[t]? = some ((enc l[t / k]!)[t % k]!)
  | [], t, h => by simp at h
  | x :: r, t, h => by
    rw [List.flatMap_cons]
    by_cases ht : t < k
    · rw [List.getElem?_append_left (by rw [hk]; exact ht), Nat.div_eq_of_lt ht, Nat.mod_eq_of_lt ht]
      have : t < (enc x).length := by rw [hk]; exact ht
      simp [this]
    · obtain ⟨u, rfl⟩ : ∃ u, t = k + u := ⟨t - k, by omega⟩
      have k0 : 0 < k := by
        rcases Nat.eq_zero_or_pos k with h0 | h0
        · subst h0; simp at h
        · exact h0
      have hu : u < r.length * k := by
        rw [List.length_cons, Nat.add_mul, Nat.one_mul] at h; omega
      rw [List.getElem?_append_right (by rw [hk]; omega), hk, Nat.add_sub_cancel_left, flatK_at hk r u hu, Nat.add_div_left _ k0, Nat.add_mod_left]
      simp
omit [Inhabited α] in
theorem flatK_len (hk : ∀ x, (enc x).length = k) : ∀ l : List α, (l.flatMap enc).length = l.length * k
  | [] => by simp
  | x :: r => by rw [List.flatMap_cons, List.length_append, hk, flatK_len hk r, List.length_cons, Nat.add_mul, Nat.one_mul, Nat.add_comm]
theorem flatK_get (hk : ∀ x, (enc x).length = k) (l : List α) (t : Nat) (h : t < l.length * k) : (l.flatMap enc)[t]? = some ((flatK enc k l.toArray)[t]!) := by
  rw [flatK_at hk l t h, get_flatK enc k l.toArray t (by simpa using h)]
  congr 3
  simp
theorem holds_row (hk : ∀ x, (enc x).length = k) {w : World} {g cap : Nat} {e : TypeId} {cur : Array Value} {l : List α} (hb : w.heap[g]? = some (.cells cur e (0, 0))) (ht : cur.toList.take (l.length * k) = l.flatMap enc) : HoldsK enc k w g 0 l.toArray := by
  intro j hj
  have hj' : j < l.length * k := by simpa using hj
  refine ⟨?_, by simp [World.frozen?, hb]⟩
  have h1 : (cur.toList.take (l.length * k))[j]? = some ((flatK enc k l.toArray)[j]!) := by rw [ht, flatK_get hk l j hj']
  rw [List.getElem?_take_of_lt hj'] at h1
  simp only [World.cell?, hb, Nat.zero_add]
  simp only [Option.isSome_none, Bool.false_eq_true, if_false]
  rw [← Array.getElem?_toList, h1]
  rfl
theorem heap_put {w : World} {g n : Nat} {os : Array Obj} {cur : Array Value} {e : TypeId} {fr : Nat × Nat} (d : Array Value) (hb : w.heap[g]? = some (.cells cur e fr)) :
    (grow (putRow id (Sort.ahead w n) g 0 d) os).heap[g]? = some (.cells (putCells id 0 d cur) e fr) := by
  have hg : g < w.heap.size := (Array.getElem?_eq_some_iff.1 hb).1
  rw [heap_grow_old _ _ (by simpa using hg)]
  simp [putRow, mapBlock, Sort.ahead, Array.getElem?_modify, hb, onCells]
theorem grown_put {w : World} {g n : Nat} {os : Array Obj} (d : Array Value) : w.grownBy (grow (putRow id (Sort.ahead w n) g 0 d) os) (some g) := by
  refine ⟨rfl, rfl, rfl, by simp, fun k hk hne => ?_⟩
  rw [heap_grow_old _ _ (by simpa using hk)]
  have : g ≠ k := fun e => hne (by rw [e])
  simp [putRow, mapBlock, Sort.ahead, Array.getElem?_modify, this]
theorem take_put (hk : ∀ x, (enc x).length = k) (cur : Array Value) (l : List α) (h : l.length * k ≤ cur.size) : (putCells id 0 (flatK enc k l.toArray) cur).toList.take (l.length * k) = l.flatMap enc := by
  apply List.ext_getElem?
  intro j
  by_cases hj : j < l.length * k
  · rw [List.getElem?_take_of_lt hj, Array.getElem?_toList, flatK_get hk l j hj]
    simp [putCells, hj, show j < cur.size by omega]
  · rw [List.getElem?_take_eq_none (by omega), List.getElem?_eq_none (by rw [flatK_len hk]; omega)]
/-- Sorted by lt: no later one is less than an earlier one. -/
def SortedL (lt : α → α → Bool) (l : List α) : Prop := l.Pairwise fun a b => lt b a = false
theorem sorted_of {lt : α → α → Bool} {d : Array α} (h : SortedIn lt 0 d.size d) : SortedL lt d.toList := by
  unfold SortedL
  rw [List.pairwise_iff_getElem]
  intro i j hi hj hij
  have h1 := h i j (Nat.zero_le _) hij (by simpa using hj)
  have hi' : i < d.size := by simpa using hi
  have hj' : j < d.size := by simpa using hj
  simpa [hi', hj'] using h1
theorem perm_of {d d' : Array α} (h : PermIn 0 d.size d d') : d'.toList.Perm d.toList := by
  obtain ⟨h1, _, h2⟩ := h
  have e1 : d.extract 0 d.size = d := by simp
  have e2 : d'.extract 0 d.size = d' := by rw [← h1]; simp
  rw [e1, e2] at h2; exact h2
theorem sort_row {P : Program} {F : FuncId} {fv : Value} {lt : α → α → Bool} (hk : ∀ x, (enc x).length = k) {w : World} {base : Nat} {e : TypeId} {v : Value} {l : List α} (h : w.ownsRow base e k v l.length (l.flatMap enc)) (hn : v ≠ .slice none 0 0)
    (hc : ∀ (g cap : Nat), HoldsK enc k w g 0 l.toArray → g < w.heap.size → Calls P F #[.slice (some ⟨g, 0, none⟩) l.length cap, fv] w fun e w' => e = .returned (.tuple #[]) ∧ ∃ d' n os, PermIn 0 l.toArray.size l.toArray d' ∧ SortedIn lt 0 l.toArray.size d' ∧ w' = sortWorldK enc k w g 0 n d' os) :
    Calls P F #[v, fv] w fun e1 w' => e1 = .returned (.tuple #[]) ∧ ∃ l' : List α, l'.Perm l ∧ SortedL lt l' ∧ w'.ownsRow base e k v l'.length (l'.flatMap enc) ∧ w.grownBy w' v.ownBlock := by
  obtain ⟨h0, h⟩ := h
  rcases h with ⟨rfl, _⟩ | ⟨g, cap, cur, rfl, hbase, hb, h1, h2, h3, h4⟩
  · exact absurd rfl hn
  refine (hc g cap (holds_row (cap := cap) hk hb h4) (Array.getElem?_eq_some_iff.1 hb).1).mono ?_
  rintro e1 w' ⟨rfl, d', n, os, hp, hs, rfl⟩
  have hp' := perm_of hp
  have hsz : d'.size = l.length := by simpa using hp.1
  have hs' : SortedL lt d'.toList := sorted_of (by rw [hsz]; simpa using hs)
  have hle : d'.toList.length = l.length := by simpa using hsz
  have hcs : l.length * k ≤ cur.size := by rw [h3]; exact Nat.mul_le_mul_right _ h1
  refine ⟨rfl, d'.toList, by simpa using hp', hs', ⟨by rw [flatK_len hk], .inr ⟨g, cap, _, by rw [hle], hbase, heap_put _ hb, by rw [hle]; exact h1, h2, by simp [putCells, h3], ?_⟩⟩, grown_put _⟩
  have := take_put hk cur d'.toList (by rw [hle]; exact hcs)
  rw [← this]
end
end Go.Proofs.Yteioaaegooebpaa
