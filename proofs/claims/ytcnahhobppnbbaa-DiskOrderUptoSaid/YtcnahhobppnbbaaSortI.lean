/- slices.Sort on a row of ints that the call owns: what the row holds behind it. Conditions: none. -/
import Derived.Test.YtcnahhobppnbbaaPexD
import Derived.Shelf.Sort.Plain
import Derived.Test.YtcnahhobppnbbaaLayI
namespace Go.Proofs.Ytcnahhobppnbbaa
open Go.RowKit Go.Sort Go.Shelf

/-- The numbers, in order. -/
def srt (l : List Int) : List Int := l.mergeSort fun x y => decide (x ≤ y)
theorem srt_perm (l : List Int) : (srt l).Perm l := List.mergeSort_perm l _
theorem srt_len (l : List Int) : (srt l).length = l.length := (srt_perm l).length_eq
theorem srt_up (l : List Int) : (srt l).Pairwise (· ≤ ·) := by
  have h : (srt l).Pairwise (fun a b => decide (a ≤ b) = true) := List.pairwise_mergeSort (le := fun x y => decide (x ≤ y)) (fun a b c h1 h2 => by simp only [decide_eq_true_eq] at *; omega) (fun a b => by simp only [Bool.or_eq_true, decide_eq_true_eq]; omega) l
  exact h.imp (fun h => by simpa using h)
theorem srt_mem {l : List Int} {x : Int} : x ∈ srt l ↔ x ∈ l := (srt_perm l).mem_iff
theorem up_eq : ∀ {a b : List Int}, a.Perm b → a.Pairwise (· ≤ ·) → b.Pairwise (· ≤ ·) → a = b := by
  intro a b h ha hb
  exact h.eq_of_pairwise (fun x y _ _ h1 h2 => by omega) ha hb
/-- A list that rises and has the same numbers is what sorting gives. -/
theorem srt_eq {l b : List Int} (h : b.Perm l) (hb : b.Pairwise (· ≤ ·)) : srt l = b := up_eq ((srt_perm l).trans h.symm) (srt_up l) hb
theorem flat_intsI : ∀ l : List Int, l.flatMap (intE .i64) = l.map (Value.int .i64)
  | [] => rfl
  | x :: r => by rw [List.flatMap_cons, List.map_cons, flat_intsI r]; rfl
theorem holds_ints {w : World} {g : Nat} {e : TypeId} {cur : Array Value} {l : List Int} (hb : w.heap[g]? = some (.cells cur e (0, 0))) (ht : cur.toList.take l.length = l.map (Value.int .i64)) : Holds (Value.int .i64) w g 0 l.toArray := by
  intro j hj
  have hj' : j < l.length := by simpa using hj
  refine ⟨?_, by simp [World.frozen?, hb]⟩
  have h1 : (cur.toList.take l.length)[j]? = some (Value.int .i64 l[j]) := by rw [ht]; simp [hj']
  rw [List.getElem?_take_of_lt hj'] at h1
  simp only [World.cell?, hb, Nat.zero_add]
  simp only [Option.isSome_none, Bool.false_eq_true, if_false]
  rw [← Array.getElem?_toList, h1]
  simp [hj']
theorem heap_putI {w : World} {g n : Nat} {os : Array Obj} {cur : Array Value} {e : TypeId} {fr : Nat × Nat} (d : Array Int) (hb : w.heap[g]? = some (.cells cur e fr)) :
    (grow (putRow (Value.int .i64) (Sort.ahead w n) g 0 d) os).heap[g]? = some (.cells (putCells (Value.int .i64) 0 d cur) e fr) := by
  have hg : g < w.heap.size := (Array.getElem?_eq_some_iff.1 hb).1
  rw [heap_grow_old _ _ (by simpa using hg)]
  simp [putRow, mapBlock, Sort.ahead, Array.getElem?_modify, hb, onCells]
theorem grown_putI {w : World} {g n : Nat} {os : Array Obj} (d : Array Int) : w.grownBy (grow (putRow (Value.int .i64) (Sort.ahead w n) g 0 d) os) (some g) := by
  refine ⟨rfl, rfl, rfl, by simp, fun k hk hne => ?_⟩
  rw [heap_grow_old _ _ (by simpa using hk)]
  have : g ≠ k := fun e => hne (by rw [e])
  simp [putRow, mapBlock, Sort.ahead, Array.getElem?_modify, this]
theorem take_putI (cur : Array Value) (l : List Int) (h : l.length ≤ cur.size) : (putCells (Value.int .i64) 0 l.toArray cur).toList.take l.length = l.map (Value.int .i64) := by
  apply List.ext_getElem?
  intro j
  by_cases hj : j < l.length
  · rw [List.getElem?_take_of_lt hj, Array.getElem?_toList]
    simp [putCells, hj, show j < cur.size by omega]
  · rw [List.getElem?_take_eq_none (by omega), List.getElem?_eq_none (by simp; omega)]
theorem sortI_any (v : Value) (l : List Int) (base : Nat) (e : TypeId) (w : World) (h : w.ownsRow base e 1 v l.length (l.flatMap (intE .i64))) (hn : v ≠ .slice none 0 0) (hl : l.length < 4611686018427387904) :
    Calls Try.prog 82 #[v] w fun e1 w' => e1 = .returned (.tuple #[]) ∧ w'.ownsRow base e 1 v (srt l).length ((srt l).flatMap (intE .i64)) ∧ w.grownBy w' v.ownBlock := by
  obtain ⟨h0, h⟩ := h
  rcases h with ⟨rfl, _⟩ | ⟨g, cap, cur, rfl, hbase, hb, h1, h2, h3, h4⟩
  · exact absurd rfl hn
  rw [flat_intsI, Nat.mul_one] at h4
  have hH := holds_ints hb h4
  refine (Any.slices_Sort_int Try.laysI g 0 cap l w hH (Array.getElem?_eq_some_iff.1 hb).1 hl).mono ?_
  rintro e1 w' ⟨rfl, n, os, rfl⟩
  have hle : (srt l).length = l.length := srt_len l
  have hcs : l.length ≤ cur.size := by rw [h3, Nat.mul_one]; exact h1
  refine ⟨rfl, ⟨by rw [flat_intsI]; simp, .inr ⟨g, cap, _, by rw [hle], hbase, heap_putI _ hb, by rw [hle]; exact h1, h2, by simp [putCells, h3], ?_⟩⟩, grown_putI _⟩
  rw [flat_intsI, Nat.mul_one]
  exact take_putI cur (srt l) (by rw [hle]; exact hcs)
end Go.Proofs.Ytcnahhobppnbbaa
