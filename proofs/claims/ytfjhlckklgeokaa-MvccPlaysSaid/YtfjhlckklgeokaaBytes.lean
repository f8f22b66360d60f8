/- A block of bytes of the call's own, and its text. Conditions: none. -/
import Derived.Test.YtfjhlckklgeokaaBut
import Derived.Laws.BytesArg
namespace Go.Proofs.Ytfjhlckklgeokaa
open Go.RowKit

/-- Block b begins with the bytes f 0 .. f (n - 1); they may be written. -/
def Bytes (w : World) (b n : Nat) (f : Nat → UInt8) : Prop := ∀ j, j < n → w.cell? ⟨b, j, none⟩ = some (.int .u8 (f j).toNat) ∧ w.frozen? ⟨b, j, none⟩ = false
theorem Bytes.set {w : World} {b n : Nat} {f : Nat → UInt8} (h : Bytes w b n f) {i : Nat} (hi : i < n) (y : UInt8) : Bytes (w.setCell ⟨b, i, none⟩ (.int .u8 y.toNat)) b n (fun j => if j = i then y else f j) := by
  intro j hj
  refine ⟨?_, by rw [World.frozen?_setCell]; exact (h j hj).2⟩
  by_cases e : j = i
  · subst e
    rw [World.cell?_setCell_same _ _ _ (h j hi).1]
    show _ = some (Value.int .u8 ((if j = j then y else f j : UInt8).toNat : Nat))
    rw [if_pos rfl]
  · rw [World.cell?_setCell_other _ _ _ _ (by first | (simp; done) | (simp; omega))]
    show _ = some (Value.int .u8 ((if j = i then y else f j : UInt8).toNat : Nat))
    rw [if_neg e]; exact (h j hj).1
theorem Bytes.congr {w : World} {b n : Nat} {f g : Nat → UInt8} (h : Bytes w b n f) (hg : ∀ j, j < n → f j = g j) : Bytes w b n g := fun j hj => by rw [← hg j hj]; exact h j hj
theorem Bytes.below {w w' : World} {b n : Nat} {f : Nat → UInt8} (h : Bytes w b n f) (hb : Below w.heap.size w w') : Bytes w' b n f := fun j hj =>
  ⟨cell_below hb (h j hj).1, by rw [hb.frozen (World.block_lt_of_cell? w _ (h j hj).1)]; exact (h j hj).2⟩
theorem strOfNums_bytes (l : List UInt8) : strOfNums (l.map fun b => ((b.toNat : Nat) : Int)) = ⟨l.toArray⟩ := by
  apply ByteArray.ext
  apply Array.toList_inj.1
  rw [strOfNums_data, List.map_map]
  show _ = l
  have : ((fun n : Int => UInt8.ofNat n.toNat) ∘ fun b : UInt8 => ((b.toNat : Nat) : Int)) = id := by
    funext b
    simp
  rw [this, List.map_id]
/-- The text of such a block. -/
theorem Bytes.text {w : World} {b n cap : Nat} {f : Nat → UInt8} (h : Bytes w b n f) {P : Program} {src dst e : TypeId} (hs : P.underlying src = some (.slice e)) (he : P.underlying e = some (.int .u8)) (hd : P.underlying dst = some .string) :
    (convert src dst (.slice (some ⟨b, 0, none⟩) n cap)).run P w = .ok (.string ⟨((List.range n).map f).toArray⟩) w := by
  rw [← strOfNums_bytes]
  refine run_convert_bytes_arg w src e hs he b 0 n cap _ (by simp) (fun i hi => ?_) dst hd
  rw [Nat.zero_add, (h i hi).1]
  simp [List.getD, hi]
theorem made_bytes (w : World) (n : Nat) (T : TypeId) : Bytes (w.alloc (.cells (madeCells #[.int .u8 0] n) T)) w.heap.size n (fun _ => 0) := by
  have h : (w.alloc (.cells (madeCells #[.int .u8 0] n) T)).heap[w.heap.size]? = some (.cells (madeCells #[.int .u8 0] n) T (0, 0)) := by
    show (w.heap.push _)[w.heap.size]? = _
    simp
  intro j hj
  refine ⟨?_, ?_⟩
  · unfold World.cell?
    rw [h]
    show (madeCells #[.int .u8 0] n)[j]? = _
    rw [Array.getElem?_eq_getElem (by simp [madeCells]; exact hj)]
    simp [madeCells, Nat.mod_one]
  · unfold World.frozen?
    rw [h]; simp
end Go.Proofs.Ytfjhlckklgeokaa
