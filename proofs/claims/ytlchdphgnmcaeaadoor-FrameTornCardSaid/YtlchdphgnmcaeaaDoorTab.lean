/- The table of the sums, behind what came since. Conditions: none. -/
import Derived.Test.YtlchdphgnmcaeaaDoorSumR
import Derived.Test.YtlchdphgnmcaeaaDoorBut
namespace Go.Proofs.YtlchdphgnmcaeaaDoor
open Go.RowKit

theorem Tab.below {w w' : World} (h : Tab w) (hb : Below w.heap.size w w') : Tab w' := fun i hi => cell_below hb (h i hi)
theorem tab_pos {w : World} (h : Tab w) : 0 < w.heap.size := World.block_lt_of_cell? w _ (h 0 (by omega))
theorem Tab.since {w w' : World} (h : Tab w) {B : Nat} (hB : 0 < B) (hb : Below B w w') : Tab w' := fun i hi => by rw [hb.cell (p := ⟨0, i, none⟩) hB]; exact h i hi
theorem sum_is (s : ByteArray) (A : Nat) (w : World) (h : addOf 0 s.data.toList = A) (ht : Tab w) (hs : s.size ≤ 9223372036854775807) :
    Calls Tryd.prog 15 #[.string s] w fun e w' => e = .returned (.int .u32 (A : Nat)) ∧ w = w' :=
  (sum_any s w ht hs).mono fun _ _ ⟨he, hw⟩ => ⟨by rw [he, h], hw⟩
theorem rsum_is (s : ByteArray) (A : Nat) (w : World) (h : addOf 0 s.data.toList = A) (hs : s.size ≤ 9223372036854775807) :
    Calls Tryd.prog 18 #[.string s] w fun e w' => e = .returned (.int .u32 (A : Nat)) ∧ w = w' :=
  (rsum_any s w hs).mono fun _ _ ⟨he, hw⟩ => ⟨by rw [he, h], hw⟩
end Go.Proofs.YtlchdphgnmcaeaaDoor
