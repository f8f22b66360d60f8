/- The table as it is laid: what the row's condition gives the walks. Conditions: none. -/
import Derived.Test.YtlchdphgnmcaeaaDoorSumA
import Derived.Test.YtlchdphgnmcaeaaDoorTie
import Derived.LaidMore
import Derived.Lib.LaidTab
import Derived.Stop.Joined
namespace Go.Proofs.YtlchdphgnmcaeaaDoor
open Go.RowKit

def laidList {H : Type} : List (String × DataW H) := [("catena/sum.halves", Rows.laid_catena_sum_halves)]
def halvesZ : List Int := [0, 498536548, 997073096, 651767980, 1994146192, 1802195444, 1303535960, 1342533948, 3988292384, 4027552580, 3604390888, 3412177804, 2607071920, 2262029012, 2685067896, 3183342108]
theorem halves_at : ∀ i, i < 16 → halvesZ.getD i 0 = ((lfn 4 i : Nat) : Int) := by decide
theorem tab_of_laid {W : World} (h : laidMetH Tryd.prog laidList W) : Tab W := by
  rw [MakeChecks.laidMetH_plain _ _ _ (by kernel_rfl)] at h
  have hg : Tryd.prog.globalNamed "catena/sum.halves" = some 0 := by kernel_rfl
  have ht := Lib.tabIs_of_head (P := Tryd.prog) (W := W) (name := "catena/sum.halves") (k := .u32) (zs := halvesZ) (rest := []) (g := 0) (t := 58) (e := 45) (n := 16) hg (by kernel_rfl) Tryd.underlying58 Tryd.underlying45 (by kernel_rfl) (by kernel_rfl) h
  intro i hi
  have := ht.cell hg i (by simpa [halvesZ] using hi)
  rw [halves_at i hi] at this
  exact this
theorem door_met (os : Os) (args : Array Value) : laidMetH Tryd.prog laidList ((World.doorLaid Tryd.prog 400 os).forCall (fun _ _ => 0) ⟨#[], args, []⟩).memory :=
  laidMetH_of_parts3 (fuel := 8) (laidMet_of_run' 8 (by kernel_rfl) (by kernel_rfl)) (by kernel_rfl) (by kernel_rfl)
end Go.Proofs.YtlchdphgnmcaeaaDoor
