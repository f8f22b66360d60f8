/- Package sum: New, Add, Used. Conditions: none. -/
import Derived.Test.YtfjajahniocbkaaDoorSumC
import Derived.Test.YtfjajahniocbkaaDoorAtom
import Derived.Deep.QuietTactic
import Derived.BigQuiet
import Derived.Great.BuildSlice
import Derived.Great.Ranges
namespace Go.Proofs.YtfjajahniocbkaaDoor
open Go.RowKit Go.PlainAid

def mkCells (m : Bool) : Array Value := #[.bool m, .int .u32 0, .int .i32 0, .int .u32 0] ++ Array.replicate 256 (.int .u32 0) ++ #[.int .i64 0]
theorem mk_built (a : Act) : Tryd.prog.built 53 ((#[(0, Operand.const (.bool true))] : Array (Nat × Operand)).map fun (i, x) => (i, a.eval x)).toList = some (mkCells true) := by kernel_rfl
theorem z_built (a : Act) : Tryd.prog.built 53 ((#[] : Array (Nat × Operand)).map fun (i, x) => (i, a.eval x)).toList = some (mkCells false) := by kernel_rfl
theorem mk_cells (m : Bool) : (Value.agg (mkCells m)).cells = mkCells m := rfl
theorem mk_new (w : World) (T : TypeId) : Mk (w.alloc (.cells (mkCells true) T)) w.heap.size 0 0 0 0 := by
  have h : (w.alloc (.cells (mkCells true) T)).heap[w.heap.size]? = some (.cells (mkCells true) T (0, 0)) := by
    show (w.heap.push _)[w.heap.size]? = _
    simp
  have hc : ∀ j, (w.alloc (.cells (mkCells true) T)).cell? ⟨w.heap.size, j, none⟩ = (mkCells true)[j]? := fun j => by
    unfold World.cell?
    rw [h]; rfl
  refine ⟨?_, ?_, ?_, fun i hi => ⟨.int .u32 0, ?_, fun hl => absurd hl (by omega)⟩, ?_, fun j => ?_⟩
  · rw [hc]; kernel_rfl
  · rw [hc]; kernel_rfl
  · rw [hc]; kernel_rfl
  · rw [hc]
    unfold mkCells
    rw [Array.getElem?_append_left (by simp; omega), Array.getElem?_append_right (by simp), Array.getElem?_replicate]
    simp; omega
  · rw [hc]; kernel_rfl
  · unfold World.frozen?
    rw [h]; simp

set_option maxRecDepth 100000 in
set_option maxHeartbeats 800000 in
theorem new_any (w : World) :
    Calls Tryd.prog 8 #[] w fun e w' => e = .returned (.pointer (some ⟨w.heap.size, 0, none⟩)) ∧ Mk w' w.heap.size 0 0 0 0 ∧ Below w.heap.size w w' := by
  have HM := Lib.hid (mk_new w 53)
  go_enter Tryd.func8, Tryd.ntmps8
  go_wp2_with (refine wpList_buildTo rfl 53 _ rfl _ rfl (mkCells true) (mk_built _) ?_)
  go_wp2_with (refine wpList_boxTo rfl 53 _ rfl _ rfl _ rfl (mkCells true) (mk_cells true) ?_)
  go_wp2
  go_ret
  exact ⟨rfl, HM.out, (Below.refl _ _).alloc (Nat.le_refl _) _⟩
set_option maxRecDepth 100000 in
set_option maxHeartbeats 800000 in
theorem used_any (b : Nat) (d : Int) (T : Nat) (n : Int) (w : World) (h : Mk w b d 0 T n) :
    Calls Tryd.prog 13 #[.pointer (some ⟨b, 0, none⟩)] w fun e w' => e = .returned (.int .i64 n) ∧ Below w.heap.size w w' := by
  have k0 := h.made
  have ku := h.used
  clear h
  go_enter Tryd.func13, Tryd.ntmps13
  go_wp2_with fail
  refine (load64 _ _ _ _ ku).mono ?_
  rintro e w1 ⟨rfl, rfl⟩
  go_wp2
  go_ret
  exact ⟨rfl, Below.refl _ _⟩
end Go.Proofs.YtfjajahniocbkaaDoor
