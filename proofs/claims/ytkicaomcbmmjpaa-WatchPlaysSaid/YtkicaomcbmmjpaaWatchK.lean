/- catenaref24: late. Conditions: none. -/
import Derived.Deep.AppendLies
import Derived.Test.YtkicaomcbmmjpaaWatchJ
namespace Go.Proofs.Ytkicaomcbmmjpaa
open Go.RowKit Go.PlainAid

set_option maxRecDepth 100000 in
set_option maxHeartbeats 800000 in
theorem rlate_any (b : Nat) (f : Nat → Int) (k : Int) (w : World) (h : RMade w b f k) :
    Calls Try.prog 28 #[.pointer (some ⟨b, 0, none⟩)] w fun e w' => ∃ v, e = .returned v ∧ w'.ownsRow w.heap.size 3 1 v (lateL f 4).length ((lateL f 4).map (Value.int .i64)) ∧ Below w.heap.size w w' := by
  obtain ⟨i0, hi, hz0, hz1, hz2⟩ := info_parts info_int
  have H := Lib.hid h; clear h
  go_enter Try.func28, Try.ntmps28
  go_wp2
  go_loopg [3, 4] 5 (fun g s3 s4 wr => ∃ i : Nat, s4 = .int .i64 i ∧ i ≤ 4 ∧ 5 ≤ i + g ∧ wr.ownsRow w.heap.size 3 1 s3 (lateL f i).length ((lateL f i).map (Value.int .i64)) ∧ Below w.heap.size w wr)
  case atStart => exact ⟨0, rfl, by omega, by omega, World.ownsRow_nil _ _ _ _, Below.refl _ _⟩
  case round =>
    obtain ⟨i, rfl, hi4, hg, hown, hbel⟩ := hrel
    have HO := Lib.hid hown; have HB := Lib.hid hbel
    have hll := lateL_le f i
    have hsz := hbel.size
    clear hown hbel
    by_cases hlt : i < 4
    · have k0 := cell_below HB.out (H.out.1 i hlt).1
      by_cases hx : 6 ≤ f i
      · have HL := Lib.hid (show lateL f (i + 1) = lateL f i ++ [(i : Int)] from if_pos hx)
        go_wp2_with (at_builtin; go_loud (refine wpList_append_lies _ rfl (.tmp 16) (.tmp 18) 38 rfl w.heap.size 3 i0 (.int .i64 0) 1 8 Try.underlying38 hi hz0 hz1 hz2 rfl (by decide) _ (lateL f i).length _ rfl (HO.out.alloc _) ⟨wr.heap.size, 0, none⟩ 1 1 [.int .i64 i] rfl rfl (one_cell _ _ _) (by simp [Value.oneCell']) (by omega) (by unfold maxLen; omega) (by omega) (by simp; omega) (wr.heap.size + 1) (by simp) ?_); intro g1 cp1 w1 hown1 hgr1 hg1 hg1s)
        have hbel1 : Below w.heap.size w w1 := (HB.out.alloc hsz _).grown hgr1 (by simp; omega) (fun j hj => (HO.out.lt j hj).1)
        have HO1 : Hid (w1.ownsRow w.heap.size 3 1 (.slice (some ⟨g1, 0, none⟩) ((lateL f i).length + 1) cp1) (lateL f (i + 1)).length ((lateL f (i + 1)).map (Value.int .i64))) := Lib.hid (by
          rw [HL.out, List.length_append, List.length_singleton, List.map_append]; exact hown1)
        have HB1 := Lib.hid hbel1
        clear hown1 hgr1 hbel1
        go_wp2
        go_roundg (gk - 1)
        case rel => exact ⟨i + 1, by go_num, by omega, by omega, HO1.out, HB1.out⟩
        case measure => omega
      · have HL := Lib.hid (show lateL f (i + 1) = lateL f i from if_neg hx)
        go_wp2
        go_roundg (gk - 1)
        case rel => exact ⟨i + 1, by go_num, by omega, by omega, by rw [HL.out]; exact HO.out, HB.out⟩
        case measure => omega
    · obtain rfl : i = 4 := by omega
      go_wp2
      go_ret
      exact ⟨_, rfl, HO.out, HB.out⟩
end Go.Proofs.Ytkicaomcbmmjpaa
