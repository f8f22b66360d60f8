/- catenalaw24: WatchZero. Conditions: none. -/
import Derived.Test.YtkicaomcbmmjpaaWatchE
namespace Go.Proofs.Ytkicaomcbmmjpaa
open Go.RowKit Go.PlainAid

set_option maxRecDepth 100000 in
set_option maxHeartbeats 1600000 in
theorem zero_law (id : Int) (w : World) (_h : (Lit.int .i64 id).wf = true) :
    Calls Try.prog 7 #[.int .i64 id] w fun e w' => e = .returned (.bool true) ∧ Below w.heap.size w w' := by
  clear _h
  go_enter Try.func7, Try.ntmps7
  have hb0 : Below w.heap.size w (w.alloc (.cells #[.bool false, .int .i64 0, .int .i64 0, .int .i64 0, .int .i64 0, .int .i64 0] 60)) := (Below.refl _ _).alloc (Nat.le_refl _) _
  have hz0 : Unmade (w.alloc (.cells #[.bool false, .int .i64 0, .int .i64 0, .int .i64 0, .int .i64 0, .int .i64 0] 60)) (.pointer (some ⟨w.heap.size, 0, none⟩)) := Or.inr ⟨_, rfl, cell_of_row _ _ 0 _ _ _ (alloc_at' w _)⟩
  have HB0 := Lib.hid hb0; have HZ0 := Lib.hid hz0
  clear hb0 hz0
  go_wp2_with fail
  refine (heard_un _ _ _ (Or.inl rfl)).mono ?_
  rintro e w1 ⟨rfl, hb1⟩
  have HB1 := Lib.hid (HB0.out.trans (hb1.mono HB0.out.size)); have HZ1 := Lib.hid (HZ0.out.below hb1); clear hb1
  go_wp2_with fail
  refine (heard_un _ _ _ HZ1.out).mono ?_
  rintro e w2 ⟨rfl, hb2⟩
  have HB2 := Lib.hid (HB1.out.trans (hb2.mono HB1.out.size)); have HZ2 := Lib.hid (HZ1.out.below hb2); clear hb2
  go_wp2_with fail
  refine (tick_un _ _ (Or.inl rfl)).mono ?_
  rintro e w3 ⟨rfl, hb3⟩
  have HB3 := Lib.hid (HB2.out.trans (hb3.mono HB2.out.size)); have HZ3 := Lib.hid (HZ2.out.below hb3); clear hb3
  go_wp2_with fail
  refine (tick_un _ _ HZ3.out).mono ?_
  rintro e w4 ⟨rfl, hb4⟩
  have HB4 := Lib.hid (HB3.out.trans (hb4.mono HB3.out.size)); have HZ4 := Lib.hid (HZ3.out.below hb4); clear hb4
  go_wp2_with fail
  refine (late_un _ _ (Or.inl rfl)).mono ?_
  rintro e w5 ⟨rfl, hb5⟩
  have HB5 := Lib.hid (HB4.out.trans (hb5.mono HB4.out.size)); have HZ5 := Lib.hid (HZ4.out.below hb5); clear hb5
  go_wp2_with fail
  refine (late_un _ _ HZ5.out).mono ?_
  rintro e w6 ⟨rfl, hb6⟩
  have HB6 := Lib.hid (HB5.out.trans (hb6.mono HB5.out.size)); have HZ6 := Lib.hid (HZ5.out.below hb6); clear hb6
  go_wp2_with fail
  refine (count_un _ _ _ (Or.inl rfl)).mono ?_
  rintro e w7 ⟨rfl, hb7⟩
  have HB7 := Lib.hid (HB6.out.trans (hb7.mono HB6.out.size)); have HZ7 := Lib.hid (HZ6.out.below hb7); clear hb7
  go_wp2_with fail
  refine (count_un _ _ _ HZ7.out).mono ?_
  rintro e w8 ⟨rfl, hb8⟩
  have HB8 := Lib.hid (HB7.out.trans (hb8.mono HB7.out.size)); have HZ8 := Lib.hid (HZ7.out.below hb8); clear hb8
  go_wp2_with (go_at_call 31; refine (awake24 _).mono ?_; rintro e w11 ⟨rfl, hb11⟩)
  go_ret
  exact ⟨rfl, HB8.out.trans (hb11.mono HB8.out.size)⟩
end Go.Proofs.Ytkicaomcbmmjpaa
