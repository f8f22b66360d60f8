/- catenalaw23: HubZero. Conditions: none. -/
import Derived.Test.YthmljllgfigebaaHubILb
import Derived.OpenShut
namespace Go.Proofs.Ythmljllgfigebaa
open Go.RowKit Go.Shelf Go.ChangeShapes Go.WideShapes Go.ChangeAt
set_option linter.unusedVariables false
/-- A hub that nobody made: nil, or nothing in it. -/
def NoHb (w : World) (p : Value) : Prop := p = .pointer none ∨ ∃ b a1 a2 a3 a4, p = pt b 0 ∧ Blk w b 129 #[.bool false, a1, a2, a3, a4]
theorem NoHb.gr {w x : World} {p : Value} (h : NoHb w p) (hg : w.grownBy x none) : NoHb x p := by
  rcases h with h | ⟨b, a1, a2, a3, a4, h1, h2⟩
  · exact .inl h
  · exact .inr ⟨b, a1, a2, a3, a4, h1, h2.kept hg (by simp)⟩
set_option maxRecDepth 100000 in
set_option maxHeartbeats 1600000 in
theorem zero_noH (w : World) (p : Value) (h : NoHb w p) : Calls Try.prog 99 #[p] w fun e w' => e = .returned (.bool true) ∧ w = w' := by
  rcases h with rfl | ⟨b, a1, a2, a3, a4, rfl, h2⟩
  · go_enter Try.func99, Try.ntmps99
    go_wp2
    go_ret
    exact ⟨rfl, rfl⟩
  · have c0 : w.cell? ⟨b, 0, none⟩ = some (.bool false) := h2.cell (k := 0) rfl
    clear h2
    go_enter Try.func99, Try.ntmps99
    go_wp2
    go_ret
    exact ⟨rfl, rfl⟩

set_option maxRecDepth 100000 in
set_option maxHeartbeats 1600000 in
theorem zsendH (w : World) (p : Value) (n : Int) (t : ByteArray) (h : NoHb w p) : Calls Try.prog 54 #[p, .int .i64 n, .string t] w fun e w' => e = .returned (.int .i64 8) ∧ w = w' := by
  have H := Lib.hid h; clear h
  go_enter Try.func54, Try.ntmps54
  go_wp2_with fail
  refine (zero_noH _ p H.out).mono ?_
  rintro e w1 ⟨rfl, rfl⟩
  go_wp2
  go_ret
  exact ⟨rfl, rfl⟩

set_option maxRecDepth 100000 in
set_option maxHeartbeats 1600000 in
theorem zwaitH (w : World) (p : Value) (n : Int) (h : NoHb w p) : Calls Try.prog 61 #[p, .int .i64 n] w fun e w' => e = .returned (.int .i64 0) ∧ w = w' := by
  have H := Lib.hid h; clear h
  go_enter Try.func61, Try.ntmps61
  go_wp2_with fail
  refine (zero_noH _ p H.out).mono ?_
  rintro e w1 ⟨rfl, rfl⟩
  go_wp2
  go_ret
  exact ⟨rfl, rfl⟩

set_option maxRecDepth 100000 in
set_option maxHeartbeats 1600000 in
theorem zinH (w : World) (p : Value) (n : Int) (t : ByteArray) (h : NoHb w p) : Calls Try.prog 59 #[p, .int .i64 n, .string t] w fun e w' => e = .returned (.tuple #[.slice none 0 0, .int .i64 8]) ∧ w = w' := by
  have H := Lib.hid h; clear h
  go_enter Try.func59, Try.ntmps59
  go_wp2_with fail
  refine (zero_noH _ p H.out).mono ?_
  rintro e w1 ⟨rfl, rfl⟩
  go_wp2
  go_ret2
  exact ⟨rfl, rfl⟩

set_option maxRecDepth 100000 in
set_option maxHeartbeats 1600000 in
theorem zoutH (w : World) (p : Value) (g : Bool) (h : NoHb w p) : Calls Try.prog 57 #[p, .bool g] w fun e w' => e = .returned (.slice none 0 0) ∧ w = w' := by
  have H := Lib.hid h; clear h
  go_enter Try.func57, Try.ntmps57
  go_wp2_with fail
  refine (zero_noH _ p H.out).mono ?_
  rintro e w1 ⟨rfl, rfl⟩
  go_wp2
  go_ret
  exact ⟨rfl, rfl⟩

set_option maxRecDepth 100000 in
set_option maxHeartbeats 4000000 in
theorem hzero_any (n : Int) (t : ByteArray) (w : World) : Calls Try.prog 14 #[.int .i64 n, .string t] w fun e w' => e = .returned (.bool true) ∧ Below w.heap.size w w' := by
  have hZ : Blk (w.alloc (.cells #[.bool false, .pointer none, .pointer none, .pointer none, .pointer none] 129)) w.heap.size 129 #[.bool false, .pointer none, .pointer none, .pointer none, .pointer none] := World.alloc_heap_new w _
  have hB : Below w.heap.size w (w.alloc (.cells #[.bool false, .pointer none, .pointer none, .pointer none, .pointer none] 129)) := (Below.refl _ w).alloc (Nat.le_refl _) _
  have hz : NoHb (w.alloc (.cells #[.bool false, .pointer none, .pointer none, .pointer none, .pointer none] 129)) (pt w.heap.size 0) := .inr ⟨_, _, _, _, _, rfl, hZ⟩
  have HZ := Lib.hid hz; have HB := Lib.hid hB; clear hZ hz hB
  go_enter Try.func14, Try.ntmps14
  go_wp2_with fail
  refine (zinH _ _ n t (.inl rfl)).mono ?_
  rintro e w5 ⟨rfl, rfl⟩
  go_wp2_with fail
  refine (zinH _ _ n t HZ.out).mono ?_
  rintro e w5 ⟨rfl, rfl⟩
  go_wp2_with fail
  refine (zsendH _ _ n t (.inl rfl)).mono ?_
  rintro e w5 ⟨rfl, rfl⟩
  go_wp2_with fail
  refine (zsendH _ _ n t HZ.out).mono ?_
  rintro e w5 ⟨rfl, rfl⟩
  go_wp2_with fail
  refine (zoutH _ _ true (.inl rfl)).mono ?_
  rintro e w5 ⟨rfl, rfl⟩
  go_wp2_with fail
  refine (zoutH _ _ true HZ.out).mono ?_
  rintro e w5 ⟨rfl, rfl⟩
  go_wp2_with fail
  refine (zwaitH _ _ n (.inl rfl)).mono ?_
  rintro e w5 ⟨rfl, rfl⟩
  go_wp2_with fail
  refine (zwaitH _ _ n HZ.out).mono ?_
  rintro e w5 ⟨rfl, rfl⟩
  go_wp2_with fail
  refine (awake23 _).mono ?_
  rintro e w5 ⟨rfl, hb5⟩
  have HB5 := Lib.hid (hb_call HB.out hb5); clear hb5 HB
  go_wp2
  go_ret
  exact ⟨rfl, HB5.out⟩
theorem hzeroS (n : Int) (t : ByteArray) (w : World) (_ht : t.size ≤ 140737488351232) : Calls Try.prog 14 #[.int .i64 n, .string t] w fun e w' => e = .returned (.bool true) ∧ Below w.heap.size w w' := hzero_any n t w
end Go.Proofs.Ythmljllgfigebaa
