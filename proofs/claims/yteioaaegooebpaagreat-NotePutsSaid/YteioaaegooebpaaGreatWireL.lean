/- Package wire: a reader is opened; what is left; one that nobody made. Conditions: texts of at most 2^63-1 bytes. -/
import Derived.Test.YteioaaegooebpaaGreatWireK
namespace Go.Proofs.YteioaaegooebpaaGreat
open Go.RowKit Go.PlainAid

set_option maxRecDepth 100000 in
set_option maxHeartbeats 1600000 in
theorem open_any (s : ByteArray) (w : World) :
    Calls Tryz.prog 57 #[.string s] w fun e w' => e = .returned (.pointer (some ⟨w.heap.size, 0, none⟩)) ∧ Rd w' w.heap.size s 0 0 ∧ Below w.heap.size w w' := by
  go_enter Tryz.func57, Tryz.ntmps57
  go_wp2
  go_ret
  exact ⟨rfl, ⟨by simp, by simp, by simp, by simp, by simp, by simp⟩, (Below.refl _ _).alloc (Nat.le_refl _) _⟩
set_option maxRecDepth 100000 in
set_option maxHeartbeats 1600000 in
theorem left_ok (b : Nat) (s : ByteArray) (a : Nat) (w : World) (h : Rd w b s a 0) (hs : s.size ≤ 9223372036854775807) (ha : a ≤ s.size) :
    Calls Tryz.prog 127 #[.pointer (some ⟨b, 0, none⟩)] w fun e w' => e = .returned (.int .i64 ((s.size : Int) - a)) ∧ Below w.heap.size w w' := by
  have H := Lib.hid h
  have c1 := h.txt; have c2 := h.pos
  have hsub : IntKind.i64.wrap ((s.size : Int) - (a : Int)) = (s.size : Int) - (a : Int) := IntWalk.i64_in _ ⟨by omega, by omega⟩
  clear h
  go_enter Tryz.func127, Tryz.ntmps127
  go_wp2_with fail
  refine (err_made b s a 0 _ H.out).mono ?_
  rintro e w1 ⟨rfl, rfl⟩
  go_wp2_with fail
  go_quiet (fail)
  go_wp2
  go_ret
  exact ⟨rfl, below_draws (Below.refl _ _) _⟩
set_option maxRecDepth 100000 in
set_option maxHeartbeats 1600000 in
theorem left_err (b : Nat) (s : ByteArray) (a x : Int) (w : World) (h : Rd w b s a x) (hx : x ≠ 0) :
    Calls Tryz.prog 127 #[.pointer (some ⟨b, 0, none⟩)] w fun e w' => e = .returned (.int .i64 0) ∧ w = w' := by
  have H := Lib.hid h
  clear h
  have hq : (x != 0) = true := by simp [hx]
  go_enter Tryz.func127, Tryz.ntmps127
  go_wp2_with fail
  refine (err_made b s a x _ H.out).mono ?_
  rintro e w1 ⟨rfl, rfl⟩
  go_wp2
  go_ret
  exact ⟨rfl, rfl⟩
set_option maxRecDepth 100000 in
set_option maxHeartbeats 1600000 in
theorem end_err (b : Nat) (s : ByteArray) (a x : Int) (w : World) (h : Rd w b s a x) (hx : x ≠ 0) :
    Calls Tryz.prog 61 #[.pointer (some ⟨b, 0, none⟩)] w fun e w' => e = .returned (.int .i64 x) ∧ w = w' := by
  have H := Lib.hid h
  clear h
  go_enter Tryz.func61, Tryz.ntmps61
  go_wp2_with fail
  refine (left_err b s a x _ H.out hx).mono ?_
  rintro e w1 ⟨rfl, rfl⟩
  go_wp2_with fail
  refine (err_made b s a x _ H.out).mono ?_
  rintro e w1 ⟨rfl, rfl⟩
  go_wp2
  go_ret
  exact ⟨rfl, rfl⟩
/-- A reader that nobody made: there is none, or it is a zero one. -/
def NoRd (w : World) (p : Value) : Prop := p = .pointer none ∨ ∃ b, p = .pointer (some ⟨b, 0, none⟩) ∧ w.cell? ⟨b, 0, none⟩ = some (.bool false)
theorem NoRd.below {w w' : World} {p : Value} (h : NoRd w p) (hb : Below w.heap.size w w') : NoRd w' p := by
  rcases h with h | ⟨b, h, hc⟩
  · exact Or.inl h
  · exact Or.inr ⟨b, h, cell_below hb hc⟩
theorem NoRd.ptr {w : World} {p : Value} (h : NoRd w p) : ∃ o, p = .pointer o := by rcases h with rfl | ⟨b, rfl, _⟩ <;> exact ⟨_, rfl⟩
theorem err_no (p : Value) (w : World) (h : NoRd w p) : Calls Tryz.prog 59 #[p] w fun e w' => e = .returned (.int .i64 8) ∧ w = w' := by
  rcases h with rfl | ⟨b, rfl, hc⟩
  · exact err_nil w
  · exact err_unmade b w hc
set_option maxRecDepth 100000 in
set_option maxHeartbeats 1600000 in
theorem left_no (p : Value) (w : World) (h : NoRd w p) :
    Calls Tryz.prog 127 #[p] w fun e w' => e = .returned (.int .i64 0) ∧ w = w' := by
  have H := Lib.hid h
  clear h
  go_enter Tryz.func127, Tryz.ntmps127
  go_wp2_with fail
  refine (err_no p _ H.out).mono ?_
  rintro e w1 ⟨rfl, rfl⟩
  go_wp2
  go_ret
  exact ⟨rfl, rfl⟩
set_option maxRecDepth 100000 in
set_option maxHeartbeats 1600000 in
theorem end_no (p : Value) (w : World) (h : NoRd w p) :
    Calls Tryz.prog 61 #[p] w fun e w' => e = .returned (.int .i64 8) ∧ w = w' := by
  have H := Lib.hid h
  clear h
  go_enter Tryz.func61, Tryz.ntmps61
  go_wp2_with fail
  refine (left_no p _ H.out).mono ?_
  rintro e w1 ⟨rfl, rfl⟩
  go_wp2_with fail
  refine (err_no p _ H.out).mono ?_
  rintro e w1 ⟨rfl, rfl⟩
  go_wp2
  go_ret
  exact ⟨rfl, rfl⟩
set_option maxRecDepth 100000 in
set_option maxHeartbeats 1600000 in
theorem end_ok (b : Nat) (s : ByteArray) (a : Nat) (w : World) (h : Rd w b s a 0) (hs : s.size ≤ 9223372036854775807) (ha : a ≤ s.size) :
    Calls Tryz.prog 61 #[.pointer (some ⟨b, 0, none⟩)] w fun e w' => e = .returned (.int .i64 (if a < s.size then 4 else 0)) ∧ Below w.heap.size w w' := by
  have H := Lib.hid h
  clear h
  by_cases hlt : a < s.size
  · rw [if_pos hlt]
    have hq : 0 < (s.size : Int) - (a : Int) := by omega
    go_enter Tryz.func61, Tryz.ntmps61
    go_wp2_with fail
    refine (left_ok b s a _ H.out hs ha).mono ?_
    rintro e w1 ⟨rfl, hb⟩
    have HB := Lib.hid hb; clear hb
    go_wp2
    go_ret
    exact ⟨rfl, HB.out⟩
  · rw [if_neg hlt]
    have hq : ¬ 0 < (s.size : Int) - (a : Int) := by omega
    go_enter Tryz.func61, Tryz.ntmps61
    go_wp2_with fail
    refine (left_ok b s a _ H.out hs ha).mono ?_
    rintro e w1 ⟨rfl, hb⟩
    have HB := Lib.hid hb; have H1 := Lib.hid (H.out.below hb); clear hb
    go_wp2_with fail
    refine (err_made b s a 0 _ H1.out).mono ?_
    rintro e w2 ⟨rfl, rfl⟩
    go_wp2
    go_ret
    exact ⟨rfl, HB.out⟩
set_option maxRecDepth 100000 in
set_option maxHeartbeats 1600000 in
theorem take_no (p st : Value) (w : World) (h : NoRd w p) :
    Calls Tryz.prog 116 #[p, st] w fun e w' => e = .returned (.tuple #[]) ∧ Below w.heap.size w w' := by
  have hb1 := rBox_below w p
  have H1 := Lib.hid (h.below hb1)
  have HB := Lib.hid hb1
  obtain ⟨o, rfl⟩ := h.ptr
  clear h hb1
  go_enter_defers Tryz.func116, Tryz.ntmps116
  go_wp2_with fail
  refine (err_no _ _ H1.out).mono ?_
  rintro e w1 ⟨rfl, rfl⟩
  go_wp2
  simp [bodyPostD, Leaves, settle, results, Tryz.results116]
  exact HB.out
set_option maxRecDepth 100000 in
set_option maxHeartbeats 1600000 in
theorem rNum_no (p : Value) (m : Int) (w : World) (h : NoRd w p) :
    Calls Tryz.prog 58 #[p, .int .i64 m] w fun e w' => e = .returned (.int .i64 0) ∧ Below w.heap.size w w' := by
  have hmf : ∀ (fn : Fn) (first cap : Array Value) (w : World), (Instr.makeFunc fn first cap).run Tryz.prog w = .ok (.func fn first cap) w := fun _ _ _ _ => rfl
  obtain ⟨o, rfl⟩ := h.ptr
  obtain ⟨W, hW⟩ : ∃ W, W = (((w.alloc (.cells #[.pointer o] 103)).alloc (.cells #[.int .i64 m] 3)).alloc (.cells #[.int .i64 0] 3)) := ⟨_, rfl⟩
  have hl := lay3 w (.pointer o) (.int .i64 m) (.int .i64 0) 103 3 3
  rw [← hW] at hl
  obtain ⟨l0, l1, l2, l3, l4⟩ := hl
  have H1 := Lib.hid (h.below l0)
  have HB := Lib.hid l0
  have HW := Lib.hid hW; have M3 := Lib.hid l3
  clear h l0 l1 l2 l3 l4
  go_enter Tryz.func58, Tryz.ntmps58
  go_wp2_with fail
  rw [← HW.out]
  refine (take_no _ _ _ H1.out).mono ?_
  rintro e w1 ⟨rfl, r1⟩
  have r3 := cell_below r1 M3.out
  have R2 := Lib.hid (HB.out.trans (r1.mono HB.out.size)); clear r1
  go_wp2
  go_ret
  exact ⟨rfl, R2.out⟩
set_option maxRecDepth 100000 in
set_option maxHeartbeats 1600000 in
theorem rBig_no (p : Value) (w : World) (h : NoRd w p) :
    Calls Tryz.prog 120 #[p] w fun e w' => e = .returned (.int .u64 0) ∧ Below w.heap.size w w' := by
  have hmf : ∀ (fn : Fn) (first cap : Array Value) (w : World), (Instr.makeFunc fn first cap).run Tryz.prog w = .ok (.func fn first cap) w := fun _ _ _ _ => rfl
  obtain ⟨o, rfl⟩ := h.ptr
  obtain ⟨W, hW⟩ : ∃ W, W = ((w.alloc (.cells #[.pointer o] 103)).alloc (.cells #[.int .u64 0] 22)) := ⟨_, rfl⟩
  have hl := lay2 w (.pointer o) (.int .u64 0) 103 22
  rw [← hW] at hl
  obtain ⟨l0, l1, l3, l4⟩ := hl
  have H1 := Lib.hid (h.below l0)
  have HB := Lib.hid l0
  have HW := Lib.hid hW; have M3 := Lib.hid l3
  clear h l0 l1 l3 l4
  go_enter Tryz.func120, Tryz.ntmps120
  go_wp2_with fail
  rw [← HW.out]
  refine (take_no _ _ _ H1.out).mono ?_
  rintro e w1 ⟨rfl, r1⟩
  have r3 := cell_below r1 M3.out
  have R2 := Lib.hid (HB.out.trans (r1.mono HB.out.size)); clear r1
  go_wp2
  go_ret
  exact ⟨rfl, R2.out⟩
set_option maxRecDepth 100000 in
set_option maxHeartbeats 1600000 in
theorem rText_no (p : Value) (m : Int) (w : World) (h : NoRd w p) :
    Calls Tryz.prog 121 #[p, .int .i64 m] w fun e w' => e = .returned (.string ⟨#[]⟩) ∧ Below w.heap.size w w' := by
  have hmf : ∀ (fn : Fn) (first cap : Array Value) (w : World), (Instr.makeFunc fn first cap).run Tryz.prog w = .ok (.func fn first cap) w := fun _ _ _ _ => rfl
  obtain ⟨o, rfl⟩ := h.ptr
  obtain ⟨W, hW⟩ : ∃ W, W = (((w.alloc (.cells #[.pointer o] 103)).alloc (.cells #[.int .i64 m] 3)).alloc (.cells #[.string ⟨#[]⟩] 9)) := ⟨_, rfl⟩
  have hl := lay3 w (.pointer o) (.int .i64 m) (.string ⟨#[]⟩) 103 3 9
  rw [← hW] at hl
  obtain ⟨l0, l1, l2, l3, l4⟩ := hl
  have H1 := Lib.hid (h.below l0)
  have HB := Lib.hid l0
  have HW := Lib.hid hW; have M3 := Lib.hid l3
  clear h l0 l1 l2 l3 l4
  go_enter Tryz.func121, Tryz.ntmps121
  go_wp2_with fail
  rw [← HW.out]
  refine (take_no _ _ _ H1.out).mono ?_
  rintro e w1 ⟨rfl, r1⟩
  have r3 := cell_below r1 M3.out
  have R2 := Lib.hid (HB.out.trans (r1.mono HB.out.size)); clear r1
  go_wp2
  go_ret
  exact ⟨rfl, R2.out⟩
set_option maxRecDepth 100000 in
set_option maxHeartbeats 1600000 in
theorem rFlag_no (p : Value) (w : World) (h : NoRd w p) :
    Calls Tryz.prog 119 #[p] w fun e w' => e = .returned (.bool false) ∧ Below w.heap.size w w' := by
  have hmf : ∀ (fn : Fn) (first cap : Array Value) (w : World), (Instr.makeFunc fn first cap).run Tryz.prog w = .ok (.func fn first cap) w := fun _ _ _ _ => rfl
  obtain ⟨o, rfl⟩ := h.ptr
  obtain ⟨W, hW⟩ : ∃ W, W = ((w.alloc (.cells #[.pointer o] 103)).alloc (.cells #[.bool false] 4)) := ⟨_, rfl⟩
  have hl := lay2 w (.pointer o) (.bool false) 103 4
  rw [← hW] at hl
  obtain ⟨l0, l1, l3, l4⟩ := hl
  have H1 := Lib.hid (h.below l0)
  have HB := Lib.hid l0
  have HW := Lib.hid hW; have M3 := Lib.hid l3
  clear h l0 l1 l3 l4
  go_enter Tryz.func119, Tryz.ntmps119
  go_wp2_with fail
  rw [← HW.out]
  refine (take_no _ _ _ H1.out).mono ?_
  rintro e w1 ⟨rfl, r1⟩
  have r3 := cell_below r1 M3.out
  have R2 := Lib.hid (HB.out.trans (r1.mono HB.out.size)); clear r1
  go_wp2
  go_ret
  exact ⟨rfl, R2.out⟩
set_option maxRecDepth 100000 in
set_option maxHeartbeats 1600000 in
theorem open_size (s : ByteArray) (w : World) :
    Calls Tryz.prog 57 #[.string s] w fun e w' => e = .returned (.pointer (some ⟨w.heap.size, 0, none⟩)) ∧ Rd w' w.heap.size s 0 0 ∧ w'.heap.size = w.heap.size + 1 ∧ Below w.heap.size w w' := by
  go_enter Tryz.func57, Tryz.ntmps57
  go_wp2
  go_ret
  exact ⟨rfl, ⟨by simp, by simp, by simp, by simp, by simp, by simp⟩, by simp, (Below.refl _ _).alloc (Nat.le_refl _) _⟩
theorem RE.ok {w : World} {b : Nat} {s : ByteArray} {a : Int} (h : RE w b s a 0) : Rd w b s a 0 := by unfold RE at h; rw [if_pos rfl] at h; exact h
end Go.Proofs.YteioaaegooebpaaGreat
