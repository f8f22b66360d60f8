/- catenalaw22: LinkZero. Conditions: none. -/
import Derived.Test.YthmljllgfigebaaLinkO
import Derived.OpenShut
namespace Go.Proofs.Ythmljllgfigebaa
open Go.RowKit Go.Shelf Go.ChangeShapes Go.WideShapes Go.ChangeAt
set_option linter.unusedVariables false
set_option maxRecDepth 100000 in
set_option maxHeartbeats 4000000 in
theorem lzero_any (s : SegT) (t : ByteArray) (w : World) : Calls Try.prog 11 #[segV s, .string t] w fun e w' => e = .returned (.bool true) ∧ Below w.heap.size w w' := by
  obtain ⟨w1, hw1⟩ : ∃ w1, w1 = w.alloc (.cells #[.int .i64 s.boot, .int .i64 s.stream, .int .i64 s.seq, .int .i64 s.ab, .int .i64 s.ast, .int .i64 s.asq, .bool s.has, .string s.body] 61) := ⟨_, rfl⟩
  obtain ⟨w2, hw2⟩ : ∃ w2, w2 = w1.alloc (.cells #[.int .i64 0, .int .i64 0, .int .i64 0, .slice none 0 0, .int .i64 0, .int .i64 0, .int .i64 0, .int .i64 0, .bool false] 102) := ⟨_, rfl⟩
  have hS1 : Blk w1 w.heap.size 61 #[.int .i64 s.boot, .int .i64 s.stream, .int .i64 s.seq, .int .i64 s.ab, .int .i64 s.ast, .int .i64 s.asq, .bool s.has, .string s.body] := by rw [hw1]; exact World.alloc_heap_new w _
  have hZ : Blk w2 w1.heap.size 102 #[.int .i64 0, .int .i64 0, .int .i64 0, .slice none 0 0, .int .i64 0, .int .i64 0, .int .i64 0, .int .i64 0, .bool false] := by rw [hw2]; exact World.alloc_heap_new w1 _
  have hB1 : Below w.heap.size w w1 := by rw [hw1]; exact (Below.refl _ w).alloc (Nat.le_refl _) _
  have hB12 : Below w1.heap.size w1 w2 := by rw [hw2]; exact (Below.refl _ w1).alloc (Nat.le_refl _) _
  have hS2 := hS1.below hB12
  have hB2 := hb_call hB1 hB12
  have hsz : w1.heap.size = w.heap.size + 1 := by rw [hw1]; simp
  rw [hsz] at hZ
  have hz2 : NoLk w2 (pt (w.heap.size + 1) 0) := .inr ⟨_, _, _, _, _, _, _, _, _, rfl, hZ⟩
  have rS : w2.rangeAt w.heap.size 0 [.int .i64 s.boot, .int .i64 s.stream, .int .i64 s.seq, .int .i64 s.ab, .int .i64 s.ast, .int .i64 s.asq, .bool s.has, .string s.body] := hS2.all
  have q0 := hS2.cell (k := 0) rfl; have q1 := hS2.cell (k := 1) rfl; have q2 := hS2.cell (k := 2) rfl; have q3 := hS2.cell (k := 3) rfl; have q4 := hS2.cell (k := 4) rfl; have q5 := hS2.cell (k := 5) rfl; have q6 := hS2.cell (k := 6) rfl; have q7 := hS2.cell (k := 7) rfl
  have Z2 := Lib.hid hz2; have HB2 := Lib.hid hB2; have HS2 := Lib.hid hS2; have HSZ := Lib.hid hsz; have HW1 := Lib.hid hw1; have HW2 := Lib.hid hw2
  clear hz2 hB2 hS1 hZ hB1 hB12 hS2 hsz hw1 hw2
  go_enter Try.func11, Try.ntmps11
  unfold segV
  go_wp2_with fail
  rw [← HW1.out, ← HW2.out]
  refine (zinL w2 _ s (.inl rfl)).mono ?_
  rintro e w3 ⟨rfl, hb3⟩
  have Z3 := Lib.hid (Z2.out.gr (below_grown hb3)); have HB3 := Lib.hid (hb_call HB2.out hb3); have HS3 := Lib.hid (HS2.out.below hb3); clear hb3 Z2 HB2 HS2 rS q0 q1 q2 q3 q4 q5 q6 q7
  have rS : w3.rangeAt w.heap.size 0 [.int .i64 s.boot, .int .i64 s.stream, .int .i64 s.seq, .int .i64 s.ab, .int .i64 s.ast, .int .i64 s.asq, .bool s.has, .string s.body] := HS3.out.all
  have q0 := HS3.out.cell (k := 0) rfl; have q1 := HS3.out.cell (k := 1) rfl; have q2 := HS3.out.cell (k := 2) rfl; have q3 := HS3.out.cell (k := 3) rfl; have q4 := HS3.out.cell (k := 4) rfl; have q5 := HS3.out.cell (k := 5) rfl; have q6 := HS3.out.cell (k := 6) rfl; have q7 := HS3.out.cell (k := 7) rfl
  go_wp2_with fail
  refine (zinL w3 _ s Z3.out).mono ?_
  rintro e w4 ⟨rfl, hb4⟩
  have Z4 := Lib.hid (Z3.out.gr (below_grown hb4)); have HB4 := Lib.hid (hb_call HB3.out hb4); clear hb4 Z3 HB3 HS3 rS q0 q1 q2 q3 q4 q5 q6 q7
  go_wp2_with fail
  refine (zsendL w4 _ t (.inl rfl)).mono ?_
  rintro e w5 ⟨rfl, rfl⟩
  go_wp2_with fail
  refine (zsendL w4 _ t Z4.out).mono ?_
  rintro e w5 ⟨rfl, rfl⟩
  go_wp2_with fail
  refine (zoutL w4 _ true (.inl rfl)).mono ?_
  rintro e w5 ⟨rfl, rfl⟩
  go_wp2_with fail
  refine (zoutL w4 _ true Z4.out).mono ?_
  rintro e w5 ⟨rfl, rfl⟩
  go_wp2_with fail
  refine (zwaitL w4 _ (.inl rfl)).mono ?_
  rintro e w5 ⟨rfl, rfl⟩
  go_wp2_with fail
  refine (zwaitL w4 _ Z4.out).mono ?_
  rintro e w5 ⟨rfl, rfl⟩
  go_wp2_with fail
  refine (zknowsL w4 _ (.inl rfl)).mono ?_
  rintro e w5 ⟨rfl, rfl⟩
  go_wp2_with fail
  refine (zknowsL w4 _ Z4.out).mono ?_
  rintro e w5 ⟨rfl, rfl⟩
  go_wp2_with fail
  refine (awake22 w4).mono ?_
  rintro e w5 ⟨rfl, hb5⟩
  have HB5 := Lib.hid (hb_call HB4.out hb5); clear hb5 HB4
  go_wp2
  go_ret
  exact ⟨rfl, HB5.out⟩
abbrev SegOk (p : SegT) : Prop := (Lit.int .i64 p.boot).wf = true ∧ (Lit.int .i64 p.stream).wf = true ∧ (Lit.int .i64 p.seq).wf = true ∧ (Lit.int .i64 p.ab).wf = true ∧ (Lit.int .i64 p.ast).wf = true ∧ (Lit.int .i64 p.asq).wf = true ∧ p.body.size ≤ 9223372036854775807
set_option maxRecDepth 100000 in
theorem open_seg {H : Type} {enc : TypeId × Value → H} {w W0 : World} {base b0 : Nat} {spare : Nat → Bool} {held : Bool} {r : Reach} {v : Value} {n : Nat} {x : DataW H × List MemPlace}
    (hv : Value.okWide Try.prog w r b0 61 v) (h : DataW.trod enc Try.prog W0 base spare held n 61 v.cells.toList = some x) :
    ∃ p : SegT, v = segV p ∧ SegOk p := by
  obtain ⟨cs, rfl, hsz⟩ := okWide_struct Try.underlying61 hv
  obtain ⟨p, hp, hok⟩ := elem_seg _ _ _ h
  refine ⟨p, ?_, hok⟩
  obtain ⟨cl⟩ := cs
  have hp' : cl = segE p := hp
  subst hp'; rfl
theorem lzeroS (s : SegT) (t : ByteArray) (w : World) (_h : SegOk s) (_ht : t.size ≤ 140737488351232) : Calls Try.prog 11 #[segV s, .string t] w fun e w' => e = .returned (.bool true) ∧ Below w.heap.size w w' := lzero_any s t w
end Go.Proofs.Ythmljllgfigebaa
