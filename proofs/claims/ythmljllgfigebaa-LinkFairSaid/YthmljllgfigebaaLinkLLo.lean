/- Package link: New, Send, and what one that nobody made answers. Conditions: none. -/
import Derived.Test.YthmljllgfigebaaLinkK0Lo
import Derived.Test.YthmljllgfigebaaLinkJLo
namespace Go.Proofs.Ythmljllgfigebaa
open Go.RowKit Go.Shelf
set_option linter.unusedVariables false
set_option maxRecDepth 100000
set_option maxHeartbeats 2000000
theorem lkNew_ok (boot : Int) (w : World) (h : 1 ≤ boot ∧ boot ≤ 1073741824) : Calls Try.prog 32 #[.int .i64 boot] w fun e w' => e = .returned (.tuple #[pt w.heap.size 0, .int .i64 0]) ∧ LkO 102 (fun q => q = w.heap.size) w' w.heap.size (newLn boot) ∧ Below w.heap.size w w' := by
  have hb : Blk (w.alloc (.cells #[.int .i64 boot, .int .i64 1, .int .i64 0, .slice none 0 0, .int .i64 0, .int .i64 0, .int .i64 0, .int .i64 0, .bool false] 102)) w.heap.size 102 #[.int .i64 boot, .int .i64 1, .int .i64 0, .slice none 0 0, .int .i64 0, .int .i64 0, .int .i64 0, .int .i64 0, .bool false] := World.alloc_heap_new w _
  have hB : Below w.heap.size w (w.alloc (.cells #[.int .i64 boot, .int .i64 1, .int .i64 0, .slice none 0 0, .int .i64 0, .int .i64 0, .int .i64 0, .int .i64 0, .bool false] 102)) := (Below.refl _ w).alloc (Nat.le_refl _) _
  have H := Lib.hid (LkO.new hb h); have HB := Lib.hid hB; clear hb hB
  have d1 : decide (boot < 1) = false := decide_eq_false (by omega)
  have d2 : decide (boot > 1073741824) = false := decide_eq_false (by omega)
  go_enter Try.func32, Try.ntmps32
  go_wp2
  go_ret2
  exact ⟨rfl, H.out, HB.out⟩
theorem lkNew_bad (boot : Int) (w : World) (h : ¬ (1 ≤ boot ∧ boot ≤ 1073741824)) : Calls Try.prog 32 #[.int .i64 boot] w fun e w' => e = .returned (.tuple #[.pointer none, .int .i64 1]) ∧ w = w' := by
  by_cases q : boot < 1
  · have d1 : decide (boot < 1) = true := decide_eq_true q
    go_enter Try.func32, Try.ntmps32
    go_wp2
    go_ret2
    exact ⟨rfl, rfl⟩
  · have d1 : decide (boot < 1) = false := decide_eq_false q
    have d2 : decide (boot > 1073741824) = true := decide_eq_true (by omega)
    go_enter Try.func32, Try.ntmps32
    go_wp2
    go_ret2
    exact ⟨rfl, rfl⟩
theorem rlNew_ok (boot : Int) (w : World) (h : 1 ≤ boot ∧ boot ≤ 1073741824) : Calls Try.prog 33 #[.int .i64 boot] w fun e w' => e = .returned (.tuple #[pt w.heap.size 0, .int .i64 0]) ∧ LkO 74 (fun q => q = w.heap.size) w' w.heap.size (newLn boot) ∧ Below w.heap.size w w' := by
  have hb : Blk (w.alloc (.cells #[.int .i64 boot, .int .i64 1, .int .i64 0, .slice none 0 0, .int .i64 0, .int .i64 0, .int .i64 0, .int .i64 0, .bool false] 74)) w.heap.size 74 #[.int .i64 boot, .int .i64 1, .int .i64 0, .slice none 0 0, .int .i64 0, .int .i64 0, .int .i64 0, .int .i64 0, .bool false] := World.alloc_heap_new w _
  have hB : Below w.heap.size w (w.alloc (.cells #[.int .i64 boot, .int .i64 1, .int .i64 0, .slice none 0 0, .int .i64 0, .int .i64 0, .int .i64 0, .int .i64 0, .bool false] 74)) := (Below.refl _ w).alloc (Nat.le_refl _) _
  have H := Lib.hid (LkO.new hb h); have HB := Lib.hid hB; clear hb hB
  have d1 : decide (boot < 1) = false := decide_eq_false (by omega)
  have d2 : decide (boot > 1073741824) = false := decide_eq_false (by omega)
  go_enter Try.func33, Try.ntmps33
  go_wp2
  go_ret2
  exact ⟨rfl, H.out, HB.out⟩
theorem rlNew_bad (boot : Int) (w : World) (h : ¬ (1 ≤ boot ∧ boot ≤ 1073741824)) : Calls Try.prog 33 #[.int .i64 boot] w fun e w' => e = .returned (.tuple #[.pointer none, .int .i64 1]) ∧ w = w' := by
  by_cases q : boot < 1
  · have d1 : decide (boot < 1) = true := decide_eq_true q
    go_enter Try.func33, Try.ntmps33
    go_wp2
    go_ret2
    exact ⟨rfl, rfl⟩
  · have d1 : decide (boot < 1) = false := decide_eq_false q
    have d2 : decide (boot > 1073741824) = true := decide_eq_true (by omega)
    go_enter Try.func33, Try.ntmps33
    go_wp2
    go_ret2
    exact ⟨rfl, rfl⟩
theorem lkSend_any (S : Nat → Prop) (w : World) (b : Nat) (u : Value) (L : LnT) (t : ByteArray) (h : LkU 102 S w b u L) :
    Calls Try.prog 34 #[pt b 0, .string t] w fun e w' => ∃ (u' : Value) (S' : Nat → Prop), e = .returned (.int .i64 (sendT L t).1) ∧ LkU 102 S' w' b u' (sendT L t).2 ∧ Grew S S' w w' := by
  have c3 : w.cell? ⟨b, 3, none⟩ = some u := h.blk.cell (k := 3) rfl
  have hsl := h.sl
  obtain ⟨ao, cap, rfl, -, -, -, -⟩ := hsl
  have h8 := h.ok.len
  have H := Lib.hid h; clear h
  by_cases q : 65536 < t.size
  · have d1 : decide ((t.size : Int) > 65536) = true := decide_eq_true (by omega)
    have hE : sendT L t = (3, L) := by unfold sendT; rw [if_pos q]
    rw [hE]
    clear hE
    go_enter Try.func34, Try.ntmps34
    go_wp2_with fail
    refine (lkZero_blk b _ L _ H.out.blk H.out.ok).mono ?_
    rintro e w1 ⟨rfl, rfl⟩
    go_wp2
    go_ret
    exact ⟨_, S, rfl, H.out, fun q h => .inl h, But.refl _ _⟩
  · have d1 : decide ((t.size : Int) > 65536) = false := decide_eq_false (by omega)
    by_cases q2 : 8 ≤ L.q.length
    · have d2 : decide ((L.q.length : Int) ≥ 8) = true := decide_eq_true (by omega)
      have hE : sendT L t = (6, L) := by unfold sendT; rw [if_neg q, if_pos q2]
      rw [hE]
      clear hE
      go_enter Try.func34, Try.ntmps34
      go_wp2_with fail
      refine (lkZero_blk b _ L _ H.out.blk H.out.ok).mono ?_
      rintro e w1 ⟨rfl, rfl⟩
      go_wp2
      go_ret
      exact ⟨_, S, rfl, H.out, fun q h => .inl h, But.refl _ _⟩
    · have d2 : decide ((L.q.length : Int) ≥ 8) = false := decide_eq_false (by omega)
      have hE : sendT L t = (0, { L with q := L.q ++ [t] }) := by unfold sendT; rw [if_neg q, if_neg q2]
      rw [hE]
      clear hE
      go_enter Try.func34, Try.ntmps34
      go_wp2_with fail
      refine (lkZero_blk b _ L _ H.out.blk H.out.ok).mono ?_
      rintro e w1 ⟨rfl, rfl⟩
      go_wp2_with fail
      refine (lkAdd_any S b _ L t w H.out (by omega) (by omega)).mono ?_
      rintro e w1 ⟨u', rfl, ⟨S', h1, h2⟩, -⟩
      have H1 := Lib.hid h1; have H2 := Lib.hid h2; clear h1 h2
      go_wp2
      go_ret
      exact ⟨u', S', rfl, H1.out, H2.out⟩
/-- Nobody made it. -/
def NoLk (w : World) (p : Value) : Prop := p = .pointer none ∨ ∃ b a1 a2 a3 a4 a5 a6 a7 a8, p = pt b 0 ∧ Blk w b 102 #[.int .i64 0, a1, a2, a3, a4, a5, a6, a7, a8]
theorem NoLk.gr {w x : World} {p : Value} (h : NoLk w p) (hg : w.grownBy x none) : NoLk x p := by
  rcases h with rfl | ⟨b, a1, a2, a3, a4, a5, a6, a7, a8, rfl, h⟩
  · exact .inl rfl
  · exact .inr ⟨b, a1, a2, a3, a4, a5, a6, a7, a8, rfl, h.kept hg (by simp)⟩
theorem zero_noL (w : World) (p : Value) (h : NoLk w p) : Calls Try.prog 71 #[p] w fun e w' => e = .returned (.bool true) ∧ w = w' := by
  rcases h with rfl | ⟨b, a1, a2, a3, a4, a5, a6, a7, a8, rfl, h⟩
  · go_enter Try.func71, Try.ntmps71
    go_wp2
    go_ret
    exact ⟨rfl, rfl⟩
  · have c0 : w.cell? ⟨b, 0, none⟩ = some (.int .i64 0) := h.cell (k := 0) rfl
    go_enter Try.func71, Try.ntmps71
    go_wp2
    go_ret
    exact ⟨rfl, rfl⟩
theorem zsendL (w : World) (p : Value) (t : ByteArray) (h : NoLk w p) : Calls Try.prog 34 #[p, .string t] w fun e w' => e = .returned (.int .i64 8) ∧ w = w' := by
  have H := Lib.hid h; clear h
  go_enter Try.func34, Try.ntmps34
  go_wp2_with fail
  refine (zero_noL w p H.out).mono ?_
  rintro e w1 ⟨rfl, rfl⟩
  go_wp2
  go_ret
  exact ⟨rfl, rfl⟩
theorem zwaitL (w : World) (p : Value) (h : NoLk w p) : Calls Try.prog 41 #[p] w fun e w' => e = .returned (.int .i64 0) ∧ w = w' := by
  have H := Lib.hid h; clear h
  go_enter Try.func41, Try.ntmps41
  go_wp2_with fail
  refine (zero_noL w p H.out).mono ?_
  rintro e w1 ⟨rfl, rfl⟩
  go_wp2
  go_ret
  exact ⟨rfl, rfl⟩
theorem zknowsL (w : World) (p : Value) (h : NoLk w p) : Calls Try.prog 42 #[p] w fun e w' => e = .returned (.int .i64 0) ∧ w = w' := by
  have H := Lib.hid h; clear h
  go_enter Try.func42, Try.ntmps42
  go_wp2_with fail
  refine (zero_noL w p H.out).mono ?_
  rintro e w1 ⟨rfl, rfl⟩
  go_wp2
  go_ret
  exact ⟨rfl, rfl⟩
theorem zinL (w : World) (p : Value) (s : SegT) (h : NoLk w p) : Calls Try.prog 39 #[p, segV s] w fun e w' => e = .returned (.tuple #[.slice none 0 0, .int .i64 8]) ∧ Below w.heap.size w w' := by
  have HB := Lib.hid ((Below.refl w.heap.size w).alloc (Nat.le_refl _) (.cells #[.int .i64 s.boot, .int .i64 s.stream, .int .i64 s.seq, .int .i64 s.ab, .int .i64 s.ast, .int .i64 s.asq, .bool s.has, .string s.body] 61))
  have H := Lib.hid (h.gr (World.grownBy_alloc w (.cells #[.int .i64 s.boot, .int .i64 s.stream, .int .i64 s.seq, .int .i64 s.ab, .int .i64 s.ast, .int .i64 s.asq, .bool s.has, .string s.body] 61) none)); clear h
  go_enter Try.func39, Try.ntmps39
  unfold segV
  go_wp2_with fail
  refine (zero_noL _ p H.out).mono ?_
  rintro e w1 ⟨rfl, rfl⟩
  go_wp2
  go_ret2
  exact ⟨rfl, HB.out⟩
theorem zoutL (w : World) (p : Value) (g : Bool) (h : NoLk w p) : Calls Try.prog 37 #[p, .bool g] w fun e w' => e = .returned (.slice none 0 0) ∧ w = w' := by
  have H := Lib.hid h; clear h
  go_enter Try.func37, Try.ntmps37
  go_wp2_with fail
  refine (zero_noL w p H.out).mono ?_
  rintro e w1 ⟨rfl, rfl⟩
  go_wp2
  go_ret
  exact ⟨rfl, rfl⟩
end Go.Proofs.Ythmljllgfigebaa
