/- Package wire: a writer is made, and answers. Conditions: none. -/
import Derived.Test.YteioaaegooebpaaGreatWireE
import Derived.Laws.BytesArg
namespace Go.Proofs.YteioaaegooebpaaGreat
open Go.RowKit Go.PlainAid

theorem row_text {w : World} {B : Nat} {v : Value} (l : List UInt8) (h : w.ownsRow B 5 1 v l.length (bs l)) : (convert 136 9 v).run Tryz.prog w = .ok (.string ⟨l.toArray⟩) w := by
  obtain ⟨ao, c, rfl, _, hv⟩ := row_view h
  cases ao with
  | none =>
    have : l = [] := by
      cases l with
      | nil => rfl
      | cons x r => obtain ⟨g, hg, _⟩ := hv 0 (by simp); cases hg
    subst this
    exact run_convert_bytes_nil w _ _ Tryz.underlying136 Tryz.underlying5 _ _ _ Tryz.underlying9
  | some a =>
    refine run_convert_bytes_back (P := Tryz.prog) w 136 9 5 a c l Tryz.underlying136 Tryz.underlying5 Tryz.underlying9 (fun j hj => ?_)
    obtain ⟨g, hg, _, hc⟩ := hv j hj
    cases hg
    rw [Addr.add_lit, Nat.zero_add, hc]
    simp [bs, hj]
set_option maxRecDepth 100000 in
set_option maxHeartbeats 1600000 in
theorem new_any (w : World) :
    Calls Tryz.prog 29 #[] w fun e w' => e = .returned (.pointer (some ⟨w.heap.size, 0, none⟩)) ∧ Wr w' w.heap.size (w.heap.size + 1) [] 0 ∧ Below w.heap.size w w' := by
  go_enter Tryz.func29, Tryz.ntmps29
  go_wp2
  go_ret
  refine ⟨rfl, ⟨by simp, by simp, by simp, by simp, by omega, by simp, .slice none 0 0, by simp, rfl, Or.inl ⟨rfl, rfl⟩⟩, (Below.refl _ _).alloc (Nat.le_refl _) _⟩
set_option maxRecDepth 100000 in
set_option maxHeartbeats 1600000 in
theorem wDone_ok (b B : Nat) (l : List UInt8) (w : World) (h : Wr w b B l 0) :
    Calls Tryz.prog 33 #[.pointer (some ⟨b, 0, none⟩)] w fun e w' => e = .returned (.tuple #[.string ⟨l.toArray⟩, .int .i64 0]) ∧ w = w' := by
  have c0 := h.made; have c2 := h.err
  obtain ⟨v, c1, ho⟩ := h.buf
  have hcv := row_text l ho
  clear h ho
  go_enter Tryz.func33, Tryz.ntmps33
  go_wp2
  go_ret2
  exact ⟨rfl, rfl⟩
set_option maxRecDepth 100000 in
set_option maxHeartbeats 1600000 in
theorem wDone_err (b B : Nat) (l : List UInt8) (x : Int) (w : World) (h : Wr w b B l x) (hx : x ≠ 0) :
    Calls Tryz.prog 33 #[.pointer (some ⟨b, 0, none⟩)] w fun e w' => e = .returned (.tuple #[.string ⟨#[]⟩, .int .i64 x]) ∧ Below w.heap.size w w' := by
  have c0 := h.made; have c2 := h.err
  have hq : (x = 0) = False := by simp [hx]
  have c2' : w.drew.cell? ⟨b, 2, none⟩ = some (.int .i64 x) := c2
  clear h
  go_enter Tryz.func33, Tryz.ntmps33
  go_wp2_with fail
  go_quiet (fail)
  go_wp2
  go_ret2
  exact ⟨rfl, below_draws (Below.refl _ _) _⟩
set_option maxRecDepth 100000 in
set_option maxHeartbeats 1600000 in
theorem wDone_unmade (b : Nat) (w : World) (h : w.cell? ⟨b, 0, none⟩ = some (.bool false)) :
    Calls Tryz.prog 33 #[.pointer (some ⟨b, 0, none⟩)] w fun e w' => e = .returned (.tuple #[.string ⟨#[]⟩, .int .i64 8]) ∧ w = w' := by
  go_enter Tryz.func33, Tryz.ntmps33
  go_wp2
  go_ret2
  exact ⟨rfl, rfl⟩
set_option maxRecDepth 100000 in
set_option maxHeartbeats 1600000 in
theorem wDone_nil (w : World) :
    Calls Tryz.prog 33 #[.pointer none] w fun e w' => e = .returned (.tuple #[.string ⟨#[]⟩, .int .i64 8]) ∧ w = w' := by
  go_enter Tryz.func33, Tryz.ntmps33
  go_wp2
  go_ret2
  exact ⟨rfl, rfl⟩
/-- A writer that nobody made does nothing: there is none, or it is a zero one. -/
def NoWr (w : World) (p : Value) : Prop := p = .pointer none ∨ ∃ b, p = .pointer (some ⟨b, 0, none⟩) ∧ w.cell? ⟨b, 0, none⟩ = some (.bool false)
theorem NoWr.below {w w' : World} {p : Value} (h : NoWr w p) (hb : Below w.heap.size w w') : NoWr w' p := by
  rcases h with h | ⟨b, h, hc⟩
  · exact Or.inl h
  · exact Or.inr ⟨b, h, cell_below hb hc⟩
theorem add_no (p st : Value) (w : World) (h : NoWr w p) : Calls Tryz.prog 91 #[p, st] w fun e w' => e = .returned p ∧ w = w' := by
  rcases h with rfl | ⟨b, rfl, hc⟩
  · exact add_nil st w
  · exact add_unmade b st w hc
theorem wDone_no (p : Value) (w : World) (h : NoWr w p) : Calls Tryz.prog 33 #[p] w fun e w' => e = .returned (.tuple #[.string ⟨#[]⟩, .int .i64 8]) ∧ w = w' := by
  rcases h with rfl | ⟨b, rfl, hc⟩
  · exact wDone_nil w
  · exact wDone_unmade b w hc
set_option maxRecDepth 100000 in
set_option maxHeartbeats 1600000 in
theorem wNum_no (p : Value) (n : Int) (w : World) (h : NoWr w p) :
    Calls Tryz.prog 30 #[p, .int .i64 n] w fun e w' => e = .returned p ∧ Below w.heap.size w w' := by
  have hmf : ∀ (fn : Fn) (first cap : Array Value) (w : World), (Instr.makeFunc fn first cap).run Tryz.prog w = .ok (.func fn first cap) w := fun _ _ _ _ => rfl
  have hb1 := two_boxes w p (.int .i64 n) 67 3
  have H1 := Lib.hid (h.below hb1)
  have p1 : ((w.alloc (.cells #[p] 67)).alloc (.cells #[.int .i64 n] 3)).cell? ⟨w.heap.size, 0, none⟩ = some p := by simp
  have HB := Lib.hid hb1
  have hpp : Hid (∃ o, p = .pointer o) := Lib.hid (by rcases h with rfl | ⟨b, rfl, _⟩ <;> exact ⟨_, rfl⟩)
  obtain ⟨o, rfl⟩ := hpp.out
  clear h hb1
  go_enter Tryz.func30, Tryz.ntmps30
  go_wp2_with fail
  refine (add_no _ _ _ H1.out).mono ?_
  rintro e w1 ⟨rfl, rfl⟩
  go_wp2
  go_ret
  exact ⟨rfl, HB.out⟩
set_option maxRecDepth 100000 in
set_option maxHeartbeats 1600000 in
theorem wBig_no (p : Value) (n : Int) (w : World) (h : NoWr w p) :
    Calls Tryz.prog 69 #[p, .int .u64 n] w fun e w' => e = .returned p ∧ Below w.heap.size w w' := by
  have hmf : ∀ (fn : Fn) (first cap : Array Value) (w : World), (Instr.makeFunc fn first cap).run Tryz.prog w = .ok (.func fn first cap) w := fun _ _ _ _ => rfl
  have hb1 := two_boxes w p (.int .u64 n) 67 22
  have H1 := Lib.hid (h.below hb1)
  have p1 : ((w.alloc (.cells #[p] 67)).alloc (.cells #[.int .u64 n] 22)).cell? ⟨w.heap.size, 0, none⟩ = some p := by simp
  have HB := Lib.hid hb1
  have hpp : Hid (∃ o, p = .pointer o) := Lib.hid (by rcases h with rfl | ⟨b, rfl, _⟩ <;> exact ⟨_, rfl⟩)
  obtain ⟨o, rfl⟩ := hpp.out
  clear h hb1
  go_enter Tryz.func69, Tryz.ntmps69
  go_wp2_with fail
  refine (add_no _ _ _ H1.out).mono ?_
  rintro e w1 ⟨rfl, rfl⟩
  go_wp2
  go_ret
  exact ⟨rfl, HB.out⟩
set_option maxRecDepth 100000 in
set_option maxHeartbeats 1600000 in
theorem wText_no (p : Value) (s : ByteArray) (w : World) (h : NoWr w p) :
    Calls Tryz.prog 67 #[p, .string s] w fun e w' => e = .returned p ∧ Below w.heap.size w w' := by
  have hmf : ∀ (fn : Fn) (first cap : Array Value) (w : World), (Instr.makeFunc fn first cap).run Tryz.prog w = .ok (.func fn first cap) w := fun _ _ _ _ => rfl
  have hb1 := two_boxes w p (.string s) 67 9
  have H1 := Lib.hid (h.below hb1)
  have p1 : ((w.alloc (.cells #[p] 67)).alloc (.cells #[.string s] 9)).cell? ⟨w.heap.size, 0, none⟩ = some p := by simp
  have HB := Lib.hid hb1
  have hpp : Hid (∃ o, p = .pointer o) := Lib.hid (by rcases h with rfl | ⟨b, rfl, _⟩ <;> exact ⟨_, rfl⟩)
  obtain ⟨o, rfl⟩ := hpp.out
  clear h hb1
  go_enter Tryz.func67, Tryz.ntmps67
  go_wp2_with fail
  refine (add_no _ _ _ H1.out).mono ?_
  rintro e w1 ⟨rfl, rfl⟩
  go_wp2
  go_ret
  exact ⟨rfl, HB.out⟩
set_option maxRecDepth 100000 in
set_option maxHeartbeats 1600000 in
theorem wFlag_no (p : Value) (f : Bool) (w : World) (h : NoWr w p) :
    Calls Tryz.prog 94 #[p, .bool f] w fun e w' => e = .returned p ∧ Below w.heap.size w w' := by
  have hmf : ∀ (fn : Fn) (first cap : Array Value) (w : World), (Instr.makeFunc fn first cap).run Tryz.prog w = .ok (.func fn first cap) w := fun _ _ _ _ => rfl
  have hb1 := two_boxes w p (.bool f) 67 4
  have H1 := Lib.hid (h.below hb1)
  have p1 : ((w.alloc (.cells #[p] 67)).alloc (.cells #[.bool f] 4)).cell? ⟨w.heap.size, 0, none⟩ = some p := by simp
  have HB := Lib.hid hb1
  have hpp : Hid (∃ o, p = .pointer o) := Lib.hid (by rcases h with rfl | ⟨b, rfl, _⟩ <;> exact ⟨_, rfl⟩)
  obtain ⟨o, rfl⟩ := hpp.out
  clear h hb1
  go_enter Tryz.func94, Tryz.ntmps94
  go_wp2_with fail
  refine (add_no _ _ _ H1.out).mono ?_
  rintro e w1 ⟨rfl, rfl⟩
  go_wp2
  go_ret
  exact ⟨rfl, HB.out⟩
/-- A writer that was just made. -/
structure FreshW (w : World) (b : Nat) : Prop where
  made : w.cell? ⟨b, 0, none⟩ = some (.bool true)
  buf : w.cell? ⟨b, 1, none⟩ = some (.slice none 0 0)
  err : w.cell? ⟨b, 2, none⟩ = some (.int .i64 0)
  fr1 : w.frozen? ⟨b, 1, none⟩ = false
  fr2 : w.frozen? ⟨b, 2, none⟩ = false
theorem FreshW.wr {w w' : World} {b B : Nat} (h : FreshW w b) (hb : Below w.heap.size w w') (h1 : b < B) (h2 : B ≤ w'.heap.size) : Wr w' b B [] 0 := by
  have hl := World.block_lt_of_cell? w _ h.made
  exact ⟨cell_below hb h.made, cell_below hb h.err, (hb.frozen (p := ⟨b, 1, none⟩) hl).trans h.fr1, (hb.frozen (p := ⟨b, 2, none⟩) hl).trans h.fr2, h1, h2, _, cell_below hb h.buf, rfl, Or.inl ⟨rfl, rfl⟩⟩
set_option maxRecDepth 100000 in
set_option maxHeartbeats 1600000 in
theorem wnew_any (w : World) :
    Calls Tryz.prog 29 #[] w fun e w' => e = .returned (.pointer (some ⟨w.heap.size, 0, none⟩)) ∧ FreshW w' w.heap.size ∧ w'.heap.size = w.heap.size + 1 ∧ Below w.heap.size w w' := by
  go_enter Tryz.func29, Tryz.ntmps29
  go_wp2
  go_ret
  refine ⟨rfl, ⟨by simp, by simp, by simp, by simp, by simp⟩, by simp, (Below.refl _ _).alloc (Nat.le_refl _) _⟩
end Go.Proofs.YteioaaegooebpaaGreat
