/- Package tree: what one that nobody made answers. Conditions: none. -/
import Derived.Test.YthmljllgfigebaaTreeM
namespace Go.Proofs.Ythmljllgfigebaa
open Go.RowKit Go.Shelf
set_option linter.unusedVariables false
set_option maxRecDepth 100000
set_option maxHeartbeats 2000000
/-- Nobody made it. -/
def NoTr (w : World) (p : Value) : Prop := p = .pointer none ∨ ∃ tb u v, p = pt tb 0 ∧ Blk w tb 51 #[.bool false, u, v]
theorem NoTr.gr {w x : World} {p : Value} (h : NoTr w p) (hg : w.grownBy x none) : NoTr x p := by
  rcases h with rfl | ⟨tb, u, v, rfl, h⟩
  · exact .inl rfl
  · exact .inr ⟨tb, u, v, rfl, h.kept hg (by simp)⟩
theorem zero_no (w : World) (p : Value) (h : NoTr w p) : Calls Try.prog 64 #[p] w fun e w' => e = .returned (.bool true) ∧ w = w' := by
  rcases h with rfl | ⟨tb, u, v, rfl, h⟩
  · exact zero_nil w
  · exact zero_not tb u v w h
theorem zput_any (w : World) (p : Value) (k : ByteArray) (v : Int) (h : NoTr w p) : Calls Try.prog 16 #[p, .string k, .int .i64 v] w fun e w' => e = .returned (.bool false) ∧ w = w' := by
  have H := Lib.hid h; clear h
  go_enter Try.func16, Try.ntmps16
  go_wp2_with fail
  refine (zero_no _ p (H.out)).mono ?_
  rintro e w1 ⟨rfl, rfl⟩
  go_wp2
  go_ret
  exact ⟨rfl, rfl⟩
theorem zdel_any (w : World) (p : Value) (k : ByteArray) (h : NoTr w p) : Calls Try.prog 18 #[p, .string k] w fun e w' => e = .returned (.bool false) ∧ w = w' := by
  have H := Lib.hid h; clear h
  go_enter Try.func18, Try.ntmps18
  go_wp2_with fail
  refine (zero_no _ p (H.out)).mono ?_
  rintro e w1 ⟨rfl, rfl⟩
  go_wp2
  go_ret
  exact ⟨rfl, rfl⟩
theorem zget_any (w : World) (p : Value) (k : ByteArray) (h : NoTr w p) : Calls Try.prog 20 #[p, .string k] w fun e w' => e = .returned (.tuple #[.int .i64 0, .bool false]) ∧ w = w' := by
  have H := Lib.hid h; clear h
  go_enter Try.func20, Try.ntmps20
  go_wp2_with fail
  refine (zero_no _ p (H.out)).mono ?_
  rintro e w1 ⟨rfl, rfl⟩
  go_wp2
  go_ret2
  exact ⟨rfl, rfl⟩
theorem zlen_any (w : World) (p : Value) (h : NoTr w p) : Calls Try.prog 27 #[p] w fun e w' => e = .returned (.int .i64 0) ∧ w = w' := by
  have H := Lib.hid h; clear h
  go_enter Try.func27, Try.ntmps27
  go_wp2_with fail
  refine (zero_no _ p (H.out)).mono ?_
  rintro e w1 ⟨rfl, rfl⟩
  go_wp2
  go_ret
  exact ⟨rfl, rfl⟩
theorem zdepth_any (w : World) (p : Value) (h : NoTr w p) : Calls Try.prog 29 #[p] w fun e w' => e = .returned (.int .i64 0) ∧ w = w' := by
  have H := Lib.hid h; clear h
  go_enter Try.func29, Try.ntmps29
  go_wp2_with fail
  refine (zero_no _ p (H.out)).mono ?_
  rintro e w1 ⟨rfl, rfl⟩
  go_wp2
  go_ret
  exact ⟨rfl, rfl⟩
theorem zkeys_any (w : World) (p : Value) (F : ByteArray) (T : ByteArray) (h : NoTr w p) : Calls Try.prog 25 #[p, .string F, .string T] w fun e w' => e = .returned (.slice none 0 0) ∧ Below w.heap.size w w' := by
  have H := Lib.hid h; clear h
  go_enter Try.func25, Try.ntmps25
  go_wp2_with fail
  refine (zero_no _ p (H.out.gr (World.grownBy_alloc _ _ none))).mono ?_
  rintro e w1 ⟨rfl, rfl⟩
  go_wp2
  go_ret
  exact ⟨rfl, (Below.refl _ w).alloc (Nat.le_refl _) _⟩
theorem zseek_any (w : World) (p : Value) (F : ByteArray) (h : NoTr w p) : Calls Try.prog 22 #[p, .string F] w fun e w' => e = .returned (.tuple #[.string ⟨#[]⟩, .bool false]) ∧ Below w.heap.size w w' := by
  obtain ⟨N, hN⟩ : ∃ N, N = w.heap.size := ⟨_, rfl⟩
  have H := Lib.hid h; clear h
  have b1 := (Boxed.new w 9 (.string ⟨#[]⟩)).alloc (.cells #[.bool false] 4)
  have b2 := Boxed.new (w.alloc (.cells #[.string ⟨#[]⟩] 9)) 4 (.bool false)
  have hB : Below w.heap.size w ((w.alloc (.cells #[.string ⟨#[]⟩] 9)).alloc (.cells #[.bool false] 4)) := ((Below.refl _ w).alloc (Nat.le_refl _) _).alloc (by simp) _
  simp only [World.size_alloc] at b2
  have c1 := b1.cell; have c2 := b2.cell
  have HB := Lib.hid hB; have C1 := Lib.hid c1; have C2 := Lib.hid c2
  have f1 := b1.frozen; have f2 := b2.frozen
  clear b1 b2 hB
  go_enter Try.func22, Try.ntmps22
  go_wp2_with fail
  refine (zero_no _ p ((H.out.gr (World.grownBy_alloc _ _ none)).gr (World.grownBy_alloc _ _ none))).mono ?_
  rintro e w1 ⟨rfl, rfl⟩
  go_wp2
  refine bodyPost_ret (results_cells2 rfl _ _ rfl rfl Try.underlying9 rfl Try.underlying4 rfl C1.out C2.out) rfl ?_
  exact ⟨rfl, HB.out⟩
end Go.Proofs.Ythmljllgfigebaa
