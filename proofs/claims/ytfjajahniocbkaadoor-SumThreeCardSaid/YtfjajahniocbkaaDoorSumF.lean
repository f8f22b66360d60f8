/- Package sum: makers that nobody made; awake; SumZero. Conditions: the table reads as it is laid. -/
import Derived.Test.YtfjajahniocbkaaDoorSumE
import Derived.Great.Walk
namespace Go.Proofs.YtfjajahniocbkaaDoor
open Go.RowKit Go.PlainAid

theorem Tab.below {w w' : World} (h : Tab w) (hb : Below w.heap.size w w') : Tab w' := fun i hi => cell_below hb (h i hi)
theorem Tab.but {S : Nat → Prop} {w w' : World} (h : Tab w) (hb : But S w w') (hs : ¬ S 0) : Tab w' := fun i hi => hb.cell hs (h i hi)
theorem mk_cell (w : World) (T : TypeId) (m : Bool) (j : Nat) : (w.alloc (.cells (mkCells m) T)).cell? ⟨w.heap.size, j, none⟩ = (mkCells m)[j]? := by
  have h : (w.alloc (.cells (mkCells m) T)).heap[w.heap.size]? = some (.cells (mkCells m) T (0, 0)) := by
    show (w.heap.push _)[w.heap.size]? = _
    simp
  unfold World.cell?
  rw [h]; rfl
/-- A maker that nobody made. -/
def Unmade (w : World) (p : Value) : Prop := p = .pointer none ∨ ∃ b, p = .pointer (some ⟨b, 0, none⟩) ∧ w.cell? ⟨b, 0, none⟩ = some (.bool false)
theorem Unmade.below {w w' : World} {p : Value} (h : Unmade w p) (hb : Below w.heap.size w w') : Unmade w' p := by
  rcases h with h | ⟨b, h, hc⟩
  · exact Or.inl h
  · exact Or.inr ⟨b, h, cell_below hb hc⟩
set_option maxRecDepth 100000 in
set_option maxHeartbeats 800000 in
theorem add_un (p : Value) (c : Int) (s : ByteArray) (w : World) (h : Unmade w p) :
    Calls Tryd.prog 11 #[p, .int .u32 c, .string s] w fun e w' => e = .returned (.int .u32 0) ∧ Below w.heap.size w w' := by
  have hmf : ∀ (fn : Fn) (first cap : Array Value) (w : World), (Instr.makeFunc fn first cap).run Tryd.prog w = .ok (.func fn first cap) w := fun _ _ _ _ => rfl
  rcases h with rfl | ⟨b, rfl, hc⟩
  · go_enter Tryd.func11, Tryd.ntmps11
    go_wp2
    go_ret
    exact ⟨rfl, Below.refl _ _⟩
  · go_enter Tryd.func11, Tryd.ntmps11
    go_wp2
    go_ret
    exact ⟨rfl, Below.refl _ _⟩
set_option maxRecDepth 100000 in
set_option maxHeartbeats 800000 in
theorem used_un (p : Value) (w : World) (h : Unmade w p) :
    Calls Tryd.prog 13 #[p] w fun e w' => e = .returned (.int .i64 0) ∧ Below w.heap.size w w' := by
  rcases h with rfl | ⟨b, rfl, hc⟩
  · go_enter Tryd.func13, Tryd.ntmps13
    go_wp2
    go_ret
    exact ⟨rfl, Below.refl _ _⟩
  · go_enter Tryd.func13, Tryd.ntmps13
    go_wp2
    go_ret
    exact ⟨rfl, Below.refl _ _⟩

theorem nine : addOf 0 [49, 50, 51, 52, 53, 54, 55, 56, 57] = 3421780262 := by decide +kernel
theorem sum_nine (w : World) (ht : Tab w) :
    Calls Tryd.prog 9 #[.string ⟨#[49, 50, 51, 52, 53, 54, 55, 56, 57]⟩] w fun e w' => e = .returned (.int .u32 3421780262) ∧ w = w' :=
  (sum_any _ w ht (by decide)).mono fun e w' ⟨he, hw⟩ => ⟨by rw [he]; exact ret_int (congrArg Nat.cast nine), hw⟩
theorem add_nine (b : Nat) (w : World) (h : Mk w b 0 0 0 0) :
    Calls Tryd.prog 11 #[.pointer (some ⟨b, 0, none⟩), .int .u32 0, .string ⟨#[49, 50, 51, 52, 53, 54, 55, 56, 57]⟩] w fun e w' => e = .returned (.int .u32 3421780262) ∧ But (fun x => x = b) w w' :=
  (add_any b 0 0 0 0 _ w h (Or.inl ⟨rfl, rfl⟩) (by omega) (by omega) (by omega) (by decide)).mono fun e w' ⟨he, _, hw⟩ => ⟨by rw [he]; exact ret_int (congrArg Nat.cast nine), hw⟩

set_option maxRecDepth 100000 in
set_option maxHeartbeats 800000 in
theorem awake03 (w : World) (ht : Tab w) :
    Calls Tryd.prog 14 #[] w fun e w' => e = .returned (.bool true) ∧ Below w.heap.size w w' := by
  have HT := Lib.hid ht; clear ht
  go_enter Tryd.func14, Tryd.ntmps14
  go_wp2_with fail
  refine (sum_nine _ HT.out).mono ?_
  rintro e w1 ⟨rfl, rfl⟩
  go_wp2_with fail
  refine (new_any _).mono ?_
  rintro e w1 ⟨rfl, hm, hb⟩
  have HM := Lib.hid hm; have HB := Lib.hid hb
  clear hm hb
  go_wp2_with fail
  refine (add_nine _ _ HM.out).mono ?_
  rintro e w2 ⟨rfl, hb2⟩
  have HB2 := Lib.hid (below_but HB.out hb2 HB.out.size (fun x _ e => by subst e; exact Nat.le_refl _))
  clear hb2
  go_wp2
  go_ret
  exact ⟨rfl, HB2.out⟩

theorem mk_alloc (a : Act) (d : Option Tmp) (T : TypeId) (p : String) (af : Array Edge) (w : World) : (execOp a.eval { dst := d, op := .alloc 53, type := T, pos := p, after := af, guard := none }).run Tryd.prog w = .ok (.value (.pointer (some ⟨w.heap.size, 0, none⟩))) (w.alloc (.cells (mkCells false) 53)) := by kernel_rfl
set_option maxRecDepth 100000 in
set_option maxHeartbeats 1600000 in
theorem szero_law (c : Int) (s : ByteArray) (w : World) (ht : Tab w) (_h : (Lit.int .u32 c).wf = true) (_hs : s.size ≤ 140737488351232) :
    Calls Tryd.prog 7 #[.int .u32 c, .string s] w fun e w' => e = .returned (.bool true) ∧ Below w.heap.size w w' := by
  have hb0 : Below w.heap.size w (w.alloc (.cells (mkCells false) 53)) := (Below.refl _ _).alloc (Nat.le_refl _) _
  have HT0 := Lib.hid (ht.below hb0)
  have hz0 : Unmade (w.alloc (.cells (mkCells false) 53)) (.pointer (some ⟨w.heap.size, 0, none⟩)) := Or.inr ⟨_, rfl, by
    rw [mk_cell]; kernel_rfl⟩
  have HB0 := Lib.hid hb0; have HZ0 := Lib.hid hz0
  clear hb0 hz0 ht _h _hs
  go_enter Tryd.func7, Tryd.ntmps7
  go_wp2_with ((with_reducible refine Great.wpList_runTo rfl _ rfl (.pointer (some ⟨w.heap.size, 0, none⟩)) (w.alloc (.cells (mkCells false) 53)) (mk_alloc _ _ _ _ _ _) ?_))
  go_wp2_with fail
  refine (add_un _ _ _ _ (Or.inl rfl)).mono ?_
  rintro e w1 ⟨rfl, hb1⟩
  have HB1 := Lib.hid (HB0.out.trans (hb1.mono HB0.out.size)); have HZ1 := Lib.hid (HZ0.out.below hb1); have HT1 := Lib.hid (HT0.out.below hb1); clear hb1
  go_wp2_with fail
  refine (add_un _ _ _ _ (HZ1.out)).mono ?_
  rintro e w2 ⟨rfl, hb2⟩
  have HB2 := Lib.hid (HB1.out.trans (hb2.mono HB1.out.size)); have HZ2 := Lib.hid (HZ1.out.below hb2); have HT2 := Lib.hid (HT1.out.below hb2); clear hb2
  go_wp2_with fail
  refine (used_un _ _ (Or.inl rfl)).mono ?_
  rintro e w3 ⟨rfl, hb3⟩
  have HB3 := Lib.hid (HB2.out.trans (hb3.mono HB2.out.size)); have HZ3 := Lib.hid (HZ2.out.below hb3); have HT3 := Lib.hid (HT2.out.below hb3); clear hb3
  go_wp2_with fail
  refine (used_un _ _ (HZ3.out)).mono ?_
  rintro e w4 ⟨rfl, hb4⟩
  have HB4 := Lib.hid (HB3.out.trans (hb4.mono HB3.out.size)); have HZ4 := Lib.hid (HZ3.out.below hb4); have HT4 := Lib.hid (HT3.out.below hb4); clear hb4
  go_wp2_with fail
  refine (awake03 _ HT4.out).mono ?_
  rintro e w5 ⟨rfl, hb5⟩
  have HB5 := Lib.hid (HB4.out.trans (hb5.mono HB4.out.size)); clear hb5
  go_wp2
  go_ret
  exact ⟨rfl, HB5.out⟩
end Go.Proofs.YtfjajahniocbkaaDoor
