/- Package wire: a reader's numbers. Conditions: texts of at most 2^63-1 bytes. -/
import Derived.Test.YteioaaegooebpaaGreatWireH
namespace Go.Proofs.YteioaaegooebpaaGreat
open Go.RowKit Go.PlainAid

/-- A step of a reader has read: its answer lies in p. -/
def RC (b : Nat) (p : Addr) (s : ByteArray) (a : Int) (v : Value) (w w' : World) : Prop := But (fun k => k = b ∨ k = p.block) w w' ∧ Rd w' b s a 0 ∧ w'.cell? p = some v
theorem RC.of {b : Nat} {p : Addr} {s : ByteArray} {a : Int} {v v0 : Value} {w w1 : World} (h : RB b s a w w1) (hc : w1.cell? p = some v0) (hp : p.block ≠ b) : RC b p s a v w (w1.setCell p v) := by
  have hbt : But (fun k => k = p.block) w1 (w1.setCell p v) := (But.of_below (S := fun k => k = p.block) (Below.refl _ _)).setCell (p := p) (fun _ => rfl) v
  exact ⟨(h.1.mono (fun k _ hk => Or.inl hk)).trans (hbt.mono (fun k _ hk => Or.inr hk)), h.2.but hbt (fun e => hp e.symm), World.cell?_setCell_same _ _ _ hc⟩
set_option maxRecDepth 100000 in
set_option maxHeartbeats 1600000 in
theorem sNum_good (pr pm pn : Addr) (b : Nat) (s : ByteArray) (a m : Int) (v0 : Value) (w : World) (hr : w.cell? pr = some (.pointer (some ⟨b, 0, none⟩))) (hm : w.cell? pm = some (.int .i64 m)) (hn : w.cell? pn = some v0) (hz : w.frozen? pn = false) (hp : pn.block ≠ b) (h : Rd w b s a 0) (hs : s.size ≤ 9223372036854775807) (hm1 : m ≤ 9223372036854775807) (he : (upR s a m 5).2.2 = 0) :
    Calls Tryz.prog 117 #[.pointer (some pr), .pointer (some pm), .pointer (some pn)] w fun e w' => e = .returned (.tuple #[]) ∧ RC b pn s (upR s a m 5).2.1 (.int .i64 (upR s a m 5).1) w w' := by
  have hu := upTo_any b s a m 5 w h hs hm1 (by decide)
  rw [if_pos he] at hu
  have HU := Lib.hid hu; have HN := Lib.hid hn; have HZ := Lib.hid hz
  have hl := World.block_lt_of_cell? w _ hn
  clear hu hn hz h he
  go_enter Tryz.func117, Tryz.ntmps117
  go_wp2_with fail
  refine HU.out.mono ?_
  rintro e w1 ⟨rfl, hb⟩
  have n1 := hb.1.cell (a := pn) hp HN.out
  have z1 : w1.frozen? pn = false := by rw [hb.1.frozen hl hp]; exact HZ.out
  have HF := Lib.hid (RC.of (v := .int .i64 (upR s a m 5).1) hb n1 hp)
  clear hb
  go_wp2
  go_end0
  exact ⟨rfl, HF.out⟩
set_option maxRecDepth 100000 in
set_option maxHeartbeats 1600000 in
theorem sNum_bad (pr pm pn : Addr) (b : Nat) (s : ByteArray) (a m : Int) (w : World) (hr : w.cell? pr = some (.pointer (some ⟨b, 0, none⟩))) (hm : w.cell? pm = some (.int .i64 m)) (h : Rd w b s a 0) (hs : s.size ≤ 9223372036854775807) (hm1 : m ≤ 9223372036854775807) (he : (upR s a m 5).2.2 ≠ 0) :
    Calls Tryz.prog 117 #[.pointer (some pr), .pointer (some pm), .pointer (some pn)] w fun e w' => e = .panicked [thrown (upR s a m 5).2.2] ∧ ∃ a', RB b s a' w w' := by
  have hu := upTo_any b s a m 5 w h hs hm1 (by decide)
  rw [if_neg he] at hu
  have HU := Lib.hid hu
  clear hu h he
  go_enter Tryz.func117, Tryz.ntmps117
  go_wp2_with fail
  refine HU.out.mono ?_
  rintro e w1 ⟨rfl, hb⟩
  have HB := Lib.hid hb; clear hb
  go_wp2
  exact ⟨rfl, rfl, _, HB.out⟩
set_option maxRecDepth 100000 in
set_option maxHeartbeats 1600000 in
theorem sBig_good (pr pn : Addr) (b : Nat) (s : ByteArray) (a : Int) (v0 : Value) (w : World) (hr : w.cell? pr = some (.pointer (some ⟨b, 0, none⟩))) (hn : w.cell? pn = some v0) (hz : w.frozen? pn = false) (hp : pn.block ≠ b) (h : Rd w b s a 0) (hs : s.size ≤ 9223372036854775807) (he : (getR s a).2.2 = 0) :
    Calls Tryz.prog 152 #[.pointer (some pr), .pointer (some pn)] w fun e w' => e = .returned (.tuple #[]) ∧ RC b pn s (getR s a).2.1 (.int .u64 (getR s a).1) w w' := by
  have HU := Lib.hid (rbig_good b s a w h hs he); have HN := Lib.hid hn; have HZ := Lib.hid hz
  have hl := World.block_lt_of_cell? w _ hn
  clear hn hz h he
  go_enter Tryz.func152, Tryz.ntmps152
  go_wp2_with fail
  refine HU.out.mono ?_
  rintro e w1 ⟨rfl, hb⟩
  have n1 := hb.1.cell (a := pn) hp HN.out
  have z1 : w1.frozen? pn = false := by rw [hb.1.frozen hl hp]; exact HZ.out
  have HF := Lib.hid (RC.of (v := .int .u64 (getR s a).1) hb n1 hp)
  clear hb
  go_wp2
  go_end0
  exact ⟨rfl, HF.out⟩
set_option maxRecDepth 100000 in
set_option maxHeartbeats 1600000 in
theorem sBig_bad (pr pn : Addr) (b : Nat) (s : ByteArray) (a : Int) (w : World) (hr : w.cell? pr = some (.pointer (some ⟨b, 0, none⟩))) (h : Rd w b s a 0) (hs : s.size ≤ 9223372036854775807) (he : (getR s a).2.2 ≠ 0) :
    Calls Tryz.prog 152 #[.pointer (some pr), .pointer (some pn)] w fun e w' => e = .panicked [thrown (getR s a).2.2] ∧ ∃ a', RB b s a' w w' := by
  have HU := Lib.hid (rbig_bad b s a w h hs he)
  clear h he
  go_enter Tryz.func152, Tryz.ntmps152
  go_wp2_with fail
  refine HU.out.mono ?_
  rintro e w1 ⟨rfl, hb⟩
  have HB := Lib.hid hb; clear hb
  go_wp2
  exact ⟨rfl, rfl, _, HB.out⟩
theorem two_lay (w : World) (u v : Value) (t t' : TypeId) : Below w.heap.size w ((w.alloc (.cells #[u] t)).alloc (.cells #[v] t')) := ((Below.refl _ _).alloc (Nat.le_refl _) _).alloc (by simp) _
theorem But.fresh {S T : Nat → Prop} {w w1 w2 : World} (h : But S w w1) (h2 : But T w1 w2) (hT : ∀ k, k < w.heap.size → T k → S k) : But S w w2 :=
  ⟨h2.os.trans h.os, h2.tape.trans h.tape, h2.output.trans h.output, Nat.le_trans h.size h2.size, fun k hk hS => (h2.block k (Nat.lt_of_lt_of_le hk h.size) (fun ht => hS (hT k hk ht))).trans (h.block k hk hS)⟩
/-- What a reader answers and keeps: the answer, the place, the error. -/
def numR (s : ByteArray) (a x m : Int) : Int × Int × Int := if x ≠ 0 then (0, a, x) else ((if (upR s a m 5).2.2 = 0 then (upR s a m 5).1 else 0), (upR s a m 5).2.1, (upR s a m 5).2.2)
def bigR (s : ByteArray) (a x : Int) : Int × Int × Int := if x ≠ 0 then (0, a, x) else ((if (getR s a).2.2 = 0 then (getR s a).1 else 0), (getR s a).2.1, (getR s a).2.2)
/-- The reader has a place, whichever, behind an error. -/
def RE (w : World) (b : Nat) (s : ByteArray) (a x : Int) : Prop := if x = 0 then Rd w b s a 0 else ∃ a', Rd w b s a' x
theorem RE.good {w : World} {b : Nat} {s : ByteArray} {a : Int} (h : Rd w b s a 0) : RE w b s a 0 := by unfold RE; rw [if_pos rfl]; exact h
theorem RE.bad {w : World} {b : Nat} {s : ByteArray} {a a' x : Int} (hx : x ≠ 0) (h : Rd w b s a' x) : RE w b s a x := by unfold RE; rw [if_neg hx]; exact ⟨a', h⟩
theorem lay2 (w : World) (p z : Value) (t1 t3 : TypeId) : Below w.heap.size w ((w.alloc (.cells #[p] t1)).alloc (.cells #[z] t3)) ∧ ((w.alloc (.cells #[p] t1)).alloc (.cells #[z] t3)).cell? ⟨w.heap.size, 0, none⟩ = some p ∧ ((w.alloc (.cells #[p] t1)).alloc (.cells #[z] t3)).cell? ⟨w.heap.size + 1, 0, none⟩ = some z ∧ ((w.alloc (.cells #[p] t1)).alloc (.cells #[z] t3)).frozen? ⟨w.heap.size + 1, 0, none⟩ = false := by
  refine ⟨two_lay w p z t1 t3, ?_, ?_, ?_⟩ <;> simp
theorem lay3 (w : World) (p v z : Value) (t1 t2 t3 : TypeId) : Below w.heap.size w (((w.alloc (.cells #[p] t1)).alloc (.cells #[v] t2)).alloc (.cells #[z] t3)) ∧ (((w.alloc (.cells #[p] t1)).alloc (.cells #[v] t2)).alloc (.cells #[z] t3)).cell? ⟨w.heap.size, 0, none⟩ = some p ∧ (((w.alloc (.cells #[p] t1)).alloc (.cells #[v] t2)).alloc (.cells #[z] t3)).cell? ⟨w.heap.size + 1, 0, none⟩ = some v ∧ (((w.alloc (.cells #[p] t1)).alloc (.cells #[v] t2)).alloc (.cells #[z] t3)).cell? ⟨w.heap.size + 1 + 1, 0, none⟩ = some z ∧ (((w.alloc (.cells #[p] t1)).alloc (.cells #[v] t2)).alloc (.cells #[z] t3)).frozen? ⟨w.heap.size + 1 + 1, 0, none⟩ = false := by
  obtain ⟨a0, a1, a2, _⟩ := lay2 w p v t1 t2
  have hsz : ((w.alloc (.cells #[p] t1)).alloc (.cells #[v] t2)).heap.size = w.heap.size + 1 + 1 := by simp
  generalize (w.alloc (.cells #[p] t1)).alloc (.cells #[v] t2) = W at a0 a1 a2 hsz ⊢
  have hb : Below W.heap.size W (W.alloc (.cells #[z] t3)) := (Below.refl _ _).alloc (Nat.le_refl _) _
  refine ⟨a0.alloc (by omega) _, cell_below hb a1, cell_below hb a2, ?_, ?_⟩
  · rw [← hsz]; simp
  · rw [← hsz]; simp
set_option maxRecDepth 100000 in
set_option maxHeartbeats 1600000 in
theorem rNum_any (b : Nat) (s : ByteArray) (a x m : Int) (w : World) (h : Rd w b s a x) (hs : s.size ≤ 9223372036854775807) (hm : m ≤ 9223372036854775807) :
    Calls Tryz.prog 58 #[.pointer (some ⟨b, 0, none⟩), .int .i64 m] w fun e w' => e = .returned (.int .i64 (numR s a x m).1) ∧ RE w' b s (numR s a x m).2.1 (numR s a x m).2.2 ∧ But (Own b) w w' := by
  have hmf : ∀ (fn : Fn) (first cap : Array Value) (w : World), (Instr.makeFunc fn first cap).run Tryz.prog w = .ok (.func fn first cap) w := fun _ _ _ _ => rfl
  obtain ⟨W, hW⟩ : ∃ W, W = (((w.alloc (.cells #[.pointer (some ⟨b, 0, none⟩)] 103)).alloc (.cells #[.int .i64 m] 3)).alloc (.cells #[.int .i64 0] 3)) := ⟨_, rfl⟩
  have hl := lay3 w (.pointer (some ⟨b, 0, none⟩)) (.int .i64 m) (.int .i64 0) 103 3 3
  rw [← hW] at hl
  obtain ⟨l0, l1, l2, l3, l4⟩ := hl
  have H1 := Lib.hid (h.below l0)
  have HB := Lib.hid (But.of_below (S := Own b) l0)
  have hlt := h.lt
  have k1 := rBox_below W (.pointer (some ⟨b, 0, none⟩))
  have H2 := Lib.hid (H1.out.below k1)
  have HB2 := Lib.hid (But.of_below (S := Own b) k1)
  have L1 := Lib.hid (cell_below k1 l1); have L2 := Lib.hid (cell_below k1 l2); have L3 := Lib.hid (cell_below k1 l3)
  have L4 : Hid ((rBox W (.pointer (some ⟨b, 0, none⟩))).frozen? ⟨w.heap.size + 1 + 1, 0, none⟩ = false) := Lib.hid (by rw [k1.frozen (World.block_lt_of_cell? W _ l3)]; exact l4)
  have HW := Lib.hid hW; have M3 := Lib.hid l3
  have hF : ∀ u, Sem.run Tryz.prog (callFunc 117 #[.pointer (some ⟨w.heap.size, 0, none⟩), .pointer (some ⟨w.heap.size + 1, 0, none⟩), .pointer (some ⟨w.heap.size + 1 + 1, 0, none⟩)]) u = .ok (.enter 117 #[.pointer (some ⟨w.heap.size, 0, none⟩), .pointer (some ⟨w.heap.size + 1, 0, none⟩), .pointer (some ⟨w.heap.size + 1 + 1, 0, none⟩)]) u := fun _ => rfl
  have hd : w.heap.size + 1 + 1 ≠ b := by omega
  have HFn := Lib.hid hF
  clear h l0 l1 l2 l3 l4 k1 hF
  go_enter Tryz.func58, Tryz.ntmps58
  go_wp2_with fail
  rw [← HW.out]
  refine Calls.mono (R := fun e w' => e = .returned (.tuple #[]) ∧ w'.cell? ⟨w.heap.size + 1 + 1, 0, none⟩ = some (.int .i64 (numR s a x m).1) ∧ RE w' b s (numR s a x m).2.1 (numR s a x m).2.2 ∧ But (Own b) w w') ?_ ?_
  · by_cases hx : x = 0
    · subst hx
      by_cases hu : (upR s a m 5).2.2 = 0
      · have hq : numR s a 0 m = ((upR s a m 5).1, (upR s a m 5).2.1, 0) := by unfold numR; rw [if_neg (by simp), if_pos hu, hu]
        rw [hq]
        refine (take_good b s a _ _ _ HFn.out _ H1.out (sNum_good _ _ _ b s a m _ _ L1.out L2.out L3.out L4.out hd H2.out hs hm hu)).mono ?_
        rintro e w1 ⟨rfl, r1, r2, r3⟩
        refine ⟨rfl, r3, RE.good r2, (HB.out.trans HB2.out).fresh r1 (fun k hk hS => ?_)⟩
        rcases hS with hS | hS
        · exact hS
        · simp only at hS; omega
      · have hq : numR s a 0 m = (0, (upR s a m 5).2.1, (upR s a m 5).2.2) := by unfold numR; rw [if_neg (by simp), if_neg hu]
        rw [hq]
        refine (take_bad b s a _ _ _ HFn.out _ H1.out (sNum_bad _ _ _ b s a m _ L1.out L2.out H2.out hs hm hu)).mono ?_
        rintro e w1 ⟨rfl, a', r1, r2⟩
        exact ⟨rfl, r1.cell (a := ⟨w.heap.size + 1 + 1, 0, none⟩) hd M3.out, RE.bad hu r2, HB.out.trans r1⟩
    · have hq : numR s a x m = (0, a, x) := by unfold numR; rw [if_pos hx]
      rw [hq]
      refine (take_err b s a x _ _ H1.out hx).mono ?_
      rintro e w1 ⟨rfl, r1⟩
      exact ⟨rfl, cell_below r1 M3.out, RE.bad hx (H1.out.below r1), HB.out.trans (But.of_below r1)⟩
  rintro e w1 ⟨rfl, r1, r2, r3⟩
  have R2 := Lib.hid r2; have R3 := Lib.hid r3; clear r2 r3
  go_wp2
  go_ret
  exact ⟨rfl, R2.out, R3.out⟩
set_option maxRecDepth 100000 in
set_option maxHeartbeats 1600000 in
theorem rBig_any (b : Nat) (s : ByteArray) (a x : Int) (w : World) (h : Rd w b s a x) (hs : s.size ≤ 9223372036854775807) :
    Calls Tryz.prog 120 #[.pointer (some ⟨b, 0, none⟩)] w fun e w' => e = .returned (.int .u64 (bigR s a x).1) ∧ RE w' b s (bigR s a x).2.1 (bigR s a x).2.2 ∧ But (Own b) w w' := by
  have hmf : ∀ (fn : Fn) (first cap : Array Value) (w : World), (Instr.makeFunc fn first cap).run Tryz.prog w = .ok (.func fn first cap) w := fun _ _ _ _ => rfl
  obtain ⟨W, hW⟩ : ∃ W, W = ((w.alloc (.cells #[.pointer (some ⟨b, 0, none⟩)] 103)).alloc (.cells #[.int .u64 0] 22)) := ⟨_, rfl⟩
  have hl := lay2 w (.pointer (some ⟨b, 0, none⟩)) (.int .u64 0) 103 22
  rw [← hW] at hl
  obtain ⟨l0, l1, l3, l4⟩ := hl
  have H1 := Lib.hid (h.below l0)
  have HB := Lib.hid (But.of_below (S := Own b) l0)
  have hlt := h.lt
  have k1 := rBox_below W (.pointer (some ⟨b, 0, none⟩))
  have H2 := Lib.hid (H1.out.below k1)
  have HB2 := Lib.hid (But.of_below (S := Own b) k1)
  have L1 := Lib.hid (cell_below k1 l1); have L3 := Lib.hid (cell_below k1 l3)
  have L4 : Hid ((rBox W (.pointer (some ⟨b, 0, none⟩))).frozen? ⟨w.heap.size + 1, 0, none⟩ = false) := Lib.hid (by rw [k1.frozen (World.block_lt_of_cell? W _ l3)]; exact l4)
  have HW := Lib.hid hW; have M3 := Lib.hid l3
  have hF : ∀ u, Sem.run Tryz.prog (callFunc 152 #[.pointer (some ⟨w.heap.size, 0, none⟩), .pointer (some ⟨w.heap.size + 1, 0, none⟩)]) u = .ok (.enter 152 #[.pointer (some ⟨w.heap.size, 0, none⟩), .pointer (some ⟨w.heap.size + 1, 0, none⟩)]) u := fun _ => rfl
  have hd : w.heap.size + 1 ≠ b := by omega
  have HFn := Lib.hid hF
  clear h l0 l1 l3 l4 k1 hF
  go_enter Tryz.func120, Tryz.ntmps120
  go_wp2_with fail
  rw [← HW.out]
  refine Calls.mono (R := fun e w' => e = .returned (.tuple #[]) ∧ w'.cell? ⟨w.heap.size + 1, 0, none⟩ = some (.int .u64 (bigR s a x).1) ∧ RE w' b s (bigR s a x).2.1 (bigR s a x).2.2 ∧ But (Own b) w w') ?_ ?_
  · by_cases hx : x = 0
    · subst hx
      by_cases hu : (getR s a).2.2 = 0
      · have hq : bigR s a 0 = ((getR s a).1, (getR s a).2.1, 0) := by unfold bigR; rw [if_neg (by simp), if_pos hu, hu]
        rw [hq]
        refine (take_good b s a _ _ _ HFn.out _ H1.out (sBig_good _ _ b s a _ _ L1.out L3.out L4.out hd H2.out hs hu)).mono ?_
        rintro e w1 ⟨rfl, r1, r2, r3⟩
        refine ⟨rfl, r3, RE.good r2, (HB.out.trans HB2.out).fresh r1 (fun k hk hS => ?_)⟩
        rcases hS with hS | hS
        · exact hS
        · simp only at hS; omega
      · have hq : bigR s a 0 = (0, (getR s a).2.1, (getR s a).2.2) := by unfold bigR; rw [if_neg (by simp), if_neg hu]
        rw [hq]
        refine (take_bad b s a _ _ _ HFn.out _ H1.out (sBig_bad _ _ b s a _ L1.out H2.out hs hu)).mono ?_
        rintro e w1 ⟨rfl, a', r1, r2⟩
        exact ⟨rfl, r1.cell (a := ⟨w.heap.size + 1, 0, none⟩) hd M3.out, RE.bad hu r2, HB.out.trans r1⟩
    · have hq : bigR s a x = (0, a, x) := by unfold bigR; rw [if_pos hx]
      rw [hq]
      refine (take_err b s a x _ _ H1.out hx).mono ?_
      rintro e w1 ⟨rfl, r1⟩
      exact ⟨rfl, cell_below r1 M3.out, RE.bad hx (H1.out.below r1), HB.out.trans (But.of_below r1)⟩
  rintro e w1 ⟨rfl, r1, r2, r3⟩
  have R2 := Lib.hid r2; have R3 := Lib.hid r3; clear r2 r3
  go_wp2
  go_ret
  exact ⟨rfl, R2.out, R3.out⟩
end Go.Proofs.YteioaaegooebpaaGreat
