/- Package wire: a reader's flags. Conditions: texts of at most 2^63-1 bytes. -/
import Derived.Test.YteioaaegooebpaaGreatWireJ
namespace Go.Proofs.YteioaaegooebpaaGreat
open Go.RowKit Go.PlainAid

theorem rd_draws {b : Nat} {s : ByteArray} {a : Int} {w : World} (h : Rd w b s a 0) (n : Nat) : RB b s a w (w.drewN n) := ⟨(But.refl _ _).draws n, h.below (below_draws (Below.refl _ _) n)⟩
theorem rd_draws2 {b : Nat} {s : ByteArray} {a : Int} {w : World} (h : Rd w b s a 0) (n k : Nat) : RB b s a w ((w.drewN n).drewN k) := ⟨((But.refl _ _).draws n).draws k, h.below (below_draws (below_draws (Below.refl _ _) n) k)⟩
set_option maxRecDepth 100000 in
set_option maxHeartbeats 1600000 in
theorem sFlag_end (pr pn : Addr) (b : Nat) (s : ByteArray) (w : World) (hr : w.cell? pr = some (.pointer (some ⟨b, 0, none⟩))) (h : Rd w b s s.size 0) (hs : s.size ≤ 9223372036854775807) :
    Calls Tryz.prog 151 #[.pointer (some pr), .pointer (some pn)] w fun e w' => e = .panicked [thrown 2] ∧ ∃ a', RB b s a' w w' := by
  have H := Lib.hid h
  have c1 := h.txt; have c2 := h.pos
  clear h
  go_enter Tryz.func151, Tryz.ntmps151
  go_wp2_with fail
  go_quiet (fail)
  have HB2 := Lib.hid (rd_draws H.out nq)
  go_wp2
  exact ⟨rfl, rfl, _, HB2.out⟩
set_option maxRecDepth 100000 in
set_option maxHeartbeats 1600000 in
theorem sFlag_form (pr pn : Addr) (b : Nat) (s : ByteArray) (a : Nat) (w : World) (hr : w.cell? pr = some (.pointer (some ⟨b, 0, none⟩))) (h : Rd w b s a 0) (hs : s.size ≤ 9223372036854775807) (ha : a < s.size) (hf : 1 < bt s a) :
    Calls Tryz.prog 151 #[.pointer (some pr), .pointer (some pn)] w fun e w' => e = .panicked [thrown 4] ∧ ∃ a', RB b s a' w w' := by
  have H := Lib.hid h
  have c1 := h.txt; have c2 := h.pos
  have hbt := get_bt s
  have hne : ((a : Int) == (s.size : Int)) = false := by simp; omega
  clear h
  go_enter Tryz.func151, Tryz.ntmps151
  go_wp2_with fail
  go_quiet (fail)
  obtain ⟨k1, hk1⟩ : ∃ k, k = nq := ⟨_, rfl⟩
  rw [← hk1]
  go_wp2_with fail
  go_quiet (fail)
  go_wp2
  exact ⟨rfl, rfl, _, rd_draws H.out _⟩
set_option maxRecDepth 100000 in
set_option maxHeartbeats 1600000 in
theorem sFlag_good (pr pn : Addr) (b : Nat) (s : ByteArray) (a : Nat) (v0 : Value) (w : World) (hr : w.cell? pr = some (.pointer (some ⟨b, 0, none⟩))) (hn : w.cell? pn = some v0) (hz : w.frozen? pn = false) (hp : pn.block ≠ b) (hpr : pr.block ≠ b) (hpp : pr.block ≠ pn.block) (h : Rd w b s a 0) (hs : s.size ≤ 9223372036854775807) (ha : a < s.size) (hf : ¬ 1 < bt s a) :
    Calls Tryz.prog 151 #[.pointer (some pr), .pointer (some pn)] w fun e w' => e = .returned (.tuple #[]) ∧ RC b pn s ((a : Int) + 1) (.bool (bt s a == 1)) w w' := by
  have H := Lib.hid h
  have c1 := h.txt; have c2 := h.pos
  have hbt := get_bt s
  have hne : ((a : Int) == (s.size : Int)) = false := by simp; omega
  have HN := Lib.hid hn; have HZ := Lib.hid hz; have HR := Lib.hid hr
  have hadd : IntKind.i64.wrap ((a : Int) + 1) = (a : Int) + 1 := IntWalk.i64_in _ ⟨by omega, by omega⟩
  clear h hn hz
  go_enter Tryz.func151, Tryz.ntmps151
  go_wp2_with fail
  go_quiet (fail)
  obtain ⟨k1, hk1⟩ : ∃ k, k = nq := ⟨_, rfl⟩
  rw [← hk1]
  go_wp2_with fail
  go_quiet (fail)
  go_wp2_with fail
  obtain ⟨w2, hw2⟩ : ∃ w2, w2 = (w.drewN k1).drewN nq := ⟨_, rfl⟩
  have d1 : w2.drew.cell? pr = some (.pointer (some ⟨b, 0, none⟩)) := by rw [hw2]; exact HR.out
  have d4 : w2.drew.cell? pn = some v0 := by rw [hw2]; exact HN.out
  have d5 : w2.drew.frozen? pn = false := by rw [hw2]; exact HZ.out
  have HB2 : Hid (RB b s a w w2.drew) := Lib.hid (by rw [hw2]; exact ⟨(rd_draws2 H.out k1 nq).1.draws 1, (rd_draws2 H.out k1 nq).2.below (below_draws (Below.refl _ _) 1)⟩)
  have HS : Hid (SX pr pn b s a w2.drew) := Lib.hid ⟨d1, HB2.out.2.txt, HB2.out.2.pos, pv_some d4, d5⟩
  have HD := Lib.hid d4; have HE := Lib.hid d1
  have HF := Lib.hid (RC.of (v := .bool (bt s a == 1)) HB2.out d4 hp)
  rw [← hw2]
  clear c1 c2 hw2 d1 d4 d5 hr
  go_region_held3 (fun w' => w'.cell? pr = some (.pointer (some ⟨b, 0, none⟩)) ∧ w'.cell? ⟨b, 1, none⟩ = some (.string s) ∧ w'.cell? ⟨b, 2, none⟩ = some (.int .i64 a) ∧ w'.cell? pn = some (PV pn w') ∧ w'.frozen? pn = false) (first | exact HS.out | exact SX.set hpp hp (by assumption) _ | assumption) (fail)
  have e1 : (w2.setCell pn (.bool (bt s a == 1))).drew.cell? pr = some (.pointer (some ⟨b, 0, none⟩)) := (World.cell?_setCell_far w2.drew pn pr _ (fun e => hpp e.symm)).trans HE.out
  have e2 : (w2.setCell pn (.bool (bt s a == 1))).drew.cell? ⟨b, 2, none⟩ = some (.int .i64 a) := HF.out.2.1.pos
  have e3 : (w2.setCell pn (.bool (bt s a == 1))).drew.frozen? ⟨b, 2, none⟩ = false := HF.out.2.1.fr2
  have HG := Lib.hid (HF.out.pos hp ((a : Int) + 1))
  rename_i hHeld
  clear hHeld
  go_wp2
  go_end0
  exact ⟨rfl, HG.out⟩
/-- What Flag answers and keeps. -/
def flagR (s : ByteArray) (a : Nat) (x : Int) : Bool × Int × Int :=
  if x ≠ 0 then (false, a, x) else if a = s.size then (false, a, 2) else if 1 < bt s a then (false, a, 4) else (bt s a == 1, (a : Int) + 1, 0)
set_option maxRecDepth 100000 in
set_option maxHeartbeats 1600000 in
theorem rFlag_any (b : Nat) (s : ByteArray) (a : Nat) (x : Int) (w : World) (h : Rd w b s a x) (hs : s.size ≤ 9223372036854775807) (ha : a ≤ s.size) :
    Calls Tryz.prog 119 #[.pointer (some ⟨b, 0, none⟩)] w fun e w' => e = .returned (.bool (flagR s a x).1) ∧ RE w' b s (flagR s a x).2.1 (flagR s a x).2.2 ∧ But (Own b) w w' := by
  have hmf : ∀ (fn : Fn) (first cap : Array Value) (w : World), (Instr.makeFunc fn first cap).run Tryz.prog w = .ok (.func fn first cap) w := fun _ _ _ _ => rfl
  obtain ⟨W, hW⟩ : ∃ W, W = ((w.alloc (.cells #[.pointer (some ⟨b, 0, none⟩)] 103)).alloc (.cells #[.bool false] 4)) := ⟨_, rfl⟩
  have hl := lay2 w (.pointer (some ⟨b, 0, none⟩)) (.bool false) 103 4
  rw [← hW] at hl
  obtain ⟨l0, l1, l3, l4⟩ := hl
  have H1 := Lib.hid (h.below l0)
  have HB := Lib.hid (But.of_below (S := Own b) l0)
  have hlt := h.lt
  have k1 := rBox_below W (.pointer (some ⟨b, 0, none⟩))
  have H2 := Lib.hid (H1.out.below k1)
  have HB2 := Lib.hid (But.of_below (S := Own b) k1)
  have L1 := Lib.hid (cell_below k1 l1); have L3 := Lib.hid (cell_below k1 l3)
  have L4 : Hid ((rBox W (.pointer (some ⟨b, 0, none⟩))).frozen? ⟨w.heap.size + 1, 0, none⟩ = false) := Lib.hid (by rw [k1.frozen (World.block_lt_of_cell? W _ l3)]; exact l4)
  have HW := Lib.hid hW; have M3 := Lib.hid l3
  have hF : ∀ u, Sem.run Tryz.prog (callFunc 151 #[.pointer (some ⟨w.heap.size, 0, none⟩), .pointer (some ⟨w.heap.size + 1, 0, none⟩)]) u = .ok (.enter 151 #[.pointer (some ⟨w.heap.size, 0, none⟩), .pointer (some ⟨w.heap.size + 1, 0, none⟩)]) u := fun _ => rfl
  have hd : w.heap.size + 1 ≠ b := by omega
  have HFn := Lib.hid hF
  clear h l0 l1 l3 l4 k1 hF
  go_enter Tryz.func119, Tryz.ntmps119
  go_wp2_with fail
  rw [← HW.out]
  refine Calls.mono (R := fun e w' => e = .returned (.tuple #[]) ∧ w'.cell? ⟨w.heap.size + 1, 0, none⟩ = some (.bool (flagR s a x).1) ∧ RE w' b s (flagR s a x).2.1 (flagR s a x).2.2 ∧ But (Own b) w w') ?_ ?_
  · by_cases hx : x = 0
    · subst hx
      by_cases hu : a = s.size
      · have hq : flagR s a 0 = (false, (a : Int), 2) := by unfold flagR; rw [if_neg (by simp), if_pos hu]
        rw [hq]
        have H3 : Rd (rBox W (.pointer (some ⟨b, 0, none⟩))) b s s.size 0 := by rw [← hu]; exact H2.out
        refine (take_bad b s a 2 _ _ HFn.out _ H1.out (sFlag_end _ _ b s _ L1.out H3 hs)).mono ?_
        rintro e w1 ⟨rfl, a', r1, r2⟩
        exact ⟨rfl, r1.cell (a := ⟨w.heap.size + 1, 0, none⟩) hd M3.out, RE.bad (by simp) r2, HB.out.trans r1⟩
      · by_cases hf : 1 < bt s a
        · have hq : flagR s a 0 = (false, (a : Int), 4) := by unfold flagR; rw [if_neg (by simp), if_neg hu, if_pos hf]
          rw [hq]
          refine (take_bad b s a 4 _ _ HFn.out _ H1.out (sFlag_form _ _ b s a _ L1.out H2.out hs (by omega) hf)).mono ?_
          rintro e w1 ⟨rfl, a', r1, r2⟩
          exact ⟨rfl, r1.cell (a := ⟨w.heap.size + 1, 0, none⟩) hd M3.out, RE.bad (by simp) r2, HB.out.trans r1⟩
        · have hq : flagR s a 0 = (bt s a == 1, (a : Int) + 1, 0) := by unfold flagR; rw [if_neg (by simp), if_neg hu, if_neg hf]
          rw [hq]
          refine (take_good b s a _ _ _ HFn.out _ H1.out (sFlag_good _ _ b s a _ _ L1.out L3.out L4.out hd (by simp only; omega) (by simp only; omega) H2.out hs (by omega) hf)).mono ?_
          rintro e w1 ⟨rfl, r1, r2, r3⟩
          refine ⟨rfl, r3, RE.good r2, (HB.out.trans HB2.out).fresh r1 (fun k hk hS => ?_)⟩
          rcases hS with hS | hS
          · exact hS
          · simp only at hS; omega
    · have hq : flagR s a x = (false, (a : Int), x) := by unfold flagR; rw [if_pos hx]
      rw [hq]
      refine (take_err b s a x _ _ H1.out hx).mono ?_
      rintro e w1 ⟨rfl, r1⟩
      exact ⟨rfl, cell_below r1 M3.out, RE.bad hx (H1.out.below r1), HB.out.trans (But.of_below r1)⟩
  rintro e w1 ⟨rfl, r1, r2, r3⟩
  have R2 := Lib.hid r2; have R3 := Lib.hid r3; clear r2 r3
  go_wp2
  go_ret
  exact ⟨rfl, R2.out, R3.out⟩
end Go.Proofs.YteioaaegooebpaaGreat
