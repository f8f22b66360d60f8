/- Package wire: a reader's texts. Conditions: texts of at most 2^63-1 bytes. -/
import Derived.Test.YteioaaegooebpaaGreatWireI
import Derived.Test.YteioaaegooebpaaGreatStrOps
namespace Go.Proofs.YteioaaegooebpaaGreat
open Go.RowKit Go.PlainAid

/-- What lies in a cell. -/
def PV (p : Addr) (w : World) : Value := (w.cell? p).getD (.bool false)
theorem pv_some {p : Addr} {w : World} {v : Value} (h : w.cell? p = some v) : w.cell? p = some (PV p w) := by unfold PV; rw [h]; rfl
def SX (pr pn : Addr) (b : Nat) (s : ByteArray) (a2 : Nat) (w' : World) : Prop := w'.cell? pr = some (.pointer (some ⟨b, 0, none⟩)) ∧ w'.cell? ⟨b, 1, none⟩ = some (.string s) ∧ w'.cell? ⟨b, 2, none⟩ = some (.int .i64 a2) ∧ w'.cell? pn = some (PV pn w') ∧ w'.frozen? pn = false
theorem SX.set {pr pn : Addr} {b : Nat} {s : ByteArray} {a2 : Nat} {w' : World} (hpp : pr.block ≠ pn.block) (hp : pn.block ≠ b) (h : w'.cell? pr = some (.pointer (some ⟨b, 0, none⟩)) ∧ w'.cell? ⟨b, 1, none⟩ = some (.string s) ∧ w'.cell? ⟨b, 2, none⟩ = some (.int .i64 a2) ∧ w'.cell? pn = some (PV pn w') ∧ w'.frozen? pn = false) (v : Value) : SX pr pn b s a2 (w'.setCell pn v) := by
  obtain ⟨h1, h2, h3, h4, h5⟩ := h
  refine ⟨?_, ?_, ?_, pv_some (World.cell?_setCell_same _ _ _ h4), by rw [World.frozen?_setCell]; exact h5⟩
  · rw [World.cell?_setCell_far _ _ _ _ (fun e => hpp e.symm)]; exact h1
  · rw [World.cell?_setCell_far _ _ _ _ hp]; exact h2
  · rw [World.cell?_setCell_far _ _ _ _ hp]; exact h3
theorem RC.pos {b : Nat} {p : Addr} {s : ByteArray} {a : Int} {v : Value} {w w' : World} (h : RC b p s a v w w') (hp : p.block ≠ b) (a' : Int) : RC b p s a' v w (w'.setCell ⟨b, 2, none⟩ (.int .i64 a')) :=
  ⟨h.1.setCell (p := ⟨b, 2, none⟩) (fun _ => Or.inl rfl) _, h.2.1.setPos a', by rw [World.cell?_setCell_far _ _ _ _ (fun e => hp e.symm)]; exact h.2.2⟩
set_option maxRecDepth 100000 in
set_option maxHeartbeats 1600000 in
theorem sText_good (pr pm pn : Addr) (b : Nat) (s : ByteArray) (a m : Int) (n a2 : Nat) (v0 : Value) (w : World) (hr : w.cell? pr = some (.pointer (some ⟨b, 0, none⟩))) (hm : w.cell? pm = some (.int .i64 m)) (hn : w.cell? pn = some v0) (hz : w.frozen? pn = false) (hp : pn.block ≠ b) (hpr : pr.block ≠ b) (hpp : pr.block ≠ pn.block) (h : Rd w b s a 0) (hs : s.size ≤ 9223372036854775807) (hm1 : m ≤ 9223372036854775807) (he : upR s a m 3 = ((n : Int), (a2 : Int), 0)) (hle : a2 + n ≤ s.size) :
    Calls Tryz.prog 153 #[.pointer (some pr), .pointer (some pm), .pointer (some pn)] w fun e w' => e = .returned (.tuple #[]) ∧ RC b pn s ((a2 : Int) + n) (.string (s.extract a2 (a2 + n))) w w' := by
  have hu := upTo_any b s a m 3 w h hs hm1 (by decide)
  rw [he] at hu
  dsimp only at hu
  rw [if_pos rfl] at hu
  have HU := Lib.hid hu; have HN := Lib.hid hn; have HZ := Lib.hid hz; have HR := Lib.hid hr
  have hl := World.block_lt_of_cell? w _ hn
  have hsub : IntKind.i64.wrap ((s.size : Int) - (a2 : Int)) = (s.size : Int) - (a2 : Int) := IntWalk.i64_in _ ⟨by omega, by omega⟩
  have hadd : IntKind.i64.wrap ((a2 : Int) + (n : Int)) = (a2 : Int) + (n : Int) := IntWalk.i64_in _ ⟨by omega, by omega⟩
  have hlt : ¬ ((s.size : Int) - (a2 : Int) < (n : Int)) := by omega
  have hsl := slice_run s a2 (a2 + n) (a2 : Int) ((a2 : Int) + (n : Int)) rfl (by omega) (by omega) (by omega)
  clear hu hn hz h he
  go_enter Tryz.func153, Tryz.ntmps153
  go_wp2_with fail
  refine HU.out.mono ?_
  rintro e w1 ⟨rfl, hb⟩
  have r1 := hb.1.cell (a := pr) hpr HR.out
  have n1 := hb.1.cell (a := pn) hp HN.out
  have z1 : w1.frozen? pn = false := by rw [hb.1.frozen hl hp]; exact HZ.out
  have c1 := hb.2.txt; have c2 := hb.2.pos; have c3 := hb.2.fr2
  have HB := Lib.hid hb
  clear hb hr
  go_wp2_with fail
  go_quiet (fail)
  go_wp2_with fail
  obtain ⟨w2, hw2⟩ : ∃ w2, w2 = w1.drewN nq := ⟨_, rfl⟩
  have d1 : w2.drew.cell? pr = some (.pointer (some ⟨b, 0, none⟩)) := by rw [hw2]; exact r1
  have d4 : w2.drew.cell? pn = some v0 := by rw [hw2]; exact n1
  have d5 : w2.drew.frozen? pn = false := by rw [hw2]; exact z1
  have HB2 : Hid (RB b s a2 w w2.drew) := Lib.hid (by rw [hw2]; exact ⟨(HB.out.1.draws nq).draws 1, HB.out.2.below (below_draws (below_draws (Below.refl _ _) nq) 1)⟩)
  have HS : Hid (SX pr pn b s a2 w2.drew) := Lib.hid ⟨d1, HB2.out.2.txt, HB2.out.2.pos, pv_some d4, d5⟩
  have HD := Lib.hid d4; have HE := Lib.hid d1
  have HF := Lib.hid (RC.of (v := .string (s.extract a2 (a2 + n))) HB2.out d4 hp)
  rw [← hw2]
  clear r1 n1 z1 c1 c2 c3 hw2 HB d1 d4 d5
  go_region_held3 (fun w' => w'.cell? pr = some (.pointer (some ⟨b, 0, none⟩)) ∧ w'.cell? ⟨b, 1, none⟩ = some (.string s) ∧ w'.cell? ⟨b, 2, none⟩ = some (.int .i64 a2) ∧ w'.cell? pn = some (PV pn w') ∧ w'.frozen? pn = false) (first | exact HS.out | exact SX.set hpp hp (by assumption) _ | assumption) (fail)
  have e1 : (w2.setCell pn (.string (s.extract a2 (a2 + n)))).drew.cell? pr = some (.pointer (some ⟨b, 0, none⟩)) := (World.cell?_setCell_far w2.drew pn pr _ (fun e => hpp e.symm)).trans HE.out
  have e2 : (w2.setCell pn (.string (s.extract a2 (a2 + n)))).drew.cell? ⟨b, 2, none⟩ = some (.int .i64 a2) := HF.out.2.1.pos
  have e3 : (w2.setCell pn (.string (s.extract a2 (a2 + n)))).drew.frozen? ⟨b, 2, none⟩ = false := HF.out.2.1.fr2
  have HG := Lib.hid (HF.out.pos hp ((a2 : Int) + n))
  rename_i hHeld
  clear hHeld
  go_wp2
  go_end0
  exact ⟨rfl, HG.out⟩
set_option maxRecDepth 100000 in
set_option maxHeartbeats 1600000 in
theorem sText_bad (pr pm pn : Addr) (b : Nat) (s : ByteArray) (a m : Int) (w : World) (hr : w.cell? pr = some (.pointer (some ⟨b, 0, none⟩))) (hm : w.cell? pm = some (.int .i64 m)) (h : Rd w b s a 0) (hs : s.size ≤ 9223372036854775807) (hm1 : m ≤ 9223372036854775807) (he : (upR s a m 3).2.2 ≠ 0) :
    Calls Tryz.prog 153 #[.pointer (some pr), .pointer (some pm), .pointer (some pn)] w fun e w' => e = .panicked [thrown (upR s a m 3).2.2] ∧ ∃ a', RB b s a' w w' := by
  have hu := upTo_any b s a m 3 w h hs hm1 (by decide)
  rw [if_neg he] at hu
  have HU := Lib.hid hu
  clear hu h he
  go_enter Tryz.func153, Tryz.ntmps153
  go_wp2_with fail
  refine HU.out.mono ?_
  rintro e w1 ⟨rfl, hb⟩
  have HB := Lib.hid hb; clear hb
  go_wp2
  exact ⟨rfl, rfl, _, HB.out⟩
set_option maxRecDepth 100000 in
set_option maxHeartbeats 1600000 in
theorem sText_short (pr pm pn : Addr) (b : Nat) (s : ByteArray) (a m : Int) (n a2 : Nat) (w : World) (hr : w.cell? pr = some (.pointer (some ⟨b, 0, none⟩))) (hm : w.cell? pm = some (.int .i64 m)) (hpr : pr.block ≠ b) (h : Rd w b s a 0) (hs : s.size ≤ 9223372036854775807) (hm1 : m ≤ 9223372036854775807) (he : upR s a m 3 = ((n : Int), (a2 : Int), 0)) (ha : a2 ≤ s.size) (hle : ¬ a2 + n ≤ s.size) :
    Calls Tryz.prog 153 #[.pointer (some pr), .pointer (some pm), .pointer (some pn)] w fun e w' => e = .panicked [thrown 2] ∧ ∃ a', RB b s a' w w' := by
  have hu := upTo_any b s a m 3 w h hs hm1 (by decide)
  rw [he] at hu
  dsimp only at hu
  rw [if_pos rfl] at hu
  have HU := Lib.hid hu; have HR := Lib.hid hr
  have hsub : IntKind.i64.wrap ((s.size : Int) - (a2 : Int)) = (s.size : Int) - (a2 : Int) := IntWalk.i64_in _ ⟨by omega, by omega⟩
  have hlt : ((s.size : Int) - (a2 : Int) < (n : Int)) := by omega
  clear hu h he
  go_enter Tryz.func153, Tryz.ntmps153
  go_wp2_with fail
  refine HU.out.mono ?_
  rintro e w1 ⟨rfl, hb⟩
  have r1 := hb.1.cell (a := pr) hpr HR.out
  have c1 := hb.2.txt; have c2 := hb.2.pos
  have HB := Lib.hid hb
  clear hb hr
  go_wp2_with fail
  go_quiet (fail)
  have HB2 : Hid (RB b s a2 w (w1.drewN nq)) := Lib.hid ⟨HB.out.1.draws nq, HB.out.2.below (below_draws (Below.refl _ _) nq)⟩
  go_wp2
  exact ⟨rfl, rfl, _, HB2.out⟩
theorem getR_pos {s : ByteArray} {a g1 g2 : Int} (h : getR s a = (g1, g2, 0)) : 0 ≤ g2 ∧ g2 ≤ s.size := by
  unfold getR at h
  split at h
  · simp at h
  rename_i h1
  have h2 : 0 ≤ a ∧ a ≤ s.size := by omega
  split at h
  · simp at h
  rename_i h3
  split at h
  · simp only [Prod.mk.injEq] at h; omega
  rename_i h4
  split at h
  · simp at h
  rename_i h5
  split at h
  · simp only [Prod.mk.injEq] at h; omega
  · simp at h
theorem upR_good {s : ByteArray} {a m x : Int} (hx : x ≠ 0) (h : (upR s a m x).2.2 = 0) : ∃ n a2 : Nat, upR s a m x = ((n : Int), (a2 : Int), 0) ∧ a2 ≤ s.size := by
  have hr := getR_range s a
  rcases hg : getR s a with ⟨g1, g2, g3⟩
  rw [hg] at hr
  rw [upR_of hg] at h ⊢
  by_cases h3 : g3 = 0
  · subst h3
    have hp := getR_pos hg
    rw [if_neg (by simp)] at h ⊢
    by_cases hm : m < 0 ∨ m < g1
    · rw [if_pos hm] at h; exact absurd h hx
    · rw [if_neg hm]
      obtain ⟨n, rfl⟩ := Int.eq_ofNat_of_zero_le hr
      obtain ⟨k, rfl⟩ := Int.eq_ofNat_of_zero_le hp.1
      exact ⟨n, k, rfl, by omega⟩
  · rw [if_pos h3] at h; exact absurd h h3
/-- What Text answers and keeps. -/
def textR (s : ByteArray) (a x m : Int) : ByteArray × Int × Int :=
  if x ≠ 0 then (⟨#[]⟩, a, x) else if (upR s a m 3).2.2 ≠ 0 then (⟨#[]⟩, (upR s a m 3).2.1, (upR s a m 3).2.2)
  else if (s.size : Int) < (upR s a m 3).2.1 + (upR s a m 3).1 then (⟨#[]⟩, (upR s a m 3).2.1, 2)
  else (s.extract (upR s a m 3).2.1.toNat ((upR s a m 3).2.1.toNat + (upR s a m 3).1.toNat), (upR s a m 3).2.1 + (upR s a m 3).1, 0)
set_option maxRecDepth 100000 in
set_option maxHeartbeats 1600000 in
theorem rText_any (b : Nat) (s : ByteArray) (a x m : Int) (w : World) (h : Rd w b s a x) (hs : s.size ≤ 9223372036854775807) (hm : m ≤ 9223372036854775807) :
    Calls Tryz.prog 121 #[.pointer (some ⟨b, 0, none⟩), .int .i64 m] w fun e w' => e = .returned (.string (textR s a x m).1) ∧ RE w' b s (textR s a x m).2.1 (textR s a x m).2.2 ∧ But (Own b) w w' := by
  have hmf : ∀ (fn : Fn) (first cap : Array Value) (w : World), (Instr.makeFunc fn first cap).run Tryz.prog w = .ok (.func fn first cap) w := fun _ _ _ _ => rfl
  obtain ⟨W, hW⟩ : ∃ W, W = (((w.alloc (.cells #[.pointer (some ⟨b, 0, none⟩)] 103)).alloc (.cells #[.int .i64 m] 3)).alloc (.cells #[.string ⟨#[]⟩] 9)) := ⟨_, rfl⟩
  have hl := lay3 w (.pointer (some ⟨b, 0, none⟩)) (.int .i64 m) (.string ⟨#[]⟩) 103 3 9
  rw [← hW] at hl
  obtain ⟨l0, l1, l2, l3, l4⟩ := hl
  have H1 := Lib.hid (h.below l0)
  have HB := Lib.hid (But.of_below (S := Own b) l0)
  have hlt := h.lt
  have k1 := rBox_below W (.pointer (some ⟨b, 0, none⟩))
  have H2 := Lib.hid (H1.out.below k1)
  have HB2 := Lib.hid (But.of_below (S := Own b) k1)
  have L1 := Lib.hid (cell_below k1 l1); have L2 := Lib.hid (cell_below k1 l2); have L3 := Lib.hid (cell_below k1 l3)
  have L4 : Hid ((rBox W (.pointer (some ⟨b, 0, none⟩))).frozen? ⟨w.heap.size + 1 + 1, 0, none⟩ = false) := Lib.hid (by rw [k1.frozen (World.block_lt_of_cell? W _ l3)]; exact l4)
  have HW := Lib.hid hW; have M3 := Lib.hid l3
  have hF : ∀ u, Sem.run Tryz.prog (callFunc 153 #[.pointer (some ⟨w.heap.size, 0, none⟩), .pointer (some ⟨w.heap.size + 1, 0, none⟩), .pointer (some ⟨w.heap.size + 1 + 1, 0, none⟩)]) u = .ok (.enter 153 #[.pointer (some ⟨w.heap.size, 0, none⟩), .pointer (some ⟨w.heap.size + 1, 0, none⟩), .pointer (some ⟨w.heap.size + 1 + 1, 0, none⟩)]) u := fun _ => rfl
  have hd : w.heap.size + 1 + 1 ≠ b := by omega
  have HFn := Lib.hid hF
  clear h l0 l1 l2 l3 l4 k1 hF
  go_enter Tryz.func121, Tryz.ntmps121
  go_wp2_with fail
  rw [← HW.out]
  refine Calls.mono (R := fun e w' => e = .returned (.tuple #[]) ∧ w'.cell? ⟨w.heap.size + 1 + 1, 0, none⟩ = some (.string (textR s a x m).1) ∧ RE w' b s (textR s a x m).2.1 (textR s a x m).2.2 ∧ But (Own b) w w') ?_ ?_
  · by_cases hx : x = 0
    · subst hx
      by_cases hu : (upR s a m 3).2.2 = 0
      · obtain ⟨n, a2, hn, ha2⟩ := upR_good (by decide) hu
        by_cases hle : a2 + n ≤ s.size
        · have hq : textR s a 0 m = (s.extract a2 (a2 + n), (a2 : Int) + n, 0) := by unfold textR; rw [if_neg (by simp), hn, if_neg (by simp), if_neg (by simp only; omega)]; simp
          rw [hq]
          refine (take_good b s a _ _ _ HFn.out _ H1.out (sText_good _ _ _ b s a m n a2 _ _ L1.out L2.out L3.out L4.out hd (by simp only; omega) (by simp only; omega) H2.out hs hm hn hle)).mono ?_
          rintro e w1 ⟨rfl, r1, r2, r3⟩
          refine ⟨rfl, r3, RE.good r2, (HB.out.trans HB2.out).fresh r1 (fun k hk hS => ?_)⟩
          rcases hS with hS | hS
          · exact hS
          · simp only at hS; omega
        · have hq : textR s a 0 m = (⟨#[]⟩, (a2 : Int), 2) := by unfold textR; rw [if_neg (by simp), hn, if_neg (by simp), if_pos (by simp only; omega)]
          rw [hq]
          refine (take_bad b s a _ _ _ HFn.out _ H1.out (sText_short _ _ _ b s a m n a2 _ L1.out L2.out (by simp only; omega) H2.out hs hm hn ha2 hle)).mono ?_
          rintro e w1 ⟨rfl, a', r1, r2⟩
          exact ⟨rfl, r1.cell (a := ⟨w.heap.size + 1 + 1, 0, none⟩) hd M3.out, RE.bad (by simp) r2, HB.out.trans r1⟩
      · have hq : textR s a 0 m = (⟨#[]⟩, (upR s a m 3).2.1, (upR s a m 3).2.2) := by unfold textR; rw [if_neg (by simp), if_pos hu]
        rw [hq]
        refine (take_bad b s a _ _ _ HFn.out _ H1.out (sText_bad _ _ _ b s a m _ L1.out L2.out H2.out hs hm hu)).mono ?_
        rintro e w1 ⟨rfl, a', r1, r2⟩
        exact ⟨rfl, r1.cell (a := ⟨w.heap.size + 1 + 1, 0, none⟩) hd M3.out, RE.bad hu r2, HB.out.trans r1⟩
    · have hq : textR s a x m = (⟨#[]⟩, a, x) := by unfold textR; rw [if_pos hx]
      rw [hq]
      refine (take_err b s a x _ _ H1.out hx).mono ?_
      rintro e w1 ⟨rfl, r1⟩
      exact ⟨rfl, cell_below r1 M3.out, RE.bad hx (H1.out.below r1), HB.out.trans (But.of_below r1)⟩
  rintro e w1 ⟨rfl, r1, r2, r3⟩
  have R2 := Lib.hid r2; have R3 := Lib.hid r3; clear r2 r3
  go_wp2
  go_ret
  exact ⟨rfl, R2.out, R3.out⟩
end Go.Proofs.YteioaaegooebpaaGreat
