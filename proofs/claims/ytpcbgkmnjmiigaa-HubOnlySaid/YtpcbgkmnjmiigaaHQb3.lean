/- Put together: WireJHQa, WireKHQa, WireLHQa, VnDHQa, WireNHQa, WireOHQa, WireTHQa, ObjEHQa, LinkRHQa, LinkSHQa, HubBHQa, HubCHQa, HubDHQa, HubEHQa, HubFHQa, WireVbHQa, EatsHQa, LinkTHQa, HoBHQa, HubGHQa, HubIHQa, HoCHQa, LinkNHQa, OpenHQa, LinkOHQa, HubJHQa, HoEHQa. Conditions: as each says. -/
import Derived.Test.YtpcbgkmnjmiigaaHQb2
import Derived.Test.YtpcbgkmnjmiigaaHQb1
import Derived.Deep.Upon
import Derived.ProofKit
import Derived.Deep.Slices
import Derived.Deep.Fields
import Derived.Laws.StructEq
/- Package wire: a reader's texts. Conditions: texts of at most 2^63-1 bytes. -/
namespace Go.Proofs.Ytpcbgkmnjmiigaa
open Go.RowKit Go.PlainAid

/-- What lies in a cell. -/
def PV (p : Addr) (w : World) : Value := (w.cell? p).getD (.bool false)
theorem pv_some {p : Addr} {w : World} {v : Value} (h : w.cell? p = some v) : w.cell? p = some (PV p w) := by unfold PV; rw [h]; rfl
def SX (pr pn : Addr) (b : Nat) (s : ByteArray) (a2 : Nat) (w' : World) : Prop := w'.cell? pr = some (.pointer (some ⟨b, 0, none⟩)) ∧ w'.cell? ⟨b, 1, none⟩ = some (.string s) ∧ w'.cell? ⟨b, 2, none⟩ = some (.int .i64 a2) ∧ w'.cell? pn = some (PV pn w') ∧ w'.frozen? pn = false
theorem SX.set {pr pn : Addr} {b : Nat} {s : ByteArray} {a2 : Nat} {w' : World} (hpp : pr.block ≠ pn.block) (hp : pn.block ≠ b) (h : w'.cell? pr = some (.pointer (some ⟨b, 0, none⟩)) ∧ w'.cell? ⟨b, 1, none⟩ = some (.string s) ∧ w'.cell? ⟨b, 2, none⟩ = some (.int .i64 a2) ∧ w'.cell? pn = some (PV pn w') ∧ w'.frozen? pn = false) (v : Value) : SX pr pn b s a2 (w'.setCell pn v) := by
  obtain ⟨h1, h2, h3, h4, h5⟩ := h
  refine ⟨?_, ?_, ?_, pv_some (World.cell?_setCell_same _ _ _ h4), by rw [World.frozen?_setCell]; exact h5⟩
  · rw [World.cell?_setCell_far _ _ _ _ (fun e => hpp e.symm)]; exact h1
  · rw [World.cell?_setCell_far _ _ _ _ hp]; exact h2
  · rw [World.cell?_setCell_far _ _ _ _ hp]; exact h3
theorem RC.pos {b : Nat} {p : Addr} {s : ByteArray} {a : Int} {v : Value} {w w' : World} (h : RC b p s a v w w') (hp : p.block ≠ b) (a' : Int) : RC b p s a' v w (w'.setCell ⟨b, 2, none⟩ (.int .i64 a')) :=
  ⟨h.1.setCell (p := ⟨b, 2, none⟩) (fun _ => Or.inl rfl) _, h.2.1.setPos a', by rw [World.cell?_setCell_far _ _ _ _ (fun e => hp e.symm)]; exact h.2.2⟩
set_option maxRecDepth 100000 in
set_option maxHeartbeats 1600000 in
theorem sText_good (pr pm pn : Addr) (b : Nat) (s : ByteArray) (a m : Int) (n a2 : Nat) (v0 : Value) (w : World) (hr : w.cell? pr = some (.pointer (some ⟨b, 0, none⟩))) (hm : w.cell? pm = some (.int .i64 m)) (hn : w.cell? pn = some v0) (hz : w.frozen? pn = false) (hp : pn.block ≠ b) (hpr : pr.block ≠ b) (hpp : pr.block ≠ pn.block) (h : Rd w b s a 0) (hs : s.size ≤ 9223372036854775807) (hm1 : m ≤ 9223372036854775807) (he : upR s a m 3 = ((n : Int), (a2 : Int), 0)) (hle : a2 + n ≤ s.size) :
    Calls Try.prog 76 #[.pointer (some pr), .pointer (some pm), .pointer (some pn)] w fun e w' => e = .returned (.tuple #[]) ∧ RC b pn s ((a2 : Int) + n) (.string (s.extract a2 (a2 + n))) w w' := by
  have hu := upTo_any b s a m 3 w h hs hm1 (by decide)
  rw [he] at hu
  dsimp only at hu
  rw [if_pos rfl] at hu
  have HU := Lib.hid hu; have HN := Lib.hid hn; have HZ := Lib.hid hz; have HR := Lib.hid hr
  have hl := World.block_lt_of_cell? w _ hn
  have hsub : IntKind.i64.wrap ((s.size : Int) - (a2 : Int)) = (s.size : Int) - (a2 : Int) := IntWalk.i64_in _ ⟨by omega, by omega⟩
  have hadd : IntKind.i64.wrap ((a2 : Int) + (n : Int)) = (a2 : Int) + (n : Int) := IntWalk.i64_in _ ⟨by omega, by omega⟩
  have hlt : ¬ ((s.size : Int) - (a2 : Int) < (n : Int)) := by omega
  have hsl := slice_run s a2 (a2 + n) (a2 : Int) ((a2 : Int) + (n : Int)) rfl (by omega) (by omega) (by omega)
  clear hu hn hz h he
  go_enter Try.func76, Try.ntmps76
  go_wp2_with fail
  refine HU.out.mono ?_
  rintro e w1 ⟨rfl, hb⟩
  have r1 := hb.1.cell (a := pr) hpr HR.out
  have n1 := hb.1.cell (a := pn) hp HN.out
  have z1 : w1.frozen? pn = false := by rw [hb.1.frozen hl hp]; exact HZ.out
  have c1 := hb.2.txt; have c2 := hb.2.pos; have c3 := hb.2.fr2
  have HB := Lib.hid hb
  clear hb hr
  go_wp2_with fail
  go_quiet (fail)
  go_wp2_with fail
  obtain ⟨w2, hw2⟩ : ∃ w2, w2 = w1.drewN nq := ⟨_, rfl⟩
  have d1 : w2.drew.cell? pr = some (.pointer (some ⟨b, 0, none⟩)) := by rw [hw2]; exact r1
  have d4 : w2.drew.cell? pn = some v0 := by rw [hw2]; exact n1
  have d5 : w2.drew.frozen? pn = false := by rw [hw2]; exact z1
  have HB2 : Hid (RB b s a2 w w2.drew) := Lib.hid (by rw [hw2]; exact ⟨(HB.out.1.draws nq).draws 1, HB.out.2.below (below_draws (below_draws (Below.refl _ _) nq) 1)⟩)
  have HS : Hid (SX pr pn b s a2 w2.drew) := Lib.hid ⟨d1, HB2.out.2.txt, HB2.out.2.pos, pv_some d4, d5⟩
  have HD := Lib.hid d4; have HE := Lib.hid d1
  have HF := Lib.hid (RC.of (v := .string (s.extract a2 (a2 + n))) HB2.out d4 hp)
  rw [← hw2]
  clear r1 n1 z1 c1 c2 c3 hw2 HB d1 d4 d5
  go_region_held3 (fun w' => w'.cell? pr = some (.pointer (some ⟨b, 0, none⟩)) ∧ w'.cell? ⟨b, 1, none⟩ = some (.string s) ∧ w'.cell? ⟨b, 2, none⟩ = some (.int .i64 a2) ∧ w'.cell? pn = some (PV pn w') ∧ w'.frozen? pn = false) (first | exact HS.out | exact SX.set hpp hp (by assumption) _ | assumption) (fail)
  have e1 : (w2.setCell pn (.string (s.extract a2 (a2 + n)))).drew.cell? pr = some (.pointer (some ⟨b, 0, none⟩)) := (World.cell?_setCell_far w2.drew pn pr _ (fun e => hpp e.symm)).trans HE.out
  have e2 : (w2.setCell pn (.string (s.extract a2 (a2 + n)))).drew.cell? ⟨b, 2, none⟩ = some (.int .i64 a2) := HF.out.2.1.pos
  have e3 : (w2.setCell pn (.string (s.extract a2 (a2 + n)))).drew.frozen? ⟨b, 2, none⟩ = false := HF.out.2.1.fr2
  have HG := Lib.hid (HF.out.pos hp ((a2 : Int) + n))
  rename_i hHeld
  clear hHeld
  go_wp2
  go_end0
  exact ⟨rfl, HG.out⟩
set_option maxRecDepth 100000 in
set_option maxHeartbeats 1600000 in
theorem sText_bad (pr pm pn : Addr) (b : Nat) (s : ByteArray) (a m : Int) (w : World) (hr : w.cell? pr = some (.pointer (some ⟨b, 0, none⟩))) (hm : w.cell? pm = some (.int .i64 m)) (h : Rd w b s a 0) (hs : s.size ≤ 9223372036854775807) (hm1 : m ≤ 9223372036854775807) (he : (upR s a m 3).2.2 ≠ 0) :
    Calls Try.prog 76 #[.pointer (some pr), .pointer (some pm), .pointer (some pn)] w fun e w' => e = .panicked [thrown (upR s a m 3).2.2] ∧ ∃ a', RB b s a' w w' := by
  have hu := upTo_any b s a m 3 w h hs hm1 (by decide)
  rw [if_neg he] at hu
  have HU := Lib.hid hu
  clear hu h he
  go_enter Try.func76, Try.ntmps76
  go_wp2_with fail
  refine HU.out.mono ?_
  rintro e w1 ⟨rfl, hb⟩
  have HB := Lib.hid hb; clear hb
  go_wp2
  exact ⟨rfl, rfl, _, HB.out⟩
set_option maxRecDepth 100000 in
set_option maxHeartbeats 1600000 in
theorem sText_short (pr pm pn : Addr) (b : Nat) (s : ByteArray) (a m : Int) (n a2 : Nat) (w : World) (hr : w.cell? pr = some (.pointer (some ⟨b, 0, none⟩))) (hm : w.cell? pm = some (.int .i64 m)) (hpr : pr.block ≠ b) (h : Rd w b s a 0) (hs : s.size ≤ 9223372036854775807) (hm1 : m ≤ 9223372036854775807) (he : upR s a m 3 = ((n : Int), (a2 : Int), 0)) (ha : a2 ≤ s.size) (hle : ¬ a2 + n ≤ s.size) :
    Calls Try.prog 76 #[.pointer (some pr), .pointer (some pm), .pointer (some pn)] w fun e w' => e = .panicked [thrown 2] ∧ ∃ a', RB b s a' w w' := by
  have hu := upTo_any b s a m 3 w h hs hm1 (by decide)
  rw [he] at hu
  dsimp only at hu
  rw [if_pos rfl] at hu
  have HU := Lib.hid hu; have HR := Lib.hid hr
  have hsub : IntKind.i64.wrap ((s.size : Int) - (a2 : Int)) = (s.size : Int) - (a2 : Int) := IntWalk.i64_in _ ⟨by omega, by omega⟩
  have hlt : ((s.size : Int) - (a2 : Int) < (n : Int)) := by omega
  clear hu h he
  go_enter Try.func76, Try.ntmps76
  go_wp2_with fail
  refine HU.out.mono ?_
  rintro e w1 ⟨rfl, hb⟩
  have r1 := hb.1.cell (a := pr) hpr HR.out
  have c1 := hb.2.txt; have c2 := hb.2.pos
  have HB := Lib.hid hb
  clear hb hr
  go_wp2_with fail
  go_quiet (fail)
  have HB2 : Hid (RB b s a2 w (w1.drewN nq)) := Lib.hid ⟨HB.out.1.draws nq, HB.out.2.below (below_draws (Below.refl _ _) nq)⟩
  go_wp2
  exact ⟨rfl, rfl, _, HB2.out⟩
theorem getR_pos {s : ByteArray} {a g1 g2 : Int} (h : getR s a = (g1, g2, 0)) : 0 ≤ g2 ∧ g2 ≤ s.size := by
  unfold getR at h
  split at h
  · simp at h
  rename_i h1
  have h2 : 0 ≤ a ∧ a ≤ s.size := by omega
  split at h
  · simp at h
  rename_i h3
  split at h
  · simp only [Prod.mk.injEq] at h; omega
  rename_i h4
  split at h
  · simp at h
  rename_i h5
  split at h
  · simp only [Prod.mk.injEq] at h; omega
  · simp at h
theorem upR_good {s : ByteArray} {a m x : Int} (hx : x ≠ 0) (h : (upR s a m x).2.2 = 0) : ∃ n a2 : Nat, upR s a m x = ((n : Int), (a2 : Int), 0) ∧ a2 ≤ s.size := by
  have hr := getR_range s a
  rcases hg : getR s a with ⟨g1, g2, g3⟩
  rw [hg] at hr
  rw [upR_of hg] at h ⊢
  by_cases h3 : g3 = 0
  · subst h3
    have hp := getR_pos hg
    rw [if_neg (by simp)] at h ⊢
    by_cases hm : m < 0 ∨ m < g1
    · rw [if_pos hm] at h; exact absurd h hx
    · rw [if_neg hm]
      obtain ⟨n, rfl⟩ := Int.eq_ofNat_of_zero_le hr
      obtain ⟨k, rfl⟩ := Int.eq_ofNat_of_zero_le hp.1
      exact ⟨n, k, rfl, by omega⟩
  · rw [if_pos h3] at h; exact absurd h h3
/-- What Text answers and keeps. -/
def textR (s : ByteArray) (a x m : Int) : ByteArray × Int × Int :=
  if x ≠ 0 then (⟨#[]⟩, a, x) else if (upR s a m 3).2.2 ≠ 0 then (⟨#[]⟩, (upR s a m 3).2.1, (upR s a m 3).2.2)
  else if (s.size : Int) < (upR s a m 3).2.1 + (upR s a m 3).1 then (⟨#[]⟩, (upR s a m 3).2.1, 2)
  else (s.extract (upR s a m 3).2.1.toNat ((upR s a m 3).2.1.toNat + (upR s a m 3).1.toNat), (upR s a m 3).2.1 + (upR s a m 3).1, 0)
set_option maxRecDepth 100000 in
set_option maxHeartbeats 1600000 in
theorem rText_any (b : Nat) (s : ByteArray) (a x m : Int) (w : World) (h : Rd w b s a x) (hs : s.size ≤ 9223372036854775807) (hm : m ≤ 9223372036854775807) :
    Calls Try.prog 52 #[.pointer (some ⟨b, 0, none⟩), .int .i64 m] w fun e w' => e = .returned (.string (textR s a x m).1) ∧ RE w' b s (textR s a x m).2.1 (textR s a x m).2.2 ∧ But (Own b) w w' := by
  have hmf : ∀ (fn : Fn) (first cap : Array Value) (w : World), (Instr.makeFunc fn first cap).run Try.prog w = .ok (.func fn first cap) w := fun _ _ _ _ => rfl
  obtain ⟨W, hW⟩ : ∃ W, W = (((w.alloc (.cells #[.pointer (some ⟨b, 0, none⟩)] 108)).alloc (.cells #[.int .i64 m] 3)).alloc (.cells #[.string ⟨#[]⟩] 9)) := ⟨_, rfl⟩
  have hl := lay3 w (.pointer (some ⟨b, 0, none⟩)) (.int .i64 m) (.string ⟨#[]⟩) 108 3 9
  rw [← hW] at hl
  obtain ⟨l0, l1, l2, l3, l4⟩ := hl
  have H1 := Lib.hid (h.below l0)
  have HB := Lib.hid (But.of_below (S := Own b) l0)
  have hlt := h.lt
  have k1 := rBox_below W (.pointer (some ⟨b, 0, none⟩))
  have H2 := Lib.hid (H1.out.below k1)
  have HB2 := Lib.hid (But.of_below (S := Own b) k1)
  have L1 := Lib.hid (cell_below k1 l1); have L2 := Lib.hid (cell_below k1 l2); have L3 := Lib.hid (cell_below k1 l3)
  have L4 : Hid ((rBox W (.pointer (some ⟨b, 0, none⟩))).frozen? ⟨w.heap.size + 1 + 1, 0, none⟩ = false) := Lib.hid (by rw [k1.frozen (World.block_lt_of_cell? W _ l3)]; exact l4)
  have HW := Lib.hid hW; have M3 := Lib.hid l3
  have hF : ∀ u, Sem.run Try.prog (callFunc 76 #[.pointer (some ⟨w.heap.size, 0, none⟩), .pointer (some ⟨w.heap.size + 1, 0, none⟩), .pointer (some ⟨w.heap.size + 1 + 1, 0, none⟩)]) u = .ok (.enter 76 #[.pointer (some ⟨w.heap.size, 0, none⟩), .pointer (some ⟨w.heap.size + 1, 0, none⟩), .pointer (some ⟨w.heap.size + 1 + 1, 0, none⟩)]) u := fun _ => rfl
  have hd : w.heap.size + 1 + 1 ≠ b := by omega
  have HFn := Lib.hid hF
  clear h l0 l1 l2 l3 l4 k1 hF
  go_enter Try.func52, Try.ntmps52
  go_wp2_with fail
  rw [← HW.out]
  refine Calls.mono (R := fun e w' => e = .returned (.tuple #[]) ∧ w'.cell? ⟨w.heap.size + 1 + 1, 0, none⟩ = some (.string (textR s a x m).1) ∧ RE w' b s (textR s a x m).2.1 (textR s a x m).2.2 ∧ But (Own b) w w') ?_ ?_
  · by_cases hx : x = 0
    · subst hx
      by_cases hu : (upR s a m 3).2.2 = 0
      · obtain ⟨n, a2, hn, ha2⟩ := upR_good (by decide) hu
        by_cases hle : a2 + n ≤ s.size
        · have hq : textR s a 0 m = (s.extract a2 (a2 + n), (a2 : Int) + n, 0) := by unfold textR; rw [if_neg (by simp), hn, if_neg (by simp), if_neg (by simp only; omega)]; simp
          rw [hq]
          refine (take_good b s a _ _ _ HFn.out _ H1.out (sText_good _ _ _ b s a m n a2 _ _ L1.out L2.out L3.out L4.out hd (by simp only; omega) (by simp only; omega) H2.out hs hm hn hle)).mono ?_
          rintro e w1 ⟨rfl, r1, r2, r3⟩
          refine ⟨rfl, r3, RE.good r2, (HB.out.trans HB2.out).fresh r1 (fun k hk hS => ?_)⟩
          rcases hS with hS | hS
          · exact hS
          · simp only at hS; omega
        · have hq : textR s a 0 m = (⟨#[]⟩, (a2 : Int), 2) := by unfold textR; rw [if_neg (by simp), hn, if_neg (by simp), if_pos (by simp only; omega)]
          rw [hq]
          refine (take_bad b s a _ _ _ HFn.out _ H1.out (sText_short _ _ _ b s a m n a2 _ L1.out L2.out (by simp only; omega) H2.out hs hm hn ha2 hle)).mono ?_
          rintro e w1 ⟨rfl, a', r1, r2⟩
          exact ⟨rfl, r1.cell (a := ⟨w.heap.size + 1 + 1, 0, none⟩) hd M3.out, RE.bad (by simp) r2, HB.out.trans r1⟩
      · have hq : textR s a 0 m = (⟨#[]⟩, (upR s a m 3).2.1, (upR s a m 3).2.2) := by unfold textR; rw [if_neg (by simp), if_pos hu]
        rw [hq]
        refine (take_bad b s a _ _ _ HFn.out _ H1.out (sText_bad _ _ _ b s a m _ L1.out L2.out H2.out hs hm hu)).mono ?_
        rintro e w1 ⟨rfl, a', r1, r2⟩
        exact ⟨rfl, r1.cell (a := ⟨w.heap.size + 1 + 1, 0, none⟩) hd M3.out, RE.bad hu r2, HB.out.trans r1⟩
    · have hq : textR s a x m = (⟨#[]⟩, a, x) := by unfold textR; rw [if_pos hx]
      rw [hq]
      refine (take_err b s a x _ _ H1.out hx).mono ?_
      rintro e w1 ⟨rfl, r1⟩
      exact ⟨rfl, cell_below r1 M3.out, RE.bad hx (H1.out.below r1), HB.out.trans (But.of_below r1)⟩
  rintro e w1 ⟨rfl, r1, r2, r3⟩
  have R2 := Lib.hid r2; have R3 := Lib.hid r3; clear r2 r3
  go_wp2
  go_ret
  exact ⟨rfl, R2.out, R3.out⟩
end Go.Proofs.Ytpcbgkmnjmiigaa

/- Package wire: a reader's flags. Conditions: texts of at most 2^63-1 bytes. -/
namespace Go.Proofs.Ytpcbgkmnjmiigaa
open Go.RowKit Go.PlainAid

theorem rd_draws {b : Nat} {s : ByteArray} {a : Int} {w : World} (h : Rd w b s a 0) (n : Nat) : RB b s a w (w.drewN n) := ⟨(But.refl _ _).draws n, h.below (below_draws (Below.refl _ _) n)⟩
theorem rd_draws2 {b : Nat} {s : ByteArray} {a : Int} {w : World} (h : Rd w b s a 0) (n k : Nat) : RB b s a w ((w.drewN n).drewN k) := ⟨((But.refl _ _).draws n).draws k, h.below (below_draws (below_draws (Below.refl _ _) n) k)⟩
set_option maxRecDepth 100000 in
set_option maxHeartbeats 1600000 in
theorem sFlag_end (pr pn : Addr) (b : Nat) (s : ByteArray) (w : World) (hr : w.cell? pr = some (.pointer (some ⟨b, 0, none⟩))) (h : Rd w b s s.size 0) (hs : s.size ≤ 9223372036854775807) :
    Calls Try.prog 75 #[.pointer (some pr), .pointer (some pn)] w fun e w' => e = .panicked [thrown 2] ∧ ∃ a', RB b s a' w w' := by
  have H := Lib.hid h
  have c1 := h.txt; have c2 := h.pos
  clear h
  go_enter Try.func75, Try.ntmps75
  go_wp2_with fail
  go_quiet (fail)
  have HB2 := Lib.hid (rd_draws H.out nq)
  go_wp2
  exact ⟨rfl, rfl, _, HB2.out⟩
set_option maxRecDepth 100000 in
set_option maxHeartbeats 1600000 in
theorem sFlag_form (pr pn : Addr) (b : Nat) (s : ByteArray) (a : Nat) (w : World) (hr : w.cell? pr = some (.pointer (some ⟨b, 0, none⟩))) (h : Rd w b s a 0) (hs : s.size ≤ 9223372036854775807) (ha : a < s.size) (hf : 1 < bt s a) :
    Calls Try.prog 75 #[.pointer (some pr), .pointer (some pn)] w fun e w' => e = .panicked [thrown 4] ∧ ∃ a', RB b s a' w w' := by
  have H := Lib.hid h
  have c1 := h.txt; have c2 := h.pos
  have hbt := get_bt s
  have hne : ((a : Int) == (s.size : Int)) = false := by simp; omega
  clear h
  go_enter Try.func75, Try.ntmps75
  go_wp2_with fail
  go_quiet (fail)
  obtain ⟨k1, hk1⟩ : ∃ k, k = nq := ⟨_, rfl⟩
  rw [← hk1]
  go_wp2_with fail
  go_quiet (fail)
  go_wp2
  exact ⟨rfl, rfl, _, rd_draws H.out _⟩
set_option maxRecDepth 100000 in
set_option maxHeartbeats 1600000 in
theorem sFlag_good (pr pn : Addr) (b : Nat) (s : ByteArray) (a : Nat) (v0 : Value) (w : World) (hr : w.cell? pr = some (.pointer (some ⟨b, 0, none⟩))) (hn : w.cell? pn = some v0) (hz : w.frozen? pn = false) (hp : pn.block ≠ b) (hpr : pr.block ≠ b) (hpp : pr.block ≠ pn.block) (h : Rd w b s a 0) (hs : s.size ≤ 9223372036854775807) (ha : a < s.size) (hf : ¬ 1 < bt s a) :
    Calls Try.prog 75 #[.pointer (some pr), .pointer (some pn)] w fun e w' => e = .returned (.tuple #[]) ∧ RC b pn s ((a : Int) + 1) (.bool (bt s a == 1)) w w' := by
  have H := Lib.hid h
  have c1 := h.txt; have c2 := h.pos
  have hbt := get_bt s
  have hne : ((a : Int) == (s.size : Int)) = false := by simp; omega
  have HN := Lib.hid hn; have HZ := Lib.hid hz; have HR := Lib.hid hr
  have hadd : IntKind.i64.wrap ((a : Int) + 1) = (a : Int) + 1 := IntWalk.i64_in _ ⟨by omega, by omega⟩
  clear h hn hz
  go_enter Try.func75, Try.ntmps75
  go_wp2_with fail
  go_quiet (fail)
  obtain ⟨k1, hk1⟩ : ∃ k, k = nq := ⟨_, rfl⟩
  rw [← hk1]
  go_wp2_with fail
  go_quiet (fail)
  go_wp2_with fail
  obtain ⟨w2, hw2⟩ : ∃ w2, w2 = (w.drewN k1).drewN nq := ⟨_, rfl⟩
  have d1 : w2.drew.cell? pr = some (.pointer (some ⟨b, 0, none⟩)) := by rw [hw2]; exact HR.out
  have d4 : w2.drew.cell? pn = some v0 := by rw [hw2]; exact HN.out
  have d5 : w2.drew.frozen? pn = false := by rw [hw2]; exact HZ.out
  have HB2 : Hid (RB b s a w w2.drew) := Lib.hid (by rw [hw2]; exact ⟨(rd_draws2 H.out k1 nq).1.draws 1, (rd_draws2 H.out k1 nq).2.below (below_draws (Below.refl _ _) 1)⟩)
  have HS : Hid (SX pr pn b s a w2.drew) := Lib.hid ⟨d1, HB2.out.2.txt, HB2.out.2.pos, pv_some d4, d5⟩
  have HD := Lib.hid d4; have HE := Lib.hid d1
  have HF := Lib.hid (RC.of (v := .bool (bt s a == 1)) HB2.out d4 hp)
  rw [← hw2]
  clear c1 c2 hw2 d1 d4 d5 hr
  go_region_held3 (fun w' => w'.cell? pr = some (.pointer (some ⟨b, 0, none⟩)) ∧ w'.cell? ⟨b, 1, none⟩ = some (.string s) ∧ w'.cell? ⟨b, 2, none⟩ = some (.int .i64 a) ∧ w'.cell? pn = some (PV pn w') ∧ w'.frozen? pn = false) (first | exact HS.out | exact SX.set hpp hp (by assumption) _ | assumption) (fail)
  have e1 : (w2.setCell pn (.bool (bt s a == 1))).drew.cell? pr = some (.pointer (some ⟨b, 0, none⟩)) := (World.cell?_setCell_far w2.drew pn pr _ (fun e => hpp e.symm)).trans HE.out
  have e2 : (w2.setCell pn (.bool (bt s a == 1))).drew.cell? ⟨b, 2, none⟩ = some (.int .i64 a) := HF.out.2.1.pos
  have e3 : (w2.setCell pn (.bool (bt s a == 1))).drew.frozen? ⟨b, 2, none⟩ = false := HF.out.2.1.fr2
  have HG := Lib.hid (HF.out.pos hp ((a : Int) + 1))
  rename_i hHeld
  clear hHeld
  go_wp2
  go_end0
  exact ⟨rfl, HG.out⟩
/-- What Flag answers and keeps. -/
def flagR (s : ByteArray) (a : Nat) (x : Int) : Bool × Int × Int :=
  if x ≠ 0 then (false, a, x) else if a = s.size then (false, a, 2) else if 1 < bt s a then (false, a, 4) else (bt s a == 1, (a : Int) + 1, 0)
set_option maxRecDepth 100000 in
set_option maxHeartbeats 1600000 in
theorem rFlag_any (b : Nat) (s : ByteArray) (a : Nat) (x : Int) (w : World) (h : Rd w b s a x) (hs : s.size ≤ 9223372036854775807) (ha : a ≤ s.size) :
    Calls Try.prog 51 #[.pointer (some ⟨b, 0, none⟩)] w fun e w' => e = .returned (.bool (flagR s a x).1) ∧ RE w' b s (flagR s a x).2.1 (flagR s a x).2.2 ∧ But (Own b) w w' := by
  have hmf : ∀ (fn : Fn) (first cap : Array Value) (w : World), (Instr.makeFunc fn first cap).run Try.prog w = .ok (.func fn first cap) w := fun _ _ _ _ => rfl
  obtain ⟨W, hW⟩ : ∃ W, W = ((w.alloc (.cells #[.pointer (some ⟨b, 0, none⟩)] 108)).alloc (.cells #[.bool false] 4)) := ⟨_, rfl⟩
  have hl := lay2 w (.pointer (some ⟨b, 0, none⟩)) (.bool false) 108 4
  rw [← hW] at hl
  obtain ⟨l0, l1, l3, l4⟩ := hl
  have H1 := Lib.hid (h.below l0)
  have HB := Lib.hid (But.of_below (S := Own b) l0)
  have hlt := h.lt
  have k1 := rBox_below W (.pointer (some ⟨b, 0, none⟩))
  have H2 := Lib.hid (H1.out.below k1)
  have HB2 := Lib.hid (But.of_below (S := Own b) k1)
  have L1 := Lib.hid (cell_below k1 l1); have L3 := Lib.hid (cell_below k1 l3)
  have L4 : Hid ((rBox W (.pointer (some ⟨b, 0, none⟩))).frozen? ⟨w.heap.size + 1, 0, none⟩ = false) := Lib.hid (by rw [k1.frozen (World.block_lt_of_cell? W _ l3)]; exact l4)
  have HW := Lib.hid hW; have M3 := Lib.hid l3
  have hF : ∀ u, Sem.run Try.prog (callFunc 75 #[.pointer (some ⟨w.heap.size, 0, none⟩), .pointer (some ⟨w.heap.size + 1, 0, none⟩)]) u = .ok (.enter 75 #[.pointer (some ⟨w.heap.size, 0, none⟩), .pointer (some ⟨w.heap.size + 1, 0, none⟩)]) u := fun _ => rfl
  have hd : w.heap.size + 1 ≠ b := by omega
  have HFn := Lib.hid hF
  clear h l0 l1 l3 l4 k1 hF
  go_enter Try.func51, Try.ntmps51
  go_wp2_with fail
  rw [← HW.out]
  refine Calls.mono (R := fun e w' => e = .returned (.tuple #[]) ∧ w'.cell? ⟨w.heap.size + 1, 0, none⟩ = some (.bool (flagR s a x).1) ∧ RE w' b s (flagR s a x).2.1 (flagR s a x).2.2 ∧ But (Own b) w w') ?_ ?_
  · by_cases hx : x = 0
    · subst hx
      by_cases hu : a = s.size
      · have hq : flagR s a 0 = (false, (a : Int), 2) := by unfold flagR; rw [if_neg (by simp), if_pos hu]
        rw [hq]
        have H3 : Rd (rBox W (.pointer (some ⟨b, 0, none⟩))) b s s.size 0 := by rw [← hu]; exact H2.out
        refine (take_bad b s a 2 _ _ HFn.out _ H1.out (sFlag_end _ _ b s _ L1.out H3 hs)).mono ?_
        rintro e w1 ⟨rfl, a', r1, r2⟩
        exact ⟨rfl, r1.cell (a := ⟨w.heap.size + 1, 0, none⟩) hd M3.out, RE.bad (by simp) r2, HB.out.trans r1⟩
      · by_cases hf : 1 < bt s a
        · have hq : flagR s a 0 = (false, (a : Int), 4) := by unfold flagR; rw [if_neg (by simp), if_neg hu, if_pos hf]
          rw [hq]
          refine (take_bad b s a 4 _ _ HFn.out _ H1.out (sFlag_form _ _ b s a _ L1.out H2.out hs (by omega) hf)).mono ?_
          rintro e w1 ⟨rfl, a', r1, r2⟩
          exact ⟨rfl, r1.cell (a := ⟨w.heap.size + 1, 0, none⟩) hd M3.out, RE.bad (by simp) r2, HB.out.trans r1⟩
        · have hq : flagR s a 0 = (bt s a == 1, (a : Int) + 1, 0) := by unfold flagR; rw [if_neg (by simp), if_neg hu, if_neg hf]
          rw [hq]
          refine (take_good b s a _ _ _ HFn.out _ H1.out (sFlag_good _ _ b s a _ _ L1.out L3.out L4.out hd (by simp only; omega) (by simp only; omega) H2.out hs (by omega) hf)).mono ?_
          rintro e w1 ⟨rfl, r1, r2, r3⟩
          refine ⟨rfl, r3, RE.good r2, (HB.out.trans HB2.out).fresh r1 (fun k hk hS => ?_)⟩
          rcases hS with hS | hS
          · exact hS
          · simp only at hS; omega
    · have hq : flagR s a x = (false, (a : Int), x) := by unfold flagR; rw [if_pos hx]
      rw [hq]
      refine (take_err b s a x _ _ H1.out hx).mono ?_
      rintro e w1 ⟨rfl, r1⟩
      exact ⟨rfl, cell_below r1 M3.out, RE.bad hx (H1.out.below r1), HB.out.trans (But.of_below r1)⟩
  rintro e w1 ⟨rfl, r1, r2, r3⟩
  have R2 := Lib.hid r2; have R3 := Lib.hid r3; clear r2 r3
  go_wp2
  go_ret
  exact ⟨rfl, R2.out, R3.out⟩
end Go.Proofs.Ytpcbgkmnjmiigaa

/- Package wire: a reader is opened; what is left; one that nobody made. Conditions: texts of at most 2^63-1 bytes. -/
namespace Go.Proofs.Ytpcbgkmnjmiigaa
open Go.RowKit Go.PlainAid

set_option maxRecDepth 100000 in
set_option maxHeartbeats 1600000 in
theorem open_any (s : ByteArray) (w : World) :
    Calls Try.prog 49 #[.string s] w fun e w' => e = .returned (.pointer (some ⟨w.heap.size, 0, none⟩)) ∧ Rd w' w.heap.size s 0 0 ∧ Below w.heap.size w w' := by
  go_enter Try.func49, Try.ntmps49
  go_wp2
  go_ret
  exact ⟨rfl, ⟨by simp, by simp, by simp, by simp, by simp, by simp⟩, (Below.refl _ _).alloc (Nat.le_refl _) _⟩
set_option maxRecDepth 100000 in
set_option maxHeartbeats 1600000 in
theorem left_ok (b : Nat) (s : ByteArray) (a : Nat) (w : World) (h : Rd w b s a 0) (hs : s.size ≤ 9223372036854775807) (ha : a ≤ s.size) :
    Calls Try.prog 77 #[.pointer (some ⟨b, 0, none⟩)] w fun e w' => e = .returned (.int .i64 ((s.size : Int) - a)) ∧ Below w.heap.size w w' := by
  have H := Lib.hid h
  have c1 := h.txt; have c2 := h.pos
  have hsub : IntKind.i64.wrap ((s.size : Int) - (a : Int)) = (s.size : Int) - (a : Int) := IntWalk.i64_in _ ⟨by omega, by omega⟩
  clear h
  go_enter Try.func77, Try.ntmps77
  go_wp2_with fail
  refine (err_made b s a 0 _ H.out).mono ?_
  rintro e w1 ⟨rfl, rfl⟩
  go_wp2_with fail
  go_quiet (fail)
  go_wp2
  go_ret
  exact ⟨rfl, below_draws (Below.refl _ _) _⟩
set_option maxRecDepth 100000 in
set_option maxHeartbeats 1600000 in
theorem left_err (b : Nat) (s : ByteArray) (a x : Int) (w : World) (h : Rd w b s a x) (hx : x ≠ 0) :
    Calls Try.prog 77 #[.pointer (some ⟨b, 0, none⟩)] w fun e w' => e = .returned (.int .i64 0) ∧ w = w' := by
  have H := Lib.hid h
  clear h
  have hq : (x != 0) = true := by simp [hx]
  go_enter Try.func77, Try.ntmps77
  go_wp2_with fail
  refine (err_made b s a x _ H.out).mono ?_
  rintro e w1 ⟨rfl, rfl⟩
  go_wp2
  go_ret
  exact ⟨rfl, rfl⟩
set_option maxRecDepth 100000 in
set_option maxHeartbeats 1600000 in
theorem end_err (b : Nat) (s : ByteArray) (a x : Int) (w : World) (h : Rd w b s a x) (hx : x ≠ 0) :
    Calls Try.prog 53 #[.pointer (some ⟨b, 0, none⟩)] w fun e w' => e = .returned (.int .i64 x) ∧ w = w' := by
  have H := Lib.hid h
  clear h
  go_enter Try.func53, Try.ntmps53
  go_wp2_with fail
  refine (left_err b s a x _ H.out hx).mono ?_
  rintro e w1 ⟨rfl, rfl⟩
  go_wp2_with fail
  refine (err_made b s a x _ H.out).mono ?_
  rintro e w1 ⟨rfl, rfl⟩
  go_wp2
  go_ret
  exact ⟨rfl, rfl⟩
/-- A reader that nobody made: there is none, or it is a zero one. -/
def NoRd (w : World) (p : Value) : Prop := p = .pointer none ∨ ∃ b, p = .pointer (some ⟨b, 0, none⟩) ∧ w.cell? ⟨b, 0, none⟩ = some (.bool false)
theorem NoRd.below {w w' : World} {p : Value} (h : NoRd w p) (hb : Below w.heap.size w w') : NoRd w' p := by
  rcases h with h | ⟨b, h, hc⟩
  · exact Or.inl h
  · exact Or.inr ⟨b, h, cell_below hb hc⟩
set_option maxRecDepth 100000 in
set_option maxHeartbeats 1600000 in
theorem end_ok (b : Nat) (s : ByteArray) (a : Nat) (w : World) (h : Rd w b s a 0) (hs : s.size ≤ 9223372036854775807) (ha : a ≤ s.size) :
    Calls Try.prog 53 #[.pointer (some ⟨b, 0, none⟩)] w fun e w' => e = .returned (.int .i64 (if a < s.size then 4 else 0)) ∧ Below w.heap.size w w' := by
  have H := Lib.hid h
  clear h
  by_cases hlt : a < s.size
  · rw [if_pos hlt]
    have hq : 0 < (s.size : Int) - (a : Int) := by omega
    go_enter Try.func53, Try.ntmps53
    go_wp2_with fail
    refine (left_ok b s a _ H.out hs ha).mono ?_
    rintro e w1 ⟨rfl, hb⟩
    have HB := Lib.hid hb; clear hb
    go_wp2
    go_ret
    exact ⟨rfl, HB.out⟩
  · rw [if_neg hlt]
    have hq : ¬ 0 < (s.size : Int) - (a : Int) := by omega
    go_enter Try.func53, Try.ntmps53
    go_wp2_with fail
    refine (left_ok b s a _ H.out hs ha).mono ?_
    rintro e w1 ⟨rfl, hb⟩
    have HB := Lib.hid hb; have H1 := Lib.hid (H.out.below hb); clear hb
    go_wp2_with fail
    refine (err_made b s a 0 _ H1.out).mono ?_
    rintro e w2 ⟨rfl, rfl⟩
    go_wp2
    go_ret
    exact ⟨rfl, HB.out⟩
theorem RE.ok {w : World} {b : Nat} {s : ByteArray} {a : Int} (h : RE w b s a 0) : Rd w b s a 0 := by unfold RE at h; rw [if_pos rfl] at h; exact h
end Go.Proofs.Ytpcbgkmnjmiigaa

/- Package varnum: the walk of the law 'there and back'. Conditions: texts within the form's own reach. -/
namespace Go.Proofs.Ytpcbgkmnjmiigaa
open Go.RowKit Go.PlainAid

theorem bt_lit (l : List UInt8) (i : Nat) (h : i < l.length) : bt ⟨l.toArray⟩ i = (l[i].toNat : Int) := by
  rw [bt_data]; simp [List.getD, List.getElem?_eq_getElem h]
theorem has_self (l : List UInt8) : has ⟨l.toArray⟩ 0 l := by
  intro j hj; rw [Nat.zero_add]; exact bt_lit _ _ hj
end Go.Proofs.Ytpcbgkmnjmiigaa

/- Package catenaref02: a Writer. Conditions: what is written is at most 2^47 bytes. -/
namespace Go.Proofs.Ytpcbgkmnjmiigaa
open Go.RowKit Go.PlainAid

/-- The document's own Writer: block b. -/
structure RWr (w : World) (b : Nat) (l : List UInt8) (e : Int) : Prop where
  txt : w.cell? ⟨b, 0, none⟩ = some (.string ⟨l.toArray⟩)
  err : w.cell? ⟨b, 1, none⟩ = some (.int .i64 e)
  fr0 : w.frozen? ⟨b, 0, none⟩ = false
  fr1 : w.frozen? ⟨b, 1, none⟩ = false
theorem RWr.lt {w : World} {b : Nat} {l : List UInt8} {e : Int} (h : RWr w b l e) : b < w.heap.size := World.block_lt_of_cell? w _ h.txt
theorem RWr.but {S : Nat → Prop} {w w' : World} {b : Nat} {l : List UInt8} {e : Int} (h : RWr w b l e) (hb : But S w w') (hs : ¬ S b) : RWr w' b l e :=
  ⟨hb.cell hs h.txt, hb.cell hs h.err, by rw [hb.frozen h.lt hs]; exact h.fr0, by rw [hb.frozen h.lt hs]; exact h.fr1⟩
theorem RWr.below {w w' : World} {b : Nat} {l : List UInt8} {e : Int} (h : RWr w b l e) (hb : Below w.heap.size w w') : RWr w' b l e := h.but (But.of_below (S := fun _ => False) hb) id
theorem RWr.setTxt {w : World} {b : Nat} {l : List UInt8} {e : Int} (h : RWr w b l e) (k : List UInt8) : RWr (w.setCell ⟨b, 0, none⟩ (.string ⟨k.toArray⟩)) b k e :=
  ⟨World.cell?_setCell_same _ _ _ h.txt, by rw [World.cell?_setCell_other _ _ _ _ (by simp)]; exact h.err, by rw [World.frozen?_setCell]; exact h.fr0, by rw [World.frozen?_setCell]; exact h.fr1⟩
theorem RWr.setErr {w : World} {b : Nat} {l : List UInt8} {e : Int} (h : RWr w b l e) (x : Int) : RWr (w.setCell ⟨b, 1, none⟩ (.int .i64 x)) b l x :=
  ⟨by rw [World.cell?_setCell_other _ _ _ _ (by simp)]; exact h.txt, World.cell?_setCell_same _ _ _ h.err, by rw [World.frozen?_setCell]; exact h.fr0, by rw [World.frozen?_setCell]; exact h.fr1⟩
theorem RWr.grown {w w2 : World} {b : Nat} {l : List UInt8} {e : Int} (h : RWr w b l e) (hb : Below w.heap.size w w2) (k : List UInt8) : RWr (w2.setCell ⟨b, 0, none⟩ (.string ⟨k.toArray⟩)) b k e ∧ But (Own b) w (w2.setCell ⟨b, 0, none⟩ (.string ⟨k.toArray⟩)) :=
  ⟨(h.below hb).setTxt k, (But.of_below (S := Own b) hb).setCell (p := ⟨b, 0, none⟩) (fun _ => rfl) _⟩
end Go.Proofs.Ytpcbgkmnjmiigaa

/- Package catenaref02: a Reader. Conditions: texts of at most 2^63-1 bytes. -/
namespace Go.Proofs.Ytpcbgkmnjmiigaa
open Go.RowKit Go.PlainAid

/-- The document's own Reader: block b. -/
structure XRd (w : World) (b : Nat) (s : ByteArray) (a e : Int) : Prop where
  txt : w.cell? ⟨b, 0, none⟩ = some (.string s)
  pos : w.cell? ⟨b, 1, none⟩ = some (.int .i64 a)
  err : w.cell? ⟨b, 2, none⟩ = some (.int .i64 e)
  fr1 : w.frozen? ⟨b, 1, none⟩ = false
  fr2 : w.frozen? ⟨b, 2, none⟩ = false
theorem XRd.lt {w : World} {b : Nat} {s : ByteArray} {a e : Int} (h : XRd w b s a e) : b < w.heap.size := World.block_lt_of_cell? w _ h.txt
theorem XRd.but {S : Nat → Prop} {w w' : World} {b : Nat} {s : ByteArray} {a e : Int} (h : XRd w b s a e) (hb : But S w w') (hs : ¬ S b) : XRd w' b s a e :=
  ⟨hb.cell hs h.txt, hb.cell hs h.pos, hb.cell hs h.err, by rw [hb.frozen h.lt hs]; exact h.fr1, by rw [hb.frozen h.lt hs]; exact h.fr2⟩
theorem XRd.below {w w' : World} {b : Nat} {s : ByteArray} {a e : Int} (h : XRd w b s a e) (hb : Below w.heap.size w w') : XRd w' b s a e := h.but (But.of_below (S := fun _ => False) hb) id
theorem XRd.setPos {w : World} {b : Nat} {s : ByteArray} {a e : Int} (h : XRd w b s a e) (a' : Int) : XRd (w.setCell ⟨b, 1, none⟩ (.int .i64 a')) b s a' e :=
  ⟨by rw [World.cell?_setCell_other _ _ _ _ (by simp)]; exact h.txt, World.cell?_setCell_same _ _ _ h.pos, by rw [World.cell?_setCell_other _ _ _ _ (by simp)]; exact h.err, by rw [World.frozen?_setCell]; exact h.fr1, by rw [World.frozen?_setCell]; exact h.fr2⟩
theorem XRd.setErr {w : World} {b : Nat} {s : ByteArray} {a e : Int} (h : XRd w b s a e) (x : Int) : XRd (w.setCell ⟨b, 2, none⟩ (.int .i64 x)) b s a x :=
  ⟨by rw [World.cell?_setCell_other _ _ _ _ (by simp)]; exact h.txt, by rw [World.cell?_setCell_other _ _ _ _ (by simp)]; exact h.pos, World.cell?_setCell_same _ _ _ h.err, by rw [World.frozen?_setCell]; exact h.fr1, by rw [World.frozen?_setCell]; exact h.fr2⟩
def XRE (w : World) (b : Nat) (s : ByteArray) (a x : Int) : Prop := if x = 0 then XRd w b s a 0 else ∃ a', XRd w b s a' x
theorem XRE.good {w : World} {b : Nat} {s : ByteArray} {a : Int} (h : XRd w b s a 0) : XRE w b s a 0 := by unfold XRE; rw [if_pos rfl]; exact h
theorem XRE.bad {w : World} {b : Nat} {s : ByteArray} {a a' x : Int} (hx : x ≠ 0) (h : XRd w b s a' x) : XRE w b s a x := by unfold XRE; rw [if_neg hx]; exact ⟨a', h⟩
/-- The reader is as it was; what came up is new. -/
def XB (b : Nat) (s : ByteArray) (a : Int) (w w' : World) : Prop := Below w.heap.size w w' ∧ XRd w' b s a 0
theorem XB.start {b : Nat} {s : ByteArray} {a : Int} {w : World} (h : XRd w b s a 0) : w.drew.cell? ⟨b, 0, none⟩ = some (.string s) ∧ w.drew.cell? ⟨b, 1, none⟩ = some (.int .i64 a) ∧ XB b s a w w.drew := ⟨h.txt, h.pos, (Below.refl _ _).drew, h.below (Below.refl _ _).drew⟩
theorem XB.step {b : Nat} {s : ByteArray} {a : Int} {w w1 w2 : World} (h : w1.cell? ⟨b, 0, none⟩ = some (.string s) ∧ w1.cell? ⟨b, 1, none⟩ = some (.int .i64 a) ∧ XB b s a w w1) (hb : Below w1.heap.size w1 w2) : w2.cell? ⟨b, 0, none⟩ = some (.string s) ∧ w2.cell? ⟨b, 1, none⟩ = some (.int .i64 a) ∧ XB b s a w w2 :=
  ⟨(h.2.2.2.below hb).txt, (h.2.2.2.below hb).pos, h.2.2.1.trans (hb.mono h.2.2.1.size), h.2.2.2.below hb⟩
theorem XRE.ok {w : World} {b : Nat} {s : ByteArray} {a : Int} (h : XRE w b s a 0) : XRd w b s a 0 := by unfold XRE at h; rw [if_pos rfl] at h; exact h
theorem XRE.err {w : World} {b : Nat} {s : ByteArray} {a x : Int} (hx : x ≠ 0) (h : XRE w b s a x) : ∃ a', XRd w b s a' x := by unfold XRE at h; rw [if_neg hx] at h; exact h
end Go.Proofs.Ytpcbgkmnjmiigaa

/- Package wire and the document's Reader: every call, behind an error or not. Conditions: texts of at most 2^63-1 bytes. -/
namespace Go.Proofs.Ytpcbgkmnjmiigaa
open Go.RowKit Go.PlainAid

theorem RE.err {w : World} {b : Nat} {s : ByteArray} {a x : Int} (hx : x ≠ 0) (h : RE w b s a x) : ∃ a', Rd w b s a' x := by unfold RE at h; rw [if_neg hx] at h; exact h
theorem RE.below {w w' : World} {b : Nat} {s : ByteArray} {a x : Int} (h : RE w b s a x) (hb : Below w.heap.size w w') : RE w' b s a x := by
  by_cases hx : x = 0
  · subst hx; exact RE.good (h.ok.below hb)
  · obtain ⟨a', h'⟩ := RE.err hx h; exact RE.bad hx (h'.below hb)
theorem RE.but {S : Nat → Prop} {w w' : World} {b : Nat} {s : ByteArray} {a x : Int} (h : RE w b s a x) (hb : But S w w') (hs : ¬ S b) : RE w' b s a x := by
  by_cases hx : x = 0
  · subst hx; exact RE.good (h.ok.but hb hs)
  · obtain ⟨a', h'⟩ := RE.err hx h; exact RE.bad hx (h'.but hb hs)
theorem RE.weak {w : World} {b : Nat} {s : ByteArray} {a a2 x : Int} (hx : x ≠ 0) (h : RE w b s a x) : RE w b s a2 x := by
  obtain ⟨a', h'⟩ := RE.err hx h; exact RE.bad hx h'
theorem RE.lt {w : World} {b : Nat} {s : ByteArray} {a x : Int} (h : RE w b s a x) : b < w.heap.size := by
  by_cases hx : x = 0
  · subst hx; exact h.ok.lt
  · obtain ⟨a', h'⟩ := RE.err hx h; exact h'.lt
theorem XRE.below {w w' : World} {b : Nat} {s : ByteArray} {a x : Int} (h : XRE w b s a x) (hb : Below w.heap.size w w') : XRE w' b s a x := by
  by_cases hx : x = 0
  · subst hx; exact XRE.good (h.ok.below hb)
  · obtain ⟨a', h'⟩ := XRE.err hx h; exact XRE.bad hx (h'.below hb)
theorem XRE.but {S : Nat → Prop} {w w' : World} {b : Nat} {s : ByteArray} {a x : Int} (h : XRE w b s a x) (hb : But S w w') (hs : ¬ S b) : XRE w' b s a x := by
  by_cases hx : x = 0
  · subst hx; exact XRE.good (h.ok.but hb hs)
  · obtain ⟨a', h'⟩ := XRE.err hx h; exact XRE.bad hx (h'.but hb hs)
theorem XRE.weak {w : World} {b : Nat} {s : ByteArray} {a a2 x : Int} (hx : x ≠ 0) (h : XRE w b s a x) : XRE w b s a2 x := by
  obtain ⟨a', h'⟩ := XRE.err hx h; exact XRE.bad hx h'
theorem XRE.cell {w : World} {b : Nat} {s : ByteArray} {a x : Int} (h : XRE w b s a x) : w.cell? ⟨b, 2, none⟩ = some (.int .i64 x) := by
  by_cases hx : x = 0
  · subst hx; exact h.ok.err
  · obtain ⟨a', h'⟩ := XRE.err hx h; exact h'.err
theorem numR_err {s : ByteArray} {a x m : Int} (hx : x ≠ 0) : numR s a x m = (0, a, x) := by unfold numR; rw [if_pos hx]
theorem textR_err {s : ByteArray} {a x m : Int} (hx : x ≠ 0) : textR s a x m = (⟨#[]⟩, a, x) := by unfold textR; rw [if_pos hx]
theorem flagR_err {s : ByteArray} {a : Nat} {x : Int} (hx : x ≠ 0) : flagR s a x = (false, (a : Int), x) := by unfold flagR; rw [if_pos hx]

theorem rNum_re (b : Nat) (s : ByteArray) (a x m : Int) (w : World) (h : RE w b s a x) (hs : s.size ≤ 9223372036854775807) (hm : m ≤ 9223372036854775807) :
    Calls Try.prog 50 #[.pointer (some ⟨b, 0, none⟩), .int .i64 m] w fun e w' => e = .returned (.int .i64 (numR s a x m).1) ∧ RE w' b s (numR s a x m).2.1 (numR s a x m).2.2 ∧ But (Own b) w w' := by
  by_cases hx : x = 0
  · subst hx; exact rNum_any b s a 0 m w h.ok hs hm
  · obtain ⟨a', h'⟩ := RE.err hx h
    refine (rNum_any b s a' x m w h' hs hm).mono ?_
    rw [numR_err hx, numR_err hx]
    exact fun e w' ⟨h1, h2, h3⟩ => ⟨h1, RE.weak hx h2, h3⟩
theorem rText_re (b : Nat) (s : ByteArray) (a x m : Int) (w : World) (h : RE w b s a x) (hs : s.size ≤ 9223372036854775807) (hm : m ≤ 9223372036854775807) :
    Calls Try.prog 52 #[.pointer (some ⟨b, 0, none⟩), .int .i64 m] w fun e w' => e = .returned (.string (textR s a x m).1) ∧ RE w' b s (textR s a x m).2.1 (textR s a x m).2.2 ∧ But (Own b) w w' := by
  by_cases hx : x = 0
  · subst hx; exact rText_any b s a 0 m w h.ok hs hm
  · obtain ⟨a', h'⟩ := RE.err hx h
    refine (rText_any b s a' x m w h' hs hm).mono ?_
    rw [textR_err hx, textR_err hx]
    exact fun e w' ⟨h1, h2, h3⟩ => ⟨h1, RE.weak hx h2, h3⟩
set_option maxRecDepth 100000 in
set_option maxHeartbeats 1600000 in
theorem rFlag_err (b : Nat) (s : ByteArray) (a x : Int) (w : World) (h : Rd w b s a x) (hx : x ≠ 0) :
    Calls Try.prog 51 #[.pointer (some ⟨b, 0, none⟩)] w fun e w' => e = .returned (.bool false) ∧ RE w' b s a x ∧ But (Own b) w w' := by
  have hmf : ∀ (fn : Fn) (first cap : Array Value) (w : World), (Instr.makeFunc fn first cap).run Try.prog w = .ok (.func fn first cap) w := fun _ _ _ _ => rfl
  obtain ⟨W, hW⟩ : ∃ W, W = ((w.alloc (.cells #[.pointer (some ⟨b, 0, none⟩)] 108)).alloc (.cells #[.bool false] 4)) := ⟨_, rfl⟩
  have hl := lay2 w (.pointer (some ⟨b, 0, none⟩)) (.bool false) 108 4
  rw [← hW] at hl
  obtain ⟨l0, l1, l3, l4⟩ := hl
  have H1 := Lib.hid (h.below l0)
  have HB := Lib.hid (But.of_below (S := Own b) l0)
  have hlt := h.lt
  have HW := Lib.hid hW; have M3 := Lib.hid l3
  clear h l0 l1 l3 l4
  go_enter Try.func51, Try.ntmps51
  go_wp2_with fail
  rw [← HW.out]
  refine (take_err b s a x _ _ H1.out hx).mono ?_
  rintro e w1 ⟨rfl, r1⟩
  have c3 := cell_below r1 M3.out
  have R2 : Hid (RE w1 b s a x) := Lib.hid (RE.bad hx (H1.out.below r1))
  have R3 := Lib.hid (HB.out.trans (But.of_below r1))
  clear r1
  go_wp2
  go_ret
  exact ⟨rfl, R2.out, R3.out⟩
theorem rFlag_re (b : Nat) (s : ByteArray) (a : Nat) (x : Int) (w : World) (h : RE w b s a x) (hs : s.size ≤ 9223372036854775807) (ha : x = 0 → a ≤ s.size) :
    Calls Try.prog 51 #[.pointer (some ⟨b, 0, none⟩)] w fun e w' => e = .returned (.bool (flagR s a x).1) ∧ RE w' b s (flagR s a x).2.1 (flagR s a x).2.2 ∧ But (Own b) w w' := by
  by_cases hx : x = 0
  · subst hx; exact rFlag_any b s a 0 w h.ok hs (ha rfl)
  · obtain ⟨a', h'⟩ := RE.err hx h
    rw [flagR_err hx]
    exact (rFlag_err b s a' x w h' hx).mono fun e w' ⟨h1, h2, h3⟩ => ⟨h1, RE.weak hx h2, h3⟩
def endV (s : ByteArray) (a : Nat) (x : Int) : Int := if x = 0 then (if a < s.size then 4 else 0) else x
theorem end_re (b : Nat) (s : ByteArray) (a : Nat) (x : Int) (w : World) (h : RE w b s a x) (hs : s.size ≤ 9223372036854775807) (ha : x = 0 → a ≤ s.size) :
    Calls Try.prog 53 #[.pointer (some ⟨b, 0, none⟩)] w fun e w' => e = .returned (.int .i64 (endV s a x)) ∧ Below w.heap.size w w' := by
  by_cases hx : x = 0
  · subst hx; exact end_ok b s a w h.ok hs (ha rfl)
  · obtain ⟨a', h'⟩ := RE.err hx h
    unfold endV
    rw [if_neg hx]
    exact (end_err b s a' x w h' hx).mono fun e w' ⟨h1, h2⟩ => ⟨h1, h2 ▸ Below.refl _ _⟩
theorem numR_at {s : ByteArray} {a x m : Int} (h : (numR s a x m).2.2 = 0) : 0 ≤ (numR s a x m).2.1 ∧ (numR s a x m).2.1 ≤ s.size := by
  by_cases hx : x = 0
  · subst hx
    have e : numR s a 0 m = ((if (upR s a m 5).2.2 = 0 then (upR s a m 5).1 else 0), (upR s a m 5).2.1, (upR s a m 5).2.2) := by unfold numR; rw [if_neg (by simp)]
    rw [e] at h ⊢
    obtain ⟨n, a2, h1, h2⟩ := upR_good (by decide) h
    rw [h1]; simp only; omega
  · rw [numR_err hx] at h; exact absurd h hx
theorem textR_at {s : ByteArray} {a x m : Int} (h : (textR s a x m).2.2 = 0) : 0 ≤ (textR s a x m).2.1 ∧ (textR s a x m).2.1 ≤ s.size := by
  by_cases hx : x = 0
  · subst hx
    unfold textR at h ⊢
    rw [if_neg (by simp)] at h ⊢
    by_cases hu : (upR s a m 3).2.2 = 0
    · rw [if_neg (by simp [hu])] at h ⊢
      obtain ⟨n, a2, h1, h2⟩ := upR_good (by decide) hu
      rw [h1] at h ⊢
      simp only at h ⊢
      split at h
      · simp at h
      · rw [if_neg (by assumption)]; simp only; omega
    · rw [if_pos hu] at h; exact absurd h hu
  · rw [textR_err hx] at h; exact absurd h hx
theorem flagR_at {s : ByteArray} {a : Nat} {x : Int} (ha : x = 0 → a ≤ s.size) (h : (flagR s a x).2.2 = 0) : 0 ≤ (flagR s a x).2.1 ∧ (flagR s a x).2.1 ≤ s.size := by
  by_cases hx : x = 0
  · subst hx
    have := ha rfl
    unfold flagR at h ⊢
    rw [if_neg (by simp)] at h ⊢
    split at h
    · simp at h
    rename_i h1
    rw [if_neg h1]
    split at h
    · simp at h
    rename_i h2
    rw [if_neg h2]
    simp only; omega
  · rw [flagR_err hx] at h; exact absurd h hx
end Go.Proofs.Ytpcbgkmnjmiigaa

/- Writers, be there an error or not, and readers that a walk has made: what they hold, what a call on them turns. Conditions: none. -/
namespace Go.Proofs.Ytpcbgkmnjmiigaa
open Go.RowKit Go.PlainAid
set_option linter.unusedVariables false

section
variable {w x w0 : World} {b N : Nat} {l l' : List UInt8} {m m' : Nat} {e : Int}
theorem but_grown (h : But (Own b) w x) : w.grownBy x (some b) := ⟨h.os, h.tape, h.output, h.size, fun k hk hne => h.block k hk (fun e => hne (by rw [show k = b from e]))⟩
theorem grown_but {row : Option Nat} (h : w.grownBy x row) : But (fun k => row = some k) w x := ⟨h.os, h.tape, h.output, h.size, fun k hk hn => h.block k hk (fun e => hn e.symm)⟩
theorem Wr.lt' {B : Nat} (h : Wr w b B l e) : b < w.heap.size := World.block_lt_of_cell? w _ h.made
theorem Wr.keep {S : Nat → Prop} {B : Nat} (h : Wr w b B l e) (hb : But S w x) (hs : ¬ S b) (hr : ∀ k, rowOf w b = some k → ¬ S k) : Wr x b B l e := by
  have hl := h.lt'
  obtain ⟨v, hc, h1, h2⟩ := h.buf
  have hr' : ∀ k, v.ownBlock = some k → ¬ S k := fun k hk => hr k (by rw [rowOf_cell hc]; exact hk)
  refine ⟨hb.cell hs h.made, hb.cell hs h.err, by rw [hb.frozen hl hs]; exact h.fr1, by rw [hb.frozen hl hs]; exact h.fr2, h.lt, Nat.le_trans h.le hb.size, v, hb.cell hs hc, h1, ?_⟩
  rcases h2 with h2 | ⟨g, cap, cur, hv, hg, hh, r⟩
  · exact Or.inl h2
  · exact Or.inr ⟨g, cap, cur, hv, hg, by rw [hb.block g (Array.getElem?_eq_some_iff.1 hh).1 (hr' g (by rw [hv]; rfl))]; exact hh, r⟩
theorem Wr.row_is {B : Nat} (h : Wr w b B l e) {k : Nat} (hk : rowOf w b = some k) : ∃ cs, w.heap[k]? = some (.cells cs 5 (0, 0)) := by
  obtain ⟨v, hc, h1, h2⟩ := h.buf
  rw [rowOf_cell hc] at hk
  rcases h2 with ⟨hv, _⟩ | ⟨g, cap, cur, hv, hg, hh, r⟩
  · rw [hv] at hk; cases hk
  · rw [hv] at hk
    have : g = k := by simpa [Value.ownBlock] using hk
    subst this; exact ⟨cur, hh⟩
theorem Wr.ne_blk {B : Nat} {T : TypeId} {cs : Array Value} (h : Wr w b B l e) (hk : Blk w N T cs) (hT : T ≠ 5) : rowOf w b ≠ some N := fun e1 => by
  obtain ⟨c, h1⟩ := h.row_is e1
  unfold Blk at hk
  rw [hk] at h1
  injection h1 with h1; injection h1 with h2 h3
  exact hT h3
theorem Wr.ne_row {B B' k sz : Nat} {T : TypeId} {v : Value} {xs : List Value} (h : Wr w b B l e) (hr : w.ownsRow B' T sz v k xs) (hT : T ≠ 5) : ∀ g, v.ownBlock = some g → rowOf w b ≠ some g := fun g hg e1 => by
  obtain ⟨c, h1⟩ := h.row_is e1
  rcases hr.2 with ⟨hv, _⟩ | ⟨g', cap, cur, hv, _, hh, _⟩
  · rw [hv] at hg; cases hg
  · rw [hv] at hg
    have : g' = g := by simpa [Value.ownBlock] using hg
    subst this
    rw [hh] at h1
    injection h1 with h1; injection h1 with h2 h3
    exact hT h3
end
section
variable {w x w0 : World} {b N : Nat} {l l' : List UInt8 × Int} {m m' : Nat} {e : Int}
/-- The program's writer, block b: l, of at most m bytes, and no error. -/
structure OW (b : Nat) (l : List UInt8 × Int) (m : Nat) (w : World) : Prop where
  wr : Wr w b (b + 1) l.1 l.2
  len : l.1.length ≤ m
theorem OW.lt (h : OW b l m w) : b < w.heap.size := h.wr.lt'
theorem OW.below (h : OW b l m w) (hb : Below w.heap.size w x) : OW b l m x := ⟨h.wr.below hb, h.len⟩
theorem OW.new (h : OW b l m w) (hg : w.grownBy x none) : OW b l m x := h.below (grown_below hg)
theorem OW.at {T : TypeId} {cs : Array Value} (h : OW b l m w) (hk : Blk w N T cs) (hT : T ≠ 5) (hne : b ≠ N) (hg : w.grownBy x (some N)) : OW b l m x :=
  ⟨h.wr.keep (grown_but hg) (fun e1 => hne (Option.some.inj e1).symm) (fun k hk' e1 => h.wr.ne_blk hk hT (by rw [hk']; exact e1.symm)), h.len⟩
theorem OW.row {B' k sz : Nat} {T : TypeId} {v : Value} {xs : List Value} (h : OW b l m w) (hr : w.ownsRow B' T sz v k xs) (hT : T ≠ 5) (hne : v.ownBlock ≠ some b) (hg : w.grownBy x v.ownBlock) : OW b l m x :=
  ⟨h.wr.keep (grown_but hg) hne (fun k hk' e1 => h.wr.ne_row hr hT k e1 hk'), h.len⟩
theorem blk_wr {T : TypeId} {cs : Array Value} (hk : Blk w N T cs) (h : OW b l m w) (hT : T ≠ 5) (hne : N ≠ b) (hb : But (Rw w b) w x) : Blk x N T cs := by
  have hl := hk.lt
  unfold Blk at hk ⊢
  rw [hb.block N hl ?_]
  · exact hk
  · rintro (h1 | h1)
    · exact hne h1
    · exact h.wr.ne_blk hk hT h1
theorem hb_wr (h0 : Below w0.heap.size w0 w) (h : OW b l m w) (hlt : w0.heap.size ≤ b) (hb : But (Rw w b) w x) : Below w0.heap.size w0 x :=
  below_but h0 hb h0.size (fun k _ hk => by
    rcases h.wr.only hk with h1 | h1 <;> omega)
theorem wNum_len (n : Int) (p : List UInt8 × Int) : (wNum n p).1.length ≤ p.1.length + 9 := by
  have := putL_le n
  unfold wNum; split
  · omega
  · split
    · simp
    · simp; omega
theorem wText_len (s : ByteArray) (p : List UInt8 × Int) : (wText s p).1.length ≤ p.1.length + (9 + s.size) := by
  have := putL_le (s.size : Int)
  have hs : s.data.toList.length = s.size := by simp
  unfold wText; split
  · omega
  · simp only [List.length_append]; omega
theorem wFlag_len (f : Bool) (p : List UInt8 × Int) : (wFlag f p).1.length ≤ p.1.length + 1 := by
  unfold wFlag; split
  · omega
  · simp
/-- What a writer answers in the end. -/
def doneW (p : List UInt8 × Int) : ByteArray × Int := if p.2 = 0 then (⟨p.1.toArray⟩, 0) else (⟨#[]⟩, p.2)
theorem ow_new (w : World) : Calls Try.prog 40 #[] w fun e w' => ∃ b, e = .returned (.pointer (some ⟨b, 0, none⟩)) ∧ b = w.heap.size ∧ OW b ([], 0) 0 w' ∧ Below w.heap.size w w' :=
  (wnew_any w).mono (by
    rintro e x ⟨rfl, hf, hz, hb⟩
    exact ⟨_, rfl, rfl, ⟨hf.wr (Below.refl _ _) (Nat.lt_succ_self _) (by omega), by simp⟩, hb⟩)
theorem ow_num (b : Nat) (l : List UInt8 × Int) (m : Nat) (n : Int) (w : World) (h : OW b l m w) (hm : m ≤ 140737488355000) (h1 : n ≤ 9223372036854775807) :
    Calls Try.prog 41 #[.pointer (some ⟨b, 0, none⟩), .int .i64 n] w fun e w' => e = .returned (.pointer (some ⟨b, 0, none⟩)) ∧ OW b (wNum n l) (m + 9) w' ∧ But (Rw w b) w w' :=
  (wNum_rw b (b + 1) l.1 l.2 n w h.wr (Nat.le_trans h.len hm) h1).mono (by
    rintro e x ⟨rfl, hw, hb⟩
    exact ⟨rfl, ⟨hw, Nat.le_trans (wNum_len n l) (by have := h.len; omega)⟩, hb⟩)
theorem ow_text (b : Nat) (l : List UInt8 × Int) (m : Nat) (s : ByteArray) (w : World) (h : OW b l m w) (hm : m + s.size ≤ 140737488355000) :
    Calls Try.prog 43 #[.pointer (some ⟨b, 0, none⟩), .string s] w fun e w' => e = .returned (.pointer (some ⟨b, 0, none⟩)) ∧ OW b (wText s l) (m + (9 + s.size)) w' ∧ But (Rw w b) w w' :=
  (wText_rw b (b + 1) l.1 l.2 s w h.wr (by have := h.len; omega)).mono (by
    rintro e x ⟨rfl, hw, hb⟩
    exact ⟨rfl, ⟨hw, Nat.le_trans (wText_len s l) (by have := h.len; omega)⟩, hb⟩)
theorem ow_flag (b : Nat) (l : List UInt8 × Int) (m : Nat) (f : Bool) (w : World) (h : OW b l m w) (hm : m ≤ 140737488355000) :
    Calls Try.prog 42 #[.pointer (some ⟨b, 0, none⟩), .bool f] w fun e w' => e = .returned (.pointer (some ⟨b, 0, none⟩)) ∧ OW b (wFlag f l) (m + 1) w' ∧ But (Rw w b) w w' :=
  (wFlag_rw b (b + 1) l.1 l.2 f w h.wr (Nat.le_trans h.len hm)).mono (by
    rintro e x ⟨rfl, hw, hb⟩
    exact ⟨rfl, ⟨hw, Nat.le_trans (wFlag_len f l) (by have := h.len; omega)⟩, hb⟩)
theorem ow_done (b : Nat) (l : List UInt8 × Int) (m : Nat) (w : World) (h : OW b l m w) :
    Calls Try.prog 44 #[.pointer (some ⟨b, 0, none⟩)] w fun e w' => e = .returned (.tuple #[.string (doneW l).1, .int .i64 (doneW l).2]) ∧ Below w.heap.size w w' := by
  obtain ⟨p, x⟩ := l
  unfold doneW
  by_cases hx : x = 0
  · subst hx
    rw [if_pos rfl]
    exact (wDone_ok b (b + 1) p w h.wr).mono (by rintro e x ⟨rfl, rfl⟩; exact ⟨rfl, Below.refl _ _⟩)
  · rw [if_neg hx]
    exact wDone_err b (b + 1) p x w h.wr hx
/-- The document's own writer. -/
structure OX (b : Nat) (l : List UInt8 × Int) (m : Nat) (w : World) : Prop where
  wr : RWr w b l.1 l.2
  len : l.1.length ≤ m
theorem OX.lt (h : OX b l m w) : b < w.heap.size := h.wr.lt
theorem OX.below (h : OX b l m w) (hb : Below w.heap.size w x) : OX b l m x := ⟨h.wr.below hb, h.len⟩
theorem OX.new (h : OX b l m w) (hg : w.grownBy x none) : OX b l m x := h.below (grown_below hg)
theorem OX.at (h : OX b l m w) (hne : b ≠ N) (hg : w.grownBy x (some N)) : OX b l m x := ⟨h.wr.but (grown_but hg) (fun e1 => hne (Option.some.inj e1).symm), h.len⟩
theorem OX.row {v : Value} (h : OX b l m w) (hne : v.ownBlock ≠ some b) (hg : w.grownBy x v.ownBlock) : OX b l m x := ⟨h.wr.but (grown_but hg) hne, h.len⟩
end

section
variable {w x : World} {b N : Nat} {s : ByteArray} {a e : Int}
/-- The program's reader: it stands at a (if it has no error), its error is e. -/
structure OR (b : Nat) (s : ByteArray) (a e : Int) (w : World) : Prop where
  re : RE w b s a e
  pos : e = 0 → 0 ≤ a ∧ a ≤ s.size
theorem OR.lt (h : OR b s a e w) : b < w.heap.size := h.re.lt
theorem OR.below (h : OR b s a e w) (hb : Below w.heap.size w x) : OR b s a e x := ⟨h.re.below hb, h.pos⟩
theorem OR.new (h : OR b s a e w) (hg : w.grownBy x none) : OR b s a e x := h.below (grown_below hg)
theorem OR.at (h : OR b s a e w) (hne : b ≠ N) (hg : w.grownBy x (some N)) : OR b s a e x := ⟨h.re.but (grown_but hg) (fun e1 => hne (Option.some.inj e1).symm), h.pos⟩
theorem OR.row {v : Value} (h : OR b s a e w) (hne : v.ownBlock ≠ some b) (hg : w.grownBy x v.ownBlock) : OR b s a e x := ⟨h.re.but (grown_but hg) hne, h.pos⟩
theorem OR.nat (h : OR b s a e w) : RE w b s (a.toNat : Int) e ∧ (e = 0 → a.toNat ≤ s.size) := by
  by_cases he : e = 0
  · have := h.pos he
    have e1 : (a.toNat : Int) = a := by omega
    rw [e1]; exact ⟨h.re, fun _ => by omega⟩
  · exact ⟨h.re.weak he, fun h1 => absurd h1 he⟩
theorem or_open (s : ByteArray) (w : World) : Calls Try.prog 49 #[.string s] w fun e w' => ∃ b, e = .returned (.pointer (some ⟨b, 0, none⟩)) ∧ b = w.heap.size ∧ OR b s 0 0 w' ∧ Below w.heap.size w w' :=
  (open_any s w).mono (by rintro e x ⟨rfl, hr, hb⟩; exact ⟨_, rfl, rfl, ⟨RE.good hr, fun _ => by omega⟩, hb⟩)
theorem upR_le {s : ByteArray} {a m x : Int} (hm : 0 ≤ m) : 0 ≤ (upR s a m x).1 ∧ (upR s a m x).1 ≤ m := by
  have := getR_range s a
  unfold upR
  split
  · exact ⟨Int.le_refl _, hm⟩
  split
  · exact ⟨Int.le_refl _, hm⟩
  · dsimp only; omega
theorem numR_le {s : ByteArray} {a x m : Int} (hm : 0 ≤ m) : 0 ≤ (numR s a x m).1 ∧ (numR s a x m).1 ≤ m := by
  have := upR_le (s := s) (a := a) (x := 5) hm
  unfold numR
  split
  · exact ⟨Int.le_refl _, hm⟩
  · dsimp only; split
    · exact this
    · exact ⟨Int.le_refl _, hm⟩
theorem textR_le {s : ByteArray} {a x m : Int} (hm : 0 ≤ m) : ((textR s a x m).1.size : Int) ≤ m := by
  have := upR_le (s := s) (a := a) (x := 3) hm
  unfold textR
  split
  · exact hm
  split
  · exact hm
  split
  · exact hm
  · dsimp only
    rw [ByteArray.size_extract]; omega
theorem or_num (b : Nat) (s : ByteArray) (a e m : Int) (w : World) (h : OR b s a e w) (hs : s.size ≤ 9223372036854775807) (h0 : 0 ≤ m) (hm : m ≤ 9223372036854775807) :
    Calls Try.prog 50 #[.pointer (some ⟨b, 0, none⟩), .int .i64 m] w fun e1 w' => ∃ n a' e', e1 = .returned (.int .i64 n) ∧ numR s a e m = (n, a', e') ∧ 0 ≤ n ∧ n ≤ m ∧ OR b s a' e' w' ∧ w.grownBy w' (some b) :=
  (rNum_re b s a e m w h.re hs hm).mono (by
    rintro e1 x ⟨rfl, hw, hb⟩
    exact ⟨_, _, _, rfl, rfl, (numR_le h0).1, (numR_le h0).2, ⟨hw, numR_at⟩, but_grown hb⟩)
theorem or_text (b : Nat) (s : ByteArray) (a e m : Int) (w : World) (h : OR b s a e w) (hs : s.size ≤ 9223372036854775807) (h0 : 0 ≤ m) (hm : m ≤ 9223372036854775807) :
    Calls Try.prog 52 #[.pointer (some ⟨b, 0, none⟩), .int .i64 m] w fun e1 w' => ∃ t a' e', e1 = .returned (.string t) ∧ textR s a e m = (t, a', e') ∧ (t.size : Int) ≤ m ∧ OR b s a' e' w' ∧ w.grownBy w' (some b) :=
  (rText_re b s a e m w h.re hs hm).mono (by
    rintro e1 x ⟨rfl, hw, hb⟩
    exact ⟨_, _, _, rfl, rfl, textR_le h0, ⟨hw, textR_at⟩, but_grown hb⟩)
theorem or_flag (b : Nat) (s : ByteArray) (a e : Int) (w : World) (h : OR b s a e w) (hs : s.size ≤ 9223372036854775807) :
    Calls Try.prog 51 #[.pointer (some ⟨b, 0, none⟩)] w fun e1 w' => ∃ f a' e', e1 = .returned (.bool f) ∧ flagR s a.toNat e = (f, a', e') ∧ OR b s a' e' w' ∧ w.grownBy w' (some b) :=
  (rFlag_re b s a.toNat e w h.nat.1 hs h.nat.2).mono (by
    rintro e1 x ⟨rfl, hw, hb⟩
    exact ⟨_, _, _, rfl, rfl, ⟨hw, flagR_at h.nat.2⟩, but_grown hb⟩)
theorem or_end (b : Nat) (s : ByteArray) (a e : Int) (w : World) (h : OR b s a e w) (hs : s.size ≤ 9223372036854775807) :
    Calls Try.prog 53 #[.pointer (some ⟨b, 0, none⟩)] w fun e1 w' => ∃ r, e1 = .returned (.int .i64 r) ∧ endV s a.toNat e = r ∧ Below w.heap.size w w' :=
  (end_re b s a.toNat e w h.nat.1 hs h.nat.2).mono (by
    rintro e1 x ⟨rfl, hb⟩
    exact ⟨_, rfl, rfl, hb⟩)
/-- The document's own reader. -/
structure OXR (b : Nat) (s : ByteArray) (a e : Int) (w : World) : Prop where
  re : XRE w b s a e
  pos : e = 0 → 0 ≤ a ∧ a ≤ s.size
theorem XRE.lt (h : XRE w b s a e) : b < w.heap.size := World.block_lt_of_cell? w _ h.cell
theorem OXR.lt (h : OXR b s a e w) : b < w.heap.size := h.re.lt
theorem OXR.below (h : OXR b s a e w) (hb : Below w.heap.size w x) : OXR b s a e x := ⟨h.re.below hb, h.pos⟩
theorem OXR.new (h : OXR b s a e w) (hg : w.grownBy x none) : OXR b s a e x := h.below (grown_below hg)
theorem OXR.at (h : OXR b s a e w) (hne : b ≠ N) (hg : w.grownBy x (some N)) : OXR b s a e x := ⟨h.re.but (grown_but hg) (fun e1 => hne (Option.some.inj e1).symm), h.pos⟩
theorem OXR.row {v : Value} (h : OXR b s a e w) (hne : v.ownBlock ≠ some b) (hg : w.grownBy x v.ownBlock) : OXR b s a e x := ⟨h.re.but (grown_but hg) hne, h.pos⟩
theorem OXR.nat (h : OXR b s a e w) : XRE w b s (a.toNat : Int) e ∧ (e = 0 → a.toNat ≤ s.size) := by
  by_cases he : e = 0
  · have := h.pos he
    have e1 : (a.toNat : Int) = a := by omega
    rw [e1]; exact ⟨h.re, fun _ => by omega⟩
  · exact ⟨h.re.weak he, fun h1 => absurd h1 he⟩
end
end Go.Proofs.Ytpcbgkmnjmiigaa

/- Package link: Put of both. Conditions: a text of at most 140737488351232 bytes. -/
namespace Go.Proofs.Ytpcbgkmnjmiigaa
open Go.RowKit Go.PlainAid
set_option linter.unusedVariables false


/-- A segment, written. -/
def segP (s : SegT) : List UInt8 × Int := wText s.body (wFlag s.has (wNum s.asq (wNum s.ast (wNum s.ab (wNum s.seq (wNum s.stream (wNum s.boot (([] : List UInt8), (0 : Int)))))))))
def putG (s : SegT) : ByteArray × Int := if (doneW (segP s)).2 ≠ 0 then (⟨#[]⟩, (doneW (segP s)).2) else if 65536 < s.body.size then (⟨#[]⟩, 3) else doneW (segP s)
def SegB (s : SegT) : Prop := (s.boot ≤ 9223372036854775807 ∧ s.stream ≤ 9223372036854775807 ∧ s.seq ≤ 9223372036854775807 ∧ s.ab ≤ 9223372036854775807 ∧ s.ast ≤ 9223372036854775807 ∧ s.asq ≤ 9223372036854775807) ∧ s.body.size ≤ 140737488351232
theorem putG_a {s : SegT} {d : ByteArray × Int} (hd : d = doneW (segP s)) (h : ¬ d.2 = 0) : putG s = (⟨#[]⟩, d.2) := by subst hd; unfold putG; rw [if_pos h]
theorem putG_b {s : SegT} {d : ByteArray × Int} (hd : d = doneW (segP s)) (h : d.2 = 0) (h2 : 65536 < s.body.size) : putG s = (⟨#[]⟩, 3) := by subst hd; unfold putG; rw [if_neg (by omega), if_pos h2]
theorem putG_c {s : SegT} {d : ByteArray × Int} (hd : d = doneW (segP s)) (h : d.2 = 0) (h2 : ¬ 65536 < s.body.size) : putG s = (d.1, 0) := by subst hd; unfold putG; rw [if_neg (by omega), if_neg h2, ← h]

set_option maxRecDepth 100000 in
theorem lkPut_any (s : SegT) (w : World) (hsb : SegB s) :
    Calls Try.prog 27 #[.agg #[.int .i64 s.boot, .int .i64 s.stream, .int .i64 s.seq, .int .i64 s.ab, .int .i64 s.ast, .int .i64 s.asq, .bool s.has, .string s.body]] w fun e w' => e = .returned (.tuple #[.string ((putG s).1), .int .i64 ((putG s).2)]) ∧ Below w.heap.size w w' := by
 obtain ⟨⟨q1, q2, q3, q4, q5, q6⟩, q7⟩ := id hsb
 have hB0 := Below.refl w.heap.size w
 refine co_enter (n := 45) Try.func27 rfl rfl rfl [(0, .agg #[.int .i64 s.boot, .int .i64 s.stream, .int .i64 s.seq, .int .i64 s.ab, .int .i64 s.ast, .int .i64 s.asq, .bool s.has, .string s.body])] rfl (fun a h0 => ?_)
 refine co_seq ?_
 refine co_reg ?_
 refine pw h0 rfl (op_new (v := fun N => pt N 0) (T := 73) (cs := #[.int .i64 s.boot, .int .i64 s.stream, .int .i64 s.seq, .int .i64 s.ab, .int .i64 s.ast, .int .i64 s.asq, .bool s.has, .string s.body]) (by kernel_rfl) (by kernel_rfl) (by kernel_rfl)) ?_; clear h0
 rintro _ w2 a1 ⟨N3, rfl, hN6, hz7, hk5, hg4⟩ h1
 have hz8 := hg4.size
 try dsimp only at h1
 refine pk0 (v := .string (⟨#[]⟩)) h1 rfl fun a9 h9 => ?_; clear h1
 refine pk0 (v := .int .i64 0) h9 rfl fun a10 h10 => ?_; clear h9
 refine pl_nil ?_
 refine co_then ?_
 refine co_seq ?_
 refine dr_gen (fun x => Below w.heap.size w x ∧ Blk x N3 73 #[.int .i64 s.boot, .int .i64 s.stream, .int .i64 s.seq, .int .i64 s.ab, .int .i64 s.ast, .int .i64 s.asq, .bool s.has, .string s.body]) (by kernel_rfl) (fun w11 hg12 => ?_) (fun w11 hg12 => ?_)
 ·
  have hz13 := hg12.size
  have hB14 := hb_new hB0 hg4
  have hB15 := hb_new hB14 hg12
  have hk16 := hk5.kept hg12 (by simp)
  exact ⟨hB15, hk16⟩
 have hz17 := hg12.size
 have hB18 := hb_new hB0 hg4
 have hB19 := hb_new hB18 hg12
 have hk20 := hk5.kept hg12 (by simp)
 refine dk0 1 (v := pt N3 0) h10 rfl rfl ⟨hB19, hk20⟩ fun a21 h21 => ?_; clear h10
 refine dk 2 (v := .int .i64 s.boot) h21 rfl rfl ⟨hB19, hk20⟩ (fun x hx => (rn_load1 rfl rfl Try.isAgg3 (hx.2.cell rfl))) fun a22 h22 => ?_; clear h21
 refine dk0 4 (v := pt N3 1) h22 rfl rfl ⟨hB19, hk20⟩ fun a23 h23 => ?_; clear h22
 refine dk 5 (v := .int .i64 s.stream) h23 rfl rfl ⟨hB19, hk20⟩ (fun x hx => (rn_load1 rfl rfl Try.isAgg3 (hx.2.cell rfl))) fun a24 h24 => ?_; clear h23
 refine dk0 7 (v := pt N3 2) h24 rfl rfl ⟨hB19, hk20⟩ fun a25 h25 => ?_; clear h24
 refine dk 8 (v := .int .i64 s.seq) h25 rfl rfl ⟨hB19, hk20⟩ (fun x hx => (rn_load1 rfl rfl Try.isAgg3 (hx.2.cell rfl))) fun a26 h26 => ?_; clear h25
 refine dk0 10 (v := pt N3 3) h26 rfl rfl ⟨hB19, hk20⟩ fun a27 h27 => ?_; clear h26
 refine dk 11 (v := .int .i64 s.ab) h27 rfl rfl ⟨hB19, hk20⟩ (fun x hx => (rn_load1 rfl rfl Try.isAgg3 (hx.2.cell rfl))) fun a28 h28 => ?_; clear h27
 refine dk0 13 (v := pt N3 4) h28 rfl rfl ⟨hB19, hk20⟩ fun a29 h29 => ?_; clear h28
 refine dk 14 (v := .int .i64 s.ast) h29 rfl rfl ⟨hB19, hk20⟩ (fun x hx => (rn_load1 rfl rfl Try.isAgg3 (hx.2.cell rfl))) fun a30 h30 => ?_; clear h29
 refine dk0 16 (v := pt N3 5) h30 rfl rfl ⟨hB19, hk20⟩ fun a31 h31 => ?_; clear h30
 refine dk 17 (v := .int .i64 s.asq) h31 rfl rfl ⟨hB19, hk20⟩ (fun x hx => (rn_load1 rfl rfl Try.isAgg3 (hx.2.cell rfl))) fun a32 h32 => ?_; clear h31
 refine d1 0 h32 rfl rfl (op_call (args := #[]) (R := fun res xw => ∃ b : Nat, res = pt b 0 ∧ b = w11.heap.size ∧ OW b ([], 0) 0 xw ∧ Below w11.heap.size w11 xw) rfl rfl rfl (by kernel_rfl) (by kernel_rfl) (Try.call40 _ _) (ow_new w11) (by rintro e x ⟨b, rfl, h0, h1, h2⟩; exact ⟨_, rfl, b, rfl, h0, h1, h2⟩)) ?_ ?_; clear h32
 ·
  rintro _ w34 ⟨b35, rfl, hN36, ho37, hb38⟩
  have hz39 := hb38.size
  have hl40 := ho37.lt
  have hB41 := hb_call hB19 hb38
  have hk42 := hk20.below hb38
  exact ⟨hB41, hk42⟩
 rintro _ w34 a33 ⟨b35, rfl, hN36, ho37, hb38⟩ h33
 have hz39 := hb38.size
 have hl40 := ho37.lt
 have hB41 := hb_call hB19 hb38
 have hk42 := hk20.below hb38
 refine d1 3 h33 rfl rfl (op_call (args := #[pt b35 0, .int .i64 s.boot]) (R := fun res xw => res = pt b35 0 ∧ OW b35 (wNum s.boot (([] : List UInt8), (0 : Int))) (0 + 9) xw ∧ But (Rw w34 b35) w34 xw) rfl rfl rfl (by kernel_rfl) (by kernel_rfl) (Try.call41 _ _) (ow_num b35 (([] : List UInt8), (0 : Int)) 0 s.boot w34 ho37 (by omega) (by omega)) (by rintro e x ⟨rfl, h1, h2⟩; exact ⟨_, rfl, rfl, h1, h2⟩)) ?_ ?_; clear h33
 ·
  rintro _ w44 ⟨rfl, ho45, hx46⟩
  have hz47 := hx46.size
  have hl48 := ho45.lt
  have hB49 := hb_wr hB41 ho37 (by omega) hx46
  have hk50 := blk_wr hk42 ho37 (by decide) (by omega) hx46
  exact ⟨hB49, hk50⟩
 rintro _ w44 a43 ⟨rfl, ho45, hx46⟩ h43
 have hz47 := hx46.size
 have hl48 := ho45.lt
 have hB49 := hb_wr hB41 ho37 (by omega) hx46
 have hk50 := blk_wr hk42 ho37 (by decide) (by omega) hx46
 refine d1 6 h43 rfl rfl (op_call (args := #[pt b35 0, .int .i64 s.stream]) (R := fun res xw => res = pt b35 0 ∧ OW b35 (wNum s.stream (wNum s.boot (([] : List UInt8), (0 : Int)))) (0 + 9 + 9) xw ∧ But (Rw w44 b35) w44 xw) rfl rfl rfl (by kernel_rfl) (by kernel_rfl) (Try.call41 _ _) (ow_num b35 (wNum s.boot (([] : List UInt8), (0 : Int))) (0 + 9) s.stream w44 ho45 (by omega) (by omega)) (by rintro e x ⟨rfl, h1, h2⟩; exact ⟨_, rfl, rfl, h1, h2⟩)) ?_ ?_; clear h43
 ·
  rintro _ w52 ⟨rfl, ho53, hx54⟩
  have hz55 := hx54.size
  have hl56 := ho53.lt
  have hB57 := hb_wr hB49 ho45 (by omega) hx54
  have hk58 := blk_wr hk50 ho45 (by decide) (by omega) hx54
  exact ⟨hB57, hk58⟩
 rintro _ w52 a51 ⟨rfl, ho53, hx54⟩ h51
 have hz55 := hx54.size
 have hl56 := ho53.lt
 have hB57 := hb_wr hB49 ho45 (by omega) hx54
 have hk58 := blk_wr hk50 ho45 (by decide) (by omega) hx54
 refine d1 9 h51 rfl rfl (op_call (args := #[pt b35 0, .int .i64 s.seq]) (R := fun res xw => res = pt b35 0 ∧ OW b35 (wNum s.seq (wNum s.stream (wNum s.boot (([] : List UInt8), (0 : Int))))) (0 + 9 + 9 + 9) xw ∧ But (Rw w52 b35) w52 xw) rfl rfl rfl (by kernel_rfl) (by kernel_rfl) (Try.call41 _ _) (ow_num b35 (wNum s.stream (wNum s.boot (([] : List UInt8), (0 : Int)))) (0 + 9 + 9) s.seq w52 ho53 (by omega) (by omega)) (by rintro e x ⟨rfl, h1, h2⟩; exact ⟨_, rfl, rfl, h1, h2⟩)) ?_ ?_; clear h51
 ·
  rintro _ w60 ⟨rfl, ho61, hx62⟩
  have hz63 := hx62.size
  have hl64 := ho61.lt
  have hB65 := hb_wr hB57 ho53 (by omega) hx62
  have hk66 := blk_wr hk58 ho53 (by decide) (by omega) hx62
  exact ⟨hB65, hk66⟩
 rintro _ w60 a59 ⟨rfl, ho61, hx62⟩ h59
 have hz63 := hx62.size
 have hl64 := ho61.lt
 have hB65 := hb_wr hB57 ho53 (by omega) hx62
 have hk66 := blk_wr hk58 ho53 (by decide) (by omega) hx62
 refine d1 12 h59 rfl rfl (op_call (args := #[pt b35 0, .int .i64 s.ab]) (R := fun res xw => res = pt b35 0 ∧ OW b35 (wNum s.ab (wNum s.seq (wNum s.stream (wNum s.boot (([] : List UInt8), (0 : Int)))))) (0 + 9 + 9 + 9 + 9) xw ∧ But (Rw w60 b35) w60 xw) rfl rfl rfl (by kernel_rfl) (by kernel_rfl) (Try.call41 _ _) (ow_num b35 (wNum s.seq (wNum s.stream (wNum s.boot (([] : List UInt8), (0 : Int))))) (0 + 9 + 9 + 9) s.ab w60 ho61 (by omega) (by omega)) (by rintro e x ⟨rfl, h1, h2⟩; exact ⟨_, rfl, rfl, h1, h2⟩)) ?_ ?_; clear h59
 ·
  rintro _ w68 ⟨rfl, ho69, hx70⟩
  have hz71 := hx70.size
  have hl72 := ho69.lt
  have hB73 := hb_wr hB65 ho61 (by omega) hx70
  have hk74 := blk_wr hk66 ho61 (by decide) (by omega) hx70
  exact ⟨hB73, hk74⟩
 rintro _ w68 a67 ⟨rfl, ho69, hx70⟩ h67
 have hz71 := hx70.size
 have hl72 := ho69.lt
 have hB73 := hb_wr hB65 ho61 (by omega) hx70
 have hk74 := blk_wr hk66 ho61 (by decide) (by omega) hx70
 refine d1 15 h67 rfl rfl (op_call (args := #[pt b35 0, .int .i64 s.ast]) (R := fun res xw => res = pt b35 0 ∧ OW b35 (wNum s.ast (wNum s.ab (wNum s.seq (wNum s.stream (wNum s.boot (([] : List UInt8), (0 : Int))))))) (0 + 9 + 9 + 9 + 9 + 9) xw ∧ But (Rw w68 b35) w68 xw) rfl rfl rfl (by kernel_rfl) (by kernel_rfl) (Try.call41 _ _) (ow_num b35 (wNum s.ab (wNum s.seq (wNum s.stream (wNum s.boot (([] : List UInt8), (0 : Int)))))) (0 + 9 + 9 + 9 + 9) s.ast w68 ho69 (by omega) (by omega)) (by rintro e x ⟨rfl, h1, h2⟩; exact ⟨_, rfl, rfl, h1, h2⟩)) ?_ ?_; clear h67
 ·
  rintro _ w76 ⟨rfl, ho77, hx78⟩
  have hz79 := hx78.size
  have hl80 := ho77.lt
  have hB81 := hb_wr hB73 ho69 (by omega) hx78
  have hk82 := blk_wr hk74 ho69 (by decide) (by omega) hx78
  exact ⟨hB81, hk82⟩
 rintro _ w76 a75 ⟨rfl, ho77, hx78⟩ h75
 have hz79 := hx78.size
 have hl80 := ho77.lt
 have hB81 := hb_wr hB73 ho69 (by omega) hx78
 have hk82 := blk_wr hk74 ho69 (by decide) (by omega) hx78
 refine d1 18 h75 rfl rfl (op_call (args := #[pt b35 0, .int .i64 s.asq]) (R := fun res xw => res = pt b35 0 ∧ OW b35 (wNum s.asq (wNum s.ast (wNum s.ab (wNum s.seq (wNum s.stream (wNum s.boot (([] : List UInt8), (0 : Int)))))))) (0 + 9 + 9 + 9 + 9 + 9 + 9) xw ∧ But (Rw w76 b35) w76 xw) rfl rfl rfl (by kernel_rfl) (by kernel_rfl) (Try.call41 _ _) (ow_num b35 (wNum s.ast (wNum s.ab (wNum s.seq (wNum s.stream (wNum s.boot (([] : List UInt8), (0 : Int))))))) (0 + 9 + 9 + 9 + 9 + 9) s.asq w76 ho77 (by omega) (by omega)) (by rintro e x ⟨rfl, h1, h2⟩; exact ⟨_, rfl, rfl, h1, h2⟩)) ?_ ?_; clear h75
 ·
  rintro _ w84 ⟨rfl, ho85, hx86⟩
  have hz87 := hx86.size
  have hl88 := ho85.lt
  have hB89 := hb_wr hB81 ho77 (by omega) hx86
  have hk90 := blk_wr hk82 ho77 (by decide) (by omega) hx86
  exact ⟨hB89, hk90⟩
 rintro _ w84 a83 ⟨rfl, ho85, hx86⟩ h83
 have hz87 := hx86.size
 have hl88 := ho85.lt
 have hB89 := hb_wr hB81 ho77 (by omega) hx86
 have hk90 := blk_wr hk82 ho77 (by decide) (by omega) hx86
 refine dk0 19 (v := pt b35 0) h83 rfl rfl ⟨hB89, hk90⟩ fun a91 h91 => ?_; clear h83
 refine dr_done (by kernel_rfl) ?_
 refine co_then ?_
 refine co_seq ?_
 refine dr_gen (fun x => Below w.heap.size w x ∧ Blk x N3 73 #[.int .i64 s.boot, .int .i64 s.stream, .int .i64 s.seq, .int .i64 s.ab, .int .i64 s.ast, .int .i64 s.asq, .bool s.has, .string s.body]) (by kernel_rfl) (fun w92 hg93 => ?_) (fun w92 hg93 => ?_)
 ·
  have hz94 := hg93.size
  have hB95 := hb_new hB89 hg93
  have hk96 := hk90.kept hg93 (by simp)
  exact ⟨hB95, hk96⟩
 have hz97 := hg93.size
 have hB98 := hb_new hB89 hg93
 have hk99 := hk90.kept hg93 (by simp)
 refine dk0 0 (v := pt b35 0) h91 rfl rfl ⟨hB98, hk99⟩ fun a100 h100 => ?_; clear h91
 refine dk0 1 (v := pt N3 6) h100 rfl rfl ⟨hB98, hk99⟩ fun a101 h101 => ?_; clear h100
 refine dk 2 (v := .bool s.has) h101 rfl rfl ⟨hB98, hk99⟩ (fun x hx => (rn_load1 rfl rfl Try.isAgg4 (hx.2.cell rfl))) fun a102 h102 => ?_; clear h101
 refine dk0 4 (v := pt N3 7) h102 rfl rfl ⟨hB98, hk99⟩ fun a103 h103 => ?_; clear h102
 refine dk 5 (v := .string s.body) h103 rfl rfl ⟨hB98, hk99⟩ (fun x hx => (rn_load1 rfl rfl Try.isAgg9 (hx.2.cell rfl))) fun a104 h104 => ?_; clear h103
 have ho109 := ho85.new hg93
 refine d1 3 h104 rfl rfl (op_call (args := #[pt b35 0, .bool s.has]) (R := fun res xw => res = pt b35 0 ∧ OW b35 (wFlag s.has (wNum s.asq (wNum s.ast (wNum s.ab (wNum s.seq (wNum s.stream (wNum s.boot (([] : List UInt8), (0 : Int))))))))) (0 + 9 + 9 + 9 + 9 + 9 + 9 + 1) xw ∧ But (Rw w92 b35) w92 xw) rfl rfl rfl (by kernel_rfl) (by kernel_rfl) (Try.call42 _ _) (ow_flag b35 (wNum s.asq (wNum s.ast (wNum s.ab (wNum s.seq (wNum s.stream (wNum s.boot (([] : List UInt8), (0 : Int)))))))) (0 + 9 + 9 + 9 + 9 + 9 + 9) s.has w92 ho109 (by omega)) (by rintro e x ⟨rfl, h1, h2⟩; exact ⟨_, rfl, rfl, h1, h2⟩)) ?_ ?_; clear h104
 ·
  rintro _ w106 ⟨rfl, ho107, hx108⟩
  have hz110 := hx108.size
  have hl111 := ho107.lt
  have hB112 := hb_wr hB98 ho109 (by omega) hx108
  have hk113 := blk_wr hk99 ho109 (by decide) (by omega) hx108
  exact ⟨hB112, hk113⟩
 rintro _ w106 a105 ⟨rfl, ho107, hx108⟩ h105
 have hz110 := hx108.size
 have hl111 := ho107.lt
 have hB112 := hb_wr hB98 ho109 (by omega) hx108
 have hk113 := blk_wr hk99 ho109 (by decide) (by omega) hx108
 refine d1 6 h105 rfl rfl (op_call (args := #[pt b35 0, .string s.body]) (R := fun res xw => res = pt b35 0 ∧ OW b35 (wText s.body (wFlag s.has (wNum s.asq (wNum s.ast (wNum s.ab (wNum s.seq (wNum s.stream (wNum s.boot (([] : List UInt8), (0 : Int)))))))))) (0 + 9 + 9 + 9 + 9 + 9 + 9 + 1 + (9 + s.body.size)) xw ∧ But (Rw w106 b35) w106 xw) rfl rfl rfl (by kernel_rfl) (by kernel_rfl) (Try.call43 _ _) (ow_text b35 (wFlag s.has (wNum s.asq (wNum s.ast (wNum s.ab (wNum s.seq (wNum s.stream (wNum s.boot (([] : List UInt8), (0 : Int))))))))) (0 + 9 + 9 + 9 + 9 + 9 + 9 + 1) s.body w106 ho107 (by first | omega | (simp; done) | (simp; omega))) (by rintro e x ⟨rfl, h1, h2⟩; exact ⟨_, rfl, rfl, h1, h2⟩)) ?_ ?_; clear h105
 ·
  rintro _ w115 ⟨rfl, ho116, hx117⟩
  have hz118 := hx117.size
  have hl119 := ho116.lt
  have hB120 := hb_wr hB112 ho107 (by omega) hx117
  have hk121 := blk_wr hk113 ho107 (by decide) (by omega) hx117
  exact ⟨hB120, hk121⟩
 rintro _ w115 a114 ⟨rfl, ho116, hx117⟩ h114
 have hz118 := hx117.size
 have hl119 := ho116.lt
 have hB120 := hb_wr hB112 ho107 (by omega) hx117
 have hk121 := blk_wr hk113 ho107 (by decide) (by omega) hx117
 refine d1 7 h114 rfl rfl (op_call (args := #[pt b35 0]) (R := fun res xw => res = .tuple #[.string ((doneW (wText s.body (wFlag s.has (wNum s.asq (wNum s.ast (wNum s.ab (wNum s.seq (wNum s.stream (wNum s.boot (([] : List UInt8), (0 : Int))))))))))).1), .int .i64 ((doneW (wText s.body (wFlag s.has (wNum s.asq (wNum s.ast (wNum s.ab (wNum s.seq (wNum s.stream (wNum s.boot (([] : List UInt8), (0 : Int))))))))))).2)] ∧ Below w115.heap.size w115 xw) rfl rfl rfl (by kernel_rfl) (by kernel_rfl) (Try.call44 _ _) (ow_done b35 (wText s.body (wFlag s.has (wNum s.asq (wNum s.ast (wNum s.ab (wNum s.seq (wNum s.stream (wNum s.boot (([] : List UInt8), (0 : Int)))))))))) (0 + 9 + 9 + 9 + 9 + 9 + 9 + 1 + (9 + s.body.size)) w115 ho116) (by rintro e x ⟨rfl, h2⟩; exact ⟨_, rfl, rfl, h2⟩)) ?_ ?_; clear h114
 ·
  rintro _ w123 ⟨rfl, hb124⟩
  have hz126 := hb124.size
  have hB127 := hb_call hB120 hb124
  have hk128 := hk121.below hb124
  exact ⟨hB127, hk128⟩
 rintro _ w123 a122 ⟨rfl, hb124⟩ h122
 have hz126 := hb124.size
 have hB127 := hb_call hB120 hb124
 have hk128 := hk121.below hb124
 refine dk0 8 (v := .tuple #[.string ((doneW (wText s.body (wFlag s.has (wNum s.asq (wNum s.ast (wNum s.ab (wNum s.seq (wNum s.stream (wNum s.boot (([] : List UInt8), (0 : Int))))))))))).1), .int .i64 ((doneW (wText s.body (wFlag s.has (wNum s.asq (wNum s.ast (wNum s.ab (wNum s.seq (wNum s.stream (wNum s.boot (([] : List UInt8), (0 : Int))))))))))).2)]) h122 rfl rfl ⟨hB127, hk128⟩ fun a129 h129 => ?_; clear h122
 refine dk0 9 (v := .string ((doneW (wText s.body (wFlag s.has (wNum s.asq (wNum s.ast (wNum s.ab (wNum s.seq (wNum s.stream (wNum s.boot (([] : List UInt8), (0 : Int))))))))))).1)) h129 rfl rfl ⟨hB127, hk128⟩ fun a130 h130 => ?_; clear h129
 refine dk0 10 (v := .int .i64 ((doneW (wText s.body (wFlag s.has (wNum s.asq (wNum s.ast (wNum s.ab (wNum s.seq (wNum s.stream (wNum s.boot (([] : List UInt8), (0 : Int))))))))))).2)) h130 rfl rfl ⟨hB127, hk128⟩ fun a131 h131 => ?_; clear h130
 refine dk0 11 (v := .string ((doneW (wText s.body (wFlag s.has (wNum s.asq (wNum s.ast (wNum s.ab (wNum s.seq (wNum s.stream (wNum s.boot (([] : List UInt8), (0 : Int))))))))))).1)) h131 rfl rfl ⟨hB127, hk128⟩ fun a132 h132 => ?_; clear h131
 refine dk0 12 (v := .int .i64 ((doneW (wText s.body (wFlag s.has (wNum s.asq (wNum s.ast (wNum s.ab (wNum s.seq (wNum s.stream (wNum s.boot (([] : List UInt8), (0 : Int))))))))))).2)) h132 rfl rfl ⟨hB127, hk128⟩ fun a133 h133 => ?_; clear h132
 refine dr_done (by kernel_rfl) ?_
 refine co_then ?_
 refine co_seq ?_
 refine co_seq ?_
 refine co_reg ?_
 refine pk0 (v := .int .i64 ((doneW (wText s.body (wFlag s.has (wNum s.asq (wNum s.ast (wNum s.ab (wNum s.seq (wNum s.stream (wNum s.boot (([] : List UInt8), (0 : Int))))))))))).2)) h133 rfl fun a134 h134 => ?_; clear h133
 refine pk0 (v := .bool ((doneW (wText s.body (wFlag s.has (wNum s.asq (wNum s.ast (wNum s.ab (wNum s.seq (wNum s.stream (wNum s.boot (([] : List UInt8), (0 : Int))))))))))).2 != 0)) h134 rfl fun a135 h135 => ?_; clear h134
 refine pl_nil ?_
 refine co_then ?_
 cases hc136 : ((doneW (wText s.body (wFlag s.has (wNum s.asq (wNum s.ast (wNum s.ab (wNum s.seq (wNum s.stream (wNum s.boot (([] : List UInt8), (0 : Int))))))))))).2 != 0)
 ·
  rw [hc136] at h135
  have hp137 : ¬ ((doneW (wText s.body (wFlag s.has (wNum s.asq (wNum s.ast (wNum s.ab (wNum s.seq (wNum s.stream (wNum s.boot (([] : List UInt8), (0 : Int))))))))))).2 ≠ 0) := by first | simpa using hc136 | simpa [and_assoc] using hc136
  clear hc136
  refine co_false h135 rfl ?_
  refine wp_skip ?_
  refine co_then ?_
  refine co_seq ?_
  refine co_seq ?_
  refine co_reg ?_
  refine pk0 (v := pt N3 7) h135 rfl fun a138 h138 => ?_; clear h135
  refine pk (v := .string s.body) h138 rfl (rn_load1 rfl rfl Try.isAgg9 (hk128.cell rfl)) fun a139 h139 => ?_; clear h138
  refine pk (v := .int .i64 ((s.body.size : Nat) : Int)) h139 rfl (rn_lenStr rfl rfl Try.underlying9) fun a140 h140 => ?_; clear h139
  refine pk0 (v := .bool (decide (((s.body.size : Nat) : Int) > 65536))) h140 rfl fun a141 h141 => ?_; clear h140
  refine pl_nil ?_
  refine co_then ?_
  cases hc142 : (decide (((s.body.size : Nat) : Int) > 65536))
  ·
   rw [hc142] at h141
   have hp143 : ¬ (((s.body.size : Nat) : Int) > 65536) := of_decide_eq_false hc142
   clear hc142
   refine co_false h141 rfl ?_
   refine wp_skip ?_
   refine co_then ?_
   refine co_seq ?_
   refine co_reg ?_
   refine pk0 (v := .string ((doneW (wText s.body (wFlag s.has (wNum s.asq (wNum s.ast (wNum s.ab (wNum s.seq (wNum s.stream (wNum s.boot (([] : List UInt8), (0 : Int))))))))))).1)) h141 rfl fun a144 h144 => ?_; clear h141
   refine pk0 (v := .string ((doneW (wText s.body (wFlag s.has (wNum s.asq (wNum s.ast (wNum s.ab (wNum s.seq (wNum s.stream (wNum s.boot (([] : List UInt8), (0 : Int))))))))))).1)) h144 rfl fun a145 h145 => ?_; clear h144
   refine pk0 (v := .int .i64 0) h145 rfl fun a146 h146 => ?_; clear h145
   refine pl_nil ?_
   refine co_then ?_
   refine wp_ret ?_
   refine co_ret2 h146 rfl rfl rfl ?_
   have hE := putG_c (d := doneW (wText s.body (wFlag s.has (wNum s.asq (wNum s.ast (wNum s.ab (wNum s.seq (wNum s.stream (wNum s.boot (([] : List UInt8), (0 : Int))))))))))) rfl (by omega) (by omega)
   exact ⟨by rw [hE], hB127⟩
  ·
   rw [hc142] at h141
   have hp147 : ((s.body.size : Nat) : Int) > 65536 := of_decide_eq_true hc142
   clear hc142
   refine co_true h141 rfl ?_
   refine co_seq ?_
   refine co_reg ?_
   refine pk0 (v := .string (⟨#[]⟩)) h141 rfl fun a148 h148 => ?_; clear h141
   refine pk0 (v := .int .i64 3) h148 rfl fun a149 h149 => ?_; clear h148
   refine pl_nil ?_
   refine co_then ?_
   refine wp_ret ?_
   refine co_thenR ?_
   refine co_ret2 h149 rfl rfl rfl ?_
   have hE := putG_b (d := doneW (wText s.body (wFlag s.has (wNum s.asq (wNum s.ast (wNum s.ab (wNum s.seq (wNum s.stream (wNum s.boot (([] : List UInt8), (0 : Int))))))))))) rfl (by omega) (by omega)
   exact ⟨by rw [hE], hB127⟩
 ·
  rw [hc136] at h135
  have hp150 : (doneW (wText s.body (wFlag s.has (wNum s.asq (wNum s.ast (wNum s.ab (wNum s.seq (wNum s.stream (wNum s.boot (([] : List UInt8), (0 : Int))))))))))).2 ≠ 0 := by first | simpa using hc136 | simpa [and_assoc] using hc136
  clear hc136
  refine co_true h135 rfl ?_
  refine co_seq ?_
  refine co_reg ?_
  refine pk0 (v := .int .i64 ((doneW (wText s.body (wFlag s.has (wNum s.asq (wNum s.ast (wNum s.ab (wNum s.seq (wNum s.stream (wNum s.boot (([] : List UInt8), (0 : Int))))))))))).2)) h135 rfl fun a151 h151 => ?_; clear h135
  refine pk0 (v := .string (⟨#[]⟩)) h151 rfl fun a152 h152 => ?_; clear h151
  refine pk0 (v := .int .i64 ((doneW (wText s.body (wFlag s.has (wNum s.asq (wNum s.ast (wNum s.ab (wNum s.seq (wNum s.stream (wNum s.boot (([] : List UInt8), (0 : Int))))))))))).2)) h152 rfl fun a153 h153 => ?_; clear h152
  refine pl_nil ?_
  refine co_then ?_
  refine wp_ret ?_
  refine co_thenR ?_
  refine co_ret2 h153 rfl rfl rfl ?_
  have hE := putG_a (d := doneW (wText s.body (wFlag s.has (wNum s.asq (wNum s.ast (wNum s.ab (wNum s.seq (wNum s.stream (wNum s.boot (([] : List UInt8), (0 : Int))))))))))) rfl (by omega)
  exact ⟨by rw [hE], hB127⟩
end Go.Proofs.Ytpcbgkmnjmiigaa

/- Package link: Of of both. Conditions: none. -/
namespace Go.Proofs.Ytpcbgkmnjmiigaa
open Go.RowKit Go.PlainAid
set_option linter.unusedVariables false


def zSeg : SegT := ⟨0, 0, 0, 0, 0, 0, false, ⟨#[]⟩⟩
/-- A text, read as a segment. -/
def rdSeg (t : ByteArray) : SegT × Int :=
  let r1 := numR t 0 0 1073741824
  let r2 := numR t r1.2.1 r1.2.2 1073741824
  let r3 := numR t r2.2.1 r2.2.2 1073741824
  let r4 := numR t r3.2.1 r3.2.2 1073741824
  let r5 := numR t r4.2.1 r4.2.2 1073741824
  let r6 := numR t r5.2.1 r5.2.2 1073741824
  let r7 := flagR t r6.2.1.toNat r6.2.2
  let r8 := textR t r7.2.1 r7.2.2 65536
  let e := endV t r8.2.1.toNat r8.2.2
  if e ≠ 0 then (zSeg, e) else (⟨r1.1, r2.1, r3.1, r4.1, r5.1, r6.1, r7.1, r8.1⟩, 0)

set_option maxRecDepth 100000 in
theorem lkOf_any (t : ByteArray) (w : World) (hsz : t.size ≤ 9223372036854775807) :
    Calls Try.prog 30 #[.string t] w fun e w' => e = .returned (.tuple #[.agg #[.int .i64 ((rdSeg t).1.boot), .int .i64 ((rdSeg t).1.stream), .int .i64 ((rdSeg t).1.seq), .int .i64 ((rdSeg t).1.ab), .int .i64 ((rdSeg t).1.ast), .int .i64 ((rdSeg t).1.asq), .bool ((rdSeg t).1.has), .string ((rdSeg t).1.body)], .int .i64 ((rdSeg t).2)]) ∧ Below w.heap.size w w' := by
 have hB0 := Below.refl w.heap.size w
 refine co_enter (n := 33) Try.func30 rfl rfl rfl [(0, .string t)] rfl (fun a h0 => ?_)
 refine co_seq ?_
 refine co_reg ?_
 refine pw h0 rfl (op_new (v := fun N => pt N 0) (T := 73) (cs := #[.int .i64 0, .int .i64 0, .int .i64 0, .int .i64 0, .int .i64 0, .int .i64 0, .bool false, .string (⟨#[]⟩)]) (by kernel_rfl) (by kernel_rfl) (by kernel_rfl)) ?_; clear h0
 rintro _ w2 a1 ⟨N3, rfl, hN6, hz7, hk5, hg4⟩ h1
 have hz8 := hg4.size
 try dsimp only at h1
 refine pk0 (v := .int .i64 0) h1 rfl fun a9 h9 => ?_; clear h1
 refine pl_nil ?_
 refine co_then ?_
 refine co_seq ?_
 refine co_reg ?_
 refine pk0 (v := .string t) h9 rfl fun a10 h10 => ?_; clear h9
 refine pw h10 rfl (op_call (args := #[.string t]) (R := fun res xw => ∃ b : Nat, res = pt b 0 ∧ b = w2.heap.size ∧ OR b t 0 0 xw ∧ Below w2.heap.size w2 xw) rfl rfl rfl (by kernel_rfl) (by kernel_rfl) (Try.call49 _ _) (or_open t w2) (by rintro e x ⟨b, rfl, h0, h1, h2⟩; exact ⟨_, rfl, b, rfl, h0, h1, h2⟩)) ?_; clear h10
 rintro _ w12 a11 ⟨b13, rfl, hN14, ho15, hb16⟩ h11
 have hz17 := hb16.size
 have hl18 := ho15.lt
 refine pk0 (v := pt b13 0) h11 rfl fun a19 h19 => ?_; clear h11
 refine pl_nil ?_
 refine co_then ?_
 refine co_seq ?_
 refine co_reg ?_
 refine pk0 (v := pt b13 0) h19 rfl fun a20 h20 => ?_; clear h19
 refine pw h20 rfl (op_call (args := #[pt b13 0, .int .i64 1073741824]) (R := fun res xw => ∃ (n : Int) (a' e' : Int), res = .int .i64 n ∧ numR t 0 0 1073741824 = (n, a', e') ∧ 0 ≤ n ∧ n ≤ 1073741824 ∧ OR b13 t a' e' xw ∧ w12.grownBy xw (some b13)) rfl rfl rfl (by kernel_rfl) (by kernel_rfl) (Try.call50 _ _) (or_num b13 t 0 0 1073741824 w12 ho15 (by omega) (by omega) (by omega)) (by rintro q x ⟨n, a', e', rfl, h0, k0, k1, h1, h2⟩; exact ⟨_, rfl, n, a', e', rfl, h0, k0, k1, h1, h2⟩)) ?_; clear h20
 rintro _ w22 a21 ⟨n23, a24, e25, rfl, hq26, hn27, hm28, ho29, hg30⟩ h21
 have hz31 := hg30.size
 have hl32 := ho29.lt
 refine pk0 (v := pt b13 0) h21 rfl fun a33 h33 => ?_; clear h21
 refine pw h33 rfl (op_call (args := #[pt b13 0, .int .i64 1073741824]) (R := fun res xw => ∃ (n : Int) (a' e' : Int), res = .int .i64 n ∧ numR t a24 e25 1073741824 = (n, a', e') ∧ 0 ≤ n ∧ n ≤ 1073741824 ∧ OR b13 t a' e' xw ∧ w22.grownBy xw (some b13)) rfl rfl rfl (by kernel_rfl) (by kernel_rfl) (Try.call50 _ _) (or_num b13 t a24 e25 1073741824 w22 ho29 (by omega) (by omega) (by omega)) (by rintro q x ⟨n, a', e', rfl, h0, k0, k1, h1, h2⟩; exact ⟨_, rfl, n, a', e', rfl, h0, k0, k1, h1, h2⟩)) ?_; clear h33
 rintro _ w35 a34 ⟨n36, a37, e38, rfl, hq39, hn40, hm41, ho42, hg43⟩ h34
 have hz44 := hg43.size
 have hl45 := ho42.lt
 refine pk0 (v := pt b13 0) h34 rfl fun a46 h46 => ?_; clear h34
 refine pw h46 rfl (op_call (args := #[pt b13 0, .int .i64 1073741824]) (R := fun res xw => ∃ (n : Int) (a' e' : Int), res = .int .i64 n ∧ numR t a37 e38 1073741824 = (n, a', e') ∧ 0 ≤ n ∧ n ≤ 1073741824 ∧ OR b13 t a' e' xw ∧ w35.grownBy xw (some b13)) rfl rfl rfl (by kernel_rfl) (by kernel_rfl) (Try.call50 _ _) (or_num b13 t a37 e38 1073741824 w35 ho42 (by omega) (by omega) (by omega)) (by rintro q x ⟨n, a', e', rfl, h0, k0, k1, h1, h2⟩; exact ⟨_, rfl, n, a', e', rfl, h0, k0, k1, h1, h2⟩)) ?_; clear h46
 rintro _ w48 a47 ⟨n49, a50, e51, rfl, hq52, hn53, hm54, ho55, hg56⟩ h47
 have hz57 := hg56.size
 have hl58 := ho55.lt
 refine pk0 (v := pt b13 0) h47 rfl fun a59 h59 => ?_; clear h47
 refine pw h59 rfl (op_call (args := #[pt b13 0, .int .i64 1073741824]) (R := fun res xw => ∃ (n : Int) (a' e' : Int), res = .int .i64 n ∧ numR t a50 e51 1073741824 = (n, a', e') ∧ 0 ≤ n ∧ n ≤ 1073741824 ∧ OR b13 t a' e' xw ∧ w48.grownBy xw (some b13)) rfl rfl rfl (by kernel_rfl) (by kernel_rfl) (Try.call50 _ _) (or_num b13 t a50 e51 1073741824 w48 ho55 (by omega) (by omega) (by omega)) (by rintro q x ⟨n, a', e', rfl, h0, k0, k1, h1, h2⟩; exact ⟨_, rfl, n, a', e', rfl, h0, k0, k1, h1, h2⟩)) ?_; clear h59
 rintro _ w61 a60 ⟨n62, a63, e64, rfl, hq65, hn66, hm67, ho68, hg69⟩ h60
 have hz70 := hg69.size
 have hl71 := ho68.lt
 refine pk0 (v := pt b13 0) h60 rfl fun a72 h72 => ?_; clear h60
 refine pw h72 rfl (op_call (args := #[pt b13 0, .int .i64 1073741824]) (R := fun res xw => ∃ (n : Int) (a' e' : Int), res = .int .i64 n ∧ numR t a63 e64 1073741824 = (n, a', e') ∧ 0 ≤ n ∧ n ≤ 1073741824 ∧ OR b13 t a' e' xw ∧ w61.grownBy xw (some b13)) rfl rfl rfl (by kernel_rfl) (by kernel_rfl) (Try.call50 _ _) (or_num b13 t a63 e64 1073741824 w61 ho68 (by omega) (by omega) (by omega)) (by rintro q x ⟨n, a', e', rfl, h0, k0, k1, h1, h2⟩; exact ⟨_, rfl, n, a', e', rfl, h0, k0, k1, h1, h2⟩)) ?_; clear h72
 rintro _ w74 a73 ⟨n75, a76, e77, rfl, hq78, hn79, hm80, ho81, hg82⟩ h73
 have hz83 := hg82.size
 have hl84 := ho81.lt
 refine pk0 (v := pt b13 0) h73 rfl fun a85 h85 => ?_; clear h73
 refine pw h85 rfl (op_call (args := #[pt b13 0, .int .i64 1073741824]) (R := fun res xw => ∃ (n : Int) (a' e' : Int), res = .int .i64 n ∧ numR t a76 e77 1073741824 = (n, a', e') ∧ 0 ≤ n ∧ n ≤ 1073741824 ∧ OR b13 t a' e' xw ∧ w74.grownBy xw (some b13)) rfl rfl rfl (by kernel_rfl) (by kernel_rfl) (Try.call50 _ _) (or_num b13 t a76 e77 1073741824 w74 ho81 (by omega) (by omega) (by omega)) (by rintro q x ⟨n, a', e', rfl, h0, k0, k1, h1, h2⟩; exact ⟨_, rfl, n, a', e', rfl, h0, k0, k1, h1, h2⟩)) ?_; clear h85
 rintro _ w87 a86 ⟨n88, a89, e90, rfl, hq91, hn92, hm93, ho94, hg95⟩ h86
 have hz96 := hg95.size
 have hl97 := ho94.lt
 refine pk0 (v := pt b13 0) h86 rfl fun a98 h98 => ?_; clear h86
 refine pw h98 rfl (op_call (args := #[pt b13 0]) (R := fun res xw => ∃ (n : Bool) (a' e' : Int), res = .bool n ∧ flagR t a89.toNat e90 = (n, a', e') ∧ OR b13 t a' e' xw ∧ w87.grownBy xw (some b13)) rfl rfl rfl (by kernel_rfl) (by kernel_rfl) (Try.call51 _ _) (or_flag b13 t a89 e90 w87 ho94 (by omega)) (by rintro q x ⟨n, a', e', rfl, h0, h1, h2⟩; exact ⟨_, rfl, n, a', e', rfl, h0, h1, h2⟩)) ?_; clear h98
 rintro _ w100 a99 ⟨n101, a102, e103, rfl, hq104, ho107, hg108⟩ h99
 have hz109 := hg108.size
 have hl110 := ho107.lt
 refine pk0 (v := pt b13 0) h99 rfl fun a111 h111 => ?_; clear h99
 refine pw h111 rfl (op_call (args := #[pt b13 0, .int .i64 65536]) (R := fun res xw => ∃ (n : ByteArray) (a' e' : Int), res = .string n ∧ textR t a102 e103 65536 = (n, a', e') ∧ (n.size : Int) ≤ 65536 ∧ OR b13 t a' e' xw ∧ w100.grownBy xw (some b13)) rfl rfl rfl (by kernel_rfl) (by kernel_rfl) (Try.call52 _ _) (or_text b13 t a102 e103 65536 w100 ho107 (by omega) (by omega) (by omega)) (by rintro q x ⟨n, a', e', rfl, h0, k0, h1, h2⟩; exact ⟨_, rfl, n, a', e', rfl, h0, k0, h1, h2⟩)) ?_; clear h111
 rintro _ w113 a112 ⟨n114, a115, e116, rfl, hq117, hn118, ho120, hg121⟩ h112
 have hz122 := hg121.size
 have hl123 := ho120.lt
 refine pk0 (v := .agg #[.int .i64 n23, .int .i64 n36, .int .i64 n49, .int .i64 n62, .int .i64 n75, .int .i64 n88, .bool n101, .string n114]) h112 rfl fun a124 h124 => ?_; clear h112
 refine pw h124 rfl (op_new (v := fun N => pt N 0) (T := 73) (cs := #[.int .i64 0, .int .i64 0, .int .i64 0, .int .i64 0, .int .i64 0, .int .i64 0, .bool false, .string (⟨#[]⟩)]) (by kernel_rfl) (by kernel_rfl) (by kernel_rfl)) ?_; clear h124
 rintro _ w126 a125 ⟨N127, rfl, hN130, hz131, hk129, hg128⟩ h125
 have hz132 := hg128.size
 try dsimp only at h125
 refine pwD h125 rfl (op_storeN rfl rfl rfl (by kernel_rfl) (by kernel_rfl) hk129 rfl) ?_; clear h125
 rintro _ w134 a133 ⟨hk135, hz136, hg137⟩ h133
 have hk135' : Blk w134 N127 73 #[.int .i64 n23, .int .i64 n36, .int .i64 n49, .int .i64 n62, .int .i64 n75, .int .i64 n88, .bool n101, .string n114] := hk135; clear hk135
 have hz138 := hg137.size
 refine pl_nil ?_
 refine co_then ?_
 refine co_seq ?_
 refine co_seq ?_
 refine co_reg ?_
 refine pk0 (v := pt b13 0) h133 rfl fun a139 h139 => ?_; clear h133
 have ho145 := ho120.new hg128
 have ho146 := ho145.at (by omega) hg137
 refine pw h139 rfl (op_call (args := #[pt b13 0]) (R := fun res xw => ∃ r : Int, res = .int .i64 r ∧ endV t a115.toNat e116 = r ∧ Below w134.heap.size w134 xw) rfl rfl rfl (by kernel_rfl) (by kernel_rfl) (Try.call53 _ _) (or_end b13 t a115 e116 w134 ho146 (by omega)) (by rintro e x ⟨r, rfl, h0, h2⟩; exact ⟨_, rfl, r, rfl, h0, h2⟩)) ?_; clear h139
 rintro _ w141 a140 ⟨r142, rfl, hq143, hb144⟩ h140
 have hz147 := hb144.size
 refine pk0 (v := .int .i64 r142) h140 rfl fun a148 h148 => ?_; clear h140
 refine pl_nil ?_
 refine co_then ?_
 refine co_seq ?_
 refine co_reg ?_
 refine pk0 (v := .int .i64 r142) h148 rfl fun a149 h149 => ?_; clear h148
 refine pk0 (v := .bool (r142 != 0)) h149 rfl fun a150 h150 => ?_; clear h149
 refine pl_nil ?_
 refine co_then ?_
 have hB152 := hb_new hB0 hg4
 have hB153 := hb_call hB152 hb16
 have hB154 := hb_at hB153 hg30 (by omega)
 have hB155 := hb_at hB154 hg43 (by omega)
 have hB156 := hb_at hB155 hg56 (by omega)
 have hB157 := hb_at hB156 hg69 (by omega)
 have hB158 := hb_at hB157 hg82 (by omega)
 have hB159 := hb_at hB158 hg95 (by omega)
 have hB160 := hb_at hB159 hg108 (by omega)
 have hB161 := hb_at hB160 hg121 (by omega)
 have hB162 := hb_new hB161 hg128
 have hB163 := hb_at hB162 hg137 (by omega)
 have hB164 := hb_call hB163 hb144
 have hk165 := hk5.below hb16
 have hk166 := hk165.kept hg30 (by simp; omega)
 have hk167 := hk166.kept hg43 (by simp; omega)
 have hk168 := hk167.kept hg56 (by simp; omega)
 have hk169 := hk168.kept hg69 (by simp; omega)
 have hk170 := hk169.kept hg82 (by simp; omega)
 have hk171 := hk170.kept hg95 (by simp; omega)
 have hk172 := hk171.kept hg108 (by simp; omega)
 have hk173 := hk172.kept hg121 (by simp; omega)
 have hk174 := hk173.kept hg128 (by simp)
 have hk175 := hk174.kept hg137 (by simp; omega)
 have hk176 := hk175.below hb144
 cases hc151 : (r142 != 0)
 ·
  rw [hc151] at h150
  have hp177 : ¬ (r142 ≠ 0) := by first | simpa using hc151 | simpa [and_assoc] using hc151
  clear hc151
  refine co_false h150 rfl ?_
  refine wp_skip ?_
  refine co_then ?_
  refine co_seq ?_
  refine co_reg ?_
  have hk178 := hk135'.below hb144
  refine pk (v := .agg #[.int .i64 n23, .int .i64 n36, .int .i64 n49, .int .i64 n62, .int .i64 n75, .int .i64 n88, .bool n101, .string n114]) h150 rfl (rn_loadN rfl rfl Try.underlying73 rfl (by kernel_rfl) hk178.all) fun a179 h179 => ?_; clear h150
  refine pwD h179 rfl (op_storeN rfl rfl rfl (by kernel_rfl) (by kernel_rfl) hk176 rfl) ?_; clear h179
  rintro _ w181 a180 ⟨hk182, hz183, hg184⟩ h180
  have hk182' : Blk w181 N3 73 #[.int .i64 n23, .int .i64 n36, .int .i64 n49, .int .i64 n62, .int .i64 n75, .int .i64 n88, .bool n101, .string n114] := hk182; clear hk182
  have hz185 := hg184.size
  refine pk0 (v := .int .i64 0) h180 rfl fun a186 h186 => ?_; clear h180
  refine pl_nil ?_
  refine co_then ?_
  refine wp_ret ?_
  refine co_retC1 (Q := fun _ _ _ => True) h186 rfl rfl rfl hk182' Try.underlying73 rfl (by kernel_rfl) ?_
  have hB187 := hb_at hB164 hg184 (by omega)
  have hE : rdSeg t = (SegT.mk n23 n36 n49 n62 n75 n88 n101 n114, 0) := by unfold rdSeg; simp only [hq26, hq39, hq52, hq65, hq78, hq91, hq104, hq117, hq143]; rw [if_neg (by omega)]
  exact ⟨by first | (rw [hE]; done) | (rw [hE]; rfl), hB187⟩
 ·
  rw [hc151] at h150
  have hp188 : r142 ≠ 0 := by first | simpa using hc151 | simpa [and_assoc] using hc151
  clear hc151
  refine co_true h150 rfl ?_
  refine co_seq ?_
  refine co_reg ?_
  refine pk0 (v := .agg #[.int .i64 0, .int .i64 0, .int .i64 0, .int .i64 0, .int .i64 0, .int .i64 0, .bool false, .string (⟨#[]⟩)]) h150 rfl fun a189 h189 => ?_; clear h150
  refine pk0 (v := .int .i64 r142) h189 rfl fun a190 h190 => ?_; clear h189
  refine pwD h190 rfl (op_storeN rfl rfl rfl (by kernel_rfl) (by kernel_rfl) hk176 rfl) ?_; clear h190
  rintro _ w192 a191 ⟨hk193, hz194, hg195⟩ h191
  have hk193' : Blk w192 N3 73 #[.int .i64 0, .int .i64 0, .int .i64 0, .int .i64 0, .int .i64 0, .int .i64 0, .bool false, .string (⟨#[]⟩)] := hk193; clear hk193
  have hz196 := hg195.size
  refine pk0 (v := .int .i64 r142) h191 rfl fun a197 h197 => ?_; clear h191
  refine pl_nil ?_
  refine co_then ?_
  refine wp_ret ?_
  refine co_thenR ?_
  refine co_retC1 (Q := fun _ _ _ => True) h197 rfl rfl rfl hk193' Try.underlying73 rfl (by kernel_rfl) ?_
  have hB198 := hb_at hB164 hg195 (by omega)
  have hE : rdSeg t = (zSeg, r142) := by unfold rdSeg; simp only [hq26, hq39, hq52, hq65, hq78, hq91, hq104, hq117, hq143]; rw [if_pos (by omega)]
  exact ⟨by first | (rw [hE]; done) | (rw [hE]; rfl), hB198⟩
end Go.Proofs.Ytpcbgkmnjmiigaa

/- Package hub: a hub as an object; the program's of, Send, Waiting, In. Conditions: a text of at most 2^63 - 1 bytes. -/
namespace Go.Proofs.Ytpcbgkmnjmiigaa
open Go.RowKit Go.PlainAid
set_option linter.unusedVariables false

/-- A hub at b: the blocks of its links, and their footprints. -/
structure HbQ (TH TL : TypeId) (C : (Nat → Option Nat) → Array Value) (q : Nat → Option Nat) (F : Nat → Nat → Prop) (S : Nat → Prop) (w : World) (b : Nat) (M : Nat → Option LnT) : Prop where
  blk : Blk w b TH (C q)
  one : ∀ i, i < 4 → ((q i = none ∧ M i = none ∧ ∀ k, ¬ F i k) ∨ ∃ N L, q i = some N ∧ M i = some L ∧ LkO TL (F i) w N L)
  sep : ∀ i j k, i < 4 → j < 4 → i ≠ j → F i k → F j k → False
  off : ∀ i k, i < 4 → F i k → k ≠ b
  fp : ∀ k, S k ↔ k = b ∨ ∃ i, i < 4 ∧ F i k
def HbX (TH TL : TypeId) (C : (Nat → Option Nat) → Array Value) (S : Nat → Prop) (w : World) (b : Nat) (M : Nat → Option LnT) : Prop := ∃ q F, HbQ TH TL C q F S w b M
def setM (M : Nat → Option LnT) (i : Nat) (L : LnT) : Nat → Option LnT := fun j => if j = i then some L else M j
/-- The link with that one. -/
def atM (M : Nat → Option LnT) (n : Int) : Option LnT := if 0 ≤ n ∧ n < 4 then M n.toNat else none
section
variable {TH TL : TypeId} {C : (Nat → Option Nat) → Array Value} {q : Nat → Option Nat} {F : Nat → Nat → Prop} {S S' D : Nat → Prop} {w x : World} {b N i : Nat} {M : Nat → Option LnT} {L : LnT} {n : Int}
theorem HbQ.keep (h : HbQ TH TL C q F S w b M) (hk : ∀ k, S k → x.heap[k]? = w.heap[k]?) : HbQ TH TL C q F S x b M := by
  refine ⟨?_, fun i hi => ?_, h.sep, h.off, h.fp⟩
  · have h1 := h.blk
    unfold Blk at h1 ⊢
    rw [hk b ((h.fp b).2 (.inl rfl))]; exact h1
  · rcases h.one i hi with h1 | ⟨N, L, h1, h2, h3⟩
    · exact .inl h1
    · exact .inr ⟨N, L, h1, h2, h3.keep fun k hf => hk k ((h.fp k).2 (.inr ⟨i, hi, hf⟩))⟩
theorem HbQ.ofS (h : HbQ TH TL C q F S w b M) : ∀ k, S k → k < w.heap.size := fun k hs => by
  rcases (h.fp k).1 hs with rfl | ⟨i, hi, hf⟩
  · exact h.blk.lt
  · rcases h.one i hi with h1 | ⟨N, L, h1, h2, h3⟩
    · exact absurd hf (h1.2.2 k)
    · exact h3.ofS k hf
theorem HbX.ofS (h : HbX TH TL C S w b M) : ∀ k, S k → k < w.heap.size := by obtain ⟨q, F, h⟩ := h; exact h.ofS
theorem HbX.keep (h : HbX TH TL C S w b M) (hk : ∀ k, S k → x.heap[k]? = w.heap[k]?) : HbX TH TL C S x b M := by obtain ⟨q, F, h⟩ := h; exact ⟨q, F, h.keep hk⟩
theorem HbX.gr {row : Option Nat} (h : HbX TH TL C S w b M) (hg : w.grownBy x row) (hr : ∀ k, row = some k → ¬ S k) : HbX TH TL C S x b M := h.keep fun q hq => hg.block q (h.ofS q hq) (fun e => hr q e.symm hq)
theorem HbX.but (h : HbX TH TL C S w b M) (hb : But D w x) (ha : ∀ q, S q → D q → False) : HbX TH TL C S x b M := h.keep fun q hq => hb.block q (h.ofS q hq) (fun hd => ha q hq hd)
theorem HbQ.gr {row : Option Nat} (h : HbQ TH TL C q F S w b M) (hg : w.grownBy x row) (hr : ∀ k, row = some k → ¬ S k) : HbQ TH TL C q F S x b M := h.keep fun q hq => hg.block q (h.ofS q hq) (fun e => hr q e.symm hq)
theorem HbQ.below (h : HbQ TH TL C q F S w b M) (hb : Below w.heap.size w x) : HbQ TH TL C q F S x b M := h.gr (below_grown hb) (fun q e => nomatch e)
/-- Behind a call on one of its links. -/
theorem HbQ.turnQ {L' : LnT} (h : HbQ TH TL C q F S w b M) (hi : i < 4) (hq : q i = some N) (hL : LkO TL S' x N L') (hg : Grew (F i) S' w x) :
    ∃ (F2 : Nat → Nat → Prop) (S2 : Nat → Prop), HbQ TH TL C q F2 S2 x b (setM M i L') ∧ Grew S S2 w x ∧ ∀ k, S2 k → S k ∨ S' k := by
  have hbF : ∀ k, F i k → k ≠ b := fun k hk => h.off i k hi hk
  have hS' : ∀ k, k < w.heap.size → S' k → F i k := fun k hl hk => by
    rcases hg.sub k hk with h | h
    · exact h
    · omega
  have hlt : ∀ j k, j < 4 → F j k → k < w.heap.size := fun j k hj hk => h.ofS k ((h.fp k).2 (.inr ⟨j, hj, hk⟩))
  refine ⟨fun j => if j = i then S' else F j, fun k => k = b ∨ ∃ j, j < 4 ∧ (if j = i then S' k else F j k), ⟨?_, ?_, ?_, ?_, ?_⟩, ⟨?_, ?_⟩, ?_⟩
  · have h1 := h.blk
    have hl := h1.lt
    unfold Blk at h1 ⊢
    rw [hg.but.block b hl (fun hf => hbF b hf rfl)]; exact h1
  · intro j hj
    by_cases e : j = i
    · subst e
      refine .inr ⟨N, L', hq, by unfold setM; simp, ?_⟩
      simpa using hL
    · rcases h.one j hj with ⟨h1, h2, h3⟩ | ⟨N2, L2, h1, h2, h3⟩
      · exact .inl ⟨h1, by unfold setM; rw [if_neg e]; exact h2, by simpa [e] using h3⟩
      · refine .inr ⟨N2, L2, h1, by unfold setM; rw [if_neg e]; exact h2, ?_⟩
        have := h3.but hg.but (fun k hd hf => h.sep i j k hi hj (fun e2 => e e2.symm) hd hf)
        simpa [e] using this
  · intro j k m hj hk hne h1 h2
    by_cases e1 : j = i
    · subst e1
      have e2 : ¬ k = j := fun e => hne e.symm
      simp only [if_true, if_neg e2] at h1 h2
      exact h.sep j k m hj hk hne (hS' m (hlt k m hk h2) h1) h2
    · by_cases e2 : k = i
      · subst e2
        simp only [if_true, if_neg e1] at h1 h2
        exact h.sep j k m hj hk hne h1 (hS' m (hlt j m hj h1) h2)
      · simp only [if_neg e1, if_neg e2] at h1 h2
        exact h.sep j k m hj hk hne h1 h2
  · intro j k hj hk
    by_cases e : j = i
    · subst e
      simp only [if_true] at hk
      intro e2; subst e2
      exact hbF _ (hS' _ h.blk.lt hk) rfl
    · simp only [if_neg e] at hk
      exact h.off j k hj hk
  · intro k
    constructor
    · rintro (h1 | ⟨j, hj, h1⟩)
      · exact .inl h1
      · exact .inr ⟨j, hj, by by_cases e : j = i <;> simpa [e] using h1⟩
    · rintro (h1 | ⟨j, hj, h1⟩)
      · exact .inl h1
      · exact .inr ⟨j, hj, by by_cases e : j = i <;> simpa [e] using h1⟩
  · rintro k (h1 | ⟨j, hj, h1⟩)
    · exact .inl ((h.fp k).2 (.inl h1))
    · by_cases e : j = i
      · rw [if_pos e] at h1
        rcases hg.sub k h1 with h2 | h2
        · exact .inl ((h.fp k).2 (.inr ⟨i, hi, h2⟩))
        · exact .inr h2
      · rw [if_neg e] at h1
        exact .inl ((h.fp k).2 (.inr ⟨j, hj, h1⟩))
  · exact hg.but.mono fun k _ hk => (h.fp k).2 (.inr ⟨i, hi, hk⟩)
  · rintro k (h1 | ⟨j, hj, h1⟩)
    · exact .inl ((h.fp k).2 (.inl h1))
    · by_cases e : j = i
      · rw [if_pos e] at h1
        exact .inr h1
      · rw [if_neg e] at h1
        exact .inl ((h.fp k).2 (.inr ⟨j, hj, h1⟩))
theorem HbQ.turn {L' : LnT} (h : HbQ TH TL C q F S w b M) (hi : i < 4) (hq : q i = some N) (hL : LkO TL S' x N L') (hg : Grew (F i) S' w x) :
    ∃ S2 : Nat → Prop, HbX TH TL C S2 x b (setM M i L') ∧ Grew S S2 w x ∧ ∀ k, S2 k → S k ∨ S' k := by
  obtain ⟨F2, S2, h1, h2, h3⟩ := h.turnQ hi hq hL hg
  exact ⟨S2, ⟨q, F2, h1⟩, h2, h3⟩
theorem HbQ.no (h : HbQ TH TL C q F S w b M) (hq : atQ q n = none) : atM M n = none := by
  unfold atQ at hq; unfold atM
  split
  · rename_i hh
    rw [if_pos hh] at hq
    rcases h.one n.toNat (by omega) with ⟨h1, h2, h3⟩ | ⟨N, L, h1, h2, h3⟩
    · exact h2
    · rw [h1] at hq; cases hq
  · rfl
theorem HbQ.yes (h : HbQ TH TL C q F S w b M) (hq : atQ q n = some N) : ∃ (i : Nat) (L : LnT), n = (i : Int) ∧ n.toNat = i ∧ i < 4 ∧ q i = some N ∧ atM M n = some L ∧ LkO TL (F i) w N L := by
  unfold atQ at hq; unfold atM
  split at hq
  · rename_i hh
    rcases h.one n.toNat (by omega) with ⟨h1, h2, h3⟩ | ⟨N2, L, h1, h2, h3⟩
    · rw [h1] at hq; cases hq
    · rw [h1] at hq; cases hq
      exact ⟨n.toNat, L, by omega, rfl, by omega, h1, by rw [if_pos hh]; exact h2, h3⟩
  · cases hq
theorem Grew.from {z : World} (hb : Below w.heap.size w x) (h : Grew S S' x z) : Grew S S' w z := ⟨fun k hk => by
  rcases h.sub k hk with h1 | h1
  · exact .inl h1
  · exact .inr (Nat.le_trans hb.size h1), (But.of_below hb).trans h.but⟩
end
/-- The program's hub, the document's hub. -/
def HbP (S : Nat → Prop) (w : World) (b : Nat) (M : Nat → Option LnT) : Prop := HbX 56 90 hubC S w b M
def hubR (q : Nat → Option Nat) : Array Value := #[ptQ (q 0), ptQ (q 1), ptQ (q 2), ptQ (q 3)]
def HbR (S : Nat → Prop) (w : World) (b : Nat) (M : Nat → Option LnT) : Prop := HbX 63 86 hubR S w b M
def hSendT (M : Nat → Option LnT) (n : Int) (s : ByteArray) : Int × (Nat → Option LnT) := match atM M n with
  | none => (1, M)
  | some L => ((sendT L s).1, setM M n.toNat (sendT L s).2)
def hWaitT (M : Nat → Option LnT) (n : Int) : Int := match atM M n with
  | none => 0
  | some L => (L.q.length : Int)
def hInT (M : Nat → Option LnT) (n : Int) (s : ByteArray) : List ByteArray × Int × (Nat → Option LnT) := match atM M n with
  | none => ([], 1, M)
  | some L => if (rdSeg s).2 ≠ 0 then ([], (rdSeg s).2, M) else ((inT L (rdSeg s).1).1, (inT L (rdSeg s).1).2.1, setM M n.toNat (inT L (rdSeg s).1).2.2)

set_option maxRecDepth 100000 in
set_option maxHeartbeats 3200000 in
theorem hbOf_any (b : Nat) (q : Nat → Option Nat) (k : Int) (w : World) (h : Blk w b 56 (hubC q)) : Calls Try.prog 22 #[pt b 0, .int .i64 k] w fun e w' => e = .returned (ptQ (atQ q k)) ∧ Below w.heap.size w w' := by
  obtain ⟨N, hN⟩ : ∃ N, N = w.heap.size := ⟨_, rfl⟩
  have hk0 : (w.alloc (.cells #[.int .i64 k] 3)).cell? ⟨N, 0, none⟩ = some (.int .i64 k) := by rw [hN]; exact (Boxed.new w 3 (.int .i64 k)).cell
  have hB0 : Below w.heap.size w (w.alloc (.cells #[.int .i64 k] 3)) := (Below.refl _ w).alloc (Nat.le_refl _) _
  have HC := Lib.hid (h.kept (below_grown hB0) (by simp)); have HB0 := Lib.hid hB0; have HK := Lib.hid hk0; clear h hB0 hk0
  go_enter Try.func22, Try.ntmps22
  rw [hN] at HK
  go_wp2_with fail
  refine (hbFind_any b w.heap.size q k _ HC.out HK.out).mono ?_
  rintro e w1 ⟨rfl, rfl⟩
  go_wp2
  go_ret
  exact ⟨rfl, HB0.out⟩

set_option maxRecDepth 100000 in
set_option maxHeartbeats 3200000 in
theorem hbSend_any (S : Nat → Prop) (w : World) (b : Nat) (M : Nat → Option LnT) (n : Int) (t : ByteArray) (h : HbP S w b M) : Calls Try.prog 8 #[pt b 0, .int .i64 n, .string t] w fun e w' => ∃ S' : Nat → Prop, e = .returned (.int .i64 (hSendT M n t).1) ∧ HbP S' w' b (hSendT M n t).2 ∧ Grew S S' w w' := by
  obtain ⟨q, F, h⟩ := h
  have H := Lib.hid h; clear h
  go_enter Try.func8, Try.ntmps8
  go_wp2_with fail
  refine (hbZero_ok b q _ H.out.blk).mono ?_
  rintro e w1 ⟨rfl, rfl⟩
  go_wp2_with fail
  refine (hbOf_any b q n _ H.out.blk).mono ?_
  rintro e w1 ⟨rfl, hB⟩
  have HB := Lib.hid hB; clear hB
  have H1 := Lib.hid (H.out.below HB.out)
  cases hq : atQ q n with
  | none =>
    have hE : hSendT M n t = (1, M) := by unfold hSendT; rw [H.out.no hq]
    have HE := Lib.hid hE; clear hE
    unfold ptQ
    go_wp2
    go_ret
    rw [HE.out]
    exact ⟨S, rfl, ⟨q, F, H1.out⟩, fun k h => .inl h, But.of_below HB.out⟩
  | some N =>
    obtain ⟨i, L, hn, hi2, hi, hqi, hM, hL⟩ := H1.out.yes hq
    have hE : hSendT M n t = ((sendT L t).1, setM M i (sendT L t).2) := by unfold hSendT; rw [hM, hi2]
    have HE := Lib.hid hE; clear hE
    unfold ptQ
    clear hM hn hi2 hq
    have HL := Lib.hid hL; have HQ := Lib.hid hqi; clear hL hqi
    go_wp2_with fail
    refine (kSend (b := N) (L := L) (S := F i) _ t HL.out).mono ?_
    rintro e w2 ⟨S', rfl, h1, h2⟩
    have H2 := Lib.hid h1; have H3 := Lib.hid h2; clear h1 h2
    go_wp2
    go_ret
    rw [HE.out]
    obtain ⟨S2, h4, h5, -⟩ := H1.out.turn hi HQ.out H2.out H3.out
    exact ⟨S2, rfl, h4, h5.from HB.out⟩

set_option maxRecDepth 100000 in
set_option maxHeartbeats 3200000 in
theorem hbWaiting_any (S : Nat → Prop) (w : World) (b : Nat) (M : Nat → Option LnT) (n : Int) (h : HbP S w b M) : Calls Try.prog 16 #[pt b 0, .int .i64 n] w fun e w' => e = .returned (.int .i64 (hWaitT M n)) ∧ Below w.heap.size w w' := by
  obtain ⟨q, F, h⟩ := h
  have H := Lib.hid h; clear h
  go_enter Try.func16, Try.ntmps16
  go_wp2_with fail
  refine (hbZero_ok b q _ H.out.blk).mono ?_
  rintro e w1 ⟨rfl, rfl⟩
  go_wp2_with fail
  refine (hbOf_any b q n _ H.out.blk).mono ?_
  rintro e w1 ⟨rfl, hB⟩
  have HB := Lib.hid hB; clear hB
  have H1 := Lib.hid (H.out.below HB.out)
  cases hq : atQ q n with
  | none =>
    have hE : hWaitT M n = 0 := by unfold hWaitT; rw [H.out.no hq]
    have HE := Lib.hid hE; clear hE
    unfold ptQ
    go_wp2_with fail
    refine (zwaitL _ _ (.inl rfl)).mono ?_
    rintro e w2 ⟨rfl, rfl⟩
    go_wp2
    go_ret
    rw [HE.out]
    exact ⟨rfl, HB.out⟩
  | some N =>
    obtain ⟨i, L, hn, hi2, hi, hqi, hM, hL⟩ := H1.out.yes hq
    have hE : hWaitT M n = (L.q.length : Int) := by unfold hWaitT; rw [hM]
    have HE := Lib.hid hE; clear hE
    unfold ptQ
    clear hM hn hi2 hq
    have HL := Lib.hid hL; have HQ := Lib.hid hqi; clear hL hqi
    go_wp2_with fail
    refine (kWaiting (b := N) (L := L) (S := F i) _ HL.out).mono ?_
    rintro e w2 ⟨rfl, rfl⟩
    go_wp2
    go_ret
    rw [HE.out]
    exact ⟨rfl, HB.out⟩
end Go.Proofs.Ytpcbgkmnjmiigaa

/- Package hub: the program's In. Conditions: a text of at most 2^63 - 1 bytes. -/
namespace Go.Proofs.Ytpcbgkmnjmiigaa
open Go.RowKit Go.PlainAid
set_option linter.unusedVariables false

theorem below_trans' {w x y : World} (h : Below w.heap.size w x) (h2 : Below x.heap.size x y) : Below w.heap.size w y := h.trans (h2.mono h.size)

set_option maxRecDepth 100000 in
set_option maxHeartbeats 3200000 in
theorem hbIn_any (S : Nat → Prop) (w : World) (b : Nat) (M : Nat → Option LnT) (n : Int) (t : ByteArray) (hsz : t.size ≤ 9223372036854775807) (h : HbP S w b M) : Calls Try.prog 13 #[pt b 0, .int .i64 n, .string t] w fun e w' => ∃ (v : Value) (S' : Nat → Prop), e = .returned (.tuple #[v, .int .i64 (hInT M n t).2.1]) ∧ HbP S' w' b (hInT M n t).2.2 ∧ w'.ownsRow w.heap.size 9 1 v (hInT M n t).1.length ((hInT M n t).1.flatMap strE) ∧ (∀ i, v.ownBlock = some i → ¬ S' i) ∧ Grew S S' w w' := by
  obtain ⟨q, F, h⟩ := h
  have H := Lib.hid h; clear h
  go_enter Try.func13, Try.ntmps13
  go_wp2_with fail
  refine (hbZero_ok b q _ H.out.blk).mono ?_
  rintro e w1 ⟨rfl, rfl⟩
  go_wp2_with fail
  refine (hbOf_any b q n _ H.out.blk).mono ?_
  rintro e w1 ⟨rfl, hB⟩
  have HB := Lib.hid hB; clear hB
  have H1 := Lib.hid (H.out.below HB.out)
  cases hq : atQ q n with
  | none =>
    have hE : hInT M n t = ([], 1, M) := by unfold hInT; rw [H.out.no hq]
    have HE := Lib.hid hE; clear hE
    unfold ptQ
    go_wp2
    go_ret2
    rw [HE.out]
    exact ⟨_, S, rfl, ⟨q, F, H1.out⟩, World.ownsRow_nil _ _ _ _, fun i hi => by simp [Value.ownBlock] at hi, fun k h => .inl h, But.of_below HB.out⟩
  | some N =>
    obtain ⟨i, L, hn, hi2, hi, hqi, hM, hL⟩ := H1.out.yes hq
    unfold ptQ
    have HM := Lib.hid hM; have HI := Lib.hid hi2
    clear hM hn hi2 hq
    have HL := Lib.hid hL; have HQ := Lib.hid hqi; clear hL hqi
    go_wp2_with fail
    refine (lkOf_any t _ hsz).mono ?_
    rintro e w2 ⟨rfl, hB2⟩
    have HB2 := Lib.hid hB2; clear hB2
    by_cases h0 : (rdSeg t).2 = 0
    · have hE : hInT M n t = ((inT L (rdSeg t).1).1, (inT L (rdSeg t).1).2.1, setM M i (inT L (rdSeg t).1).2.2) := by unfold hInT; rw [HM.out, HI.out]; simp [h0]
      have HE := Lib.hid hE; clear hE
      rw [h0]
      go_wp2_with fail
      have hg : Hid (Below w1.heap.size w1 (w2.alloc (.cells #[.int .i64 (rdSeg t).1.boot, .int .i64 (rdSeg t).1.stream, .int .i64 (rdSeg t).1.seq, .int .i64 (rdSeg t).1.ab, .int .i64 (rdSeg t).1.ast, .int .i64 (rdSeg t).1.asq, .bool (rdSeg t).1.has, .string (rdSeg t).1.body] 73))) := Lib.hid (HB2.out.alloc HB2.out.size _)
      have H3 := Lib.hid (H1.out.below hg.out)
      refine (kIn (b := N) (L := L) (S := F i) _ (rdSeg t).1 (HL.out.gr (below_grown hg.out) (fun q e => nomatch e))).mono ?_
      rintro e w3 ⟨v, S', rfl, h1, h2, h3, h4⟩
      have H4 := Lib.hid h1; have H5 := Lib.hid h2; have H6 := Lib.hid h3; have H7 := Lib.hid h4; clear h1 h2 h3 h4
      go_wp2
      go_ret2
      rw [HE.out]
      obtain ⟨S2, h4, h5, h6⟩ := H3.out.turn hi HQ.out H4.out H7.out
      have hz : w.heap.size ≤ (w2.alloc (.cells #[.int .i64 (rdSeg t).1.boot, .int .i64 (rdSeg t).1.stream, .int .i64 (rdSeg t).1.seq, .int .i64 (rdSeg t).1.ab, .int .i64 (rdSeg t).1.ast, .int .i64 (rdSeg t).1.asq, .bool (rdSeg t).1.has, .string (rdSeg t).1.body] 73)).heap.size := Nat.le_trans HB.out.size hg.out.size
      refine ⟨v, S2, rfl, h4, own_lowL H5.out hz, fun k hk hs => ?_, h5.from (below_trans' HB.out hg.out)⟩
      rcases h6 k hs with h7 | h7
      · have := (H5.out.lt k hk).1
        have := H3.out.ofS k h7
        omega
      · exact H6.out k hk h7
    · have hE : hInT M n t = ([], (rdSeg t).2, M) := by unfold hInT; rw [HM.out]; simp [h0]
      have hd : ((rdSeg t).2 != 0) = true := by simpa using h0
      have HE := Lib.hid hE; clear hE
      go_wp2
      go_ret2
      rw [HE.out]
      have hg : Below w1.heap.size w1 (w2.alloc (.cells #[.int .i64 (rdSeg t).1.boot, .int .i64 (rdSeg t).1.stream, .int .i64 (rdSeg t).1.seq, .int .i64 (rdSeg t).1.ab, .int .i64 (rdSeg t).1.ast, .int .i64 (rdSeg t).1.asq, .bool (rdSeg t).1.has, .string (rdSeg t).1.body] 73)) := HB2.out.alloc HB2.out.size _
      exact ⟨_, S, rfl, ⟨q, F, H1.out.below hg⟩, World.ownsRow_nil _ _ _ _, fun i hi => by simp [Value.ownBlock] at hi, fun k h => .inl h, But.of_below (below_trans' HB.out hg)⟩
end Go.Proofs.Ytpcbgkmnjmiigaa

/- Package hub: the document's Has, Send, Waiting, In. Conditions: a text of at most 2^63 - 1 bytes. -/
namespace Go.Proofs.Ytpcbgkmnjmiigaa
open Go.RowKit Go.PlainAid
set_option linter.unusedVariables false

/-- Only draws lie between. -/
inductive DrH (W : World) : World → Prop
  | o : DrH W W
  | s {X : World} : DrH W X → DrH W X.drew
theorem DrH.grown {W X : World} (h : DrH W X) : W.grownBy X none := by
  induction h with
  | o => exact ⟨rfl, rfl, rfl, Nat.le_refl _, fun _ _ _ => rfl⟩
  | s _ ih => exact ⟨ih.os, ih.tape, ih.output, ih.size, ih.block⟩
theorem DrH.bel {W X : World} (h : DrH W X) : Below W.heap.size W X := ⟨h.grown.os, h.grown.tape, h.grown.output, h.grown.size, fun k hk => h.grown.block k hk (fun e => nomatch e)⟩

end Go.Proofs.Ytpcbgkmnjmiigaa

/- Package hub: New of both. Conditions: none. -/
namespace Go.Proofs.Ytpcbgkmnjmiigaa
open Go.RowKit Go.PlainAid
set_option linter.unusedVariables false

def updQ (q : Nat → Option Nat) (i N : Nat) : Nat → Option Nat := fun j => if j = i then some N else q j
/-- What a hub holds that was made up to i. -/
def newM (self boot : Int) (i : Nat) : Nat → Option LnT := fun j => if j < i ∧ (j : Int) ≠ self then some (newLn boot) else none
theorem newM_skip {self boot : Int} {i : Nat} (h : (i : Int) = self) : newM self boot (i + 1) = newM self boot i := by
  funext j; unfold newM
  by_cases h1 : j < i ∧ (j : Int) ≠ self
  · rw [if_pos h1, if_pos ⟨by omega, h1.2⟩]
  · rw [if_neg h1, if_neg (fun h2 => h1 ⟨by omega, h2.2⟩)]
theorem newM_put {self boot : Int} {i : Nat} (h : (i : Int) ≠ self) : newM self boot (i + 1) = setM (newM self boot i) i (newLn boot) := by
  funext j; unfold newM setM
  by_cases e : j = i
  · subst e; rw [if_pos ⟨by omega, h⟩, if_pos rfl]
  · rw [if_neg e]
    show _ = if j < i ∧ (j : Int) ≠ self then some (newLn boot) else none
    by_cases h1 : j < i ∧ (j : Int) ≠ self
    · rw [if_pos h1, if_pos ⟨by omega, h1.2⟩]
    · rw [if_neg h1, if_neg (fun h2 => h1 ⟨by omega, h2.2⟩)]
theorem newM_zero {self boot : Int} : newM self boot 0 = fun _ => none := by
  funext j; unfold newM; rw [if_neg (fun h => absurd h.1 (by omega))]
section
variable {TH TL : TypeId} {C : (Nat → Option Nat) → Array Value} {q : Nat → Option Nat} {F : Nat → Nat → Prop} {S S' D : Nat → Prop} {w x : World} {b N i : Nat} {M : Nat → Option LnT} {L : LnT} {n : Int}
theorem HbQ.put {off : Nat} (hsz : off + i < (C q).size) (hC : (C q).set (off + i) (pt N 0) hsz = C (updQ q i N)) (h : HbQ TH TL C q F S w b M) (hi : i < 4) (hb : Below w.heap.size w x) (hL : LkO TL S' x N L) (hlo : ∀ k, S' k → w.heap.size ≤ k) :
    HbQ TH TL C (updQ q i N) (fun j => if j = i then S' else F j) (fun k => k = b ∨ ∃ j, j < 4 ∧ (if j = i then S' k else F j k)) (x.setCell ⟨b, off + i, none⟩ (pt N 0)) b (setM M i L) := by
  have hx := h.below hb
  have hlt : ∀ j k, j < 4 → F j k → k < w.heap.size := fun j k hj hk => h.ofS k ((h.fp k).2 (.inr ⟨j, hj, hk⟩))
  have hbl := h.blk.lt
  have hbu : But (fun k => k = b) x (x.setCell ⟨b, off + i, none⟩ (pt N 0)) := (But.refl _ x).setL (S := fun k => k = b) rfl _
  refine ⟨?_, ?_, ?_, ?_, ?_⟩
  · rw [← hC]
    exact blk_setL hx.blk (off + i) hsz _
  · intro j hj
    by_cases e : j = i
    · subst e
      refine .inr ⟨N, L, by unfold updQ; simp, by unfold setM; simp, ?_⟩
      have := hL.but hbu (fun k h1 h2 => by have := hlo k h2; omega)
      simpa using this
    · rcases hx.one j hj with ⟨h1, h2, h3⟩ | ⟨N2, L2, h1, h2, h3⟩
      · exact .inl ⟨by unfold updQ; rw [if_neg e]; exact h1, by unfold setM; rw [if_neg e]; exact h2, by simpa [e] using h3⟩
      · refine .inr ⟨N2, L2, by unfold updQ; rw [if_neg e]; exact h1, by unfold setM; rw [if_neg e]; exact h2, ?_⟩
        have := h3.but hbu (fun k h1 h2 => h.off j k hj h2 h1)
        simpa [e] using this
  · intro j k m hj hk hne h1 h2
    by_cases e1 : j = i
    · subst e1
      have e2 : ¬ k = j := fun e => hne e.symm
      simp only [if_true, if_neg e2] at h1 h2
      have := hlo m h1; have := hlt k m hk h2; omega
    · by_cases e2 : k = i
      · subst e2
        simp only [if_true, if_neg e1] at h1 h2
        have := hlo m h2; have := hlt j m hj h1; omega
      · simp only [if_neg e1, if_neg e2] at h1 h2
        exact h.sep j k m hj hk hne h1 h2
  · intro j k hj hk
    by_cases e : j = i
    · subst e
      simp only [if_true] at hk
      have := hlo k hk; omega
    · simp only [if_neg e] at hk
      exact h.off j k hj hk
  · intro k
    constructor
    · rintro (h1 | ⟨j, hj, h1⟩)
      · exact .inl h1
      · exact .inr ⟨j, hj, by by_cases e : j = i <;> simpa [e] using h1⟩
    · rintro (h1 | ⟨j, hj, h1⟩)
      · exact .inl h1
      · exact .inr ⟨j, hj, by by_cases e : j = i <;> simpa [e] using h1⟩
theorem HbQ.start (h : Blk w b TH (C (fun _ => none))) : HbQ TH TL C (fun _ => none) (fun _ _ => False) (fun k => k = b) w b (fun _ => none) :=
  ⟨h, fun i hi => .inl ⟨rfl, rfl, fun k h => h⟩, fun i j k _ _ _ h _ => h.elim, fun i k _ h => h.elim, fun k => by simp⟩
end

set_option maxRecDepth 100000 in
set_option maxHeartbeats 6400000 in
theorem hbNew_ok (self boot : Int) (w : World) (hs : 0 ≤ self ∧ self < 4) (hbt : 1 ≤ boot ∧ boot ≤ 1073741824) : Calls Try.prog 6 #[.int .i64 self, .int .i64 boot] w fun e w' => ∃ S : Nat → Prop, e = .returned (.tuple #[pt w.heap.size 0, .int .i64 0]) ∧ HbX 56 90 hubC S w' w.heap.size (newM self boot 4) ∧ (∀ k, S k → w.heap.size ≤ k) ∧ Below w.heap.size w w' := by
  have HB := Lib.hid ((Below.refl w.heap.size w).alloc (Nat.le_refl _) (.cells #[.bool true, .pointer none, .pointer none, .pointer none, .pointer none] 56))
  have HS := Lib.hid (HbQ.start (TL := 90) (C := hubC) (TH := 56) (w := (w.alloc (.cells #[.bool true, .pointer none, .pointer none, .pointer none, .pointer none] 56))) (b := w.heap.size) (World.alloc_heap_new w _))
  have d1 : decide (self < 0) = false := decide_eq_false (by omega)
  have d2 : decide (self ≥ 4) = false := decide_eq_false (by omega)
  go_enter Try.func6, Try.ntmps6
  go_wp2
  go_loopg [18] 5 (fun g s wr => ∃ (i : Nat) (q : Nat → Option Nat) (F : Nat → Nat → Prop) (S : Nat → Prop), s = .int .i64 i ∧ i ≤ 4 ∧ 5 ≤ i + g ∧ Hid (Below w.heap.size w wr) ∧ Hid (HbQ 56 90 hubC q F S wr w.heap.size (newM self boot i)) ∧ Hid (∀ k, S k → w.heap.size ≤ k))
  case atStart => exact ⟨0, _, _, _, rfl, by omega, by omega, HB, Lib.hid (by rw [newM_zero]; exact HS.out), Lib.hid (fun k hk => by rw [show k = w.heap.size from hk]; exact Nat.le_refl _)⟩
  case round =>
    obtain ⟨i, q, F, S, rfl, hi, hg, HB, HQ, HL⟩ := hrel
    have h5 : i = 4 ∨ i = 0 ∨ i = 1 ∨ i = 2 ∨ i = 3 := by omega
    rcases h5 with h | h | h | h | h
    · obtain rfl : i = 4 := h
      go_wp2
      go_ret2
      exact ⟨S, rfl, ⟨q, F, HQ.out⟩, HL.out, HB.out⟩
    · obtain rfl : i = 0 := h
      by_cases h0 : self = 0
      · have hd : ((0 : Int) == self) = true := by rw [h0]; rfl
        go_wp2
        go_roundg (gk - 1)
        case rel => exact ⟨1, q, F, S, rfl, by omega, by omega, HB, Lib.hid (by have := HQ.out; rw [← newM_skip (i := 0) (by omega)] at this; exact this), HL⟩
        case measure => omega
      · have hd : ((0 : Int) == self) = false := by simp; omega
        go_wp2_with fail
        refine (lkNew_ok boot _ hbt).mono ?_
        rintro e w1 ⟨rfl, hL, hB⟩
        have HL1 := Lib.hid hL; have HB1 := Lib.hid hB; clear hL hB
        have c : w1.cell? ⟨w.heap.size, 1, none⟩ = some (ptQ (q 0)) := (HQ.out.below HB1.out).blk.cell (k := 1) rfl
        have cf := (HQ.out.below HB1.out).blk.frozen 1
        go_wp2
        go_roundg (gk - 1)
        case rel =>
          have hput := HbQ.put (off := 1) (i := 0) (by show 1 + 0 < 5; omega) (by rfl) HQ.out (by omega) HB1.out HL1.out (fun k hk => by rw [show k = wr.heap.size from hk]; exact Nat.le_refl _)
          rw [← newM_put (by omega)] at hput
          refine ⟨1, _, _, _, rfl, by omega, by omega, ?_, Lib.hid hput, ?_⟩
          rotate_left
          · refine Lib.hid ?_
            rintro k (hk | ⟨j, hj, hk⟩)
            · omega
            · by_cases e : j = 0
              · rw [if_pos e] at hk; have := HB.out.size; have : k = wr.heap.size := hk; omega
              · rw [if_neg e] at hk; exact HL.out k ((HQ.out.fp k).2 (.inr ⟨j, hj, hk⟩))
          · exact Lib.hid ((HB.out.trans (HB1.out.mono HB.out.size)).setCell (Nat.le_refl _) _)
        case measure => omega
    · obtain rfl : i = 1 := h
      by_cases h0 : self = 1
      · have hd : ((1 : Int) == self) = true := by rw [h0]; rfl
        go_wp2
        go_roundg (gk - 1)
        case rel => exact ⟨2, q, F, S, rfl, by omega, by omega, HB, Lib.hid (by have := HQ.out; rw [← newM_skip (i := 1) (by omega)] at this; exact this), HL⟩
        case measure => omega
      · have hd : ((1 : Int) == self) = false := by simp; omega
        go_wp2_with fail
        refine (lkNew_ok boot _ hbt).mono ?_
        rintro e w1 ⟨rfl, hL, hB⟩
        have HL1 := Lib.hid hL; have HB1 := Lib.hid hB; clear hL hB
        have c : w1.cell? ⟨w.heap.size, 2, none⟩ = some (ptQ (q 1)) := (HQ.out.below HB1.out).blk.cell (k := 2) rfl
        have cf := (HQ.out.below HB1.out).blk.frozen 2
        go_wp2
        go_roundg (gk - 1)
        case rel =>
          have hput := HbQ.put (off := 1) (i := 1) (by show 1 + 1 < 5; omega) (by rfl) HQ.out (by omega) HB1.out HL1.out (fun k hk => by rw [show k = wr.heap.size from hk]; exact Nat.le_refl _)
          rw [← newM_put (by omega)] at hput
          refine ⟨2, _, _, _, rfl, by omega, by omega, ?_, Lib.hid hput, ?_⟩
          rotate_left
          · refine Lib.hid ?_
            rintro k (hk | ⟨j, hj, hk⟩)
            · omega
            · by_cases e : j = 1
              · rw [if_pos e] at hk; have := HB.out.size; have : k = wr.heap.size := hk; omega
              · rw [if_neg e] at hk; exact HL.out k ((HQ.out.fp k).2 (.inr ⟨j, hj, hk⟩))
          · exact Lib.hid ((HB.out.trans (HB1.out.mono HB.out.size)).setCell (Nat.le_refl _) _)
        case measure => omega
    · obtain rfl : i = 2 := h
      by_cases h0 : self = 2
      · have hd : ((2 : Int) == self) = true := by rw [h0]; rfl
        go_wp2
        go_roundg (gk - 1)
        case rel => exact ⟨3, q, F, S, rfl, by omega, by omega, HB, Lib.hid (by have := HQ.out; rw [← newM_skip (i := 2) (by omega)] at this; exact this), HL⟩
        case measure => omega
      · have hd : ((2 : Int) == self) = false := by simp; omega
        go_wp2_with fail
        refine (lkNew_ok boot _ hbt).mono ?_
        rintro e w1 ⟨rfl, hL, hB⟩
        have HL1 := Lib.hid hL; have HB1 := Lib.hid hB; clear hL hB
        have c : w1.cell? ⟨w.heap.size, 3, none⟩ = some (ptQ (q 2)) := (HQ.out.below HB1.out).blk.cell (k := 3) rfl
        have cf := (HQ.out.below HB1.out).blk.frozen 3
        go_wp2
        go_roundg (gk - 1)
        case rel =>
          have hput := HbQ.put (off := 1) (i := 2) (by show 1 + 2 < 5; omega) (by rfl) HQ.out (by omega) HB1.out HL1.out (fun k hk => by rw [show k = wr.heap.size from hk]; exact Nat.le_refl _)
          rw [← newM_put (by omega)] at hput
          refine ⟨3, _, _, _, rfl, by omega, by omega, ?_, Lib.hid hput, ?_⟩
          rotate_left
          · refine Lib.hid ?_
            rintro k (hk | ⟨j, hj, hk⟩)
            · omega
            · by_cases e : j = 2
              · rw [if_pos e] at hk; have := HB.out.size; have : k = wr.heap.size := hk; omega
              · rw [if_neg e] at hk; exact HL.out k ((HQ.out.fp k).2 (.inr ⟨j, hj, hk⟩))
          · exact Lib.hid ((HB.out.trans (HB1.out.mono HB.out.size)).setCell (Nat.le_refl _) _)
        case measure => omega
    · obtain rfl : i = 3 := h
      by_cases h0 : self = 3
      · have hd : ((3 : Int) == self) = true := by rw [h0]; rfl
        go_wp2
        go_roundg (gk - 1)
        case rel => exact ⟨4, q, F, S, rfl, by omega, by omega, HB, Lib.hid (by have := HQ.out; rw [← newM_skip (i := 3) (by omega)] at this; exact this), HL⟩
        case measure => omega
      · have hd : ((3 : Int) == self) = false := by simp; omega
        go_wp2_with fail
        refine (lkNew_ok boot _ hbt).mono ?_
        rintro e w1 ⟨rfl, hL, hB⟩
        have HL1 := Lib.hid hL; have HB1 := Lib.hid hB; clear hL hB
        have c : w1.cell? ⟨w.heap.size, 4, none⟩ = some (ptQ (q 3)) := (HQ.out.below HB1.out).blk.cell (k := 4) rfl
        have cf := (HQ.out.below HB1.out).blk.frozen 4
        go_wp2
        go_roundg (gk - 1)
        case rel =>
          have hput := HbQ.put (off := 1) (i := 3) (by show 1 + 3 < 5; omega) (by rfl) HQ.out (by omega) HB1.out HL1.out (fun k hk => by rw [show k = wr.heap.size from hk]; exact Nat.le_refl _)
          rw [← newM_put (by omega)] at hput
          refine ⟨4, _, _, _, rfl, by omega, by omega, ?_, Lib.hid hput, ?_⟩
          rotate_left
          · refine Lib.hid ?_
            rintro k (hk | ⟨j, hj, hk⟩)
            · omega
            · by_cases e : j = 3
              · rw [if_pos e] at hk; have := HB.out.size; have : k = wr.heap.size := hk; omega
              · rw [if_neg e] at hk; exact HL.out k ((HQ.out.fp k).2 (.inr ⟨j, hj, hk⟩))
          · exact Lib.hid ((HB.out.trans (HB1.out.mono HB.out.size)).setCell (Nat.le_refl _) _)
        case measure => omega

end Go.Proofs.Ytpcbgkmnjmiigaa

/- Package hub: what goes out; the links of a hub, one by one. Conditions: none. -/
namespace Go.Proofs.Ytpcbgkmnjmiigaa
open Go.RowKit Go.PlainAid
set_option linter.unusedVariables false

/-- What of a link's segments can be told, with the number of whom it is for. -/
def okH (i : Nat) (l : List SegT) : List (Int × ByteArray) := l.filterMap fun g => if (putG g).2 = 0 then some ((i : Int), (putG g).1) else none
def hkT (M : Nat → Option LnT) (i : Nat) (g : Bool) : List SegT := match M i with
  | none => []
  | some L => outT L g
def hkN (M : Nat → Option LnT) (i : Nat) : Nat → Option LnT := match M i with
  | none => M
  | some L => setM M i (outN L)
def outM (M : Nat → Option LnT) : Nat → (Nat → Option LnT)
  | 0 => M
  | i + 1 => hkN (outM M i) i
def outH (M : Nat → Option LnT) (g : Bool) : Nat → List (Int × ByteArray)
  | 0 => []
  | i + 1 => outH M g i ++ okH i (hkT (outM M i) i g)
def outE (p : Int × ByteArray) : List Value := [.int .i64 p.1, .string p.2]
theorem outE_len (p : Int × ByteArray) : (outE p).length = 2 := rfl
theorem okH_nil {X : List (Int × ByteArray)} {i : Nat} {l : List SegT} : X = X ++ okH i (l.take 0) := by simp [okH]
theorem okH_yes {X : List (Int × ByteArray)} {i k : Nat} {l : List SegT} {y : SegT} (hy : l[k]? = some y) (h : (putG y).2 = 0) : (X ++ okH i (l.take k)) ++ [((i : Int), (putG y).1)] = X ++ okH i (l.take (k + 1)) := by
  rw [List.take_add_one, hy]; simp [okH, h, List.filterMap_append]
theorem okH_no {X : List (Int × ByteArray)} {i k : Nat} {l : List SegT} {y : SegT} (hy : l[k]? = some y) (h : ¬ (putG y).2 = 0) : X ++ okH i (l.take k) = X ++ okH i (l.take (k + 1)) := by
  rw [List.take_add_one, hy]; simp [okH, h, List.filterMap_append]
theorem okH_all {M : Nat → Option LnT} {g : Bool} {i k : Nat} (h : (hkT (outM M i) i g).length ≤ k) : outH M g i ++ okH i ((hkT (outM M i) i g).take k) = outH M g (i + 1) := by
  rw [List.take_of_length_le h]; rfl
theorem okH_len {i : Nat} {l : List SegT} : (okH i l).length ≤ l.length := List.length_filterMap_le _ _
theorem hkT_len (M : Nat → Option LnT) (i : Nat) (g : Bool) : (hkT M i g).length ≤ 8 := by
  unfold hkT; split
  · simp
  · exact outT_len _ _
theorem outH_len (M : Nat → Option LnT) (g : Bool) (i : Nat) : (outH M g i).length ≤ 8 * i := by
  induction i with
  | zero => simp [outH]
  | succ i ih =>
    have h1 := okH_len (i := i) (l := hkT (outM M i) i g)
    have h2 := hkT_len (outM M i) i g
    simp only [outH, List.length_append]; omega
theorem outT_segB {L : LnT} (h : LnOk L) (g : Bool) : ∀ s ∈ outT L g, SegB s := by
  intro s hs
  have hb := outT_body h g s hs
  have h1 := h.boot; have h2 := h.stream; have h3 := h.first; have h5 := h.peer; have h6 := h.in0; have h7 := h.next; have h8 := h.len
  have hq : s.boot = L.boot ∧ s.stream = L.stream ∧ s.seq ≤ L.first + 8 ∧ s.ab = L.peer ∧ s.ast = L.in0 ∧ s.asq = L.next := by
    unfold outT segsL at hs
    split at hs
    · split at hs
      · simp at hs; subst hs; exact ⟨rfl, rfl, by show L.first ≤ L.first + 8; omega, rfl, rfl, rfl⟩
      · simp at hs
    · unfold outsL eachL at hs
      simp only [List.mem_map, List.mem_range'_1] at hs
      obtain ⟨p, ⟨i, hi, rfl⟩, rfl⟩ := hs
      have := L.to_le
      exact ⟨rfl, rfl, by show L.first + (i : Int) ≤ L.first + 8; omega, rfl, rfl, rfl⟩
  obtain ⟨e1, e2, e3, e4, e5, e6⟩ := hq
  exact ⟨⟨by omega, by omega, by omega, by omega, by omega, by omega⟩, by omega⟩
/-- A hub whose links lie in the blocks q. -/
def HbK (TH TL : TypeId) (C : (Nat → Option Nat) → Array Value) (S : Nat → Prop) (w : World) (b : Nat) (q : Nat → Option Nat) (M : Nat → Option LnT) : Prop := ∃ F, HbQ TH TL C q F S w b M
def HkP (S : Nat → Prop) (w : World) (b : Nat) (q : Nat → Option Nat) (M : Nat → Option LnT) : Prop := HbK 56 90 hubC S w b q M
def HkR (S : Nat → Prop) (w : World) (b : Nat) (q : Nat → Option Nat) (M : Nat → Option LnT) : Prop := HbK 63 86 hubR S w b q M
section
variable {TH TL : TypeId} {C : (Nat → Option Nat) → Array Value} {q : Nat → Option Nat} {S S' D : Nat → Prop} {w x : World} {b i : Nat} {M : Nat → Option LnT}
theorem HbK.ofS (h : HbK TH TL C S w b q M) : ∀ k, S k → k < w.heap.size := by obtain ⟨F, h⟩ := h; exact h.ofS
theorem HbK.keep (h : HbK TH TL C S w b q M) (hk : ∀ k, S k → x.heap[k]? = w.heap[k]?) : HbK TH TL C S x b q M := by obtain ⟨F, h⟩ := h; exact ⟨F, h.keep hk⟩
theorem HbK.gr {row : Option Nat} (h : HbK TH TL C S w b q M) (hg : w.grownBy x row) (hr : ∀ k, row = some k → ¬ S k) : HbK TH TL C S x b q M := h.keep fun q hq => hg.block q (h.ofS q hq) (fun e => hr q e.symm hq)
theorem HbK.but (h : HbK TH TL C S w b q M) (hb : But D w x) (ha : ∀ q, S q → D q → False) : HbK TH TL C S x b q M := h.keep fun q hq => hb.block q (h.ofS q hq) (fun hd => ha q hq hd)
theorem HbK.blk (h : HbK TH TL C S w b q M) : Blk w b TH (C q) := by obtain ⟨F, h⟩ := h; exact h.blk
theorem HbK.out_ok (h : HbK TH TL C S w b q M) (hi : i < 4) (g : Bool) : ∀ s ∈ hkT M i g, SegB s := by
  obtain ⟨F, h⟩ := h
  intro s hs
  rcases h.one i hi with ⟨h1, h2, h3⟩ | ⟨N, L, h1, h2, h3⟩
  · unfold hkT at hs; rw [h2] at hs; simp at hs
  · unfold hkT at hs; rw [h2] at hs; exact outT_segB h3.ok g s hs
end
section
variable {q : Nat → Option Nat} {S S' D : Nat → Prop} {w x : World} {b i : Nat} {M : Nat → Option LnT}
theorem HkP.ofS (h : HkP S w b q M) : ∀ k, S k → k < w.heap.size := HbK.ofS h
theorem HkP.gr {row : Option Nat} (h : HkP S w b q M) (hg : w.grownBy x row) (hr : ∀ k, row = some k → ¬ S k) : HkP S x b q M := HbK.gr h hg hr
theorem HkP.but (h : HkP S w b q M) (hb : But D w x) (ha : ∀ q, S q → D q → False) : HkP S x b q M := HbK.but h hb ha
theorem HkR.ofS (h : HkR S w b q M) : ∀ k, S k → k < w.heap.size := HbK.ofS h
theorem HkR.gr {row : Option Nat} (h : HkR S w b q M) (hg : w.grownBy x row) (hr : ∀ k, row = some k → ¬ S k) : HkR S x b q M := HbK.gr h hg hr
theorem HkR.but (h : HkR S w b q M) (hb : But D w x) (ha : ∀ q, S q → D q → False) : HkR S x b q M := HbK.but h hb ha
theorem kHubOut (w : World) (g : Bool) (hi : i < 4) (h : HkP S w b q M) : Calls Try.prog 26 #[ptQ (q i), .bool g] w fun e w' => ∃ (v : Value) (S' : Nat → Prop), e = .returned v ∧ HkP S' w' b q (hkN M i) ∧ w'.ownsRow w.heap.size 73 8 v (hkT M i g).length ((hkT M i g).flatMap segE) ∧ (∀ k, S' k → k < w.heap.size) ∧ Grew S S' w w' := by
  obtain ⟨F, h⟩ := h
  rcases h.one i hi with ⟨h1, h2, h3⟩ | ⟨N, L, h1, h2, h3⟩
  · rw [h1]
    refine (zoutL w _ g (.inl rfl)).mono ?_
    rintro e x ⟨rfl, rfl⟩
    have e1 : hkN M i = M := by unfold hkN; rw [h2]
    have e2 : hkT M i g = [] := by unfold hkT; rw [h2]
    rw [e1, e2]
    exact ⟨_, S, rfl, ⟨F, h⟩, World.ownsRow_nil _ _ _ _, h.ofS, fun k h => .inl h, But.refl _ _⟩
  · rw [h1]
    refine (kOut (b := N) (L := L) (S := F i) w g h3).mono ?_
    rintro e x ⟨v, S', rfl, h4, h5, h6, h7⟩
    have e1 : hkN M i = setM M i (outN L) := by unfold hkN; rw [h2]
    have e2 : hkT M i g = outT L g := by unfold hkT; rw [h2]
    rw [e1, e2]
    obtain ⟨F2, S2, h8, h9, h10⟩ := h.turnQ hi h1 h4 h7
    exact ⟨v, S2, rfl, ⟨F2, h8⟩, h5, fun k hk => by rcases h10 k hk with h11 | h11; exact h.ofS k h11; exact h6 k h11, h9⟩
/-- One that is not there tells nothing. -/
theorem HkR.none (h : HkR S w b q M) (hi : i < 4) (hn : (q i).isNone = true) : M i = none := by
  obtain ⟨F, h⟩ := h
  rcases h.one i hi with ⟨h1, h2, h3⟩ | ⟨N, L, h1, h2, h3⟩
  · exact h2
  · rw [h1] at hn; cases hn
end
theorem hkN_none {M : Nat → Option LnT} {i : Nat} (h : M i = none) : hkN M i = M := by unfold hkN; rw [h]
theorem hkT_none {M : Nat → Option LnT} {i : Nat} {g : Bool} (h : M i = none) : hkT M i g = [] := by unfold hkT; rw [h]
theorem outH_skip {M : Nat → Option LnT} {g : Bool} {i : Nat} (h : outM M i i = none) : outH M g i = outH M g (i + 1) := by
  show _ = outH M g i ++ okH i (hkT (outM M i) i g)
  rw [hkT_none h]; simp [okH]
theorem ix_hub (q : Nat → Option Nat) (i : Nat) (hi : i < 4) (w : World) : (Instr.index 54 (.agg #[ptQ (q 0), ptQ (q 1), ptQ (q 2), ptQ (q 3)]) (.int .i64 (i : Int))).run Try.prog w = .ok (ptQ (q i)) w := by
  have h : i = 0 ∨ i = 1 ∨ i = 2 ∨ i = 3 := by omega
  rcases h with rfl | rfl | rfl | rfl
  · have e : ∀ w : World, (Instr.index 54 (.agg #[ptQ (q 0), ptQ (q 1), ptQ (q 2), ptQ (q 3)]) (.int .i64 0)).run Try.prog w = .ok (ptQ (q 0)) w := fun w => by kernel_rfl
    exact e w
  · have e : ∀ w : World, (Instr.index 54 (.agg #[ptQ (q 0), ptQ (q 1), ptQ (q 2), ptQ (q 3)]) (.int .i64 1)).run Try.prog w = .ok (ptQ (q 1)) w := fun w => by kernel_rfl
    exact e w
  · have e : ∀ w : World, (Instr.index 54 (.agg #[ptQ (q 0), ptQ (q 1), ptQ (q 2), ptQ (q 3)]) (.int .i64 2)).run Try.prog w = .ok (ptQ (q 2)) w := fun w => by kernel_rfl
    exact e w
  · have e : ∀ w : World, (Instr.index 54 (.agg #[ptQ (q 0), ptQ (q 1), ptQ (q 2), ptQ (q 3)]) (.int .i64 3)).run Try.prog w = .ok (ptQ (q 3)) w := fun w => by kernel_rfl
    exact e w
section
variable {P : Program} {m : List (Nat × Value)} {o : Oper} {w : World}
theorem rn_indexAny {t : TypeId} {x r : Operand} {V I u : Value} (ho : o.op = .index t x r) (hq : ev m x = some V) (hr : ev m r = some I) (hx : ∀ w : World, (Instr.index t V I).run P w = .ok u w) : (execOp (lk m) o).run P w = .ok (.value u) w := by
  unfold execOp
  simp only [ho, lk_ev hq, lk_ev hr, Sem.run_bind, hx, Result.andThen_ok, Sem.run_pure]
theorem rn_indexAtAny {t : TypeId} {x r : Operand} {V I u : Value} (ho : o.op = .indexAddr t x r) (hq : ev m x = some V) (hr : ev m r = some I) (hx : ∀ w : World, (Instr.indexAt t V I).run P w = .ok u w) : (execOp (lk m) o).run P w = .ok (.value u) w := by
  unfold execOp
  simp only [ho, lk_ev hq, lk_ev hr, Sem.run_bind, hx, Result.andThen_ok, Sem.run_pure]
end
end Go.Proofs.Ytpcbgkmnjmiigaa

/- What is put is read as it was: without the program. Conditions: none. -/
namespace Go.Proofs.Ytpcbgkmnjmiigaa
open Go.RowKit Go.PlainAid

theorem extract_has {T t : ByteArray} {a : Nat} (h : has T a t.data.toList) (hs : a + t.size ≤ T.size) : T.extract a (a + t.size) = t := by
  apply ByteArray.ext
  apply Array.ext
  · simp; omega
  · intro j h1 h2
    have hj : j < t.data.toList.length := by simpa using h2
    have hb := h j hj
    rw [bt_data] at hb
    have hl : a + j < T.data.toList.length := by
      have : j < t.size := by simpa using h2
      simp only [Array.length_toList, ByteArray.size_data]; omega
    rw [List.getD_eq_getElem?_getD, List.getElem?_eq_getElem hl, Option.getD_some] at hb
    have hb2 : T.data.toList[a + j] = t.data.toList[j] := UInt8.toNat_inj.1 (by omega)
    simp only [ByteArray.data_extract, Array.getElem_extract]
    simpa using hb2
end Go.Proofs.Ytpcbgkmnjmiigaa

/- What a reader that has no error has eaten: the bytes that a writer would have put; what was put is read. Conditions: none. -/
namespace Go.Proofs.Ytpcbgkmnjmiigaa
open Go.RowKit Go.PlainAid

/-- From a to b stand the bytes l. -/
def eats (s : ByteArray) (a : Nat) (l : List UInt8) (b : Nat) : Prop := a ≤ b ∧ b ≤ s.size ∧ (s.data.toList.drop a).take (b - a) = l
theorem eats.nil {s : ByteArray} {a : Nat} (h : a ≤ s.size) : eats s a [] a := ⟨Nat.le_refl _, h, by simp⟩
theorem numR_of {T : ByteArray} {a : Nat} {n m : Int} (h0 : 0 ≤ n) (h1 : n ≤ m) (h2 : m ≤ 9223372036854775807) (h : has T a (putL n)) (hs : a + (putL n).length ≤ T.size) : numR T a 0 m = (n, ((a + (putL n).length : Nat) : Int), 0) := by
  have hg := get_put n h0 (by omega) hs h
  have hl := putL_len n
  have hu := upR_of (m := m) (x := 5) hg
  rw [if_neg (by simp), if_neg (by omega)] at hu
  unfold numR
  rw [if_neg (by simp), hu]
  simp only [if_true]
  congr 2; omega
theorem eats.whole {s : ByteArray} {l : List UInt8} (h : eats s 0 l s.size) : (⟨l.toArray⟩ : ByteArray) = s := by
  obtain ⟨_, _, h3⟩ := h
  have : l = s.data.toList := by
    rw [← h3, List.drop_zero, List.take_of_length_le (by simp)]
  subst this; simp
theorem textR_of {T t : ByteArray} {a : Nat} {m : Int} (ht : (t.size : Int) ≤ m) (hm : m ≤ 9223372036854775807) (h : has T a (putL (t.size : Int) ++ t.data.toList)) (hs : a + (putL (t.size : Int) ++ t.data.toList).length ≤ T.size) :
    textR T a 0 m = (t, ((a + (putL (t.size : Int) ++ t.data.toList).length : Nat) : Int), 0) := by
  have hlt : t.data.toList.length = t.size := by simp
  rw [List.length_append, hlt] at hs
  obtain ⟨h1, h2⟩ := has_app h
  have hg := get_put (t.size : Int) (by omega) (by omega) (by omega) h1
  have hl := putL_len (t.size : Int)
  have hu := upR_of (m := m) (x := 3) hg
  rw [if_neg (by simp), if_neg (by omega)] at hu
  have hn : ((a : Int) + lenOf (t.size : Int)).toNat = a + (putL (t.size : Int)).length := by omega
  unfold textR
  rw [if_neg (by simp), hu, if_neg (by simp)]
  simp only
  rw [if_neg (by omega), hn, Int.toNat_natCast, extract_has h2 (by omega), List.length_append, hlt]
  refine Prod.ext rfl (Prod.ext ?_ rfl)
  show (a : Int) + lenOf (t.size : Int) + (t.size : Int) = ((a + ((putL (t.size : Int)).length + t.size) : Nat) : Int)
  omega
end Go.Proofs.Ytpcbgkmnjmiigaa

/- Package link: what is put is read, what is read is put. Conditions: none. -/
namespace Go.Proofs.Ytpcbgkmnjmiigaa
open Go.RowKit
set_option linter.unusedVariables false
def segB (s : SegT) : List UInt8 := putL s.boot ++ (putL s.stream ++ (putL s.seq ++ (putL s.ab ++ (putL s.ast ++ (putL s.asq ++ ([flagB s.has] ++ (putL (s.body.size : Int) ++ s.body.data.toList)))))))
theorem wNum_ok {n : Int} {p : List UInt8 × Int} (h : (wNum n p).2 = 0) : p.2 = 0 ∧ 0 ≤ n ∧ wNum n p = (p.1 ++ putL n, 0) := by
  unfold wNum at h ⊢
  by_cases h1 : p.2 ≠ 0
  · rw [if_pos h1] at h; exact absurd h h1
  · rw [if_neg h1] at h ⊢
    by_cases h2 : n < 0
    · rw [if_pos h2] at h; cases h
    · rw [if_neg h2]; exact ⟨by omega, by omega, rfl⟩
theorem wFlag_ok {f : Bool} {p : List UInt8 × Int} (h : (wFlag f p).2 = 0) : p.2 = 0 ∧ wFlag f p = (p.1 ++ [flagB f], 0) := by
  unfold wFlag at h ⊢
  by_cases h1 : p.2 ≠ 0
  · rw [if_pos h1] at h; exact absurd h h1
  · rw [if_neg h1]; exact ⟨by omega, rfl⟩
theorem wText_ok {t : ByteArray} {p : List UInt8 × Int} (h : (wText t p).2 = 0) : p.2 = 0 ∧ wText t p = (p.1 ++ putL (t.size : Int) ++ t.data.toList, 0) := by
  unfold wText at h ⊢
  by_cases h1 : p.2 ≠ 0
  · rw [if_pos h1] at h; exact absurd h h1
  · rw [if_neg h1]; exact ⟨by omega, rfl⟩
def SegN (s : SegT) : Prop := 0 ≤ s.boot ∧ 0 ≤ s.stream ∧ 0 ≤ s.seq ∧ 0 ≤ s.ab ∧ 0 ≤ s.ast ∧ 0 ≤ s.asq
theorem segP_ok {s : SegT} (h : (segP s).2 = 0) : SegN s ∧ segP s = (segB s, 0) := by
  unfold segP at h ⊢
  obtain ⟨h8, e8⟩ := wText_ok h
  obtain ⟨h7, e7⟩ := wFlag_ok h8
  obtain ⟨h6, n6, e6⟩ := wNum_ok h7
  obtain ⟨h5, n5, e5⟩ := wNum_ok h6
  obtain ⟨h4, n4, e4⟩ := wNum_ok h5
  obtain ⟨h3, n3, e3⟩ := wNum_ok h4
  obtain ⟨h2, n2, e2⟩ := wNum_ok h3
  obtain ⟨h1, n1, e1⟩ := wNum_ok h2
  refine ⟨⟨n1, n2, n3, n4, n5, n6⟩, ?_⟩
  rw [e8, e7, e6, e5, e4, e3, e2, e1]
  simp [segB, List.append_assoc]
theorem segP_of {s : SegT} (h : SegN s) : segP s = (segB s, 0) := by
  obtain ⟨n1, n2, n3, n4, n5, n6⟩ := h
  have hn : ∀ (l : List UInt8) (n : Int), 0 ≤ n → wNum n (l, 0) = (l ++ putL n, 0) := fun l n h => by unfold wNum; rw [if_neg (by simp), if_neg (by omega)]
  unfold segP
  rw [hn _ _ n1, hn _ _ n2, hn _ _ n3, hn _ _ n4, hn _ _ n5, hn _ _ n6]
  unfold wFlag; rw [if_neg (by simp)]
  unfold wText; rw [if_neg (by simp)]
  simp [segB, List.append_assoc]
theorem putG_of {s : SegT} (h : SegN s) (hb : s.body.size ≤ 65536) : putG s = (⟨(segB s).toArray⟩, 0) := by
  have hd : doneW (segP s) = (⟨(segB s).toArray⟩, 0) := by rw [segP_of h]; rfl
  unfold putG; rw [hd, if_neg (by simp), if_neg (by omega)]
theorem putG_ok {s : SegT} (h : (putG s).2 = 0) : SegN s ∧ s.body.size ≤ 65536 ∧ putG s = (⟨(segB s).toArray⟩, 0) := by
  have h0 := h
  unfold putG at h
  by_cases h1 : (doneW (segP s)).2 ≠ 0
  · rw [if_pos h1] at h; exact absurd h h1
  · rw [if_neg h1] at h
    by_cases h2 : 65536 < s.body.size
    · rw [if_pos h2] at h; cases h
    · have h3 : (segP s).2 = 0 := by
        unfold doneW at h1
        by_cases h4 : (segP s).2 = 0
        · exact h4
        · rw [if_neg h4] at h1; exact absurd h4 h1
      have hN := (segP_ok h3).1
      exact ⟨hN, by omega, putG_of hN (by omega)⟩
theorem flagR_of {T : ByteArray} {a : Nat} {f : Bool} (h : has T a [flagB f]) (hs : a + 1 ≤ T.size) : flagR T a 0 = (f, ((a + 1 : Nat) : Int), 0) := by
  have hb := h 0 (by simp)
  simp only [Nat.add_zero, List.getElem_cons_zero] at hb
  unfold flagR
  rw [if_neg (by simp), if_neg (by omega), hb]
  cases f <;> simp [flagB]
/-- What is put is read as it was. -/
theorem put_read {s : SegT} (h : (putG s).2 = 0) (hm : s.boot ≤ 1073741824 ∧ s.stream ≤ 1073741824 ∧ s.seq ≤ 1073741824 ∧ s.ab ≤ 1073741824 ∧ s.ast ≤ 1073741824 ∧ s.asq ≤ 1073741824) : rdSeg (putG s).1 = (s, 0) := by
  obtain ⟨⟨n1, n2, n3, n4, n5, n6⟩, hb, hE⟩ := putG_ok h
  obtain ⟨m1, m2, m3, m4, m5, m6⟩ := hm
  rw [hE]
  show rdSeg ⟨(segB s).toArray⟩ = _
  obtain ⟨T, hT⟩ : ∃ T : ByteArray, T = ⟨(segB s).toArray⟩ := ⟨_, rfl⟩
  have hh : has T 0 (segB s) := by rw [hT]; exact has_self _
  have hs : T.size = (segB s).length := by rw [hT]; show (segB s).toArray.size = _; simp
  rw [← hT]
  unfold segB at hh hs
  simp only [List.length_append, List.length_singleton] at hs
  obtain ⟨k1, hh⟩ := has_app hh
  obtain ⟨k2, hh⟩ := has_app hh
  obtain ⟨k3, hh⟩ := has_app hh
  obtain ⟨k4, hh⟩ := has_app hh
  obtain ⟨k5, hh⟩ := has_app hh
  obtain ⟨k6, hh⟩ := has_app hh
  obtain ⟨k7, k8⟩ := has_app hh
  have r1 := numR_of (T := T) (a := 0) n1 m1 (by omega) k1 (by omega)
  have r2 := numR_of (T := T) n2 m2 (by omega) k2 (by omega)
  have r3 := numR_of (T := T) n3 m3 (by omega) k3 (by omega)
  have r4 := numR_of (T := T) n4 m4 (by omega) k4 (by omega)
  have r5 := numR_of (T := T) n5 m5 (by omega) k5 (by omega)
  have r6 := numR_of (T := T) n6 m6 (by omega) k6 (by omega)
  have r7 := flagR_of (T := T) k7 (by simp; omega)
  have r8 := textR_of (T := T) (t := s.body) (m := 65536) (by omega) (by omega) k8 (by simp only [List.length_append, List.length_singleton]; omega)
  have r1' : numR T 0 0 1073741824 = _ := r1
  have hend : endV T (0 + (putL s.boot).length + (putL s.stream).length + (putL s.seq).length + (putL s.ab).length + (putL s.ast).length + (putL s.asq).length + 1 + (putL (s.body.size : Int) ++ s.body.data.toList).length) 0 = 0 := by
    unfold endV; rw [if_pos rfl, if_neg (by rw [List.length_append]; omega)]
  unfold rdSeg
  simp only [r1', r2, r3, r4, r5, r6, Int.toNat_natCast, List.length_singleton] at r7 r8 hend ⊢
  simp only [r7, r8, Int.toNat_natCast, hend]
  rfl
end Go.Proofs.Ytpcbgkmnjmiigaa

/- catenalaw23: four hubs that tell one another, in rounds (pure). Conditions: none. -/
namespace Go.Proofs.Ytpcbgkmnjmiigaa
open Go.RowKit Go.PlainAid Go.Shelf
set_option linter.unusedVariables false
set_option linter.unusedSimpArgs false
abbrev LLT := Nat → Nat → LnT
abbrev SLT := Nat → Nat → List ByteArray
/-- A hub's links, out of all. -/
def hubM (LL : LLT) (i : Nat) : Nat → Option LnT := fun k => if k < 4 ∧ k ≠ i then some (LL i k) else none
def EqL (A B : LLT) : Prop := ∀ i k, i < 4 → k < 4 → i ≠ k → A i k = B i k
theorem hubM_eq {A B : LLT} (h : EqL A B) {i : Nat} (hi : i < 4) : hubM A i = hubM B i := by
  funext k; unfold hubM
  by_cases hk : k < 4 ∧ k ≠ i
  · rw [if_pos hk, if_pos hk, h i k hi hk.1 (fun e => hk.2 e.symm)]
  · rw [if_neg hk, if_neg hk]
theorem newM_hub {i : Nat} (hi : i < 4) : newM (i : Int) 1 4 = hubM (fun _ _ => newLn 1) i := by
  funext k; unfold newM hubM
  by_cases hk : k < 4 ∧ k ≠ i
  · rw [if_pos hk, if_pos ⟨hk.1, by omega⟩]
  · rw [if_neg hk, if_neg (fun h => hk ⟨h.1, by omega⟩)]
def outRow (LL : LLT) (i : Nat) : LLT := fun a k => if a = i then outN (LL a k) else LL a k
def setLL (LL : LLT) (i k : Nat) (L : LnT) : LLT := fun a b => if a = i ∧ b = k then L else LL a b
theorem hubM_set {LL : LLT} {i k : Nat} {L : LnT} (hk : k < 4 ∧ k ≠ i) : setM (hubM LL i) k L = hubM (setLL LL i k L) i := by
  funext j; unfold setM hubM setLL
  by_cases hj : j = k
  · subst hj; rw [if_pos rfl, if_pos hk, if_pos ⟨rfl, rfl⟩]
  · rw [if_neg hj]
    by_cases h2 : j < 4 ∧ j ≠ i
    · rw [if_pos h2, if_pos h2, if_neg (fun h => hj h.2)]
    · rw [if_neg h2, if_neg h2]
theorem hubM_off {LL : LLT} {i j k : Nat} {L : LnT} (h : j ≠ i) : hubM (setLL LL i k L) j = hubM LL j := by
  funext a; unfold hubM setLL
  by_cases h2 : a < 4 ∧ a ≠ j
  · rw [if_pos h2, if_pos h2, if_neg (fun e => h e.1)]
  · rw [if_neg h2, if_neg h2]
theorem hubM_row {LL : LLT} {i j : Nat} (h : j ≠ i) : hubM (outRow LL i) j = hubM LL j := by
  funext a; unfold hubM outRow
  by_cases h2 : a < 4 ∧ a ≠ j
  · rw [if_pos h2, if_pos h2, if_neg h]
  · rw [if_neg h2, if_neg h2]
theorem hkN_y {M : Nat → Option LnT} {i : Nat} {L : LnT} (h : M i = some L) : hkN M i = setM M i (outN L) := by unfold hkN; rw [h]
theorem hkT_y {M : Nat → Option LnT} {i : Nat} {g : Bool} {L : LnT} (h : M i = some L) : hkT M i g = outT L g := by unfold hkT; rw [h]
theorem outM_hub {LL : LLT} {i : Nat} (n : Nat) (hn : n ≤ 4) : outM (hubM LL i) n = fun k => if k < 4 ∧ k ≠ i then some (if k < n then outN (LL i k) else LL i k) else none := by
  induction n with
  | zero => funext k; show hubM LL i k = _; unfold hubM; split <;> simp
  | succ n ih =>
    show hkN (outM (hubM LL i) n) n = _
    rw [ih (by omega)]
    by_cases hi : n = i
    · rw [hkN_none (show (fun k => if k < 4 ∧ k ≠ i then some (if k < n then outN (LL i k) else LL i k) else none) n = none from if_neg (fun h => h.2 hi))]
      funext k
      by_cases hk : k < 4 ∧ k ≠ i
      · simp only [if_pos hk]
        by_cases h3 : k < n
        · rw [if_pos h3, if_pos (by omega)]
        · rw [if_neg h3, if_neg (by omega)]
      · simp only [if_neg hk]
    · rw [hkN_y (L := LL i n) (show (fun k => if k < 4 ∧ k ≠ i then some (if k < n then outN (LL i k) else LL i k) else none) n = some (LL i n) from (if_pos ⟨by omega, hi⟩).trans (by rw [if_neg (Nat.lt_irrefl n)]))]
      funext k
      unfold setM
      by_cases hk : k = n
      · subst hk; rw [if_pos rfl, if_pos ⟨by omega, hi⟩, if_pos (by omega)]
      · rw [if_neg hk]
        by_cases h2 : k < 4 ∧ k ≠ i
        · simp only [if_pos h2]
          by_cases h3 : k < n
          · rw [if_pos h3, if_pos (by omega)]
          · rw [if_neg h3, if_neg (by omega)]
        · simp only [if_neg h2]
theorem outM_all {LL : LLT} {i : Nat} : outM (hubM LL i) 4 = hubM (outRow LL i) i := by
  rw [outM_hub 4 (Nat.le_refl _)]
  funext k; unfold hubM outRow
  by_cases hk : k < 4 ∧ k ≠ i
  · rw [if_pos hk, if_pos hk, if_pos hk.1, if_pos rfl]
  · rw [if_neg hk, if_neg hk]
/-- What a hub tells, below the n-th. -/
def prsH (LL : LLT) (i : Nat) : Nat → List (Nat × SegT)
  | 0 => []
  | n + 1 => prsH LL i n ++ (if n = i then [] else (outT (LL i n) true).map fun g => (n, g))
def putP (p : Nat × SegT) : Int × ByteArray := ((p.1 : Int), (putG p.2).1)
def SegP (g : SegT) : Prop := mayT g = true ∧ g.body.size ≤ 65536
theorem SegP.put {g : SegT} (h : SegP g) : (putG g).2 = 0 := by
  obtain ⟨h1, h2, h3, h4, h5, h6, h7⟩ := mayT_iff.1 h.1
  rw [putG_of ⟨h1.1, h2.1, h3.1, h4.1, h5.1, h6.1⟩ h.2]
theorem SegP.read {g : SegT} (h : SegP g) : rdSeg (putG g).1 = (g, 0) := by
  obtain ⟨h1, h2, h3, h4, h5, h6, h7⟩ := mayT_iff.1 h.1
  exact put_read h.put ⟨h1.2, h2.2, h3.2, h4.2, h5.2, h6.2⟩
theorem okH_map {n : Nat} {l : List SegT} (h : ∀ g ∈ l, SegP g) : okH n l = (l.map fun g => (n, g)).map putP := by
  induction l with
  | nil => rfl
  | cons g r ih =>
    have h1 := (h g (by simp)).put
    show (g :: r).filterMap _ = putP (n, g) :: _
    rw [List.filterMap_cons]
    simp only [if_pos h1]
    have := ih (fun x hx => h x (by simp [hx]))
    unfold okH at this
    rw [this]; rfl
theorem outH_prs {LL : LLT} {i : Nat} (h : ∀ k, k < 4 → k ≠ i → ∀ g ∈ outT (LL i k) true, SegP g) (n : Nat) (hn : n ≤ 4) : outH (hubM LL i) true n = (prsH LL i n).map putP := by
  induction n with
  | zero => rfl
  | succ n ih =>
    show outH (hubM LL i) true n ++ okH n (hkT (outM (hubM LL i) n) n true) = (prsH LL i n ++ _).map putP
    rw [ih (by omega), List.map_append]
    congr 1
    rw [outM_hub n (by omega)]
    by_cases hi : n = i
    · rw [hkT_none (show (fun k => if k < 4 ∧ k ≠ i then some (if k < n then outN (LL i k) else LL i k) else none) n = none from if_neg (fun h => h.2 hi)), if_pos hi]; rfl
    · rw [hkT_y (L := LL i n) (show (fun k => if k < 4 ∧ k ≠ i then some (if k < n then outN (LL i k) else LL i k) else none) n = some (LL i n) from (if_pos ⟨by omega, hi⟩).trans (by rw [if_neg (Nat.lt_irrefl n)])), if_neg hi]
      exact okH_map (h n (by omega) hi)
theorem prs_mem {LL : LLT} {i n : Nat} {p : Nat × SegT} (h : p ∈ prsH LL i n) : p.1 < n ∧ p.1 ≠ i ∧ p.2 ∈ outT (LL i p.1) true := by
  induction n with
  | zero => cases h
  | succ n ih =>
    have h : p ∈ prsH LL i n ++ (if n = i then [] else (outT (LL i n) true).map fun g => (n, g)) := h
    rcases List.mem_append.1 h with h | h
    · have := ih h; exact ⟨by omega, this.2⟩
    · by_cases hi : n = i
      · rw [if_pos hi] at h; cases h
      · rw [if_neg hi] at h
        obtain ⟨g, hg, rfl⟩ := List.mem_map.1 h
        exact ⟨by show n < n + 1; omega, hi, hg⟩
/-- Those for one. -/
def forT (P : List (Nat × SegT)) (t : Nat) : List SegT := (P.filter (fun p => decide (p.1 = t))).map (·.2)
theorem forT_app (P Q : List (Nat × SegT)) (t : Nat) : forT (P ++ Q) t = forT P t ++ forT Q t := by unfold forT; rw [List.filter_append, List.map_append]
theorem forT_one (p : Nat × SegT) (t : Nat) : forT [p] t = if p.1 = t then [p.2] else [] := by
  unfold forT; by_cases h : p.1 = t <;> simp [h]
theorem forT_map (l : List SegT) (n t : Nat) : forT (l.map fun g => (n, g)) t = if n = t then l else [] := by
  unfold forT
  by_cases h : n = t
  · subst h; rw [if_pos rfl, List.filter_eq_self.2 (fun p hp => by obtain ⟨g, _, rfl⟩ := List.mem_map.1 hp; simp), List.map_map]; simp [Function.comp_def]
  · rw [if_neg h, List.filter_eq_nil_iff.2 (fun p hp => by obtain ⟨g, _, rfl⟩ := List.mem_map.1 hp; simpa using h)]; rfl
theorem forT_prs {LL : LLT} {i t : Nat} (n : Nat) : forT (prsH LL i n) t = if t < n ∧ t ≠ i then outT (LL i t) true else [] := by
  induction n with
  | zero => rw [if_neg (by omega)]; rfl
  | succ n ih =>
    show forT (prsH LL i n ++ _) t = _
    rw [forT_app, ih]
    by_cases hi : n = i
    · rw [if_pos hi]
      by_cases h1 : t < n ∧ t ≠ i
      · rw [if_pos h1, if_pos ⟨by omega, h1.2⟩]; simp [forT]
      · rw [if_neg h1, if_neg (fun h => h1 ⟨by omega, h.2⟩)]; simp [forT]
    · rw [if_neg hi, forT_map]
      by_cases h1 : t < n ∧ t ≠ i
      · rw [if_pos h1, if_neg (show ¬ n = t by omega), if_pos (show t < n + 1 ∧ t ≠ i from ⟨by omega, h1.2⟩), List.append_nil]
      · rw [if_neg h1]
        by_cases h2 : n = t
        · subst h2; rw [if_pos rfl, if_pos ⟨by omega, hi⟩]; rfl
        · rw [if_neg h2, if_neg (fun h => h1 ⟨by omega, h.2⟩)]; rfl
/-- The links while the i-th one's j first segments came. -/
def Dn (LL : LLT) (i j : Nat) : LLT := fun t a => if a < i then recv (outN (LL t a)) (outT (LL a t) true) else if a = i then recv (outN (LL t i)) (forT ((prsH LL i 4).take j) t) else outN (LL t a)
/-- What was told so far. -/
def Gn (LL : LLT) (gt : SLT) (i j : Nat) : SLT := fun a t => if a = t then gt a t else if a < i then gt a t ++ accL (outN (LL t a)) (outT (LL a t) true) else if a = i then gt a t ++ accL (outN (LL t i)) (forT ((prsH LL i 4).take j) t) else gt a t
theorem Dn_0 (LL : LLT) : EqL (outRow (outRow (outRow (outRow LL 0) 1) 2) 3) (Dn LL 0 0) := fun t a ht ha hne => by
  have e : (outRow (outRow (outRow (outRow LL 0) 1) 2) 3) t a = outN (LL t a) := by
    unfold outRow
    obtain h | h | h | h : t = 0 ∨ t = 1 ∨ t = 2 ∨ t = 3 := by omega
    all_goals subst h; simp
  rw [e]; unfold Dn
  rw [if_neg (by omega)]
  by_cases h : a = 0
  · subst h; rw [if_pos rfl]; rfl
  · rw [if_neg h]
theorem Dn_step {LL : LLT} {i j t : Nat} {g : SegT} (hp : (prsH LL i 4)[j]? = some (t, g)) : setLL (Dn LL i j) t i (inT (Dn LL i j t i) g).2.2 = Dn LL i (j + 1) := by
  funext x a
  have hf : ∀ y, forT ((prsH LL i 4).take (j + 1)) y = forT ((prsH LL i 4).take j) y ++ (if t = y then [g] else []) := fun y => by
    rw [List.take_add_one, hp, forT_app]; congr 1; exact forT_one (t, g) y
  unfold setLL
  by_cases h : x = t ∧ a = i
  · obtain ⟨rfl, rfl⟩ := h
    rw [if_pos ⟨rfl, rfl⟩]
    unfold Dn
    rw [if_neg (Nat.lt_irrefl _), if_pos rfl, if_neg (Nat.lt_irrefl _), if_pos rfl, hf, if_pos rfl, recv_snoc]
  · rw [if_neg h]
    unfold Dn
    by_cases h1 : a < i
    · rw [if_pos h1, if_pos h1]
    · rw [if_neg h1, if_neg h1]
      by_cases h2 : a = i
      · rw [if_pos h2, if_pos h2, hf, if_neg (fun e => h ⟨e.symm, h2⟩), List.append_nil]
      · rw [if_neg h2, if_neg h2]
theorem Gn_step {LL : LLT} {gt : SLT} {i j t : Nat} {g : SegT} (hp : (prsH LL i 4)[j]? = some (t, g)) (a b : Nat) : (if a = i ∧ b = t then Gn LL gt i j i t ++ (inT (Dn LL i j t i) g).1 else Gn LL gt i j a b) = Gn LL gt i (j + 1) a b := by
  have hm := prs_mem (List.mem_of_getElem? hp)
  have hti : t ≠ i := hm.2.1
  have hf : ∀ y, forT ((prsH LL i 4).take (j + 1)) y = forT ((prsH LL i 4).take j) y ++ (if t = y then [g] else []) := fun y => by
    rw [List.take_add_one, hp, forT_app]; congr 1; exact forT_one (t, g) y
  by_cases h : a = i ∧ b = t
  · obtain ⟨rfl, rfl⟩ := h
    rw [if_pos ⟨rfl, rfl⟩]
    unfold Gn Dn
    rw [if_neg (fun e => hti e.symm), if_neg (Nat.lt_irrefl _), if_pos rfl, if_neg (Nat.lt_irrefl _), if_pos rfl, if_neg (fun e => hti e.symm), if_neg (Nat.lt_irrefl _), if_pos rfl, hf, if_pos rfl, accL_snoc, List.append_assoc]
  · rw [if_neg h]
    unfold Gn
    by_cases h0 : a = b
    · rw [if_pos h0, if_pos h0]
    · rw [if_neg h0, if_neg h0]
      by_cases h1 : a < i
      · rw [if_pos h1, if_pos h1]
      · rw [if_neg h1, if_neg h1]
        by_cases h2 : a = i
        · rw [if_pos h2, if_pos h2, hf, if_neg (fun e => h ⟨h2, e.symm⟩), List.append_nil]
        · rw [if_neg h2, if_neg h2]
theorem take_prs {LL : LLT} {i j : Nat} (h : (prsH LL i 4).length ≤ j) (t : Nat) : forT ((prsH LL i 4).take j) t = if t < 4 ∧ t ≠ i then outT (LL i t) true else [] := by
  rw [List.take_of_length_le h, forT_prs]
theorem Dn_next {LL : LLT} {i j : Nat} (h : (prsH LL i 4).length ≤ j) : EqL (Dn LL i j) (Dn LL (i + 1) 0) := fun t a ht ha hne => by
  unfold Dn
  by_cases h1 : a < i
  · rw [if_pos h1, if_pos (by omega)]
  · rw [if_neg h1]
    by_cases h2 : a = i
    · subst h2; rw [if_pos rfl, if_pos (by omega), take_prs h, if_pos ⟨ht, hne⟩]
    · rw [if_neg h2, if_neg (by omega)]
      by_cases h3 : a = i + 1
      · subst h3; rw [if_pos rfl]; rfl
      · rw [if_neg h3]
theorem Gn_next {LL : LLT} {gt : SLT} {i j : Nat} (h : (prsH LL i 4).length ≤ j) (a t : Nat) (ht : t < 4) : Gn LL gt i j a t = Gn LL gt (i + 1) 0 a t := by
  unfold Gn
  by_cases h0 : a = t
  · rw [if_pos h0, if_pos h0]
  · rw [if_neg h0, if_neg h0]
    by_cases h1 : a < i
    · rw [if_pos h1, if_pos (by omega)]
    · rw [if_neg h1]
      by_cases h2 : a = i
      · subst h2; rw [if_pos rfl, if_pos (by omega), take_prs h, if_pos ⟨ht, fun e => h0 e.symm⟩]
      · rw [if_neg h2, if_neg (by omega)]
        by_cases h3 : a = i + 1
        · subst h3; rw [if_pos rfl]; simp [forT, accL]
        · rw [if_neg h3]
theorem Gn_0 (LL : LLT) (gt : SLT) (a t : Nat) : gt a t = Gn LL gt 0 0 a t := by
  unfold Gn
  by_cases h0 : a = t
  · rw [if_pos h0]
  · rw [if_neg h0, if_neg (by omega)]
    by_cases h : a = 0
    · subst h; rw [if_pos rfl]; simp [forT, accL]
    · rw [if_neg h]
/-- The links, what was told, behind r rounds. -/
def RDs (LL : LLT) : Nat → LLT
  | 0 => LL
  | r + 1 => fun i k => nx (RDs LL r i k) (RDs LL r k i)
def GTs (LL : LLT) : Nat → SLT
  | 0 => fun _ _ => []
  | r + 1 => fun a t => if a = t then GTs LL r a t else GTs LL r a t ++ accL (outN (RDs LL r t a)) (outT (RDs LL r a t) true)
theorem Dn_end {LL : LLT} : EqL (Dn LL 4 0) (fun i k => nx (LL i k) (LL k i)) := fun t a ht ha hne => by unfold Dn; rw [if_pos ha]; rfl
theorem Gn_end {LL : LLT} {r : Nat} {a t : Nat} (ha : a < 4) : Gn (RDs LL r) (GTs LL r) 4 0 a t = GTs LL (r + 1) a t := by
  unfold Gn
  show _ = if a = t then GTs LL r a t else GTs LL r a t ++ accL (outN (RDs LL r t a)) (outT (RDs LL r a t) true)
  by_cases h0 : a = t
  · rw [if_pos h0, if_pos h0]
  · rw [if_neg h0, if_neg h0, if_pos ha]
/-- All pairs. -/
structure HS (LL : LLT) (sn gt : SLT) : Prop where
  pr : ∀ i k, i < 4 → k < 4 → i ≠ k → HPr (LL i k) (LL k i) (sn i k) (gt i k) (sn k i) (gt k i) [] []
  di : ∀ i, sn i i = [] ∧ gt i i = []
theorem HS.new : HS (fun _ _ => newLn 1) (fun _ _ => []) (fun _ _ => []) := ⟨fun _ _ _ _ _ => .new, fun _ => ⟨rfl, rfl⟩⟩
theorem HS.rd {LL : LLT} {sn : SLT} (h : HS LL sn (fun _ _ => [])) (r : Nat) : HS (RDs LL r) sn (GTs LL r) := by
  induction r with
  | zero => exact h
  | succ r ih =>
    refine ⟨fun i k hi hk hne => ?_, fun i => ⟨(ih.di i).1, ?_⟩⟩
    · have h1 := (ih.pr i k hi hk hne).round
      show HPr (nx _ _) (nx _ _) _ (if i = k then _ else _) _ (if k = i then _ else _) [] []
      rw [if_neg hne, if_neg (fun e => hne e.symm)]
      exact h1
    · show (if i = i then GTs LL r i i else _) = []
      rw [if_pos rfl]; exact (ih.di i).2
theorem HS.segP {LL : LLT} {sn gt : SLT} (h : HS LL sn gt) {i k : Nat} (hi : i < 4) (hk : k < 4) (hne : k ≠ i) : ∀ g ∈ outT (LL i k) true, SegP g := fun g hg => by
  have h1 := h.pr i k hi hk (fun e => hne e.symm)
  exact ⟨h1.may true g hg, outT_body h1.okX true g hg⟩
theorem HS.fin {LL : LLT} {sn : SLT} (h : HS LL sn (fun _ _ => [])) {i k : Nat} (hi : i < 4) (hk : k < 4) : GTs LL 8 i k = sn i k ∧ (i ≠ k → (RDs LL 8 i k).q = []) := by
  by_cases hne : i = k
  · subst hne; exact ⟨(h.rd 8).di i |>.2.trans ((h.rd 8).di i).1.symm, fun e => absurd rfl e⟩
  · obtain ⟨h1, h2⟩ := fair8 (X := LL i k) (Y := LL k i) (tY := []) (tX := []) (fun r => RDs LL r i k) (fun r => RDs LL r k i) (fun r => GTs LL r i k) (fun r => GTs LL r k i) (fun r _ => (h.rd r).pr i k hi hk hne) (fun _ _ => rfl) (fun _ _ => rfl)
    exact ⟨h2, fun _ => h1⟩
theorem HS.send {LL : LLT} {sn : SLT} (h : HS LL sn (fun _ _ => [])) (h0 : ∀ i k, (LL i k).first = 0) {i k : Nat} (hi : i < 4) (hk : k < 4) (hne : k ≠ i) {s : ByteArray} (hs : (sendT (LL i k) s).1 = 0) :
    HS (setLL LL i k (sendT (LL i k) s).2) (fun a b => if a = i ∧ b = k then sn i k ++ [s] else sn a b) (fun _ _ => []) ∧ ∀ a b, (setLL LL i k (sendT (LL i k) s).2 a b).first = 0 := by
  have hp := h.pr i k hi hk (fun e => hne e.symm)
  obtain ⟨q1, q2⟩ := hp.send (h0 i k) hs
  refine ⟨⟨fun a b ha hb hab => ?_, fun a => ⟨?_, rfl⟩⟩, fun a b => ?_⟩
  · unfold setLL
    by_cases c1 : a = i ∧ b = k
    · obtain ⟨rfl, rfl⟩ := c1
      have e1 : a = a ∧ b = b := ⟨rfl, rfl⟩
      have e2 : ¬ (b = a ∧ a = b) := fun e => hab e.2
      simp only [if_pos e1, if_neg e2]
      exact q1
    · simp only [if_neg c1]
      by_cases c2 : b = i ∧ a = k
      · obtain ⟨rfl, rfl⟩ := c2
        have e1 : b = b ∧ a = a := ⟨rfl, rfl⟩
        simp only [if_pos e1]
        exact q1.symm
      · simp only [if_neg c2]; exact h.pr a b ha hb hab
  · show (if a = i ∧ a = k then _ else _) = _
    rw [if_neg (fun e => hne (e.2.symm.trans e.1))]; exact (h.di a).1
  · unfold setLL; split
    · exact q2
    · exact h0 a b
end Go.Proofs.Ytpcbgkmnjmiigaa

/- The program's hub: Out. Conditions: none. -/
namespace Go.Proofs.Ytpcbgkmnjmiigaa
open Go.RowKit Go.PlainAid
set_option linter.unusedVariables false

set_option maxRecDepth 100000 in
set_option maxHeartbeats 3200000 in
theorem hbOut_any (S : Nat → Prop) (b : Nat) (q : Nat → Option Nat) (M : Nat → Option LnT) (g : Bool) (w : World) (hH : HkP S w b q M) :
    Calls Try.prog 11 #[pt b 0, .bool g] w fun e w' => ∃ (v : Value) (S' : Nat → Prop), e = .returned (v) ∧ HkP S' w' b q (outM M 4) ∧ w'.ownsRow w.heap.size 51 2 v (outH M g 4).length ((outH M g 4).flatMap outE) ∧ (∀ i, v.ownBlock = some i → ¬ S' i) ∧ Grew S S' w w' ∧ But (S) w w' := by
 have hB0 := But.refl (S) w
 have hinS : ∀ k, S k → S k ∨ w.heap.size ≤ k := fun k hk => .inl hk
 refine co_enter (n := 46) Try.func11 rfl rfl rfl [(0, pt b 0), (1, .bool g)] rfl (fun a h0 => ?_)
 refine co_seq ?_
 refine co_reg ?_
 refine pk0 (v := .slice none 0 0) h0 rfl fun a1 h1 => ?_; clear h0
 refine pl_nil ?_
 refine co_then ?_
 refine co_seq ?_
 refine co_seq ?_
 refine co_reg ?_
 refine pk0 (v := pt b 0) h1 rfl fun a2 h2 => ?_; clear h1
 refine pw h2 rfl (op_call (args := #[pt b 0]) (R := fun res xw => res = .bool false ∧ w = xw) rfl rfl rfl (by kernel_rfl) (by kernel_rfl) (Try.call21 _ _) (hbZero_ok b q w (HbK.blk hH)) (by rintro e x ⟨rfl, rfl⟩; exact ⟨_, rfl, rfl, rfl⟩)) ?_; clear h2
 rintro _ _ a3 ⟨rfl, rfl⟩ h3
 refine pl_nil ?_
 refine co_then ?_
 refine co_false h3 rfl ?_
 refine wp_skip ?_
 refine co_then ?_
 refine co_seq ?_
 refine co_reg ?_
 refine pk0 (v := .slice none 0 0) h3 rfl fun a5 h5 => ?_; clear h3
 refine pl_nil ?_
 refine co_then ?_
 refine co_seq ?_
 refine co_seq ?_
 refine co_reg ?_
 refine pk0 (v := pt b 0) h5 rfl fun a6 h6 => ?_; clear h5
 refine pk0 (v := pt b 0) h6 rfl fun a7 h7 => ?_; clear h6
 refine pk0 (v := pt b 1) h7 rfl fun a8 h8 => ?_; clear h7
 refine pk (v := .agg #[ptQ (q 0), ptQ (q 1), ptQ (q 2), ptQ (q 3)]) h8 rfl (rn_loadN rfl rfl Try.underlying54 rfl (by kernel_rfl) (blk_part (HbK.blk hH) 1 (by rfl))) fun a9 h9 => ?_; clear h8
 refine pk0 (v := .int .i64 0) h9 rfl fun a10 h10 => ?_; clear h9
 refine pl_nil ?_
 refine co_then ?_
 refine wp_block ?_
 have hin9 := hinS
 have hof9 : ∀ i, (Value.slice none 0 0).ownBlock = some i → ¬ S i := offR_nil
 have h11 : Slots 46 [(1, .bool g), (5, .slice none 0 0), (17, .agg #[ptQ (q 0), ptQ (q 1), ptQ (q 2), ptQ (q 3)]), (18, .int .i64 0)] _ := h10.sub ⟨rfl, rfl, rfl, rfl, trivial⟩; clear h10
 refine co_loop (fun mm a x => ∃ (i : Nat) (v : Value) (SA : Nat → Prop), Slots 46 [(1, .bool g), (5, v), (17, .agg #[ptQ (q 0), ptQ (q 1), ptQ (q 2), ptQ (q 3)]), (18, .int .i64 ((i : Nat) : Int))] a ∧ mm = 4 - i ∧ (i ≤ 4) ∧ (∀ k, SA k → S k ∨ w.heap.size ≤ k) ∧ (∀ i, v.ownBlock = some i → ¬ SA i) ∧ HkP SA x b q (outM M i) ∧ x.ownsRow w.heap.size 51 2 v (outH M g i).length ((outH M g i).flatMap outE) ∧ But (S) w x) (4 - 0) ?_ ?_
 · exact ⟨0, (.slice none 0 0), S, h11.sub ⟨rfl, rfl, rfl, (slot_eq rfl (congrArg (Value.int .i64) (by first | rfl | omega))), trivial⟩, rfl, by omega, by exact hin9, by exact hof9, hH, (row_nilL _ _ _ _ _), hB0⟩
 · rintro k12 a13 w14 ⟨i, v, SA, h13, rfl, hi15, hi16, hi17, hf18, hf19, hB20⟩
   have hz21 := hB20.size
   have hinA : ∀ k, SA k → S k ∨ w.heap.size ≤ k := by assumption
   have hofA : ∀ i, v.ownBlock = some i → ¬ SA i := by assumption
   have hl22 := outH_len M g i
   refine co_seq ?_
   refine co_reg ?_
   refine pk0 (v := .bool (decide (((i : Nat) : Int) < 4))) h13 rfl fun a23 h23 => ?_; clear h13
   refine pl_nil ?_
   refine co_then ?_
   refine co_seq ?_
   cases hc24 : (decide (((i : Nat) : Int) < 4))
   ·
    rw [hc24] at h23
    have hp25 : ¬ (((i : Nat) : Int) < 4) := of_decide_eq_false hc24
    clear hc24
    refine co_false h23 rfl ?_
    refine wp_exit ?_
    refine co_thenX ?_
    refine co_thenX ?_
    refine co_blockX ?_
    refine co_then ?_
    refine co_seq ?_
    refine co_reg ?_
    refine pk0 (v := v) h23 rfl fun a26 h26 => ?_; clear h23
    refine pk0 (v := v) h26 rfl fun a27 h27 => ?_; clear h26
    refine pl_nil ?_
    refine co_then ?_
    refine wp_ret ?_
    refine co_ret1 h27 rfl rfl ?_
    obtain rfl : i = 4 := by omega
    exact ⟨_, SA, rfl, hf18, hf19, hofA, ⟨hinA, hB20⟩, hB20⟩
   ·
    rw [hc24] at h23
    have hp28 : ((i : Nat) : Int) < 4 := of_decide_eq_true hc24
    clear hc24
    refine co_true h23 rfl ?_
    refine wp_skip ?_
    refine co_then ?_
    refine co_seq ?_
    refine wp_block ?_
    refine co_seq ?_
    refine co_reg ?_
    refine pk0 (v := .int .i64 ((i : Nat) : Int)) h23 rfl fun a29 h29 => ?_; clear h23
    refine pk (v := (ptQ (q i))) h29 rfl (rn_indexAny rfl rfl rfl (ix_hub q i (by omega))) fun a30 h30 => ?_; clear h29
    refine pk0 (v := .int .i64 ((i : Nat) : Int)) h30 rfl fun a31 h31 => ?_; clear h30
    refine pk0 (v := (ptQ (q i))) h31 rfl fun a32 h32 => ?_; clear h31
    refine pl_nil ?_
    refine co_then ?_
    refine co_seq ?_
    refine co_reg ?_
    refine pk0 (v := (ptQ (q i))) h32 rfl fun a33 h33 => ?_; clear h32
    refine pk0 (v := .bool g) h33 rfl fun a34 h34 => ?_; clear h33
    have ho37 := HkP.ofS hf18
    refine pw h34 rfl (op_call (args := #[(ptQ (q i)), .bool g]) (R := fun res xw => ∃ v : Value, ∃ S' : Nat → Prop, res = v ∧ HkP S' xw b q (hkN (outM M i) i) ∧ (xw.ownsRow w14.heap.size 73 8 v (hkT (outM M i) i g).length ((hkT (outM M i) i g).flatMap segE)) ∧ (∀ q, S' q → q < w14.heap.size) ∧ Grew SA S' w14 xw) rfl rfl rfl (by kernel_rfl) (by kernel_rfl) (Try.call26 _ _) (kHubOut w14 g (by omega) hf18) (by rintro e x ⟨v, S', h0, h⟩; exact ⟨_, h0, v, S', rfl, h⟩)) ?_; clear h34
    rintro v38 w36 a35 ⟨_, S39, rfl, hO40, hq42, hq43, hx41⟩ h35
    have hB44 := fbU_foot hB20 hx41.but (fun i hi hq => by rcases hinA i hq with k | k; exact k; omega)
    have hz45 := hB44.size
    have hz46 := hx41.but.size
    have hin47 : ∀ q, S39 q → S q ∨ w.heap.size ≤ q := fun q hq => by rcases hx41.sub q hq with k | k; exact hinA q k; exact .inr (by omega)
    have hbody := HbK.out_ok hf18 (i := i) (by omega) g
    have hl48 := hkT_len (outM M i) i g
    refine pk (v := .int .i64 (((hkT (outM M i) i g).length : Nat) : Int)) h35 rfl (rn_lenOwn rfl rfl Try.underlying70 hq42) fun a49 h49 => ?_; clear h35
    refine pk0 (v := .int .i64 0) h49 rfl fun a50 h50 => ?_; clear h49
    refine pl_nil ?_
    refine co_then ?_
    refine wp_block ?_
    have hin8 := hin47
    have hof8 : ∀ i, v.ownBlock = some i → ¬ S39 i := (Grew.offR hx41 hf19 hofA)
    have hor8 : ∀ i, v38.ownBlock = some i → ¬ S39 i := (offR_row hq43 hq42 (Nat.le_refl _))
    have h51 : Slots 46 [(1, .bool g), (5, v), (6, .int .i64 ((i : Nat) : Int)), (17, .agg #[ptQ (q 0), ptQ (q 1), ptQ (q 2), ptQ (q 3)]), (18, .int .i64 ((i : Nat) : Int)), (24, v38), (25, .int .i64 (((hkT (outM M i) i g).length : Nat) : Int)), (26, .int .i64 0)] _ := h50.sub ⟨rfl, rfl, rfl, rfl, rfl, rfl, rfl, rfl, trivial⟩; clear h50
    refine co_loop (fun mm a x => ∃ (k : Nat) (u : Value) (SB : Nat → Prop), Slots 46 [(1, .bool g), (5, u), (6, .int .i64 ((i : Nat) : Int)), (17, .agg #[ptQ (q 0), ptQ (q 1), ptQ (q 2), ptQ (q 3)]), (18, .int .i64 ((i : Nat) : Int)), (24, v38), (25, .int .i64 (((hkT (outM M i) i g).length : Nat) : Int)), (26, .int .i64 ((k : Nat) : Int))] a ∧ mm = (hkT (outM M i) i g).length - k ∧ (k ≤ (hkT (outM M i) i g).length) ∧ (∀ k, SB k → S k ∨ w.heap.size ≤ k) ∧ (∀ i, u.ownBlock = some i → ¬ SB i) ∧ (∀ i, v38.ownBlock = some i → ¬ SB i) ∧ HkP SB x b q (hkN (outM M i) i) ∧ x.ownsRow w14.heap.size 73 8 v38 (hkT (outM M i) i g).length ((hkT (outM M i) i g).flatMap segE) ∧ x.ownsRow w.heap.size 51 2 u (outH M g i ++ okH i ((hkT (outM M i) i g).take k)).length ((outH M g i ++ okH i ((hkT (outM M i) i g).take k)).flatMap outE) ∧ But (S) w x) ((hkT (outM M i) i g).length - 0) ?_ ?_
    have hr52 := own_butS hf19 hx41.but hofA
    · exact ⟨0, v, S39, h51.sub ⟨rfl, rfl, rfl, rfl, rfl, rfl, rfl, (slot_eq rfl (congrArg (Value.int .i64) (by first | rfl | omega))), trivial⟩, rfl, by omega, by exact hin8, by exact hof8, by exact hor8, hO40, hq42, (row_eq hr52 (by first | exact okH_nil | exact okH_yes (by assumption) (by assumption) | exact okH_no (by assumption) (by assumption))), hB44⟩
    · rintro k53 a54 w55 ⟨k, u, SB, h54, rfl, hi56, hi57, hi58, hi59, hf60, hf61, hf62, hB63⟩
      have hz64 := hB63.size
      have hinB : ∀ k, SB k → S k ∨ w.heap.size ≤ k := by assumption
      have hofB : ∀ i, u.ownBlock = some i → ¬ SB i := by assumption
      have horB : ∀ i, v38.ownBlock = some i → ¬ SB i := by assumption
      have hl65 := okH_len (i := i) (l := (hkT (outM M i) i g).take k)
      have hlk : ((hkT (outM M i) i g).take k).length ≤ k := List.length_take_le _ _
      have hl66 : (outH M g i ++ okH i ((hkT (outM M i) i g).take k)).length ≤ 8 * i + k := by rw [List.length_append]; omega
      refine co_seq ?_
      refine co_reg ?_
      refine pk0 (v := .bool (decide (((k : Nat) : Int) < (((hkT (outM M i) i g).length : Nat) : Int)))) h54 rfl fun a67 h67 => ?_; clear h54
      refine pl_nil ?_
      refine co_then ?_
      refine co_seq ?_
      cases hc68 : (decide (((k : Nat) : Int) < (((hkT (outM M i) i g).length : Nat) : Int)))
      ·
       rw [hc68] at h67
       have hp69 : ¬ (((k : Nat) : Int) < (((hkT (outM M i) i g).length : Nat) : Int)) := of_decide_eq_false hc68
       clear hc68
       refine co_false h67 rfl ?_
       refine wp_exit ?_
       refine co_thenX ?_
       refine co_thenX ?_
       refine co_blockX ?_
       refine co_blockN ?_
       refine co_then ?_
       refine co_reg ?_
       refine pk (v := .int .i64 ((i + 1 : Nat) : Int)) h67 rfl (rn_arith' rfl rfl rfl rfl rfl rfl (IntWalk.i64_in _ (by omega)) (by omega)) fun a70 h70 => ?_; clear h67
       refine pk0 (v := .int .i64 ((i + 1 : Nat) : Int)) h70 rfl fun a71 h71 => ?_; clear h70
       refine pl_nil ?_
       refine co_then ?_
       refine ⟨(4 - (i + 1)), by omega, ?_⟩
       have hin9 := hinB
       have hof9 : ∀ i, u.ownBlock = some i → ¬ SB i := hofB
       exact ⟨i + 1, u, SB, h71.sub ⟨rfl, rfl, rfl, rfl, trivial⟩, rfl, by omega, by exact hin9, by exact hof9, hf60, (row_eq hf62 (by first | rfl | exact okH_all (by omega) | exact outH_skip hnM)), hB63⟩
      ·
       rw [hc68] at h67
       have hp72 : ((k : Nat) : Int) < (((hkT (outM M i) i g).length : Nat) : Int) := of_decide_eq_true hc68
       clear hc68
       refine co_true h67 rfl ?_
       refine wp_skip ?_
       refine co_then ?_
       refine co_seq ?_
       refine wp_block ?_
       refine co_seq ?_
       refine co_reg ?_
       obtain ⟨y73, hy73⟩ : ∃ z, (hkT (outM M i) i g)[k]? = some z := ⟨_, List.getElem?_eq_getElem (by first | omega | (simp; done) | (simp; omega))⟩
       refine pk (v := pt (blkOf v38) (offOf v38 + k * 8)) h67 rfl (rn_index rfl rfl rfl Try.underlying70 Try.sizeOf73 (row_sl hf61 segE_len) (by omega) (by first | omega | (simp; done) | (simp; omega))) fun a74 h74 => ?_; clear h67
       refine pk (v := .agg #[.int .i64 y73.boot, .int .i64 y73.stream, .int .i64 y73.seq, .int .i64 y73.ab, .int .i64 y73.ast, .int .i64 y73.asq, .bool y73.has, .string y73.body]) h74 rfl (rn_loadN rfl rfl Try.underlying73 rfl (by kernel_rfl) (sl_at (row_sl hf61 segE_len) hy73)) fun a75 h75 => ?_; clear h74
       refine pw h75 rfl (op_new (v := fun N => pt N 0) (T := 73) (cs := #[.int .i64 0, .int .i64 0, .int .i64 0, .int .i64 0, .int .i64 0, .int .i64 0, .bool false, .string (⟨#[]⟩)]) (by kernel_rfl) (by kernel_rfl) (by kernel_rfl)) ?_; clear h75
       rintro _ w77 a76 ⟨N78, rfl, hN81, hz82, hk80, hg79⟩ h76
       have ha83 := row_fresh hf61 hN81
       have hu84 := row_under hf61 hN81
       have ha85 := row_fresh hf62 hN81
       have hu86 := row_under hf62 hN81
       have hz87 := hg79.size
       have ho88 := off_new (HkP.ofS hf60) hN81
       try dsimp only at h76
       refine pwD h76 rfl (op_storeN rfl rfl rfl (by kernel_rfl) (by kernel_rfl) hk80 rfl) ?_; clear h76
       rintro _ w90 a89 ⟨hk91, hz92, hg93⟩ h89
       have hk91' : Blk w90 N78 73 #[.int .i64 y73.boot, .int .i64 y73.stream, .int .i64 y73.seq, .int .i64 y73.ab, .int .i64 y73.ast, .int .i64 y73.asq, .bool y73.has, .string y73.body] := hk91; clear hk91
       have hz94 := hg93.size
       refine pl_nil ?_
       refine co_then ?_
       refine co_seq ?_
       refine co_reg ?_
       refine pk (v := .agg #[.int .i64 y73.boot, .int .i64 y73.stream, .int .i64 y73.seq, .int .i64 y73.ab, .int .i64 y73.ast, .int .i64 y73.asq, .bool y73.has, .string y73.body]) h89 rfl (rn_loadN rfl rfl Try.underlying73 rfl (by kernel_rfl) hk91'.all) fun a95 h95 => ?_; clear h89
       have hB98 := fbU_new hB63 hg79
       have hB99 := fbU_at hB98 hg93 (fun hlt => absurd hlt (by omega))
       have hO100 := HkP.gr hf60 hg79 (fun k e => by cases e)
       have hO101 := HkP.gr hO100 hg93 (fun k e => by cases e; exact ho88)
       have hr102 := row_kept_new hf61 hg79
       have hr103 := row_kept_at hr102 hg93 (ha83)
       have hr104 := row_kept_new hf62 hg79
       have hr105 := row_kept_at hr104 hg93 (ha85)
       refine pw h95 rfl (op_call (args := #[.agg #[.int .i64 y73.boot, .int .i64 y73.stream, .int .i64 y73.seq, .int .i64 y73.ab, .int .i64 y73.ast, .int .i64 y73.asq, .bool y73.has, .string y73.body]]) (R := fun res xw => res = .tuple #[.string ((putG y73).1), .int .i64 ((putG y73).2)] ∧ Below w90.heap.size w90 xw) rfl rfl rfl (by kernel_rfl) (by kernel_rfl) (Try.call27 _ _) (lkPut_any y73 w90 (hbody y73 (List.mem_of_getElem? hy73))) (by rintro e x ⟨rfl, h⟩; exact ⟨_, rfl, rfl, h⟩)) ?_; clear h95
       rintro _ w97 a96 ⟨rfl, hb106⟩ h96
       have hz107 := hb106.size
       have ho108 := HkP.ofS hO101
       refine pk0 (v := .tuple #[.string ((putG y73).1), .int .i64 ((putG y73).2)]) h96 rfl fun a109 h109 => ?_; clear h96
       refine pk0 (v := .string ((putG y73).1)) h109 rfl fun a110 h110 => ?_; clear h109
       refine pk0 (v := .int .i64 ((putG y73).2)) h110 rfl fun a111 h111 => ?_; clear h110
       refine pk0 (v := .string ((putG y73).1)) h111 rfl fun a112 h112 => ?_; clear h111
       refine pk0 (v := .int .i64 ((putG y73).2)) h112 rfl fun a113 h113 => ?_; clear h112
       refine pl_nil ?_
       refine co_then ?_
       refine co_seq ?_
       refine co_reg ?_
       refine pk0 (v := .int .i64 ((putG y73).2)) h113 rfl fun a114 h114 => ?_; clear h113
       refine pk0 (v := .bool ((putG y73).2 == 0)) h114 rfl fun a115 h115 => ?_; clear h114
       refine pl_nil ?_
       refine co_then ?_
       have hB117 := fbU_call hB99 hb106
       cases hc116 : ((putG y73).2 == 0)
       ·
        rw [hc116] at h115
        have hp118 : ¬ ((putG y73).2 = 0) := by first | simpa using hc116 | simpa [and_assoc] using hc116
        clear hc116
        refine co_false h115 rfl ?_
        refine wp_skip ?_
        refine co_blockN ?_
        refine co_then ?_
        refine co_reg ?_
        refine pk (v := .int .i64 ((k + 1 : Nat) : Int)) h115 rfl (rn_arith' rfl rfl rfl rfl rfl rfl (IntWalk.i64_in _ (by omega)) (by omega)) fun a119 h119 => ?_; clear h115
        refine pk0 (v := .int .i64 ((k + 1 : Nat) : Int)) h119 rfl fun a120 h120 => ?_; clear h119
        refine pl_nil ?_
        refine co_then ?_
        refine ⟨((hkT (outM M i) i g).length - (k + 1)), by omega, ?_⟩
        have hin8 := hinB
        have hof8 : ∀ i, u.ownBlock = some i → ¬ SB i := hofB
        have hor8 : ∀ i, v38.ownBlock = some i → ¬ SB i := horB
        have hO121 := HkP.gr hO101 (below_grown hb106) (fun k e => by cases e)
        have hr122 := row_kept_new hr103 (below_grown hb106)
        have hr123 := row_kept_new hr105 (below_grown hb106)
        exact ⟨k + 1, u, SB, h120.sub ⟨rfl, rfl, rfl, rfl, rfl, rfl, rfl, rfl, trivial⟩, rfl, by omega, by exact hin8, by exact hof8, by exact hor8, hO121, hr122, (row_eq hr123 (by first | exact okH_nil | exact okH_yes (by assumption) (by assumption) | exact okH_no (by assumption) (by assumption))), hB117⟩
       ·
        rw [hc116] at h115
        have hp124 : (putG y73).2 = 0 := by first | simpa using hc116 | simpa [and_assoc] using hc116
        clear hc116
        refine co_true h115 rfl ?_
        refine co_reg ?_
        refine pk0 (v := u) h115 rfl fun a125 h125 => ?_; clear h115
        refine pk0 (v := .int .i64 ((i : Nat) : Int)) h125 rfl fun a126 h126 => ?_; clear h125
        refine pk0 (v := .string ((putG y73).1)) h126 rfl fun a127 h127 => ?_; clear h126
        refine pk0 (v := .agg #[.int .i64 ((i : Nat) : Int), .string ((putG y73).1)]) h127 rfl fun a128 h128 => ?_; clear h127
        refine pw h128 rfl (op_new (v := fun N => .slice (some ⟨N, 0, none⟩) 1 1) (T := 51) (cs := #[.int .i64 ((i : Nat) : Int), .string ((putG y73).1)]) (by kernel_rfl) (by kernel_rfl) (by kernel_rfl)) ?_; clear h128
        rintro _ w130 a129 ⟨N131, rfl, hN134, hz135, hk133, hg132⟩ h129
        have hr137 := row_kept_new hr103 (below_grown hb106)
        have ha136 := row_fresh hr137 hN134
        have hu138 := row_under hr137 hN134
        have hr140 := row_kept_new hr105 (below_grown hb106)
        have ha139 := row_fresh hr140 hN134
        have hu141 := row_under hr140 hN134
        have hz142 := hg132.size
        have hO144 := HkP.gr hO101 (below_grown hb106) (fun k e => by cases e)
        have ho143 := off_new (HkP.ofS hO144) hN134
        try dsimp only at h129
        have hr151 := row_kept_new hr140 hg132
        refine pw h129 rfl (op_appendF rfl w.heap.size 51 (z := .agg #[.int .i64 0, .string (⟨#[]⟩)]) (size := 2) (bytes := 24) Try.underlying35 (by kernel_rfl) rfl rfl rfl hr151 rfl hk133 rfl (by kernel_rfl) (by first | omega | (simp only [List.length_nil, List.length_append, List.length_cons, List.length_take, List.length_drop]; omega)) (by first | omega | (simp only [List.length_nil, List.length_append, List.length_cons, List.length_take, List.length_drop]; omega)) (by omega)) ?_; clear h129
        rintro v147 w146 a145 ⟨hr148, hwt150, hg149⟩ h145
        have hr148' : w146.ownsRow w.heap.size 51 2 v147 (((outH M g i ++ okH i ((hkT (outM M i) i g).take k)) ++ [(((i : Nat) : Int), (putG y73).1)]).length) (((outH M g i ++ okH i ((hkT (outM M i) i g).take k)) ++ [(((i : Nat) : Int), (putG y73).1)]).flatMap outE) := row_push (y := (((i : Nat) : Int), (putG y73).1)) hr148 rfl rfl; clear hr148
        have hB154 := fbU_new hB117 hg132
        have hk155 := hk91'.below hb106
        have hk156 := hk155.kept hg132 (by simp)
        have hO157 := HkP.gr hO144 hg132 (fun k e => by cases e)
        have ho153 := HkP.ofS hO157
        have ho152 := offR_went hofB ho153 hwt150
        have hz158 := hg149.size
        refine pk0 (v := v147) h145 rfl fun a159 h159 => ?_; clear h145
        refine pl_nil ?_
        refine co_blockN ?_
        refine co_then ?_
        refine co_reg ?_
        refine pk (v := .int .i64 ((k + 1 : Nat) : Int)) h159 rfl (rn_arith' rfl rfl rfl rfl rfl rfl (IntWalk.i64_in _ (by omega)) (by omega)) fun a160 h160 => ?_; clear h159
        refine pk0 (v := .int .i64 ((k + 1 : Nat) : Int)) h160 rfl fun a161 h161 => ?_; clear h160
        refine pl_nil ?_
        refine co_then ?_
        refine ⟨((hkT (outM M i) i g).length - (k + 1)), by omega, ?_⟩
        have hin8 := hinB
        have hof8 : ∀ i, v147.ownBlock = some i → ¬ SB i := ho152
        have hor8 : ∀ i, v38.ownBlock = some i → ¬ SB i := horB
        have hO162 := HkP.gr hO157 hg149 (fun k e => hofB k e)
        have hr163 := row_kept_new hr137 hg132
        have hr164 := row_kept_row hr163 hr151 hg149 (by decide)
        have hB165 := fbU_row hB154 (InS.low hr151 (by omega)) hg149
        exact ⟨k + 1, v147, SB, h161.sub ⟨rfl, rfl, rfl, rfl, rfl, rfl, rfl, rfl, trivial⟩, rfl, by omega, by exact hin8, by exact hof8, by exact hor8, hO162, hr164, (row_eq hr148' (by first | exact okH_nil | exact okH_yes (by assumption) (by assumption) | exact okH_no (by assumption) (by assumption))), hB165⟩
end Go.Proofs.Ytpcbgkmnjmiigaa

/- Package hub: both hubs as objects; catenalaw23: awake. Conditions: none. -/
namespace Go.Proofs.Ytpcbgkmnjmiigaa
open Go.RowKit Go.PlainAid
set_option linter.unusedVariables false


section
variable {S S' D : Nat → Prop} {w x : World} {b : Nat} {M : Nat → Option LnT}
theorem HbP.ofS (h : HbP S w b M) : ∀ q, S q → q < w.heap.size := HbX.ofS h
theorem HbP.gr {row : Option Nat} (h : HbP S w b M) (hg : w.grownBy x row) (hr : ∀ k, row = some k → ¬ S k) : HbP S x b M := HbX.gr h hg hr
theorem HbP.but (h : HbP S w b M) (hb : But D w x) (ha : ∀ q, S q → D q → False) : HbP S x b M := HbX.but h hb ha
theorem HbR.ofS (h : HbR S w b M) : ∀ q, S q → q < w.heap.size := HbX.ofS h
theorem HbR.gr {row : Option Nat} (h : HbR S w b M) (hg : w.grownBy x row) (hr : ∀ k, row = some k → ¬ S k) : HbR S x b M := HbX.gr h hg hr
theorem HbR.but (h : HbR S w b M) (hb : But D w x) (ha : ∀ q, S q → D q → False) : HbR S x b M := HbX.but h hb ha
theorem pHOut (w : World) (g : Bool) (h : HbP S w b M) : Calls Try.prog 11 #[pt b 0, .bool g] w fun e w' => ∃ (v : Value) (S' : Nat → Prop), e = .returned v ∧ HbP S' w' b (outM M 4) ∧ w'.ownsRow w.heap.size 51 2 v (outH M g 4).length ((outH M g 4).flatMap outE) ∧ (∀ i, v.ownBlock = some i → ¬ S' i) ∧ Grew S S' w w' := by
  obtain ⟨q, h⟩ := h
  exact (hbOut_any S b q M g w h).mono fun e x ⟨v, S', h1, h2, h3, h4, h5, _⟩ => ⟨v, S', h1, ⟨q, h2⟩, h3, h4, h5⟩
theorem pHNew (self boot : Int) (w : World) (hs : 0 ≤ self ∧ self < 4) (h : 1 ≤ boot ∧ boot ≤ 1073741824) : Calls Try.prog 6 #[.int .i64 self, .int .i64 boot] w fun e w' => ∃ (N : Nat) (S : Nat → Prop), e = .returned (.tuple #[pt N 0, .int .i64 0]) ∧ HbP S w' N (newM self boot 4) ∧ (∀ k, S k → w.heap.size ≤ k) ∧ Below w.heap.size w w' :=
  (hbNew_ok self boot w hs h).mono fun e x ⟨S, h1, h2, h3, h4⟩ => ⟨_, S, h1, h2, h3, h4⟩
end
def hM1 : Nat → Option LnT := (hSendT (newM 0 1 4) 2 ⟨#[120]⟩).2
theorem aw_out : outH hM1 true 4 = [(((2 : Nat) : Int), (putG (SegT.mk 1 1 0 0 0 0 true ⟨#[120]⟩)).1)] := by rfl
theorem aw_to {y : Int × ByteArray} (h : (outH (hSendT (newM 0 1 4) 2 ⟨#[120]⟩).2 true 4)[0]? = some y) : y.1 = 2 := by
  have e : outH (hSendT (newM 0 1 4) 2 ⟨#[120]⟩).2 true 4 = _ := aw_out
  rw [e] at h; simp at h; subst h; rfl
theorem aw_len : (outH (hSendT (newM 0 1 4) 2 ⟨#[120]⟩).2 true 4).length = 1 := by
  have e : outH (hSendT (newM 0 1 4) 2 ⟨#[120]⟩).2 true 4 = _ := aw_out
  rw [e]; rfl

set_option maxRecDepth 100000 in
set_option maxHeartbeats 6400000 in
theorem awake23  (w : World)  :
    Calls Try.prog 18 #[] w fun e w' => e = .returned (.bool true) ∧ Below w.heap.size w w' := by
 have hB0 := Below.refl w.heap.size w
 refine co_enter (n := 41) Try.func18 rfl rfl rfl [] rfl (fun a h0 => ?_)
 refine co_seq ?_
 refine co_reg ?_
 refine pk0 (v := .bool false) h0 rfl fun a1 h1 => ?_; clear h0
 refine pl_nil ?_
 refine co_then ?_
 refine co_seq ?_
 refine co_reg ?_
 refine pw h1 rfl (op_call (args := #[.int .i64 0, .int .i64 1]) (R := fun res xw => ∃ (N : Nat) (S : Nat → Prop), res = .tuple #[pt N 0, .int .i64 0] ∧ HbP S xw N (newM 0 1 4) ∧ (∀ q, S q → w.heap.size ≤ q) ∧ Below w.heap.size w xw) rfl rfl rfl (by kernel_rfl) (by kernel_rfl) (Try.call6 _ _) (pHNew 0 1 w (by omega) (by omega)) (by rintro e x ⟨N, S, rfl, h⟩; exact ⟨_, rfl, N, S, rfl, h⟩)) ?_; clear h1
 rintro _ w3 a2 ⟨N4, S5, rfl, hO6, hlo7, hb8⟩ h2
 have hz9 := hb8.size
 have hlo10 : ∀ q, S5 q → w.heap.size ≤ q := fun q hq => by have := hlo7 q hq; omega
 refine pk0 (v := .tuple #[pt N4 0, .int .i64 0]) h2 rfl fun a11 h11 => ?_; clear h2
 refine pk0 (v := pt N4 0) h11 rfl fun a12 h12 => ?_; clear h11
 refine pk0 (v := .int .i64 0) h12 rfl fun a13 h13 => ?_; clear h12
 refine pk0 (v := pt N4 0) h13 rfl fun a14 h14 => ?_; clear h13
 refine pk0 (v := .int .i64 0) h14 rfl fun a15 h15 => ?_; clear h14
 refine pl_nil ?_
 refine co_then ?_
 refine co_seq ?_
 refine co_reg ?_
 refine pk0 (v := pt N4 0) h15 rfl fun a16 h16 => ?_; clear h15
 have ho19 := HbP.ofS hO6
 have hB20 := hb_call hB0 hb8
 refine pw h16 rfl (op_call (args := #[pt N4 0, .int .i64 2, .string (⟨#[120]⟩)]) (R := fun res xw => ∃ S' : Nat → Prop, res = .int .i64 ((hSendT (newM 0 1 4) 2 (⟨#[120]⟩ : ByteArray)).1) ∧ HbP S' xw N4 (hSendT (newM 0 1 4) 2 (⟨#[120]⟩ : ByteArray)).2 ∧ Grew S5 S' w3 xw) rfl rfl rfl (by kernel_rfl) (by kernel_rfl) (Try.call8 _ _) (hbSend_any S5 w3 N4 (newM 0 1 4) 2 (⟨#[120]⟩ : ByteArray) hO6) (by rintro e x ⟨S', h0, h⟩; exact ⟨_, h0, S', rfl, h⟩)) ?_; clear h16
 rintro _ w18 a17 ⟨S21, rfl, hO22, hx23⟩ h17
 have hlo25 : ∀ q, S21 q → w.heap.size ≤ q := hx23.lo hlo10 (by omega)
 have hB24 := hbL hB20 hlo10 hx23.but
 have hz26 := hB24.size
 have hz27 := hx23.but.size
 refine pk0 (v := .int .i64 ((hSendT (newM 0 1 4) 2 (⟨#[120]⟩ : ByteArray)).1)) h17 rfl fun a28 h28 => ?_; clear h17
 refine pl_nil ?_
 refine co_then ?_
 refine co_seq ?_
 refine co_reg ?_
 refine pk0 (v := pt N4 0) h28 rfl fun a29 h29 => ?_; clear h28
 have ho32 := HbP.ofS hO22
 refine pw h29 rfl (op_call (args := #[pt N4 0, .bool true]) (R := fun res xw => ∃ v : Value, ∃ S' : Nat → Prop, res = v ∧ HbP S' xw N4 (outM ((hSendT (newM 0 1 4) 2 (⟨#[120]⟩ : ByteArray)).2) 4) ∧ (xw.ownsRow w18.heap.size 51 2 v (outH ((hSendT (newM 0 1 4) 2 (⟨#[120]⟩ : ByteArray)).2) true 4).length ((outH ((hSendT (newM 0 1 4) 2 (⟨#[120]⟩ : ByteArray)).2) true 4).flatMap outE)) ∧ (∀ i, v.ownBlock = some i → ¬ S' i) ∧ Grew S21 S' w18 xw) rfl rfl rfl (by kernel_rfl) (by kernel_rfl) (Try.call11 _ _) (pHOut w18 true hO22) (by rintro e x ⟨v, S', h0, h⟩; exact ⟨_, h0, v, S', rfl, h⟩)) ?_; clear h29
 rintro v33 w31 a30 ⟨_, S34, rfl, hO35, hq37, hq38, hx36⟩ h30
 have hlo40 : ∀ q, S34 q → w.heap.size ≤ q := hx36.lo hlo25 (by omega)
 have hB39 := hbL hB24 hlo25 hx36.but
 have hz41 := hB39.size
 have hz42 := hx36.but.size
 have hl43 := outH_len ((hSendT (newM 0 1 4) 2 (⟨#[120]⟩ : ByteArray)).2) true 4
 have hl44 := aw_len
 refine pk0 (v := v33) h30 rfl fun a45 h45 => ?_; clear h30
 refine pl_nil ?_
 refine co_then ?_
 refine co_seq ?_
 refine co_reg ?_
 refine pk0 (v := .int .i64 0) h45 rfl fun a46 h46 => ?_; clear h45
 refine pk0 (v := .bool ((0 : Int) == 0)) h46 rfl fun a47 h47 => ?_; clear h46
 refine pk0 (v := .bool ((0 : Int) == 0)) h47 rfl fun a48 h48 => ?_; clear h47
 have hc49 : ((0 : Int) == 0) = true := by first | (simp; done) | (simp; omega) | exact beq_false_of_ne (by omega) | exact beq_iff_eq.2 (by omega)
 rw [hc49] at h48; clear hc49
 refine pk0 (v := .int .i64 ((hSendT (newM 0 1 4) 2 (⟨#[120]⟩ : ByteArray)).1)) h48 rfl fun a50 h50 => ?_; clear h48
 refine pk0 (v := .bool ((hSendT (newM 0 1 4) 2 (⟨#[120]⟩ : ByteArray)).1 == 0)) h50 rfl fun a51 h51 => ?_; clear h50
 refine pk0 (v := .bool ((hSendT (newM 0 1 4) 2 (⟨#[120]⟩ : ByteArray)).1 == 0)) h51 rfl fun a52 h52 => ?_; clear h51
 refine pk0 (v := .bool ((hSendT (newM 0 1 4) 2 (⟨#[120]⟩ : ByteArray)).1 == 0)) h52 rfl fun a53 h53 => ?_; clear h52
 have hc54 : ((hSendT (newM 0 1 4) 2 (⟨#[120]⟩ : ByteArray)).1 == 0) = true := by first | rfl | (rw [aw_to (by assumption)]; rfl) | (simp [aw_to (by assumption)]; done)
 rw [hc54] at h53; clear hc54
 refine pk0 (v := v33) h53 rfl fun a55 h55 => ?_; clear h53
 refine pk (v := .int .i64 (((outH ((hSendT (newM 0 1 4) 2 (⟨#[120]⟩ : ByteArray)).2) true 4).length : Nat) : Int)) h55 rfl (rn_lenOwn rfl rfl Try.underlying35 hq37) fun a56 h56 => ?_; clear h55
 refine pk0 (v := .bool ((((outH ((hSendT (newM 0 1 4) 2 (⟨#[120]⟩ : ByteArray)).2) true 4).length : Nat) : Int) == 1)) h56 rfl fun a57 h57 => ?_; clear h56
 refine pk0 (v := .bool ((((outH ((hSendT (newM 0 1 4) 2 (⟨#[120]⟩ : ByteArray)).2) true 4).length : Nat) : Int) == 1)) h57 rfl fun a58 h58 => ?_; clear h57
 refine pk0 (v := .bool ((((outH ((hSendT (newM 0 1 4) 2 (⟨#[120]⟩ : ByteArray)).2) true 4).length : Nat) : Int) == 1)) h58 rfl fun a59 h59 => ?_; clear h58
 have hc60 : ((((outH ((hSendT (newM 0 1 4) 2 (⟨#[120]⟩ : ByteArray)).2) true 4).length : Nat) : Int) == 1) = true := by first | rfl | (rw [aw_to (by assumption)]; rfl) | (simp [aw_to (by assumption)]; done)
 rw [hc60] at h59; clear hc60
 refine pk0 (v := v33) h59 rfl fun a61 h61 => ?_; clear h59
 obtain ⟨y62, hy62⟩ : ∃ z, (outH ((hSendT (newM 0 1 4) 2 (⟨#[120]⟩ : ByteArray)).2) true 4)[0]? = some z := ⟨_, List.getElem?_eq_getElem (by first | omega | (simp; done) | (simp; omega))⟩
 refine pk (v := pt (blkOf v33) (offOf v33 + 0 * 2)) h61 rfl (rn_index rfl rfl rfl Try.underlying35 Try.sizeOf51 (row_sl hq37 outE_len) (by omega) (by first | omega | (simp; done) | (simp; omega))) fun a63 h63 => ?_; clear h61
 refine pk0 (v := pt (blkOf v33) (offOf v33 + 0 * 2)) h63 rfl fun a64 h64 => ?_; clear h63
 refine pk (v := .int .i64 y62.1) h64 rfl (rn_load1 rfl rfl Try.isAgg3 ((sl_at (row_sl hq37 outE_len) hy62) 0 _ rfl)) fun a65 h65 => ?_; clear h64
 refine pk0 (v := .bool (y62.1 == 2)) h65 rfl fun a66 h66 => ?_; clear h65
 refine pk0 (v := .bool (y62.1 == 2)) h66 rfl fun a67 h67 => ?_; clear h66
 refine pk0 (v := .bool (y62.1 == 2)) h67 rfl fun a68 h68 => ?_; clear h67
 have hc69 : (y62.1 == 2) = true := by first | rfl | (rw [aw_to (by assumption)]; rfl) | (simp [aw_to (by assumption)]; done)
 rw [hc69] at h68; clear hc69
 refine pk0 (v := pt N4 0) h68 rfl fun a70 h70 => ?_; clear h68
 refine pw h70 rfl (op_call (args := #[pt N4 0, .int .i64 2]) (R := fun res xw => res = .int .i64 (hWaitT (outM ((hSendT (newM 0 1 4) 2 (⟨#[120]⟩ : ByteArray)).2) 4) 2) ∧ Below w31.heap.size w31 xw) rfl rfl rfl (by kernel_rfl) (by kernel_rfl) (Try.call16 _ _) (hbWaiting_any S34 w31 N4 (outM ((hSendT (newM 0 1 4) 2 (⟨#[120]⟩ : ByteArray)).2) 4) 2 hO35) (by rintro e x ⟨rfl, h⟩; exact ⟨_, rfl, rfl, h⟩)) ?_; clear h70
 rintro _ w72 a71 ⟨rfl, hb73⟩ h71
 have hz74 := hb73.size
 have ho75 := HbP.ofS hO35
 refine pk0 (v := .bool ((hWaitT (outM ((hSendT (newM 0 1 4) 2 (⟨#[120]⟩ : ByteArray)).2) 4) 2) == 1)) h71 rfl fun a76 h76 => ?_; clear h71
 refine pk0 (v := .bool ((hWaitT (outM ((hSendT (newM 0 1 4) 2 (⟨#[120]⟩ : ByteArray)).2) 4) 2) == 1)) h76 rfl fun a77 h77 => ?_; clear h76
 refine pk0 (v := .bool ((hWaitT (outM ((hSendT (newM 0 1 4) 2 (⟨#[120]⟩ : ByteArray)).2) 4) 2) == 1)) h77 rfl fun a78 h78 => ?_; clear h77
 have hc79 : ((hWaitT (outM ((hSendT (newM 0 1 4) 2 (⟨#[120]⟩ : ByteArray)).2) 4) 2) == 1) = true := by first | rfl | (rw [aw_to (by assumption)]; rfl) | (simp [aw_to (by assumption)]; done)
 rw [hc79] at h78; clear hc79
 refine pk0 (v := pt N4 0) h78 rfl fun a80 h80 => ?_; clear h78
 have hO84 := HbP.gr hO35 (below_grown hb73) (fun k e => by cases e)
 have ho83 := HbP.ofS hO84
 have hB85 := hb_call hB39 hb73
 refine pw h80 rfl (op_call (args := #[pt N4 0, .int .i64 0, .string (⟨#[120]⟩)]) (R := fun res xw => ∃ S' : Nat → Prop, res = .int .i64 ((hSendT (outM ((hSendT (newM 0 1 4) 2 (⟨#[120]⟩ : ByteArray)).2) 4) 0 (⟨#[120]⟩ : ByteArray)).1) ∧ HbP S' xw N4 (hSendT (outM ((hSendT (newM 0 1 4) 2 (⟨#[120]⟩ : ByteArray)).2) 4) 0 (⟨#[120]⟩ : ByteArray)).2 ∧ Grew S34 S' w72 xw) rfl rfl rfl (by kernel_rfl) (by kernel_rfl) (Try.call8 _ _) (hbSend_any S34 w72 N4 (outM ((hSendT (newM 0 1 4) 2 (⟨#[120]⟩ : ByteArray)).2) 4) 0 (⟨#[120]⟩ : ByteArray) hO84) (by rintro e x ⟨S', h0, h⟩; exact ⟨_, h0, S', rfl, h⟩)) ?_; clear h80
 rintro _ w82 a81 ⟨S86, rfl, hO87, hx88⟩ h81
 have hr89 := row_kept_new hq37 (below_grown hb73)
 have hlo91 : ∀ q, S86 q → w.heap.size ≤ q := hx88.lo hlo40 (by omega)
 have hB90 := hbL hB85 hlo40 hx88.but
 have hz92 := hB90.size
 have hz93 := hx88.but.size
 refine pk0 (v := .bool ((hSendT (outM ((hSendT (newM 0 1 4) 2 (⟨#[120]⟩ : ByteArray)).2) 4) 0 (⟨#[120]⟩ : ByteArray)).1 == 1)) h81 rfl fun a94 h94 => ?_; clear h81
 refine pk0 (v := .bool ((hSendT (outM ((hSendT (newM 0 1 4) 2 (⟨#[120]⟩ : ByteArray)).2) 4) 0 (⟨#[120]⟩ : ByteArray)).1 == 1)) h94 rfl fun a95 h95 => ?_; clear h94
 refine pk0 (v := .bool ((hSendT (outM ((hSendT (newM 0 1 4) 2 (⟨#[120]⟩ : ByteArray)).2) 4) 0 (⟨#[120]⟩ : ByteArray)).1 == 1)) h95 rfl fun a96 h96 => ?_; clear h95
 refine pl_nil ?_
 refine co_then ?_
 refine wp_ret ?_
 refine co_ret1 h96 rfl rfl ?_
 exact ⟨by rw [show ((hSendT (outM ((hSendT (newM 0 1 4) 2 (⟨#[120]⟩ : ByteArray)).2) 4) 0 (⟨#[120]⟩ : ByteArray)).1 == 1) = true from by first | rfl | (rw [aw_to (by assumption)]; rfl) | (simp [aw_to (by assumption)]; done)], hB90⟩
end Go.Proofs.Ytpcbgkmnjmiigaa

/- catenalaw23: four hubs as one object; sixteen lists of texts as one. Conditions: none. -/
namespace Go.Proofs.Ytpcbgkmnjmiigaa
open Go.RowKit Go.PlainAid Go.Shelf
set_option linter.unusedVariables false
set_option linter.unusedSimpArgs false
structure HubsQ (F : Nat → Nat → Prop) (S : Nat → Prop) (w : World) (hb : Nat) (q : Nat → Nat) (LL : LLT) : Prop where
  blk : Blk w hb 46 #[pt (q 0) 0, pt (q 1) 0, pt (q 2) 0, pt (q 3) 0]
  one : ∀ i, i < 4 → HbP (F i) w (q i) (hubM LL i)
  sep : ∀ i j k, i < 4 → j < 4 → i ≠ j → F i k → F j k → False
  off : ∀ i, i < 4 → ¬ F i hb
  fp : ∀ k, S k ↔ k = hb ∨ ∃ i, i < 4 ∧ F i k
def HubsO (S : Nat → Prop) (w : World) (hb : Nat) (q : Nat → Nat) (LL : LLT) : Prop := ∃ F, HubsQ F S w hb q LL
section
variable {F : Nat → Nat → Prop} {S S' D : Nat → Prop} {w x : World} {hb i t : Nat} {q : Nat → Nat} {LL LL' : LLT}
theorem HubsQ.ofS (h : HubsQ F S w hb q LL) : ∀ k, S k → k < w.heap.size := fun k hk => by
  rcases (h.fp k).1 hk with rfl | ⟨i, hi, hf⟩
  · exact h.blk.lt
  · exact (h.one i hi).ofS k hf
theorem HubsQ.keep (h : HubsQ F S w hb q LL) (hk : ∀ k, S k → x.heap[k]? = w.heap[k]?) : HubsQ F S x hb q LL := by
  refine ⟨?_, fun i hi => HbX.keep (h.one i hi) fun k hf => hk k ((h.fp k).2 (.inr ⟨i, hi, hf⟩)), h.sep, h.off, h.fp⟩
  have h1 := h.blk
  unfold Blk at h1 ⊢
  rw [hk hb ((h.fp hb).2 (.inl rfl))]; exact h1
theorem HubsO.ofS (h : HubsO S w hb q LL) : ∀ k, S k → k < w.heap.size := by obtain ⟨F, h⟩ := h; exact h.ofS
theorem HubsO.keep (h : HubsO S w hb q LL) (hk : ∀ k, S k → x.heap[k]? = w.heap[k]?) : HubsO S x hb q LL := by obtain ⟨F, h⟩ := h; exact ⟨F, h.keep hk⟩
theorem HubsO.gr {row : Option Nat} (h : HubsO S w hb q LL) (hg : w.grownBy x row) (hr : ∀ k, row = some k → ¬ S k) : HubsO S x hb q LL := h.keep fun k hk => hg.block k (h.ofS k hk) (fun e => hr k e.symm hk)
theorem HubsO.but (h : HubsO S w hb q LL) (hb' : But D w x) (hd : ∀ k, S k → D k → False) : HubsO S x hb q LL := h.keep fun k hk => hb'.block k (h.ofS k hk) (fun e => hd k hk e)
theorem HubsO.congr (h : HubsO S w hb q LL) (he : EqL LL LL') : HubsO S w hb q LL' := by
  obtain ⟨F, h⟩ := h
  exact ⟨F, h.blk, fun i hi => by rw [← hubM_eq he hi]; exact h.one i hi, h.sep, h.off, h.fp⟩
theorem HubsO.cell (h : HubsO S w hb q LL) (hi : i < 4) : w.cell? ⟨hb, i, none⟩ = some (pt (q i) 0) := by
  obtain ⟨F, h⟩ := h
  have h4 : i = 0 ∨ i = 1 ∨ i = 2 ∨ i = 3 := by omega
  rcases h4 with rfl | rfl | rfl | rfl <;> exact h.blk.cell rfl
theorem HubsQ.turn (h : HubsQ F S w hb q LL) (hi : i < 4) (hL : HbP S' x (q i) (hubM LL' i)) (hg : Grew (F i) S' w x) (ho : ∀ j, j < 4 → j ≠ i → hubM LL' j = hubM LL j) : ∃ S2, HubsO S2 x hb q LL' ∧ Grew S S2 w x ∧ ∀ k, S2 k → S k ∨ S' k := by
  have hlt : ∀ j k, j < 4 → F j k → k < w.heap.size := fun j k hj hk => (h.one j hj).ofS k hk
  have hS' : ∀ k, k < w.heap.size → S' k → F i k := fun k hl hk => by
    rcases hg.sub k hk with h | h
    · exact h
    · omega
  have hbl := h.blk.lt
  refine ⟨fun k => k = hb ∨ ∃ j, j < 4 ∧ (if j = i then S' k else F j k), ⟨fun j => if j = i then S' else F j, ⟨?_, ?_, ?_, ?_, ?_⟩⟩, ⟨?_, ?_⟩, ?_⟩
  · exact h.blk.butS hg.but (h.off i hi)
  · intro j hj
    by_cases e : j = i
    · subst e; simpa using hL
    · simp only [if_neg e]; rw [ho j hj e]
      exact HbX.keep (h.one j hj) fun k hk => hg.but.block k (hlt j k hj hk) (fun hf => h.sep j i k hj hi e hk hf)
  · intro a b k ha hb' hne h1 h2
    by_cases ea : a = i
    · subst ea
      simp only [if_true] at h1
      rw [if_neg (fun e => hne e.symm)] at h2
      exact h.sep a b k ha hb' hne (hS' k (hlt b k hb' h2) h1) h2
    · rw [if_neg ea] at h1
      by_cases eb : b = i
      · subst eb
        simp only [if_true] at h2
        exact h.sep a b k ha hb' hne h1 (hS' k (hlt a k ha h1) h2)
      · rw [if_neg eb] at h2; exact h.sep a b k ha hb' hne h1 h2
  · intro j hj hk
    by_cases e : j = i
    · subst e
      simp only [if_true] at hk
      exact h.off j hj (hS' hb hbl hk)
    · rw [if_neg e] at hk; exact h.off j hj hk
  · intro k
    constructor
    · rintro (h1 | ⟨j, hj, h1⟩)
      · exact .inl h1
      · refine .inr ⟨j, hj, ?_⟩
        by_cases e : j = i
        · rw [if_pos e] at h1 ⊢; exact h1
        · rw [if_neg e] at h1 ⊢; exact h1
    · rintro (h1 | ⟨j, hj, h1⟩)
      · exact .inl h1
      · refine .inr ⟨j, hj, ?_⟩
        by_cases e : j = i
        · rw [if_pos e] at h1 ⊢; exact h1
        · rw [if_neg e] at h1 ⊢; exact h1
  · rintro k (h1 | ⟨j, hj, h1⟩)
    · exact .inl ((h.fp k).2 (.inl h1))
    · by_cases e : j = i
      · rw [if_pos e] at h1
        rcases hg.sub k h1 with h2 | h2
        · exact .inl ((h.fp k).2 (.inr ⟨i, hi, h2⟩))
        · exact .inr h2
      · rw [if_neg e] at h1; exact .inl ((h.fp k).2 (.inr ⟨j, hj, h1⟩))
  · exact hg.but.mono fun k _ hk => (h.fp k).2 (.inr ⟨i, hi, hk⟩)
  · rintro k (h1 | ⟨j, hj, h1⟩)
    · exact .inl ((h.fp k).2 (.inl h1))
    · by_cases e : j = i
      · rw [if_pos e] at h1; exact .inr h1
      · rw [if_neg e] at h1; exact .inl ((h.fp k).2 (.inr ⟨j, hj, h1⟩))
theorem hubsOut (w : World) (hi : i < 4) (h : HubsO S w hb q LL) : Calls Try.prog 11 #[pt (q i) 0, .bool true] w fun e x => ∃ (v : Value) (S' : Nat → Prop), e = .returned v ∧ HubsO S' x hb q (outRow LL i) ∧ x.ownsRow w.heap.size 51 2 v (outH (hubM LL i) true 4).length ((outH (hubM LL i) true 4).flatMap outE) ∧ (∀ k, v.ownBlock = some k → ¬ S' k) ∧ Grew S S' w x := by
  obtain ⟨F, h⟩ := h
  refine (pHOut w true (h.one i hi)).mono ?_
  rintro e x ⟨v, S', e1, e2, e3, e4, e5⟩
  rw [outM_all] at e2
  obtain ⟨S2, k1, k2, k3⟩ := h.turn (LL' := outRow LL i) hi e2 e5 (fun j _ hj => hubM_row hj)
  refine ⟨v, S2, e1, k1, e3, fun k hk hs => ?_, k2⟩
  rcases k3 k hs with h1 | h1
  · have := h.ofS k h1; have := (e3.lt k hk).1; omega
  · exact e4 k hk h1
theorem hubsIn (w : World) (ht : t < 4) (hi : i < 4 ∧ i ≠ t) (h : HubsO S w hb q LL) (s : ByteArray) (hsz : s.size ≤ 9223372036854775807) (g : SegT) (hr : rdSeg s = (g, 0)) : Calls Try.prog 13 #[pt (q t) 0, .int .i64 (i : Int), .string s] w fun e x => ∃ (v : Value) (S' : Nat → Prop), e = .returned (.tuple #[v, .int .i64 (inT (LL t i) g).2.1]) ∧ HubsO S' x hb q (setLL LL t i (inT (LL t i) g).2.2) ∧ x.ownsRow w.heap.size 9 1 v (inT (LL t i) g).1.length ((inT (LL t i) g).1.flatMap strE) ∧ (∀ k, v.ownBlock = some k → ¬ S' k) ∧ Grew S S' w x := by
  obtain ⟨F, h⟩ := h
  have hM : atM (hubM LL t) (i : Int) = some (LL t i) := by
    unfold atM; rw [if_pos ⟨by omega, by omega⟩]; exact if_pos ⟨hi.1, hi.2⟩
  have hE : hInT (hubM LL t) (i : Int) s = ((inT (LL t i) g).1, (inT (LL t i) g).2.1, hubM (setLL LL t i (inT (LL t i) g).2.2) t) := by
    unfold hInT; rw [hM]; simp only [hr]
    rw [if_neg (by simp), show ((i : Int).toNat) = i by omega, hubM_set ⟨hi.1, hi.2⟩]
  refine (hbIn_any (F t) w (q t) (hubM LL t) (i : Int) s hsz (h.one t ht)).mono ?_
  rw [hE]
  rintro e x ⟨v, S', e1, e2, e3, e4, e5⟩
  obtain ⟨S2, k1, k2, k3⟩ := h.turn (LL' := setLL LL t i (inT (LL t i) g).2.2) ht e2 e5 (fun j _ hj => hubM_off hj)
  refine ⟨v, S2, e1, k1, e3, fun k hk hs => ?_, k2⟩
  rcases k3 k hs with h1 | h1
  · have := h.ofS k h1; have := (e3.lt k hk).1; omega
  · exact e4 k hk h1
/-- What a send makes of all. -/
def sendE (LL : LLT) (i : Nat) (n : Int) (s : ByteArray) : Int := if (0 ≤ n ∧ n < 4) ∧ n.toNat ≠ i then (sendT (LL i n.toNat) s).1 else 1
def sendLL (LL : LLT) (i : Nat) (n : Int) (s : ByteArray) : LLT := if (0 ≤ n ∧ n < 4) ∧ n.toNat ≠ i then setLL LL i n.toNat (sendT (LL i n.toNat) s).2 else LL
theorem hubsSend (w : World) (hi : i < 4) (h : HubsO S w hb q LL) (n : Int) (s : ByteArray) : Calls Try.prog 8 #[pt (q i) 0, .int .i64 n, .string s] w fun e x => ∃ S' : Nat → Prop, e = .returned (.int .i64 (sendE LL i n s)) ∧ HubsO S' x hb q (sendLL LL i n s) ∧ Grew S S' w x := by
  obtain ⟨F, h⟩ := h
  refine (hbSend_any (F i) w (q i) (hubM LL i) n s (h.one i hi)).mono ?_
  by_cases hc : (0 ≤ n ∧ n < 4) ∧ n.toNat ≠ i
  · have hM : atM (hubM LL i) n = some (LL i n.toNat) := by unfold atM; rw [if_pos hc.1]; exact if_pos ⟨by omega, hc.2⟩
    have hE : hSendT (hubM LL i) n s = ((sendT (LL i n.toNat) s).1, hubM (setLL LL i n.toNat (sendT (LL i n.toNat) s).2) i) := by
      unfold hSendT; rw [hM]; simp only []; rw [hubM_set ⟨by omega, hc.2⟩]
    rw [hE]; unfold sendE sendLL; rw [if_pos hc, if_pos hc]
    rintro e x ⟨S', e1, e2, e3⟩
    obtain ⟨S2, k1, k2, k3⟩ := h.turn (LL' := setLL LL i n.toNat (sendT (LL i n.toNat) s).2) hi e2 e3 (fun j _ hj => hubM_off hj)
    exact ⟨S2, e1, k1, k2⟩
  · have hM : atM (hubM LL i) n = none := by
      unfold atM
      by_cases h1 : 0 ≤ n ∧ n < 4
      · rw [if_pos h1]; exact if_neg (fun h2 => hc ⟨h1, h2.2⟩)
      · rw [if_neg h1]
    have hE : hSendT (hubM LL i) n s = (1, hubM LL i) := by unfold hSendT; rw [hM]
    rw [hE]; unfold sendE sendLL; rw [if_neg hc, if_neg hc]
    rintro e x ⟨S', e1, e2, e3⟩
    obtain ⟨S2, k1, k2, k3⟩ := h.turn (LL' := LL) hi e2 e3 (fun j _ hj => rfl)
    exact ⟨S2, e1, k1, k2⟩
theorem hubsWait (w : World) (hi : i < 4) (ht : t < 4) (h : HubsO S w hb q LL) (hq : i ≠ t → (LL i t).q = []) : Calls Try.prog 16 #[pt (q i) 0, .int .i64 (t : Int)] w fun e x => e = .returned (.int .i64 0) ∧ Below w.heap.size w x := by
  obtain ⟨F, h⟩ := h
  have h2 := hbWaiting_any (F i) w (q i) (hubM LL i) (t : Int) (h.one i hi)
  have hE : hWaitT (hubM LL i) (t : Int) = 0 := by
    unfold hWaitT
    by_cases hne : t = i
    · have : atM (hubM LL i) (t : Int) = none := by unfold atM; rw [if_pos ⟨by omega, by omega⟩]; exact if_neg (fun e => e.2 (by omega))
      rw [this]
    · have : atM (hubM LL i) (t : Int) = some (LL i t) := by unfold atM; rw [if_pos ⟨by omega, by omega⟩]; exact if_pos ⟨ht, hne⟩
      rw [this]; simp only []; rw [hq (fun e => hne e.symm)]; rfl
  rw [hE] at h2; exact h2
/-- Four hubs, put together. -/
theorem hubs_mk {q : Nat → Nat} {F : Nat → Nat → Prop} (hB : Blk w hb 46 #[pt (q 0) 0, pt (q 1) 0, pt (q 2) 0, pt (q 3) 0]) (h0 : ∀ i, i < 4 → HbP (F i) w (q i) (newM (i : Int) 1 4)) (hs : ∀ i j, i < 4 → j < 4 → i < j → ∀ k, F i k → F j k → False) (ho : ∀ i, i < 4 → ¬ F i hb) : HubsO (fun k => k = hb ∨ ∃ i, i < 4 ∧ F i k) w hb q (fun _ _ => newLn 1) :=
  ⟨F, hB, fun i hi => by rw [← newM_hub hi]; exact h0 i hi, fun i j k hi hj hne h1 h2 => by
    rcases Nat.lt_or_gt_of_ne hne with h | h
    · exact hs i j hi hj h k h1 h2
    · exact hs j i hj hi h k h2 h1, ho, fun k => Iff.rfl⟩
end
/-- Sixteen lists of texts in one block. -/
def arr16 (V : Nat → Value) : Array Value := #[V 0, V 1, V 2, V 3, V 4, V 5, V 6, V 7, V 8, V 9, V 10, V 11, V 12, V 13, V 14, V 15]
def setV (V : Nat → Value) (j : Nat) (u : Value) : Nat → Value := fun a => if a = j then u else V a
theorem arr_at {V : Nat → Value} {j : Nat} (hj : j < 16) : (arr16 V)[j]? = some (V j) := by
  have h : j = 0 ∨ j = 1 ∨ j = 2 ∨ j = 3 ∨ j = 4 ∨ j = 5 ∨ j = 6 ∨ j = 7 ∨ j = 8 ∨ j = 9 ∨ j = 10 ∨ j = 11 ∨ j = 12 ∨ j = 13 ∨ j = 14 ∨ j = 15 := by omega
  rcases h with rfl | rfl | rfl | rfl | rfl | rfl | rfl | rfl | rfl | rfl | rfl | rfl | rfl | rfl | rfl | rfl <;> rfl
theorem arr_set {V : Nat → Value} {j : Nat} (hj : j < 16) (u : Value) : (arr16 V).setIfInBounds j u = arr16 (setV V j u) := by
  have h : j = 0 ∨ j = 1 ∨ j = 2 ∨ j = 3 ∨ j = 4 ∨ j = 5 ∨ j = 6 ∨ j = 7 ∨ j = 8 ∨ j = 9 ∨ j = 10 ∨ j = 11 ∨ j = 12 ∨ j = 13 ∨ j = 14 ∨ j = 15 := by omega
  rcases h with rfl | rfl | rfl | rfl | rfl | rfl | rfl | rfl | rfl | rfl | rfl | rfl | rfl | rfl | rfl | rfl <;> rfl
structure LstQ (S : Nat → Prop) (w : World) (b : Nat) (V : Nat → Value) (L : Nat → List ByteArray) : Prop where
  blk : Blk w b 48 (arr16 V)
  row : ∀ j, j < 16 → w.ownsRow 0 9 1 (V j) (L j).length ((L j).flatMap strE)
  sep : ∀ j k, j < 16 → k < 16 → j ≠ k → ∀ n, (V j).ownBlock = some n → (V k).ownBlock ≠ some n
  fp : ∀ n, S n ↔ n = b ∨ ∃ j, j < 16 ∧ (V j).ownBlock = some n
/-- The lists, by what has them. -/
def LstO (S : Nat → Prop) (w : World) (b : Nat) (L : Nat → List ByteArray) : Prop := ∃ V, LstQ S w b V L
/-- One of them is being turned: its row is off. -/
structure LstH (S : Nat → Prop) (w : World) (b : Nat) (V : Nat → Value) (L : Nat → List ByteArray) (i : Nat) : Prop where
  lt : ∀ n, S n → n < w.heap.size
  blk : Blk w b 48 (arr16 V)
  row : ∀ j, j < 16 → j ≠ i → w.ownsRow 0 9 1 (V j) (L j).length ((L j).flatMap strE)
  sep : ∀ j k, j < 16 → k < 16 → j ≠ k → ∀ n, (V j).ownBlock = some n → (V k).ownBlock ≠ some n
  fp : ∀ n, S n ↔ n = b ∨ ∃ j, j < 16 ∧ (V j).ownBlock = some n
section
variable {S S' D : Nat → Prop} {w x : World} {b i j : Nat} {V : Nat → Value} {L L' : Nat → List ByteArray} {u : Value} {l : List ByteArray}
theorem LstQ.ofS (h : LstQ S w b V L) : ∀ n, S n → n < w.heap.size := fun n hn => by
  rcases (h.fp n).1 hn with rfl | ⟨j, hj, hv⟩
  · exact h.blk.lt
  · exact ((h.row j hj).lt n hv).2
theorem LstQ.keep (h : LstQ S w b V L) (hk : ∀ k, S k → x.heap[k]? = w.heap[k]?) : LstQ S x b V L := by
  refine ⟨?_, fun j hj => row_sameL (h.row j hj) fun n hn => hk n ((h.fp n).2 (.inr ⟨j, hj, hn⟩)), h.sep, h.fp⟩
  have h1 := h.blk
  unfold Blk at h1 ⊢
  rw [hk b ((h.fp b).2 (.inl rfl))]; exact h1
theorem LstO.ofS (h : LstO S w b L) : ∀ n, S n → n < w.heap.size := by obtain ⟨V, h⟩ := h; exact h.ofS
theorem LstO.keep (h : LstO S w b L) (hk : ∀ k, S k → x.heap[k]? = w.heap[k]?) : LstO S x b L := by obtain ⟨V, h⟩ := h; exact ⟨V, h.keep hk⟩
theorem LstO.gr {row : Option Nat} (h : LstO S w b L) (hg : w.grownBy x row) (hr : ∀ k, row = some k → ¬ S k) : LstO S x b L := h.keep fun k hk => hg.block k (h.ofS k hk) (fun e => hr k e.symm hk)
theorem LstO.but (h : LstO S w b L) (hb' : But D w x) (hd : ∀ k, S k → D k → False) : LstO S x b L := h.keep fun k hk => hb'.block k (h.ofS k hk) (fun e => hd k hk e)
theorem LstO.congr (h : LstO S w b L) (he : ∀ j, j < 16 → L j = L' j) : LstO S w b L' := by
  obtain ⟨V, h⟩ := h
  exact ⟨V, h.blk, fun j hj => by rw [← he j hj]; exact h.row j hj, h.sep, h.fp⟩
theorem LstQ.gr {row : Option Nat} (h : LstQ S w b V L) (hg : w.grownBy x row) (hr : ∀ k, row = some k → ¬ S k) : LstQ S x b V L := h.keep fun k hk => hg.block k (h.ofS k hk) (fun e => hr k e.symm hk)
theorem LstQ.but (h : LstQ S w b V L) (hb' : But D w x) (hd : ∀ k, S k → D k → False) : LstQ S x b V L := h.keep fun k hk => hb'.block k (h.ofS k hk) (fun e => hd k hk e)
theorem LstQ.cell (h : LstQ S w b V L) (hj : j < 16) : w.cell? ⟨b, j, none⟩ = some (V j) := h.blk.cell (arr_at hj)
/-- One row is turned. -/
theorem LstQ.hole (h : LstQ S w b V L) (hi : i < 16) (hg : w.grownBy x (V i).ownBlock) : LstH S x b V L i := by
  have hS := h.ofS
  refine ⟨fun n hn => Nat.lt_of_lt_of_le (hS n hn) hg.size, h.blk.kept hg (own_neT (h.row i hi) h.blk (by decide)), fun j hj hne => ?_, h.sep, h.fp⟩
  exact row_sameL (h.row j hj) fun n hn => hg.block n ((h.row j hj).lt n hn).2 (fun e => h.sep j i hj hi hne n hn e.symm)
/-- .. and laid back. -/
theorem LstH.fill (h : LstH S w b V L i) (hi : i < 16) (hk : Blk x b 48 ((arr16 V).setIfInBounds i u)) (hg : w.grownBy x (some b)) {n0 : Nat} (hn : n0 ≤ w.heap.size)
    (hu : w.ownsRow 0 9 1 u l.length (l.flatMap strE)) (hw : u.ownBlock = (V i).ownBlock ∨ ∀ k, u.ownBlock = some k → n0 ≤ k) (hS : ∀ n, S n → n < n0) :
    ∃ S', LstO S' x b (fun j => if j = i then l else L j) ∧ (∀ n, S' n → S n ∨ n0 ≤ n) := by
  rw [arr_set hi] at hk
  have hub : u.ownBlock ≠ some b := own_neT hu h.blk (by decide)
  refine ⟨fun n => n = b ∨ ∃ j, j < 16 ∧ (setV V i u j).ownBlock = some n, ⟨setV V i u, hk, fun j hj => ?_, fun j k hj hk' hne n h1 h2 => ?_, fun n => Iff.rfl⟩, fun n hn' => ?_⟩
  · unfold setV
    by_cases e : j = i
    · rw [if_pos e, if_pos e]
      exact row_sameL hu fun n hn => hg.block n (hu.lt n hn).2 (fun e => hub (by rw [hn]; exact e))
    · rw [if_neg e, if_neg e]
      exact row_sameL (h.row j hj e) fun n hn => hg.block n ((h.row j hj e).lt n hn).2 (fun e2 => own_neT (h.row j hj e) h.blk (by decide) (by rw [hn]; exact e2))
  · unfold setV at h1 h2
    have hold : ∀ a, a < 16 → a ≠ i → ∀ n, (V a).ownBlock = some n → u.ownBlock = some n → False := fun a ha hne n q1 q2 => by
      rcases hw with e | e
      · exact h.sep a i ha hi hne n q1 (e ▸ q2)
      · have := e n q2; have := hS n ((h.fp n).2 (.inr ⟨a, ha, q1⟩)); omega
    by_cases e1 : j = i
    · rw [if_pos e1] at h1
      rw [if_neg (fun e2 => hne (e1.trans e2.symm))] at h2
      exact hold k hk' (fun e2 => hne (e1.trans e2.symm)) n h2 h1
    · rw [if_neg e1] at h1
      by_cases e2 : k = i
      · rw [if_pos e2] at h2; exact hold j hj e1 n h1 h2
      · rw [if_neg e2] at h2; exact h.sep j k hj hk' hne n h1 h2
  · rcases hn' with rfl | ⟨j, hj, hv⟩
    · exact .inl ((h.fp _).2 (.inl rfl))
    · unfold setV at hv
      by_cases e : j = i
      · rw [if_pos e] at hv
        rcases hw with e2 | e2
        · exact .inl ((h.fp n).2 (.inr ⟨i, hi, e2 ▸ hv⟩))
        · exact .inr (e2 n hv)
      · rw [if_neg e] at hv; exact .inl ((h.fp n).2 (.inr ⟨j, hj, hv⟩))
theorem LstO.new (h : Blk w b 48 (arr16 fun _ => .slice none 0 0)) : LstO (fun n => n = b) w b (fun _ => []) :=
  ⟨fun _ => .slice none 0 0, h, fun j hj => World.ownsRow_nil _ _ _ _, fun j k hj hk hne n hn => by simp [Value.ownBlock] at hn, fun n => ⟨fun e => .inl e, fun e => by
    rcases e with e | ⟨j, _, e⟩
    · exact e
    · simp [Value.ownBlock] at e⟩⟩
end
section
variable {P : Program} {n : Nat} {m : List (Nat × Value)} {w : World} {o : Oper}
/-- An own row behind an own row. -/
theorem op_appendRow {s q : Operand} {t : TypeId} (ho : o.op = .call { callee := .builtin .append, args := #[s, q], argTypes := #[t, t] })
    (base : Nat) (e : TypeId) {z : Value} {size bytes : Nat} (ht : P.underlying t = some (.slice e)) (hi : (P.info? e).map (fun i => (i.zero, i.size, i.bytes)) = some (some z, size, bytes))
    (hzs : z.cells.size = size) (hsz : Nat.blt 0 size = true) {v y : Value} {k ky B2 : Nat} {xs ys : List Value} (hs : ev m s = some v) (hown : w.ownsRow base e size v k xs)
    (hx : ev m q = some y) (hy : w.ownsRow B2 e size y ky ys) (h1 : ∀ u ∈ ys, u.oneCell' = true)
    (h63 : k + ky ≤ 9223372036854775807) (hbytes : (k + ky) * bytes ≤ 140737488355328) (hbase : base ≤ w.heap.size) :
    Op1 P n m o w (fun u x => x.ownsRow base e size u (k + ky) (xs ++ ys) ∧ Went w v u ∧ w.grownBy x v.ownBlock) := by
  intro a ha K Q hN
  obtain ⟨i0, hii, hz0, hz1, hz2⟩ := info_parts hi
  rcases hy.2 with ⟨rfl, hk0⟩ | ⟨g, cap, cur, rfl, hbg, hg, hnc, hcm, hcs, htake⟩
  · have hys : ys = [] := by have := hy.1; rw [hk0] at this; exact List.eq_nil_of_length_eq_zero (by simpa using this)
    subst hk0 hys
    obtain ⟨ba, sl, sc, rfl, hle⟩ : ∃ (ba : Option Addr) (sl sc : Nat), v = .slice ba sl sc ∧ sl ≤ sc := by
      rcases hown.2 with ⟨rfl, _⟩ | ⟨g, cap, cur, rfl, _, _, hnc, _⟩
      · exact ⟨_, _, _, rfl, Nat.le_refl _⟩
      · exact ⟨_, _, _, rfl, hnc⟩
    have hr := run_append_nothing (P := P) w t t o.type e i0 ht hii ba sl sc hle (.slice none 0 0) (Src.ofNil w ht 0)
    unfold Oper.wp execOp
    simp only [ho, resolve, invoke, builtin, Sem.run_bind, Sem.run_pure, Result.andThen_ok, List.map_toArray, List.map_cons, List.map_nil, ha.ev hs, ha.ev hx, hr]
    exact hN _ _ ⟨by rw [List.append_nil]; exact hown, .inl rfl, ⟨rfl, rfl, rfl, Nat.le_refl _, fun _ _ _ => rfl⟩⟩
  · obtain ⟨v', w', hr, h2, h3, h4⟩ := run_append_went (P := P) w base t o.type e i0 z size bytes ht hii hz0 hz1 hz2 hzs (by simpa using hsz) v k xs hown ⟨g, 0, none⟩ ky cap ys hy.1
      (fun j u hu => hy.cells (g := g) rfl j u hu) h1 (by unfold maxLen; exact h63) hbytes hbase
    unfold Oper.wp execOp
    simp only [ho, resolve, invoke, builtin, Sem.run_bind, Sem.run_pure, Result.andThen_ok, List.map_toArray, List.map_cons, List.map_nil, ha.ev hs, ha.ev hx, hr]
    exact hN _ _ ⟨h2, h4, h3⟩
end
end Go.Proofs.Ytpcbgkmnjmiigaa

/- catenalaw22: awake. Conditions: none. -/
namespace Go.Proofs.Ytpcbgkmnjmiigaa
open Go.RowKit Go.PlainAid
set_option linter.unusedVariables false


/-- Texts are said one behind the other. -/
def says (g : ByteArray) (ms : List ByteArray) : ByteArray := ms.foldl (· ++ ·) g
end Go.Proofs.Ytpcbgkmnjmiigaa

/- Slices of any elements that came in, opened by their readings. Conditions: none. -/
namespace Go.Proofs.Ytpcbgkmnjmiigaa
open Go.RowKit Go.ChangeShapes Go.WideShapes Go.Deep

section
variable {H : Type} {enc : TypeId × Value → H} {P : Program} {w : World} {base : Nat} {spare : Nat → Bool} {held : Bool}
theorem open_rows {α : Type} [Inhabited α] {t e : TypeId} {fuel : Nat} {cs : List Value} {x : DataW H × List MemPlace} (E : α → List Value) (sz : Nat) (good : α → Prop)
    (ht : P.underlying t = some (.slice e)) (hC : P.cellsOf e = sz) (hpos : 0 < sz)
    (elem : ∀ n cs x, DataW.trod enc P w base spare held n e cs = some x → ∃ a : α, cs = E a ∧ good a)
    (h : DataW.trod enc P w base spare held fuel t cs = some x) :
    ∃ (l : List α) (v : Value), cs = [v] ∧ SliceOf E sz w v l ∧ ∀ a ∈ l, good a := by
  rcases open_slice ht h with ⟨hcs, _⟩ | ⟨a, len, cap, m, n, D, Pl, hcs, _, hl, hm, hmm, _, hi⟩
  · exact ⟨[], _, hcs, SliceOf.nil _ _ _, by simp⟩
  · have hlm : len ≤ m := by rw [hmm]; split <;> omega
    rw [hC] at hi
    obtain ⟨f, hf⟩ := choose_lt (α := α) (n := len) (p := fun i y => (∀ j u, (E y)[j]? = some u → w.cell? ((a.add (i * sz)).add j) = some u) ∧ good y ∧ (E y).length = sz) (fun i hilt => by
      obtain ⟨cs', hc, ht'⟩ := hi i (by omega)
      obtain ⟨y, rfl, hg⟩ := elem n cs' _ ht'
      obtain ⟨_, hcl, hat⟩ := World.cells?_some hc
      exact ⟨y, fun j u hu => by
        have hj : j < (E y).length := (List.getElem?_eq_some_iff.1 hu).1
        rw [hat j (by omega), hu], hg, hcl⟩)
    refine ⟨(List.range len).map f, _, hcs, ⟨some a, cap, by simp, by simpa using hl, by unfold maxLen at hm; omega, fun h => (by cases h), fun j hj => ?_⟩, fun y hy => ?_⟩
    · have hj' : j < len := by simpa using hj
      obtain ⟨b, off, spot⟩ := a
      have hspot : spot = none := by
        obtain ⟨h1, _, h3⟩ := hf 0 (by omega)
        have hc0 := h1 0 _ (List.getElem?_eq_getElem (show 0 < (E (f 0)).length by omega))
        simpa [Addr.add] using World.cell?_spot hc0
      subst hspot
      refine ⟨b, off, rfl, fun i u hu => ?_⟩
      have := (hf j hj').1 i u (by simpa using hu)
      rw [Addr.add_lit, Addr.add_lit] at this
      exact this
    · obtain ⟨i, hi', rfl⟩ := List.mem_map.1 hy
      exact (hf i (List.mem_range.1 hi')).2.1
end
end Go.Proofs.Ytpcbgkmnjmiigaa

/- catenalaw22: two lists of segments, of texts; what comes in. Conditions: none. -/
namespace Go.Proofs.Ytpcbgkmnjmiigaa
open Go.RowKit Go.PlainAid
set_option linter.unusedVariables false


set_option maxRecDepth 100000 in
set_option maxHeartbeats 800000 in
/-- A list is itself. -/
theorem same_anyL (u v : Value) (l : List ByteArray) (w : World) (hu : SliceOf strE 1 w u l) (hv : SliceOf strE 1 w v l) :
    Calls Try.prog 15 #[u, v] w fun e w' => e = .returned (.bool true) ∧ Below w.heap.size w w' := by
  have HU := Lib.hid hu; have HV := Lib.hid hv
  obtain ⟨ao, cap, rfl, hcap, hcm, _, _⟩ := hu
  obtain ⟨a2, c2, rfl, hcap2, hcm2, _, _⟩ := hv
  go_enter Try.func15, Try.ntmps15
  go_wp2
  go_loopg [5] (l.length + 1) (fun g s5 wr => ∃ i : Nat, s5 = .int .i64 i ∧ i ≤ l.length ∧ l.length + 1 ≤ i + g ∧ Hid (SliceOf strE 1 wr (.slice ao l.length cap) l) ∧ Hid (SliceOf strE 1 wr (.slice a2 l.length c2) l) ∧ Hid (Below w.heap.size w wr))
  case atStart => exact ⟨0, rfl, by omega, by omega, HU, HV, Lib.hid (Below.refl _ _)⟩
  case round =>
    obtain ⟨i, rfl, hi, hg, H1, H2, HB⟩ := hrel
    by_cases hlt : i < l.length
    · obtain ⟨b, off, rfl, k1⟩ := strAtL H1.out i hlt
      obtain ⟨b', off', rfl, k2⟩ := strAtL H2.out i hlt
      obtain ⟨s, hs⟩ : ∃ s, s = l.getD i ⟨#[]⟩ := ⟨_, rfl⟩
      rw [← hs] at k1 k2
      have hd : decide ((i : Int) < (l.length : Int)) = true := decide_eq_true (by omega)
      clear hs
      go_wp2_with fail
      go_quiet (fail)
      obtain ⟨z, hz⟩ : ∃ z, z = nq := ⟨_, rfl⟩
      rw [← hz]; clear hz
      go_wp2
      go_roundg (gk - 1)
      case rel => exact ⟨i + 1, by go_num, by omega, by omega, Lib.hid (H1.out.below (below_draws (Below.refl _ _) z)), Lib.hid (H2.out.below (below_draws (Below.refl _ _) z)), Lib.hid (below_draws HB.out z)⟩
      case measure => omega
    · have hd : decide ((i : Int) < (l.length : Int)) = false := decide_eq_false (by omega)
      go_wp2
      go_ret
      exact ⟨rfl, HB.out⟩
/-- A call of stage 22. -/
structure LActT where
  c : Int
  s : ByteArray
  again : Bool
  g : SegT
instance : Inhabited LActT := ⟨⟨0, ⟨#[]⟩, false, ⟨0, 0, 0, 0, 0, 0, false, ⟨#[]⟩⟩⟩⟩
section
variable {H : Type} {enc : TypeId × Value → H} {w : World} {base : Nat} {spare : Nat → Bool} {held : Bool}
end

end Go.Proofs.Ytpcbgkmnjmiigaa

/- catenalaw23: two lists of what goes out; what comes in. Conditions: none. -/
namespace Go.Proofs.Ytpcbgkmnjmiigaa
open Go.RowKit Go.PlainAid
set_option linter.unusedVariables false


/-- A call of stage 23. -/
structure HActT where
  c : Int
  n : Int
  s : ByteArray
  again : Bool
instance : Inhabited HActT := ⟨⟨0, 0, ⟨#[]⟩, false⟩⟩
def hactE (a : HActT) : List Value := [.int .i64 a.c, .int .i64 a.n, .string a.s, .bool a.again]
abbrev HActOk (a : HActT) : Prop := a.s.size ≤ 9223372036854775807
section
variable {H : Type} {enc : TypeId × Value → H} {w : World} {base : Nat} {spare : Nat → Bool} {held : Bool}
set_option maxRecDepth 10000 in
theorem elem_hact (n : Nat) (cs : List Value) (x : DataW H × List MemPlace) (h : DataW.trod enc Try.prog w base spare held n 31 cs = some x) : ∃ a, cs = hactE a ∧ HActOk a := by
  obtain ⟨xs, m, _, _, hl, hxl, hf⟩ := DataW.trod_struct Try.underlying31 h
  have hl4 : cs.length = 4 := hl
  have hx2 : xs.length = 4 := hxl
  clear hl hxl
  match cs, hl4, xs, hx2 with
  | [c0, c1, c2, c3], _, [y0, y1, y2, y3], _ =>
    have h0' : DataW.trod enc Try.prog w base spare held m 3 [c0] = some y0 := hf 0 _ rfl
    have h1' : DataW.trod enc Try.prog w base spare held m 3 [c1] = some y1 := hf 1 _ rfl
    have h2' : DataW.trod enc Try.prog w base spare held m 9 [c2] = some y2 := hf 2 _ rfl
    have h3' : DataW.trod enc Try.prog w base spare held m 4 [c3] = some y3 := hf 3 _ rfl
    obtain ⟨a, e0, _, _⟩ := DataW.trod_int Try.underlying3 h0'
    obtain ⟨b, e1, _, _⟩ := DataW.trod_int Try.underlying3 h1'
    obtain ⟨c, e2, _, w2⟩ := DataW.trod_string Try.underlying9 h2'
    obtain ⟨d, e3, _⟩ := DataW.trod_bool Try.underlying4 h3'
    simp only [List.cons.injEq, and_true] at e0 e1 e2 e3
    subst e0 e1 e2 e3
    exact ⟨⟨a, b, c, d⟩, rfl, by unfold maxLen at w2; exact w2⟩
theorem open_hacts {fuel : Nat} {cs : List Value} {x : DataW H × List MemPlace} (h : DataW.trod enc Try.prog w base spare held fuel 22 cs = some x) :
    ∃ (l : List HActT) (v : Value), cs = [v] ∧ SliceOf hactE 4 w v l ∧ ∀ p ∈ l, HActOk p :=
  open_rows hactE 4 HActOk Try.underlying22 (by kernel_rfl) (by omega) elem_hact h
end

end Go.Proofs.Ytpcbgkmnjmiigaa

/- catenalaw23: lemmas for the walk of HubOnly. Conditions: none. -/
namespace Go.Proofs.Ytpcbgkmnjmiigaa
open Go.RowKit Go.PlainAid Go.Shelf
set_option linter.unusedVariables false
set_option linter.unusedSimpArgs false
/-- Kept from omega's eyes. -/
def Hid (p : Prop) : Prop := p
def flatL (sn : SLT) (j : Nat) : List ByteArray := sn (j / 4) (j % 4)
theorem flatL_at {sn : SLT} {a b : Nat} (hb : b < 4) : flatL sn (4 * a + b) = sn a b := by
  unfold flatL; rw [show (4 * a + b) / 4 = a by omega, show (4 * a + b) % 4 = b by omega]
theorem flatL_set {sn sn' : SLT} {a b : Nat} {l : List ByteArray} (hb : b < 4) (h : ∀ x y, x < 4 → y < 4 → (if x = a ∧ y = b then l else sn x y) = sn' x y) : ∀ j, j < 16 → (if j = 4 * a + b then l else flatL sn j) = flatL sn' j := fun j hj => by
  have h1 := h (j / 4) (j % 4) (by omega) (by omega)
  unfold flatL
  rw [← h1]
  by_cases e : j = 4 * a + b
  · rw [if_pos e, if_pos (by omega)]
  · rw [if_neg e, if_neg (by omega)]
theorem flatL_eq {sn sn' : SLT} (h : ∀ x y, x < 4 → y < 4 → sn x y = sn' x y) : ∀ j, j < 16 → flatL sn j = flatL sn' j := fun j hj => h _ _ (by omega) (by omega)
theorem send_ok {LL : LLT} {i : Nat} {n : Int} {s : ByteArray} (h : sendE LL i n s = 0) : ((0 ≤ n ∧ n < 4) ∧ n.toNat ≠ i) ∧ (sendT (LL i n.toNat) s).1 = 0 ∧ sendLL LL i n s = setLL LL i n.toNat (sendT (LL i n.toNat) s).2 := by
  unfold sendE at h
  by_cases hc : (0 ≤ n ∧ n < 4) ∧ n.toNat ≠ i
  · rw [if_pos hc] at h; exact ⟨hc, h, if_pos hc⟩
  · rw [if_neg hc] at h; cases h
theorem sendT_no {L : LnT} {s : ByteArray} (h : (sendT L s).1 ≠ 0) : (sendT L s).2 = L := by
  unfold sendT at h ⊢
  split
  · rfl
  · split
    · rfl
    · rename_i h1 h2; rw [if_neg h1, if_neg h2] at h; exact absurd rfl h
theorem send_no {LL : LLT} {i : Nat} {n : Int} {s : ByteArray} (h : ¬ sendE LL i n s = 0) : sendLL LL i n s = LL := by
  unfold sendE at h; unfold sendLL
  by_cases hc : (0 ≤ n ∧ n < 4) ∧ n.toNat ≠ i
  · rw [if_pos hc] at h ⊢
    rw [sendT_no h]
    funext a b; unfold setLL; split
    · rename_i e; rw [e.1, e.2]
    · rfl
  · rw [if_neg hc]
theorem map_at {P : List (Nat × SegT)} {k : Nat} {y : Int × ByteArray} (h : (P.map putP)[k]? = some y) : ∃ p, P[k]? = some p ∧ y.1 = (p.1 : Int) ∧ y.2 = (putG p.2).1 := by
  rw [List.getElem?_map] at h
  cases hp : P[k]? with
  | none => rw [hp] at h; cases h
  | some p => rw [hp] at h; cases h; exact ⟨p, rfl, rfl, rfl⟩
theorem inT_e0 {L : LnT} {g : SegT} (h : mayT g = true) : (inT L g).2.1 = 0 := by
  unfold inT; rw [if_neg (by simp [h])]
  split
  · rfl
  · split
    · rfl
    · split <;> rfl
theorem Gn_len {X : LLT} {sn gt : SLT} (h : HS X sn gt) {i k a b : Nat} (ha : a < 4) (hb : b < 4) : (Gn X gt i k a b).length ≤ 8 := by
  unfold Gn
  by_cases h0 : a = b
  · subst h0; rw [if_pos rfl, (h.di a).2]; exact Nat.zero_le _
  · rw [if_neg h0]
    have hp := h.pr a b ha hb h0
    have h8 : ∀ l : List SegT, (∀ s ∈ l, s ∈ outT (X a b) true) → (gt a b ++ accL (outN (X b a)) l).length ≤ 8 := fun l hl => by
      have q := hp.outs.recvY l hl
      have e := congrArg List.length q.ua.u4.1
      rw [List.length_take] at e
      have := q.lx; omega
    have g8 : (gt a b).length ≤ 8 := by
      have e := congrArg List.length hp.ua.u4.1
      rw [List.length_take] at e
      have := hp.lx; omega
    by_cases h1 : a < i
    · rw [if_pos h1]; exact h8 _ (fun s hs => hs)
    · rw [if_neg h1]
      by_cases h2 : a = i
      · subst h2; rw [if_pos rfl]
        refine h8 _ (fun s hs => ?_)
        unfold forT at hs
        obtain ⟨p, hp2, rfl⟩ := List.mem_map.1 hs
        obtain ⟨hp3, hp4⟩ := List.mem_filter.1 hp2
        have hm := prs_mem (List.mem_of_mem_take hp3)
        have e : p.1 = b := of_decide_eq_true hp4
        rw [← e]; exact hm.2.2
      · rw [if_neg h2]; exact g8
theorem putG_sz {g : SegT} (h : SegP g) : (putG g).1.size ≤ 9223372036854775807 := by
  obtain ⟨h1, h2, h3, h4, h5, h6, h7⟩ := mayT_iff.1 h.1
  rw [putG_of ⟨h1.1, h2.1, h3.1, h4.1, h5.1, h6.1⟩ h.2]
  show (segB g).length ≤ _
  have a1 := putL_le g.boot; have a2 := putL_le g.stream; have a3 := putL_le g.seq; have a4 := putL_le g.ab; have a5 := putL_le g.ast; have a6 := putL_le g.asq; have a7 := putL_le (g.body.size : Int); have a8 := h.2
  have a9 : g.body.data.toList.length = g.body.size := rfl
  unfold segB
  simp only [List.length_append, List.length_cons, List.length_nil]
  omega
theorem HS.len {X : LLT} {sn gt : SLT} (h : HS X sn gt) {a b : Nat} (ha : a < 4) (hb : b < 4) : (sn a b).length ≤ 8 := by
  by_cases h0 : a = b
  · subst h0; rw [(h.di a).1]; exact Nat.zero_le _
  · exact (h.pr a b ha hb h0).lx
theorem fm_one {α : Type} {E : α → List Value} {l : List α} (h : ∀ y, ∀ u ∈ E y, u.oneCell' = true) : ∀ u ∈ l.flatMap E, u.oneCell' = true := fun u hu => by
  obtain ⟨y, _, hy⟩ := List.mem_flatMap.1 hu; exact h y u hy
theorem row_raise {w : World} {B sz k : Nat} {e : TypeId} {v : Value} {xs : List Value} (h : w.ownsRow 0 e sz v k xs) (hB : ∀ i, v.ownBlock = some i → B ≤ i) : w.ownsRow B e sz v k xs := by
  refine ⟨h.1, ?_⟩
  rcases h.2 with h1 | ⟨g, cap, cur, rfl, hbg, hr⟩
  · exact .inl h1
  · exact .inr ⟨g, cap, cur, rfl, hB g rfl, hr⟩
section
variable {S S' Z : Nat → Prop} {w x : World} {hb b n0 : Nat} {q : Nat → Nat} {LL : LLT} {L : Nat → List ByteArray} {v u : Value}
theorem HubsO.lt (h : HubsO S w hb q LL) : hb < w.heap.size := by obtain ⟨F, h⟩ := h; exact h.blk.lt
theorem LstO.lt (h : LstO S w b L) : b < w.heap.size := by obtain ⟨V, h⟩ := h; exact h.blk.lt
theorem ap_fill (hs : ∀ n, S' n → S n ∨ n0 ≤ n) (ha : ∀ q, S q → Z q → False) (ho : ∀ q, Z q → q < n0) : ∀ q, S' q → Z q → False := fun q h1 h2 => (hs q h1).elim (fun h => ha q h h2) (fun h => Nat.not_lt.2 h (ho q h2))
theorem lo_fill {m : Nat} (hs : ∀ n, S' n → S n ∨ n0 ≤ n) (hl : ∀ q, S q → m ≤ q) (hn : m ≤ n0) : ∀ q, S' q → m ≤ q := fun q h1 => (hs q h1).elim (hl q) (fun h => Nat.le_trans hn h)
theorem offr_fill (hs : ∀ n, S' n → S n ∨ n0 ≤ n) (ha : ∀ k, v.ownBlock = some k → ¬ S k) (ho : ∀ k, v.ownBlock = some k → k < n0) : ∀ k, v.ownBlock = some k → ¬ S' k := fun k hk h1 => (hs k h1).elim (ha k hk) (fun h => Nat.not_lt.2 h (ho k hk))
theorem offb_fill (hs : ∀ n, S' n → S n ∨ n0 ≤ n) (ha : ¬ S b) (ho : b < n0) : ¬ S' b := fun h1 => (hs b h1).elim ha (fun h => Nat.not_lt.2 h ho)
theorem went_le (h : Went w v u) (hn : n0 ≤ w.heap.size) : u.ownBlock = v.ownBlock ∨ ∀ k, u.ownBlock = some k → n0 ≤ k := h.imp id (fun h k hk => Nat.le_trans hn (h k hk))
theorem LstH.mem {V : Nat → Value} {i : Nat} (h : LstH S w b V L i) : S b := (h.fp _).2 (.inl rfl)
end
theorem flatL_up {sn sn' : SLT} {a b : Nat} {t : List ByteArray} (hb : b < 4) (h : ∀ x y, (if x = a ∧ y = b then sn a b ++ t else sn x y) = sn' x y) : ∀ j, j < 16 → (if j = 4 * a + b then flatL sn (4 * a + b) ++ t else flatL sn j) = flatL sn' j := flatL_set hb fun x y _ _ => by rw [flatL_at hb]; exact h x y
theorem arr_blt {V : Nat → Value} {j : Nat} (hj : j < 16) : Nat.blt j (arr16 V).size = true := by
  show Nat.blt j 16 = true
  rw [Nat.blt_eq]; exact hj
set_option maxRecDepth 100000 in
theorem ixa_h4 (b i : Nat) (hi : i < 4) (w : World) : (Instr.indexAt 46 (pt b 0) (.int .i64 (i : Int))).run Try.prog w = .ok (pt b i) w := by
  have h : i = 0 ∨ i = 1 ∨ i = 2 ∨ i = 3 := by omega
  rcases h with rfl | rfl | rfl | rfl
  · exact (fun w => by kernel_rfl : ∀ w : World, (Instr.indexAt 46 (pt b 0) (.int .i64 0)).run Try.prog w = .ok (pt b 0) w) w
  · exact (fun w => by kernel_rfl : ∀ w : World, (Instr.indexAt 46 (pt b 0) (.int .i64 1)).run Try.prog w = .ok (pt b 1) w) w
  · exact (fun w => by kernel_rfl : ∀ w : World, (Instr.indexAt 46 (pt b 0) (.int .i64 2)).run Try.prog w = .ok (pt b 2) w) w
  · exact (fun w => by kernel_rfl : ∀ w : World, (Instr.indexAt 46 (pt b 0) (.int .i64 3)).run Try.prog w = .ok (pt b 3) w) w
set_option maxRecDepth 100000 in
theorem ixa_a4 (b i : Nat) (hi : i < 4) (w : World) : (Instr.indexAt 48 (pt b 0) (.int .i64 (i : Int))).run Try.prog w = .ok (pt b (4 * i)) w := by
  have h : i = 0 ∨ i = 1 ∨ i = 2 ∨ i = 3 := by omega
  rcases h with rfl | rfl | rfl | rfl
  · exact (fun w => by kernel_rfl : ∀ w : World, (Instr.indexAt 48 (pt b 0) (.int .i64 0)).run Try.prog w = .ok (pt b 0) w) w
  · exact (fun w => by kernel_rfl : ∀ w : World, (Instr.indexAt 48 (pt b 0) (.int .i64 1)).run Try.prog w = .ok (pt b 4) w) w
  · exact (fun w => by kernel_rfl : ∀ w : World, (Instr.indexAt 48 (pt b 0) (.int .i64 2)).run Try.prog w = .ok (pt b 8) w) w
  · exact (fun w => by kernel_rfl : ∀ w : World, (Instr.indexAt 48 (pt b 0) (.int .i64 3)).run Try.prog w = .ok (pt b 12) w) w
set_option maxRecDepth 100000 in
theorem ixa_b4 (b o i : Nat) (hi : i < 4) (w : World) : (Instr.indexAt 47 (pt b o) (.int .i64 (i : Int))).run Try.prog w = .ok (pt b (o + i)) w := by
  have h : i = 0 ∨ i = 1 ∨ i = 2 ∨ i = 3 := by omega
  rcases h with rfl | rfl | rfl | rfl
  · exact (fun w => by kernel_rfl : ∀ w : World, (Instr.indexAt 47 (pt b o) (.int .i64 0)).run Try.prog w = .ok (pt b (o + 0)) w) w
  · exact (fun w => by kernel_rfl : ∀ w : World, (Instr.indexAt 47 (pt b o) (.int .i64 1)).run Try.prog w = .ok (pt b (o + 1)) w) w
  · exact (fun w => by kernel_rfl : ∀ w : World, (Instr.indexAt 47 (pt b o) (.int .i64 2)).run Try.prog w = .ok (pt b (o + 2)) w) w
  · exact (fun w => by kernel_rfl : ∀ w : World, (Instr.indexAt 47 (pt b o) (.int .i64 3)).run Try.prog w = .ok (pt b (o + 3)) w) w
theorem hubs_mk4 {w : World} {hb a b c d n0 : Nat} {A B C D : Nat → Prop} (hB : Blk w hb 46 #[pt a 0, pt b 0, pt c 0, pt d 0]) (h0 : HbP A w a (newM 0 1 4)) (h1 : HbP B w b (newM 1 1 4)) (h2 : HbP C w c (newM 2 1 4)) (h3 : HbP D w d (newM 3 1 4))
    (s01 : ∀ q, A q → B q → False) (s02 : ∀ q, A q → C q → False) (s03 : ∀ q, A q → D q → False) (s12 : ∀ q, B q → C q → False) (s13 : ∀ q, B q → D q → False) (s23 : ∀ q, C q → D q → False) (o0 : ¬ A hb) (o1 : ¬ B hb) (o2 : ¬ C hb) (o3 : ¬ D hb)
    (l : n0 ≤ hb) (l0 : ∀ q, A q → n0 ≤ q) (l1 : ∀ q, B q → n0 ≤ q) (l2 : ∀ q, C q → n0 ≤ q) (l3 : ∀ q, D q → n0 ≤ q) :
    ∃ (q : Nat → Nat) (S : Nat → Prop), HubsO S w hb q (fun _ _ => newLn 1) ∧ ∀ k, S k → n0 ≤ k := by
  refine ⟨fun i => if i = 0 then a else if i = 1 then b else if i = 2 then c else d, _, hubs_mk (F := fun i => if i = 0 then A else if i = 1 then B else if i = 2 then C else D) hB (fun i hi => ?_) (fun i j hi hj hij k k1 k2 => ?_) (fun i hi => ?_), fun k hk => ?_⟩
  · obtain h | h | h | h : i = 0 ∨ i = 1 ∨ i = 2 ∨ i = 3 := by omega
    all_goals subst h
    · exact h0
    · exact h1
    · exact h2
    · exact h3
  · obtain h | h | h | h : i = 0 ∨ i = 1 ∨ i = 2 ∨ i = 3 := by omega
    all_goals subst h
    all_goals obtain h | h | h | h : j = 0 ∨ j = 1 ∨ j = 2 ∨ j = 3 := by omega
    all_goals subst h
    all_goals first | omega | exact s01 k k1 k2 | exact s02 k k1 k2 | exact s03 k k1 k2 | exact s12 k k1 k2 | exact s13 k k1 k2 | exact s23 k k1 k2
  · obtain h | h | h | h : i = 0 ∨ i = 1 ∨ i = 2 ∨ i = 3 := by omega
    all_goals subst h
    · exact o0
    · exact o1
    · exact o2
    · exact o3
  · rcases hk with rfl | ⟨i, hi, hk⟩
    · exact l
    · obtain h | h | h | h : i = 0 ∨ i = 1 ∨ i = 2 ∨ i = 3 := by omega
      all_goals subst h
      · exact l0 k hk
      · exact l1 k hk
      · exact l2 k hk
      · exact l3 k hk
end Go.Proofs.Ytpcbgkmnjmiigaa
