/- catenalaw07: ConfChain. Conditions: none. -/
import Derived.Test.YtghjhkojehlfmaaConfI
import Derived.Test.YtghjhkojehlfmaaConfJ
namespace Go.Proofs.Ytghjhkojehlfmaa
open Go.RowKit Go.PlainAid

theorem confPuts_law3 (a b : ConfT) (m : MemT) (w : World) (ha : ConfOk w a) (hb : ConfOk w b) (_ : memOk m) :
    Calls Try.prog 6 #[confV a, confV b, memV m] w fun e w' => e = .returned (.bool true) ∧ Below w.heap.size w w' := confPuts_law a b m w ha hb
theorem fndF_neg {P : MemT → Bool} : ∀ (l : List MemT) (i : Nat), fndF P l i < 0 → ∀ x ∈ l, P x = false
  | [], _, _ => by simp
  | m :: r, i, h => by
    unfold fndF at h
    split at h
    · omega
    rename_i hm
    intro x hx
    rcases List.mem_cons.1 hx with rfl | hx
    · simpa using hm
    · exact fndF_neg r (i + 1) h x hx
theorem chkM_all {ms : List MemT} (h : chkM [] ms = 0) : ∀ i, i ≤ ms.length → chkM (ms.take i) (ms.drop i) = 0 := by
  intro i
  induction i with
  | zero => intro _; exact h
  | succ i ih =>
    intro hi
    have h1 := ih (by omega)
    rw [chkM_at (show i < ms.length by omega)] at h1
    split at h1
    · omega
    split at h1
    · omega
    split at h1
    · omega
    exact h1
theorem chkM_uniq {ms : List MemT} (h : chkM [] ms = 0) {i j : Nat} (hj : j < i) (hi : i < ms.length) : ms[j].1 ≠ ms[i].1 := by
  have h1 := chkM_all h i (by omega)
  rw [chkM_at hi] at h1
  split at h1
  · omega
  split at h1
  · omega
  split at h1
  · omega
  rename_i h2
  have h3 := fndF_neg (P := fun o => o.1 == ms[i].1) (ms.take i) 0 (by unfold fnd at h2; omega) ms[j] (by
    rw [List.mem_take_iff_getElem]; exact ⟨j, by omega, rfl⟩)
  simpa using h3
theorem fnd_self {ms : List MemT} (h : chkM [] ms = 0) {i : Nat} (hi : i < ms.length) : fnd (· == ms[i]) ms = i := by
  have key : ∀ j, j ≤ i → fnd (· == ms[i]) ms = fndF (· == ms[i]) (ms.drop j) j := by
    intro j
    induction j with
    | zero => intro _; rfl
    | succ j ih =>
      intro hj
      rw [ih (by omega), fndF_cons (show j < ms.length by omega), if_neg]
      have := chkM_uniq h (show j < i by omega) hi
      intro he
      have e : ms[j] = ms[i] := by simpa using he
      exact this (by rw [e])
  rw [key i (Nat.le_refl _), fndF_cons hi]
  simp
theorem behind_self {ms : List MemT} (h : chkM [] ms = 0) {i : Nat} (hi : i < ms.length) : behindI ms ms[i] = idAtI ms ((i : Int) + 1) := by
  unfold behindI; rw [fnd_self h hi, if_neg (by omega)]
theorem ahead_self {ms : List MemT} (h : chkM [] ms = 0) {i : Nat} (hi : i + 1 < ms.length) : aheadI ms ms[i + 1] = ms[i].1 := by
  unfold aheadI
  rw [fnd_self h hi, show (((i + 1 : Nat) : Int) - 1) = (i : Nat) by omega, idAtI_at (by omega)]
/-- The configuration's box, the configuration, what was there. -/
def CW (n : Nat) (c : ConfT) (w w' : World) : Prop := CF n c w' ∧ ConfOk w' c ∧ Below w.heap.size w w'
theorem CW.below {n : Nat} {c : ConfT} {w w1 w2 : World} (h : CW n c w w1) (hb : Below w1.heap.size w1 w2) : CW n c w w2 := ⟨h.1.below hb, h.2.1.below hb, h.2.2.trans (hb.mono h.2.2.size)⟩
theorem CW.out {A : Prop} {n : Nat} {c : ConfT} {w w1 : World} (h : A ∧ CW n c w w1) : CW n c w w1 := h.2
def S11 (n bm : Nat) (c : ConfT) (m : MemT) (b o : Nat) (x : MemT) (w w' : World) : Prop :=
  (w'.cell? ⟨n, 0, none⟩ = some (.int .i64 c.ep) ∧ w'.cell? ⟨n, 1, none⟩ = some c.mv ∧ w'.cell? ⟨n, 2, none⟩ = some (.int .u64 c.fl) ∧ w'.cell? ⟨bm, 0, none⟩ = some (.int .i64 m.1) ∧ w'.cell? ⟨b, o, none⟩ = some (.int .i64 x.1) ∧ w'.cell? ⟨b, o + 1, none⟩ = some (.int .i64 x.2)) ∧ CW n c w w'
theorem S11.step {n bm : Nat} {c : ConfT} {m : MemT} {b o : Nat} {x : MemT} {w w1 w2 : World} (h : S11 n bm c m b o x w w1) (hb : Below w1.heap.size w1 w2) : S11 n bm c m b o x w w2 :=
  ⟨⟨cell_below hb h.1.1, cell_below hb h.1.2.1, cell_below hb h.1.2.2.1, cell_below hb h.1.2.2.2.1, cell_below hb h.1.2.2.2.2.1, cell_below hb h.1.2.2.2.2.2⟩, h.2.below hb⟩
def S14 (n bm : Nat) (c : ConfT) (m : MemT) (w w' : World) : Prop :=
  (w'.cell? ⟨n, 0, none⟩ = some (.int .i64 c.ep) ∧ w'.cell? ⟨n, 1, none⟩ = some c.mv ∧ w'.cell? ⟨n, 2, none⟩ = some (.int .u64 c.fl) ∧ w'.cell? ⟨bm, 0, none⟩ = some (.int .i64 m.1)) ∧ CW n c w w'
theorem S14.step {n bm : Nat} {c : ConfT} {m : MemT} {w w1 w2 : World} (h : S14 n bm c m w w1) (hb : Below w1.heap.size w1 w2) : S14 n bm c m w w2 :=
  ⟨⟨cell_below hb h.1.1, cell_below hb h.1.2.1, cell_below hb h.1.2.2.1, cell_below hb h.1.2.2.2⟩, h.2.below hb⟩
set_option maxRecDepth 100000 in
set_option maxHeartbeats 12800000 in
theorem confChain_law (c : ConfT) (w : World) (hc : ConfOk w c) :
    Calls Try.prog 9 #[confV c] w fun e w' => e = .returned (.bool true) ∧ Below w.heap.size w w' := by
  obtain ⟨W, hW⟩ : ∃ W, W = (w.alloc (.cells #[.int .i64 c.ep, c.mv, .int .u64 c.fl] 43)) := ⟨_, rfl⟩
  have hb1 := conf_boxed w c
  rw [← hW] at hb1
  obtain ⟨n, hn⟩ : ∃ n, n = w.heap.size := ⟨_, rfl⟩
  have HN := Lib.hid hn
  have HI0 : Hid (CW n c w W) := Lib.hid ⟨by rw [hn]; exact hb1.2, hc.below hb1.1, hb1.1⟩
  have HW := Lib.hid hW
  obtain ⟨ep, mv, ms, fl⟩ := c
  obtain ⟨ao, cap, hmv, hcap, hcm, _, hcell⟩ := hc.ms
  simp only at hmv hcap hcell HW ⊢
  subst hmv
  have HCell := Lib.hid hcell
  clear hb1 hW hn hc hcell
  unfold confV
  by_cases hx : chkC ep ms = 0
  · obtain ⟨_, ⟨l1, l2⟩, hm0, hmem⟩ := chkC_ok hx
    have HX := Lib.hid hx; have HM0 := Lib.hid hm0; have HMem := Lib.hid hmem
    clear hx hm0 hmem
    go_enter Try.func9, Try.ntmps9
    go_wp2_with fail
    rw [← HW.out]
    refine (rcheck_any ⟨ep, .slice ao ms.length cap, ms, fl⟩ _ HI0.out.2.1).mono ?_
    rintro e w1 ⟨rfl, hb⟩
    rw [show chkC (ConfT.mk ep (.slice ao ms.length cap) ms fl).ep (ConfT.mk ep (.slice ao ms.length cap) ms fl).ms = 0 from HX.out]
    have HI1 := Lib.hid (HI0.out.below hb)
    clear hb
    rw [← HN.out]
    obtain ⟨g0, g1, g2⟩ := HI1.out.1
    simp only at g0 g1 g2
    go_wp2_with fail
    refine (head_any ⟨ep, .slice ao ms.length cap, ms, fl⟩ _ HI1.out.2.1).mono ?_
    rintro e w2 ⟨rfl, hb⟩
    have HI2 := Lib.hid (HI1.out.below hb)
    clear hb g0 g1 g2
    go_wp2_with fail
    go_loopg [3, 4] (ms.length + 1) (fun g s3 s4 wr => ∃ i : Nat, s3 = .int .i64 (idAtI ms i) ∧ s4 = .int .i64 i ∧ i < ms.length ∧ ms.length + 1 ≤ i + g ∧ CW n ⟨ep, .slice ao ms.length cap, ms, fl⟩ w wr)
    case atStart => exact ⟨0, rfl, rfl, by omega, by omega, HI2.out⟩
    case round =>
      clear HI0 HI1 HI2
      obtain ⟨i, rfl, rfl, hlt, hg, hcw⟩ := hrel
      have HI := Lib.hid hcw
      obtain ⟨g0, g1, g2⟩ := hcw.1
      simp only at g0 g1 g2
      have hnl : n < wr.heap.size := World.block_lt_of_cell? wr _ g0
      obtain ⟨b, off, rfl, hr⟩ := HCell.out i hlt
      have hr1 : wr.rangeAt b (off + i * 2) (memE ms[i]) := fun j u hu => cell_below hcw.2.2 (hr j u hu)
      have HBe := Lib.hid (behind_self HM0.out hlt)
      have HFs := Lib.hid (fnd_self HM0.out hlt)
      have HAt : Hid (idAtI ms i = ms[i].1) := Lib.hid (idAtI_at hlt)
      have hmm := HMem.out ms[i] (List.getElem_mem hlt)
      have HNx : Hid (∀ h : i + 1 < ms.length, idAtI ms ((i : Int) + 1) = ms[i + 1].1 ∧ 0 ≤ ms[i + 1].1 ∧ aheadI ms ms[i + 1] = ms[i].1 ∧ ∃ bb oo, (some ⟨b, off, none⟩ : Option Addr) = some ⟨bb, oo, none⟩ ∧ w.rangeAt bb (oo + (i + 1) * 2) (memE ms[i + 1])) := Lib.hid (fun h => ⟨by
        have := idAtI_at h; rwa [show (((i + 1 : Nat) : Int)) = (i : Int) + 1 by omega] at this, (HMem.out ms[i + 1] (List.getElem_mem h)).1.1, ahead_self HM0.out h, HCell.out (i + 1) h⟩)
      have HTl : Hid (i + 1 = ms.length → idAtI ms ((ms.length : Int) - 1) = ms[i].1) := Lib.hid (fun h => by
        rw [← h, show ((((i + 1 : Nat) : Int)) - 1) = (i : Nat) by omega]; exact idAtI_at hlt)
      obtain ⟨m, hm⟩ : ∃ m, m = ms[i] := ⟨_, rfl⟩
      rw [← hm] at hr1 HBe HFs HAt hmm HNx HTl
      rw [HAt.out]
      have HR := Lib.hid hr1
      obtain ⟨W2, hW2⟩ : ∃ W2, W2 = wr.alloc (.cells #[.int .i64 m.1, .int .i64 m.2] 45) := ⟨_, rfl⟩
      obtain ⟨bm, hbm⟩ : ∃ bm, bm = wr.heap.size := ⟨_, rfl⟩
      have hb2 : Below wr.heap.size wr W2 := by rw [hW2]; exact (Below.refl _ _).alloc (Nat.le_refl _) _
      have HM2 : Hid (MB bm m W2) := Lib.hid (by rw [hbm, hW2]; unfold MB; exact heap_alloc_new wr _)
      have HI2 := Lib.hid (hcw.below hb2)
      have HW2 := Lib.hid hW2; have HBM := Lib.hid hbm
      clear hr hr1 hm hW2 hb2 hcw hbm hmm
      go_wp2_with (refine wpList_load_mid rfl 45 (.tmp 23) rfl b (off + i * 2) rfl (memE m) _ HR.out Try.underlying45 rfl (by kernel_rfl) ?_; unfold memE)
      rw [← HW2.out, ← HBM.out]
      refine (behind_any ⟨ep, .slice (some ⟨b, off, none⟩) ms.length cap, ms, fl⟩ m _ HI2.out.2.1).mono ?_
      rintro e w3 ⟨rfl, hb⟩
      rw [show behindI (ConfT.mk ep (.slice (some ⟨b, off, none⟩) ms.length cap) ms fl).ms m = idAtI ms ((i : Int) + 1) from HBe.out]
      have HI3 := Lib.hid (HI2.out.below hb); have HM3 := Lib.hid (HM2.out.below hb)
      clear hb g0 g1 g2 hnl
      obtain ⟨g0, g1, g2⟩ := HI3.out.1
      simp only at g0 g1 g2
      obtain ⟨m0, m1⟩ := HM3.out.cells
      go_wp2_with fail
      refine (place_any ⟨ep, .slice (some ⟨b, off, none⟩) ms.length cap, ms, fl⟩ m _ HI3.out.2.1).mono ?_
      rintro e w4 ⟨rfl, hb⟩
      rw [show fnd (· == m) (ConfT.mk ep (.slice (some ⟨b, off, none⟩) ms.length cap) ms fl).ms = i from HFs.out]
      have HI4 := Lib.hid (HI3.out.below hb); have HM4 := Lib.hid (HM3.out.below hb)
      clear hb g0 g1 g2 m0 m1
      by_cases hlast : i + 1 < ms.length
      · obtain ⟨hx1, hx2, hx3, bb, oo, he, hre⟩ := HNx.out hlast
        injection he with he; injection he with e1 e2 e3
        subst e1 e2
        obtain ⟨x, hx⟩ : ∃ x, x = ms[i + 1] := ⟨_, rfl⟩
        rw [← hx] at hx1 hx2 hx3 hre
        rw [hx1]
        have HX1 := Lib.hid hx1; have HX3 := Lib.hid hx3
        have HS : Hid (S11 n bm ⟨ep, .slice (some ⟨b, off, none⟩) ms.length cap, ms, fl⟩ m b (off + (i + 1) * 2) x w w4.drew) := Lib.hid ⟨⟨HI4.out.1.1, HI4.out.1.2.1, HI4.out.1.2.2, HM4.out.cells.1, cell_below HI4.out.2.2 (hre 0 _ rfl), cell_below HI4.out.2.2 (hre 1 _ rfl)⟩, HI4.out.below (Below.refl _ _).drew⟩
        have hadd : IntKind.i64.wrap ((i : Int) + 1) = (i : Int) + 1 := IntWalk.i64_in _ ⟨by omega, by omega⟩
        have hnn : 0 ≤ (i : Int) + 1 := by omega
        have htn : ((i : Int) + 1).toNat = i + 1 := by omega
        have hg1 : decide ((i : Int) + 1 < (ms.length : Int)) = true := decide_eq_true (by omega)
        have hlI : (i : Int) + 1 < (ms.length : Int) := by omega
        clear hx1 hx3 hre hx
        go_wp2_with fail
        go_region_held3 (fun w' => (w'.cell? ⟨n, 0, none⟩ = some (.int .i64 ep) ∧ w'.cell? ⟨n, 1, none⟩ = some (.slice (some ⟨b, off, none⟩) ms.length cap) ∧ w'.cell? ⟨n, 2, none⟩ = some (.int .u64 fl) ∧ w'.cell? ⟨bm, 0, none⟩ = some (.int .i64 m.1) ∧ w'.cell? ⟨b, off + (i + 1) * 2, none⟩ = some (.int .i64 x.1) ∧ w'.cell? ⟨b, off + (i + 1) * 2 + 1, none⟩ = some (.int .i64 x.2)) ∧ CW n ⟨ep, .slice (some ⟨b, off, none⟩) ms.length cap, ms, fl⟩ w w') (first | exact HS.out | exact S11.step (n := n) (bm := bm) (c := ⟨ep, .slice (some ⟨b, off, none⟩) ms.length cap, ms, fl⟩) (m := m) (b := b) (o := off + (i + 1) * 2) (x := x) (w := w) (by assumption) hb5 | assumption) (first
          | (go_at_call 33; have ht := CW.out (by assumption : _ ∧ CW n ⟨ep, .slice (some ⟨b, off, none⟩) ms.length cap, ms, fl⟩ w _); refine (ahead_any ⟨ep, .slice (some ⟨b, off, none⟩) ms.length cap, ms, fl⟩ x _ ht.2.1).mono ?_; rintro e w5 ⟨rfl, hb5⟩; rw [show aheadI (ConfT.mk ep (.slice (some ⟨b, off, none⟩) ms.length cap) ms fl).ms x = m.1 from HX3.out]; clear ht))
        have HF := Lib.hid (CW.out (by assumption : _ ∧ CW n ⟨ep, .slice (some ⟨b, off, none⟩) ms.length cap, ms, fl⟩ w _))
        clear hadd hnn htn hg1
        have hx2' : ¬ x.1 < 0 := by omega
        go_wp2
        go_roundg (gk - 1)
        case rel => exact ⟨i + 1, by rw [show (((i + 1 : Nat) : Int)) = (i : Int) + 1 by omega, HX1.out], by go_num, by omega, by omega, HF.out⟩
        case measure => omega
      · have hil : i + 1 = ms.length := by omega
        have hno : idAtI ms ((i : Int) + 1) = -1 := idAtI_no (Or.inr (by omega))
        rw [hno]
        have HTl2 := Lib.hid (HTl.out hil)
        have hadd : IntKind.i64.wrap ((i : Int) + 1) = (i : Int) + 1 := IntWalk.i64_in _ ⟨by omega, by omega⟩
        have hg1 : decide ((i : Int) + 1 < (ms.length : Int)) = false := decide_eq_false (by omega)
        have hsub : IntKind.i64.wrap ((ms.length : Int) - 1) = (ms.length : Int) - 1 := IntWalk.i64_in _ ⟨by omega, by omega⟩
        have heq : ((i : Int) == (ms.length : Int) - 1) = true := beq_iff_eq.2 (by omega)
        obtain ⟨g0, g1, g2⟩ := HI4.out.1
        simp only at g0 g1 g2
        obtain ⟨m0, m1⟩ := HM4.out.cells
        have HIL := Lib.hid hil
        have HS : Hid (∀ k, S14 n bm ⟨ep, .slice (some ⟨b, off, none⟩) ms.length cap, ms, fl⟩ m w ((w4.drewN k).drew)) := Lib.hid (fun k => ⟨⟨HI4.out.1.1, HI4.out.1.2.1, HI4.out.1.2.2, HM4.out.cells.1⟩, (HI4.out.below (below_draws (Below.refl _ _) k)).below (Below.refl _ _).drew⟩)
        clear hno hil hlast
        go_wp2_with fail
        go_quiet (fail)
        obtain ⟨k1, hk1⟩ : ∃ k, k = nq := ⟨_, rfl⟩
        rw [← hk1]
        clear hk1
        have HS1 := Lib.hid (HS.out k1)
        go_wp2_with fail
        go_region_held3 (fun w' => (w'.cell? ⟨n, 0, none⟩ = some (.int .i64 ep) ∧ w'.cell? ⟨n, 1, none⟩ = some (.slice (some ⟨b, off, none⟩) ms.length cap) ∧ w'.cell? ⟨n, 2, none⟩ = some (.int .u64 fl) ∧ w'.cell? ⟨bm, 0, none⟩ = some (.int .i64 m.1)) ∧ CW n ⟨ep, .slice (some ⟨b, off, none⟩) ms.length cap, ms, fl⟩ w w') (first | exact HS1.out | exact S14.step (n := n) (bm := bm) (c := ⟨ep, .slice (some ⟨b, off, none⟩) ms.length cap, ms, fl⟩) (m := m) (w := w) (by assumption) hb6 | exact S14.step (n := n) (bm := bm) (c := ⟨ep, .slice (some ⟨b, off, none⟩) ms.length cap, ms, fl⟩) (m := m) (w := w) (by assumption) hb5 | assumption) (first
          | (go_at_call 39; have ht := CW.out (by assumption : _ ∧ CW n ⟨ep, .slice (some ⟨b, off, none⟩) ms.length cap, ms, fl⟩ w _); refine (tail_any ⟨ep, .slice (some ⟨b, off, none⟩) ms.length cap, ms, fl⟩ _ ht.2.1).mono ?_; rintro e w5 ⟨rfl, hb5⟩; rw [show idAtI (ConfT.mk ep (.slice (some ⟨b, off, none⟩) ms.length cap) ms fl).ms (((ConfT.mk ep (.slice (some ⟨b, off, none⟩) ms.length cap) ms fl).ms.length : Int) - 1) = m.1 from HTl2.out]; clear ht)
          | (go_at_call 24; refine (awake07 _).mono ?_; rintro e w6 ⟨rfl, hb6⟩))
        have HF := Lib.hid (CW.out (by assumption : _ ∧ CW n ⟨ep, .slice (some ⟨b, off, none⟩) ms.length cap, ms, fl⟩ w _))
        go_wp2
        go_ret
        exact ⟨rfl, HF.out.2.2⟩
  · have hq : (chkC ep ms != 0) = true := by simp [hx]
    clear hx
    go_enter Try.func9, Try.ntmps9
    go_wp2_with fail
    rw [← HW.out]
    refine (rcheck_any ⟨ep, .slice ao ms.length cap, ms, fl⟩ _ HI0.out.2.1).mono ?_
    rintro e w1 ⟨rfl, hb⟩
    have HI1 := Lib.hid (HI0.out.below hb)
    clear hb
    go_wp2_with fail
    refine (awake07 _).mono ?_
    rintro e w7 ⟨rfl, hb⟩
    have HB7 := Lib.hid (HI1.out.2.2.trans (hb.mono HI1.out.2.2.size)); clear hb
    go_wp2
    go_ret
    exact ⟨rfl, HB7.out⟩
end Go.Proofs.Ytghjhkojehlfmaa
