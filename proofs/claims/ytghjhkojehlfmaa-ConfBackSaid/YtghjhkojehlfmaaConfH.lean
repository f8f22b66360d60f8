/- The document's own conf: the bytes of a configuration. Conditions: none. -/
import Derived.Test.YtghjhkojehlfmaaConfG
namespace Go.Proofs.Ytghjhkojehlfmaa
open Go.RowKit Go.PlainAid

/-- The document's Writer under way. -/
def PX (b : Nat) (l : List UInt8) (w0 w : World) : Prop := RWr w b l 0 ∧ Below w0.heap.size w0 w
theorem PX.step {b : Nat} {l l' : List UInt8} {w0 w w' : World} (h : PX b l w0 w) (hb0 : w0.heap.size ≤ b) (h1 : RWr w' b l' 0) (hb : But (Own b) w w') : PX b l' w0 w' :=
  ⟨h1, below_but h.2 hb h.2.size (fun k _ hk => by unfold Own at hk; omega)⟩
set_option maxRecDepth 100000 in
set_option maxHeartbeats 3200000 in
theorem rput_err (c : ConfT) (w : World) (h : ConfOk w c) (hx : chkC c.ep c.ms ≠ 0) :
    Calls Try.prog 26 #[confV c] w fun e w' => e = .returned (.tuple #[.string ⟨#[]⟩, .int .i64 (chkC c.ep c.ms)]) ∧ Below w.heap.size w w' := by
  obtain ⟨W, hW⟩ : ∃ W, W = (w.alloc (.cells #[.int .i64 c.ep, c.mv, .int .u64 c.fl] 43)) := ⟨_, rfl⟩
  have hb1 := conf_boxed w c
  rw [← hW] at hb1
  have HB := Lib.hid hb1.1
  have HC := Lib.hid hb1.2
  have H := Lib.hid (h.below HB.out)
  have HW := Lib.hid hW
  have hq : (chkC c.ep c.ms != 0) = true := by simp [hx]
  clear h hb1 hx hW
  unfold confV
  go_enter Try.func26, Try.ntmps26
  go_wp2_with fail
  rw [← HW.out]
  refine (rcheck_any c _ H.out).mono ?_
  rintro e w1 ⟨rfl, hb⟩
  have HB1 := Lib.hid (HB.out.trans (hb.mono HB.out.size)); clear hb
  go_wp2
  go_ret2
  exact ⟨rfl, HB1.out⟩
set_option maxRecDepth 100000 in
set_option maxHeartbeats 6400000 in
theorem rput_ok (c : ConfT) (w : World) (h : ConfOk w c) (hx : chkC c.ep c.ms = 0) :
    Calls Try.prog 26 #[confV c] w fun e w' => e = .returned (.tuple #[.string ⟨(putC c.ep c.ms c.fl).toArray⟩, .int .i64 0]) ∧ Below w.heap.size w w' := by
  obtain ⟨⟨e1, e2⟩, ⟨l1, l2⟩, _, hmem⟩ := chkC_ok hx
  obtain ⟨W, hW⟩ : ∃ W, W = (w.alloc (.cells #[.int .i64 c.ep, c.mv, .int .u64 c.fl] 43)) := ⟨_, rfl⟩
  have hb1 := conf_boxed w c
  rw [← hW] at hb1
  have HB := Lib.hid hb1.1
  have HC := Lib.hid hb1.2
  have H := Lib.hid (h.below HB.out)
  have HW := Lib.hid hW; have HX := Lib.hid hx; have HMem := Lib.hid hmem
  have hf0 := h.f0; have hf1 := h.f1
  obtain ⟨ep, mv, ms, fl⟩ := c
  obtain ⟨ao, cap, hmv, hcap, hcm, _, hcell⟩ := h.ms
  simp only at hmv hcap hcell e1 e2 l1 l2 hf0 hf1 ⊢
  subst hmv
  have HCell := Lib.hid hcell
  have hpm := putM_len ms
  have hp1 := putL_le ep; have hp2 := putL_le (ms.length : Int); have hp3 := putL_le fl
  clear h hb1 hx hW hmem hcell
  unfold confV
  go_enter Try.func26, Try.ntmps26
  go_wp2_with fail
  rw [← HW.out]
  refine (rcheck_any ⟨ep, .slice ao ms.length cap, ms, fl⟩ _ H.out).mono ?_
  rintro e w1 ⟨rfl, hb⟩
  rw [show chkC (ConfT.mk ep (.slice ao ms.length cap) ms fl).ep (ConfT.mk ep (.slice ao ms.length cap) ms fl).ms = 0 from HX.out]
  have HB1 := Lib.hid (HB.out.trans (hb.mono HB.out.size))
  have HC1 := Lib.hid (HC.out.below hb)
  clear hb
  obtain ⟨w2, hw2⟩ : ∃ w2, w2 = w1.alloc (.cells #[.string ⟨#[]⟩, .int .i64 0] 95) := ⟨_, rfl⟩
  have hb2 : Below w1.heap.size w1 w2 := by rw [hw2]; exact (Below.refl _ _).alloc (Nat.le_refl _) _
  have d0 : w1.cell? ⟨w.heap.size, 0, none⟩ = some (.int .i64 ep) := HC1.out.1
  have hlt1 : w.heap.size < w1.heap.size := World.block_lt_of_cell? w1 _ d0
  have HP2 : Hid (PX w1.heap.size [] w1 w2) := Lib.hid ⟨by rw [hw2]; exact ⟨by simp, by simp, by simp, by simp⟩, hb2⟩
  have HW2 := Lib.hid hw2
  clear hw2 hb2
  go_wp2_with fail
  rw [← HW2.out]
  clear HW2
  obtain ⟨b, hbb⟩ : ∃ b, b = w1.heap.size := ⟨_, rfl⟩
  rw [← hbb] at HP2 ⊢
  have hb0 : w1.heap.size ≤ b := by omega
  clear hbb
  clear hlt1
  refine (xNum_any b [] 0 ep _ HP2.out.1 (by simp) (by omega)).mono ?_
  rintro e w3 ⟨rfl, hm, hb⟩
  rw [wNum_good (by omega)] at hm
  have HP3 := Lib.hid (HP2.out.step hb0 hm hb)
  have d1 : w3.cell? ⟨w.heap.size, 1, none⟩ = some (.slice ao ms.length cap) := cell_below HP3.out.2 HC1.out.2.1
  clear hm hb d0 HP2
  go_wp2_with fail
  refine (xNum_any b _ 0 (ms.length : Int) _ HP3.out.1 (by simp; omega) (by omega)).mono ?_
  rintro e w4 ⟨rfl, hm, hb⟩
  rw [wNum_good (by omega)] at hm
  have HP4 := Lib.hid (HP3.out.step hb0 hm hb)
  clear hm hb d1 HP3
  have hHP : Hid (PX b (putL ep ++ putL (ms.length : Int) ++ putM (ms.take 0)) w1 w4) := Lib.hid (by have := HP4.out; simpa [putM] using this)
  clear HP4
  go_wp2_with fail
  go_loopg [6] (ms.length + 1) (fun g s6 wr => ∃ i : Nat, s6 = .int .i64 i ∧ i ≤ ms.length ∧ ms.length + 1 ≤ i + g ∧ PX b (putL ep ++ putL (ms.length : Int) ++ putM (ms.take i)) w1 wr)
  case atStart => exact ⟨0, rfl, by omega, by omega, hHP.out⟩
  case round =>
    clear hHP
    obtain ⟨i, rfl, hi, hg, hpw⟩ := hrel
    have HI := Lib.hid hpw
    have hbw : Below w.heap.size w wr := HB1.out.trans (hpw.2.mono HB1.out.size)
    have HBW := Lib.hid hbw
    have hpl : (putM (ms.take i)).length ≤ 18 * ms.length := by have := putM_len (ms.take i); rw [List.length_take] at this; omega
    have q1 : wr.cell? ⟨w.heap.size, 1, none⟩ = some (.slice ao ms.length cap) := cell_below hpw.2 HC1.out.2.1
    clear hpw hbw
    by_cases hlt : i < ms.length
    · obtain ⟨bb, off, rfl, hr⟩ := HCell.out i hlt
      have g0 := cell_below HBW.out (hr 0 _ rfl)
      rw [Nat.add_zero] at g0
      have hmm := HMem.out ms[i] (List.getElem_mem hlt)
      have HS := Lib.hid (takeS hlt)
      have HR := Lib.hid (fun (w' : World) (hb : Below w.heap.size w w') => cell_below hb (hr 1 _ rfl))
      obtain ⟨m, hm⟩ : ∃ m, m = ms[i] := ⟨_, rfl⟩
      rw [← hm] at g0 HS hmm HR
      obtain ⟨⟨m1, m2⟩, m3, m4⟩ := hmm
      clear hr hm
      go_wp2_with fail
      refine (xNum_any b _ 0 m.1 _ HI.out.1 (by simp; omega) (by omega)).mono ?_
      rintro e w3 ⟨rfl, hm, hb⟩
      rw [wNum_good (by omega)] at hm
      have HP3 := Lib.hid (HI.out.step hb0 hm hb)
      have g1 := HR.out w3 (HB1.out.trans (HP3.out.2.mono HB1.out.size))
      have q2 : w3.cell? ⟨w.heap.size, 1, none⟩ = some (.slice (some ⟨bb, off, none⟩) ms.length cap) := cell_below HP3.out.2 HC1.out.2.1
      clear hm hb
      go_wp2_with fail
      refine (xNum_any b _ 0 m.2 _ HP3.out.1 (by have := putL_le m.1; simp; omega) (by omega)).mono ?_
      rintro e w5 ⟨rfl, hm, hb⟩
      rw [wNum_good (by omega)] at hm
      have HP5 := Lib.hid (HP3.out.step hb0 hm hb)
      clear hm hb
      have HN : Hid (PX b (putL ep ++ putL (ms.length : Int) ++ putM (ms.take (i + 1))) w1 w5) := Lib.hid (by rw [HS.out, putM_snoc]; have := HP5.out; simpa [List.append_assoc] using this)
      clear HP5
      go_wp2
      go_roundg (gk - 1)
      case rel => exact ⟨i + 1, by go_num, by omega, by omega, HN.out⟩
      case measure => omega
    · have hd2 : wr.cell? ⟨w.heap.size, 2, none⟩ = some (.int .u64 fl) := cell_below HI.out.2 HC1.out.2.2
      have HZ : Hid (putL ep ++ putL (ms.length : Int) ++ putM (ms.take i) ++ putL fl = putC ep ms fl) := Lib.hid (by unfold putC; rw [show i = ms.length by omega, List.take_length])
      go_wp2_with fail
      refine (xBig_any b _ 0 fl _ HI.out.1 (by simp; omega) hf0 hf1).mono ?_
      rintro e w3 ⟨rfl, hm, hb⟩
      rw [wBig_good, HZ.out] at hm
      have HP3 := Lib.hid (HI.out.step hb0 hm hb)
      clear hm hb
      go_wp2_with fail
      refine (xDone_any b (putC ep ms fl) 0 _ HP3.out.1).mono ?_
      rintro e w4 ⟨rfl, hb⟩
      rw [if_pos rfl]
      have HF := Lib.hid ((HB1.out.trans (HP3.out.2.mono HB1.out.size)).trans (hb.mono ((HB1.out.trans (HP3.out.2.mono HB1.out.size)).size)))
      clear hb
      go_wp2
      go_ret2
      exact ⟨rfl, HF.out⟩
end Go.Proofs.Ytghjhkojehlfmaa
