/- catenalaw07: ConfBack. Conditions: none. -/
import Derived.Test.YtghjhkojehlfmaaConfQ
import Derived.Test.YtghjhkojehlfmaaConfIa
namespace Go.Proofs.Ytghjhkojehlfmaa
open Go.RowKit Go.PlainAid

theorem OfSpec.back {c a : ConfT} (h : OfSpec ⟨(putC a.ep a.ms a.fl).toArray⟩ c) (hc : chkC a.ep a.ms = 0) (h0 : 0 ≤ a.fl) (h1 : a.fl < 18446744073709551616) : sameC a c = true := by
  obtain ⟨e0, e1, e2, e3⟩ := of_put hc h0 h1
  unfold OfSpec at h
  rw [if_pos e0, e1, e2, e3] at h
  unfold sameC
  exact decide_eq_true ⟨h.1.symm, h.2.2.symm, h.2.1.symm⟩
theorem putC_size {ep fl : Int} {ms : List MemT} (hc : chkC ep ms = 0) : (⟨(putC ep ms fl).toArray⟩ : ByteArray).size ≤ 2000 := by
  obtain ⟨_, ⟨_, l2⟩, _, _⟩ := chkC_ok hc
  have h1 := putL_le ep; have h2 := putL_le (ms.length : Int); have h3 := putL_le fl; have h4 := putM_len ms
  have : (⟨(putC ep ms fl).toArray⟩ : ByteArray).size = (putC ep ms fl).length := rfl
  rw [this]; unfold putC; simp only [List.length_append]; omega
theorem OfSpec.zero {s : ByteArray} {c : ConfT} (h : OfSpec s c) (hx : ofErr s ≠ 0) : sameC c ⟨0, .slice none 0 0, [], 0⟩ = true := by
  unfold OfSpec at h
  rw [if_neg hx] at h
  unfold sameC
  exact decide_eq_true ⟨h.1, h.2.2, h.2.1⟩
theorem OfSpec.put {s : ByteArray} {c : ConfT} (h : OfSpec s c) (hx : ofErr s = 0) : putS c = s ∧ chkC c.ep c.ms = 0 := by
  unfold OfSpec at h
  rw [if_pos hx] at h
  obtain ⟨h1, h2⟩ := of_back hx
  rw [← h.1, ← h.2.1] at h2
  rw [← h.1, ← h.2.1, ← h.2.2] at h1
  refine ⟨?_, h2⟩
  unfold putS
  rw [if_pos h2]; exact h1
theorem slice_of {w : World} {c : ConfT} (h : ConfOk w c) : ∃ ep ao ms cap fl, c = ⟨ep, .slice ao ms.length cap, ms, fl⟩ := by
  obtain ⟨ep, mv, ms, fl⟩ := c
  obtain ⟨ao, cap, hmv, _⟩ := h.ms
  simp only at hmv
  subst hmv
  exact ⟨ep, ao, ms, cap, fl, rfl⟩
/-- Behind the first half: a text is read, and put again. -/
def BW (n : Nat) (a : ConfT) (w w' : World) : Prop := CF n a w' ∧ ConfOk w' a ∧ Below w.heap.size w w'
theorem BW.below {n : Nat} {a : ConfT} {w w1 w2 : World} (h : BW n a w w1) (hb : Below w1.heap.size w1 w2) : BW n a w w2 := ⟨h.1.below hb, h.2.1.below hb, h.2.2.trans (hb.mono h.2.2.size)⟩
set_option maxRecDepth 100000 in
set_option maxHeartbeats 12800000 in
theorem confBack_law (a : ConfT) (s : ByteArray) (w : World) (ha : ConfOk w a) (hss : s.size ≤ 140737488351232) :
    Calls Try.prog 8 #[confV a, .string s] w fun e w' => e = .returned (.bool true) ∧ Below w.heap.size w w' := by
  obtain ⟨W, hW⟩ : ∃ W, W = (w.alloc (.cells #[.int .i64 a.ep, a.mv, .int .u64 a.fl] 43)) := ⟨_, rfl⟩
  have hb1 := conf_boxed w a
  rw [← hW] at hb1
  obtain ⟨n, hn⟩ : ∃ n, n = w.heap.size := ⟨_, rfl⟩
  have HN := Lib.hid hn
  have HI0 : Hid (BW n a w W) := Lib.hid ⟨by rw [hn]; exact hb1.2, ha.below hb1.1, hb1.1⟩
  have HW := Lib.hid hW
  have HF0 := Lib.hid ha.f0; have HF1 := Lib.hid ha.f1
  obtain ⟨ep, ao, ms, cap, fl, hae⟩ := slice_of ha
  have hlen := ha.ms.len_le
  subst hae
  simp only at HW HF0 HF1 hlen
  obtain ⟨er, her⟩ : ∃ er, ofErr s = er := ⟨_, rfl⟩
  have HEr := Lib.hid her
  clear hb1 hW hn ha her
  unfold confV
  by_cases hlong : 20 < ms.length ∨ 2000 < s.size
  · rcases (show (20 : Int) < (ms.length : Int) ∨ ((ms.length : Int) ≤ 20 ∧ (2000 : Int) < (s.size : Int)) by omega) with h1 | ⟨h1, h2⟩
    all_goals
      clear hlong
      go_enter Try.func8, Try.ntmps8
      go_wp2_with fail
      rw [← HW.out]
      refine (awake07 _).mono ?_
      rintro e w1 ⟨rfl, hb⟩
      have HB1 := Lib.hid (HI0.out.2.2.trans (hb.mono HI0.out.2.2.size)); clear hb
      go_wp2
      go_ret
      exact ⟨rfl, HB1.out⟩
  have h1 : (ms.length : Int) ≤ 20 := by omega
  have h2 : (s.size : Int) ≤ 2000 := by omega
  have hs3 : s.size ≤ 2000 := by omega
  clear hlong
  by_cases hck : chkC ep ms = 0
  · have HCk := Lib.hid hck
    have HPs : Hid (putS ⟨ep, .slice ao ms.length cap, ms, fl⟩ = ⟨(putC ep ms fl).toArray⟩) := Lib.hid (by unfold putS; rw [if_pos hck])
    have HSz := Lib.hid (putC_size (fl := fl) hck)
    obtain ⟨T, hT⟩ : ∃ T, T = (⟨(putC ep ms fl).toArray⟩ : ByteArray) := ⟨_, rfl⟩
    rw [← hT] at HPs HSz
    have HT := Lib.hid hT
    have hTe : ofErr T = 0 := by rw [hT]; exact (of_put hck HF0.out HF1.out).1
    have HTe := Lib.hid hTe
    clear hck hT hTe
    go_enter Try.func8, Try.ntmps8
    go_wp2_with fail
    rw [← HW.out]
    refine (cput_any ⟨ep, .slice ao ms.length cap, ms, fl⟩ _ HI0.out.2.1).mono ?_
    rintro e w1 ⟨rfl, hb⟩
    rw [HPs.out, show chkC (ConfT.mk ep (.slice ao ms.length cap) ms fl).ep (ConfT.mk ep (.slice ao ms.length cap) ms fl).ms = 0 from HCk.out]
    have HI1 := Lib.hid (HI0.out.below hb); clear hb
    go_wp2_with fail
    refine (of_any T _ HSz.out).mono ?_
    rintro e w2 ⟨c, rfl, hsp, hok, hb⟩
    rw [HTe.out]
    rw [HT.out] at hsp
    obtain ⟨ep1, ao1, ms1, cap1, fl1, hce⟩ := slice_of hok
    subst hce
    have HSame := Lib.hid (OfSpec.back (a := ⟨ep, .slice ao ms.length cap, ms, fl⟩) hsp HCk.out HF0.out HF1.out)
    have HI2 := Lib.hid (HI1.out.below hb)
    have HOc := Lib.hid hok
    clear hsp hok hb
    obtain ⟨w3, hw3⟩ : ∃ w3, w3 = (w2.alloc (.cells #[.int .i64 ep1, .slice ao1 ms1.length cap1, .int .u64 fl1] 43)) := ⟨_, rfl⟩
    have HI3 : Hid (BW n ⟨ep, .slice ao ms.length cap, ms, fl⟩ w w3) := Lib.hid (by rw [hw3]; exact HI2.out.below (conf_boxed w2 ⟨ep1, .slice ao1 ms1.length cap1, ms1, fl1⟩).1)
    have HO3 : Hid (ConfOk w3 ⟨ep1, .slice ao1 ms1.length cap1, ms1, fl1⟩) := Lib.hid (by rw [hw3]; exact HOc.out.below (conf_boxed w2 ⟨ep1, .slice ao1 ms1.length cap1, ms1, fl1⟩).1)
    have HW3 := Lib.hid hw3
    clear hw3
    unfold confV
    rw [← HN.out]
    obtain ⟨g0, g1, g2⟩ := HI2.out.1
    simp only at g0 g1 g2
    have hnl : n < w2.heap.size := World.block_lt_of_cell? w2 _ g0
    go_wp2_with fail
    rw [← HW3.out]
    refine (rsame_any ⟨ep, .slice ao ms.length cap, ms, fl⟩ ⟨ep1, .slice ao1 ms1.length cap1, ms1, fl1⟩ _ HI3.out.2.1 HO3.out).mono ?_
    rintro e w4 ⟨rfl, hb⟩
    rw [HSame.out]
    have HB4 := Lib.hid (HI3.out.2.2.trans (hb.mono HI3.out.2.2.size))
    clear hb g0 g1 g2 hnl
    by_cases hx : er = 0
    · have hq : (er != 0) = false := by simp [hx]
      have HX := Lib.hid hx
      clear hx
      go_wp2_with fail
      refine (of_any s _ hs3).mono ?_
      rintro e wd ⟨d, rfl, hsp, hok, hb⟩
      rw [HEr.out]
      obtain ⟨ep2, ao2, ms2, cap2, fl2, hde⟩ := slice_of hok
      subst hde
      have hp := hsp.put (HEr.out.trans HX.out)
      have HP1 := Lib.hid hp.1; have HP2 := Lib.hid hp.2
      have HOd := Lib.hid hok
      have HBd := Lib.hid (HB4.out.trans (hb.mono HB4.out.size))
      clear hsp hok hb hp
      unfold confV
      go_wp2_with fail
      refine (cput_any ⟨ep2, .slice ao2 ms2.length cap2, ms2, fl2⟩ _ (HOd.out.below (conf_boxed wd ⟨ep2, .slice ao2 ms2.length cap2, ms2, fl2⟩).1)).mono ?_
      rintro e we ⟨rfl, hb⟩
      rw [HP1.out, HP2.out]
      have HBe := Lib.hid ((HBd.out.trans ((conf_boxed wd ⟨ep2, .slice ao2 ms2.length cap2, ms2, fl2⟩).1.mono HBd.out.size)).trans (hb.mono ((HBd.out.trans ((conf_boxed wd ⟨ep2, .slice ao2 ms2.length cap2, ms2, fl2⟩).1.mono HBd.out.size)).size)))
      clear hb
      go_wp2_with fail
      refine (awake07 _).mono ?_
      rintro e wf ⟨rfl, hb⟩
      have HBf := Lib.hid (HBe.out.trans (hb.mono HBe.out.size)); clear hb
      go_wp2
      go_ret
      exact ⟨rfl, HBf.out⟩
    · have hq : (er != 0) = true := by simp [hx]
      have HX := Lib.hid hx
      clear hx
      go_wp2_with fail
      refine (of_any s _ hs3).mono ?_
      rintro e wd ⟨d, rfl, hsp, hok, hb⟩
      rw [HEr.out]
      obtain ⟨ep2, ao2, ms2, cap2, fl2, hde⟩ := slice_of hok
      subst hde
      have HZ := Lib.hid (hsp.zero (by rw [HEr.out]; exact HX.out))
      have HOd := Lib.hid hok
      have HBd := Lib.hid (HB4.out.trans (hb.mono HB4.out.size))
      clear hsp hok hb
      unfold confV
      go_wp2_with fail
      refine (rsame_any ⟨ep2, .slice ao2 ms2.length cap2, ms2, fl2⟩ ⟨0, .slice none 0 0, [], 0⟩ _ (HOd.out.below (conf_boxed wd ⟨ep2, .slice ao2 ms2.length cap2, ms2, fl2⟩).1) (zero_ok _)).mono ?_
      rintro e we ⟨rfl, hb⟩
      rw [HZ.out]
      have HBe := Lib.hid ((HBd.out.trans ((conf_boxed wd ⟨ep2, .slice ao2 ms2.length cap2, ms2, fl2⟩).1.mono HBd.out.size)).trans (hb.mono ((HBd.out.trans ((conf_boxed wd ⟨ep2, .slice ao2 ms2.length cap2, ms2, fl2⟩).1.mono HBd.out.size)).size)))
      clear hb
      go_wp2_with fail
      refine (awake07 _).mono ?_
      rintro e wf ⟨rfl, hb⟩
      have HBf := Lib.hid (HBe.out.trans (hb.mono HBe.out.size)); clear hb
      go_wp2
      go_ret
      exact ⟨rfl, HBf.out⟩
  · have hckb : (chkC ep ms == 0) = false := by simp [hck]
    clear hck
    go_enter Try.func8, Try.ntmps8
    go_wp2_with fail
    rw [← HW.out]
    refine (cput_any ⟨ep, .slice ao ms.length cap, ms, fl⟩ _ HI0.out.2.1).mono ?_
    rintro e w1 ⟨rfl, hb⟩
    have HB4 := Lib.hid (HI0.out.below hb).2.2; clear hb
    by_cases hx : er = 0
    · have hq : (er != 0) = false := by simp [hx]
      have HX := Lib.hid hx
      clear hx
      go_wp2_with fail
      refine (of_any s _ hs3).mono ?_
      rintro e wd ⟨d, rfl, hsp, hok, hb⟩
      rw [HEr.out]
      obtain ⟨ep2, ao2, ms2, cap2, fl2, hde⟩ := slice_of hok
      subst hde
      have hp := hsp.put (HEr.out.trans HX.out)
      have HP1 := Lib.hid hp.1; have HP2 := Lib.hid hp.2
      have HOd := Lib.hid hok
      have HBd := Lib.hid (HB4.out.trans (hb.mono HB4.out.size))
      clear hsp hok hb hp
      unfold confV
      go_wp2_with fail
      refine (cput_any ⟨ep2, .slice ao2 ms2.length cap2, ms2, fl2⟩ _ (HOd.out.below (conf_boxed wd ⟨ep2, .slice ao2 ms2.length cap2, ms2, fl2⟩).1)).mono ?_
      rintro e we ⟨rfl, hb⟩
      rw [HP1.out, HP2.out]
      have HBe := Lib.hid ((HBd.out.trans ((conf_boxed wd ⟨ep2, .slice ao2 ms2.length cap2, ms2, fl2⟩).1.mono HBd.out.size)).trans (hb.mono ((HBd.out.trans ((conf_boxed wd ⟨ep2, .slice ao2 ms2.length cap2, ms2, fl2⟩).1.mono HBd.out.size)).size)))
      clear hb
      go_wp2_with fail
      refine (awake07 _).mono ?_
      rintro e wf ⟨rfl, hb⟩
      have HBf := Lib.hid (HBe.out.trans (hb.mono HBe.out.size)); clear hb
      go_wp2
      go_ret
      exact ⟨rfl, HBf.out⟩
    · have hq : (er != 0) = true := by simp [hx]
      have HX := Lib.hid hx
      clear hx
      go_wp2_with fail
      refine (of_any s _ hs3).mono ?_
      rintro e wd ⟨d, rfl, hsp, hok, hb⟩
      rw [HEr.out]
      obtain ⟨ep2, ao2, ms2, cap2, fl2, hde⟩ := slice_of hok
      subst hde
      have HZ := Lib.hid (hsp.zero (by rw [HEr.out]; exact HX.out))
      have HOd := Lib.hid hok
      have HBd := Lib.hid (HB4.out.trans (hb.mono HB4.out.size))
      clear hsp hok hb
      unfold confV
      go_wp2_with fail
      refine (rsame_any ⟨ep2, .slice ao2 ms2.length cap2, ms2, fl2⟩ ⟨0, .slice none 0 0, [], 0⟩ _ (HOd.out.below (conf_boxed wd ⟨ep2, .slice ao2 ms2.length cap2, ms2, fl2⟩).1) (zero_ok _)).mono ?_
      rintro e we ⟨rfl, hb⟩
      rw [HZ.out]
      have HBe := Lib.hid ((HBd.out.trans ((conf_boxed wd ⟨ep2, .slice ao2 ms2.length cap2, ms2, fl2⟩).1.mono HBd.out.size)).trans (hb.mono ((HBd.out.trans ((conf_boxed wd ⟨ep2, .slice ao2 ms2.length cap2, ms2, fl2⟩).1.mono HBd.out.size)).size)))
      clear hb
      go_wp2_with fail
      refine (awake07 _).mono ?_
      rintro e wf ⟨rfl, hb⟩
      have HBf := Lib.hid (HBe.out.trans (hb.mono HBe.out.size)); clear hb
      go_wp2
      go_ret
      exact ⟨rfl, HBf.out⟩
end Go.Proofs.Ytghjhkojehlfmaa
