/- catenalaw07: ConfReads. Conditions: none. -/
import Derived.Test.YtdeimkblfeenoaaConfN
import Derived.Test.YtdeimkblfeenoaaConfIa
namespace Go.Proofs.Ytdeimkblfeenoaa
open Go.RowKit Go.PlainAid

theorem OfSpec.same {s : ByteArray} {a b : ConfT} (ha : OfSpec s a) (hb : OfSpec s b) : sameC a b = true := by
  unfold OfSpec at ha hb
  unfold sameC
  by_cases h : ofErr s = 0
  · rw [if_pos h] at ha hb
    exact decide_eq_true ⟨by rw [ha.1, hb.1], by rw [ha.2.2, hb.2.2], by rw [ha.2.1, hb.2.1]⟩
  · rw [if_neg h] at ha hb
    exact decide_eq_true ⟨by rw [ha.1, hb.1], by rw [ha.2.2, hb.2.2], by rw [ha.2.1, hb.2.1]⟩
set_option maxRecDepth 100000 in
set_option maxHeartbeats 6400000 in
theorem confReads_law (s : ByteArray) (w : World) (hs : s.size ≤ 140737488351232) :
    Calls Try.prog 10 #[.string s] w fun e w' => e = .returned (.bool true) ∧ Below w.heap.size w w' := by
  by_cases hl : 2000 < s.size
  · have hl2 : (2000 : Int) < (s.size : Int) := by omega
    go_enter Try.func10, Try.ntmps10
    go_wp2_with fail
    refine (awake07 _).mono ?_
    rintro e w1 ⟨rfl, hb⟩
    have HB := Lib.hid hb; clear hb
    go_wp2
    go_ret
    exact ⟨rfl, HB.out⟩
  · have hl2 : (s.size : Int) ≤ 2000 := by omega
    have hl3 : s.size ≤ 2000 := by omega
    obtain ⟨er, her⟩ : ∃ er, ofErr s = er := ⟨_, rfl⟩
    have HEr := Lib.hid her
    clear hl her
    go_enter Try.func10, Try.ntmps10
    go_wp2_with fail
    refine (of_any s _ hl3).mono ?_
    rintro e w1 ⟨c, rfl, hsp, hok, hb⟩
    rw [HEr.out]
    obtain ⟨ep1, mv1, ms1, fl1⟩ := c
    obtain ⟨ao1, cap1, hv1, _⟩ := hok.ms
    simp only at hv1
    subst hv1
    have HSp := Lib.hid hsp; have HOk := Lib.hid hok; have HB := Lib.hid hb
    clear hsp hok hb
    unfold confV
    go_wp2_with fail
    obtain ⟨w2, hw2⟩ : ∃ w2, w2 = (w1.alloc (.cells #[.int .i64 ep1, .slice ao1 ms1.length cap1, .int .u64 fl1] 74)) := ⟨_, rfl⟩
    have H1 : Hid (Below w1.heap.size w1 w2 ∧ CF w1.heap.size ⟨ep1, .slice ao1 ms1.length cap1, ms1, fl1⟩ w2) := Lib.hid (by rw [hw2]; exact conf_boxed w1 ⟨ep1, .slice ao1 ms1.length cap1, ms1, fl1⟩)
    rw [← hw2]
    clear hw2
    have HB2 := Lib.hid (HB.out.trans (H1.out.1.mono HB.out.size))
    refine (rof_any s _ hl3).mono ?_
    rintro e w3 ⟨d, rfl, hsp, hok, hb⟩
    rw [HEr.out]
    obtain ⟨ep2, mv2, ms2, fl2⟩ := d
    obtain ⟨ao2, cap2, hv2, _⟩ := hok.ms
    simp only at hv2
    subst hv2
    have HSd := Lib.hid hsp; have HOd := Lib.hid hok
    have HB3 := Lib.hid (HB2.out.trans (hb.mono HB2.out.size))
    have HC3 := Lib.hid (H1.out.2.below hb)
    have HO3 := Lib.hid ((HOk.out.below H1.out.1).below hb)
    clear hsp hok hb
    obtain ⟨c0, c1, c2⟩ := HC3.out
    simp only at c0 c1 c2
    have hlt : w1.heap.size < w3.heap.size := World.block_lt_of_cell? w3 _ c0
    have h4 := conf_boxed w3 ⟨ep2, .slice ao2 ms2.length cap2, ms2, fl2⟩
    have H4 := Lib.hid h4
    clear h4
    unfold confV
    go_wp2_with fail
    refine (rsame_any ⟨ep1, .slice ao1 ms1.length cap1, ms1, fl1⟩ ⟨ep2, .slice ao2 ms2.length cap2, ms2, fl2⟩ _ (HO3.out.below H4.out.1) (HOd.out.below H4.out.1)).mono ?_
    rintro e w5 ⟨rfl, hb⟩
    have HB4 := Lib.hid (HB3.out.trans (H4.out.1.mono HB3.out.size))
    rw [HSp.out.same HSd.out]
    have HB5 := Lib.hid (HB4.out.trans (hb.mono HB4.out.size))
    clear hb c0 c1 c2 hlt
    go_wp2_with fail
    refine (awake07 _).mono ?_
    rintro e w6 ⟨rfl, hb⟩
    have HB6 := Lib.hid (HB5.out.trans (hb.mono HB5.out.size)); clear hb
    go_wp2
    go_ret
    exact ⟨rfl, HB6.out⟩
end Go.Proofs.Ytdeimkblfeenoaa
