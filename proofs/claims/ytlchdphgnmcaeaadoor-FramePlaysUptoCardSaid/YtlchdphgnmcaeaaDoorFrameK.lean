/- catenalaw04.FramePlays. Conditions: the table reads as it is laid; the second text is small. -/
import Derived.Test.YtlchdphgnmcaeaaDoorFrameJ
namespace Go.Proofs.YtlchdphgnmcaeaaDoor
open Go.RowKit Go.PlainAid

set_option maxRecDepth 100000 in
set_option maxHeartbeats 3200000 in
theorem plays_law (s t : ByteArray) (a : Int) (w : World) (ht : Tab w) (hs : s.size ≤ 140737488351232) (hts : t.size ≤ 140737488351232) (ha : (Lit.int .i64 a).wf = true) (hsm : s.size ≤ 1048576) (htm : t.size ≤ 1048576) :
    Calls Tryd.prog 3 #[.string s, .string t, .int .i64 a] w fun e w' => e = .returned (.bool true) ∧ Below w.heap.size w w' := by
  obtain ⟨⟨F, fe⟩, hp⟩ : ∃ r, putR s = r := ⟨_, rfl⟩
  obtain ⟨⟨x, nx, ne⟩, hn⟩ : ∃ r, nextR t a = r := ⟨_, rfl⟩
  have HP := Lib.hid hp; have HN := Lib.hid hn; have HT := Lib.hid ht
  have e1 : (F.toList == F.toList) = true := by simp
  have e2 : (x.toList == x.toList) = true := by simp
  have e3 : (fe == fe) = true := by simp
  have e4 : (nx == nx) = true := by simp
  have e5 : (ne == ne) = true := by simp
  clear hp hn ht ha
  go_enter Tryd.func3, Tryd.ntmps3
  go_wp2_with fail
  refine (put_frame s _ HT.out hs).mono ?_
  rintro e w1 ⟨rfl, hb1⟩
  have HB1 := Lib.hid hb1; have HT1 := Lib.hid (HT.out.below hb1); clear hb1
  rw [HP.out]
  unfold putV
  go_wp2_with fail
  refine (rput_frame s _ hs).mono ?_
  rintro e w2 ⟨rfl, hb2⟩
  have HB2 := Lib.hid (HB1.out.trans (hb2.mono HB1.out.size)); have HT2 := Lib.hid (HT1.out.below hb2); clear hb2
  rw [HP.out]
  unfold putV
  go_wp2_with fail
  refine (next_any t a _ HT2.out (by omega)).mono ?_
  rintro e w3 ⟨rfl, hb3⟩
  have HB3 := Lib.hid (HB2.out.trans (hb3.mono HB2.out.size)); have HT3 := Lib.hid (HT2.out.below hb3); clear hb3
  rw [HN.out]
  unfold nextV
  go_wp2_with fail
  refine (rnext_any t a _ HT3.out (by omega)).mono ?_
  rintro e w4 ⟨rfl, hb4⟩
  have HB4 := Lib.hid (HB3.out.trans (hb4.mono HB3.out.size)); have HT4 := Lib.hid (HT3.out.below hb4); clear hb4
  rw [HN.out]
  unfold nextV
  go_wp2_with fail
  refine (all_any t _ HT4.out (by omega)).mono ?_
  rintro e w5 ⟨v, l, b, c, rfl, hR5, ho5, hb5⟩
  have HS5 := Lib.hid (SliceOf.own ho5 (fun _ _ => rfl))
  have HR5 := Lib.hid hR5; have HB5 := Lib.hid (HB4.out.trans (hb5.mono HB4.out.size)); have HT5 := Lib.hid (HT4.out.below hb5); clear hR5 ho5 hb5
  go_wp2_with fail
  refine (rall_any t _ HT5.out (by omega)).mono ?_
  rintro e w6 ⟨v', l', b', c', rfl, hR6, ho6, hb6⟩
  obtain ⟨rfl, rfl, rfl⟩ := run_det HR5.out.1 HR5.out.2 hR6.1 hR6.2
  have HS6 := Lib.hid (SliceOf.own ho6 (fun _ _ => rfl))
  have HS7 := Lib.hid (HS5.out.below hb6)
  have HB6 := Lib.hid (HB5.out.trans (hb6.mono HB5.out.size)); have HT6 := Lib.hid (HT5.out.below hb6); clear hR6 ho6 hb6
  have e6 : (b == b) = true := by simp
  have e7 : (c == c) = true := by simp
  go_wp2_with fail
  refine (texts_same _ _ l _ HS7.out HS6.out).mono ?_
  rintro e w7 ⟨rfl, hb7⟩
  have HB7 := Lib.hid (HB6.out.trans (hb7.mono HB6.out.size)); have HT7 := Lib.hid (HT6.out.below hb7); clear hb7
  go_wp2_with fail
  refine (awake04 _ HT7.out).mono ?_
  rintro e w8 ⟨rfl, hb8⟩
  have HB8 := Lib.hid (HB7.out.trans (hb8.mono HB7.out.size)); clear hb8
  go_wp2
  go_ret
  exact ⟨rfl, HB8.out⟩
end Go.Proofs.YtlchdphgnmcaeaaDoor
