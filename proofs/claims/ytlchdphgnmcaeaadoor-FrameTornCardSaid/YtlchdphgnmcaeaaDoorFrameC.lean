/- The document's own frames: Next. Conditions: the table reads as it is laid. -/
import Derived.Test.YtlchdphgnmcaeaaDoorFrameB
namespace Go.Proofs.YtlchdphgnmcaeaaDoor
open Go.RowKit Go.PlainAid

theorem St.start2 {w w1 : World} (h : Tab w) (hb : Below w.heap.size w w1) : St w w1.drew := ⟨show Tab w1 from h.below hb, hb.drew⟩
set_option maxRecDepth 100000 in
set_option maxHeartbeats 1600000 in
theorem rnext_err (s : ByteArray) (a : Int) (w : World) (hs : s.size ≤ 281474976710656) (h : ¬ (getR s a).2.2 = 0) :
    Calls Tryd.prog 8 #[.string s, .int .i64 a] w fun e w' => e = .returned (nextV (nextR s a)) ∧ Below w.heap.size w w' := by
  have HR := Lib.hid (show nextR s a = (⟨#[]⟩, 0, (getR s a).2.2) from if_neg h)
  rw [HR.out]
  obtain ⟨⟨n, b, e⟩, hg⟩ : ∃ g, g = getR s a := ⟨_, rfl⟩
  rw [← hg] at h ⊢
  have HG := Lib.hid hg.symm
  have hne : (e != 0) = true := by simpa using h
  clear hg h
  go_enter Tryd.func8, Tryd.ntmps8
  go_wp2_with fail
  refine (rget_any s a _ (by omega)).mono ?_
  rintro e w1 ⟨rfl, hb1⟩
  have HB1 := Lib.hid hb1; clear hb1
  rw [HG.out]
  unfold getV
  go_wp2
  go_ret3
  exact ⟨rfl, HB1.out⟩
set_option maxRecDepth 100000 in
set_option maxHeartbeats 1600000 in
theorem rnext_good (s : ByteArray) (a b n : Nat) (w : World) (ht : Tab w) (hs : s.size ≤ 281474976710656) (h : getR s a = ((n : Int), (b : Int), 0)) (hab : a < b) (hbs : b ≤ s.size) (hn : n < 18446744073709551616) :
    Calls Tryd.prog 8 #[.string s, .int .i64 a] w fun e w' => e = .returned (nextV (nextG s a b n)) ∧ Below w.heap.size w w' := by
  have HG := Lib.hid h; have HT := Lib.hid ht
  clear h ht
  by_cases hbig : 65536 < n
  · have HR := Lib.hid (show nextG s a b n = (⟨#[]⟩, 0, 3) from if_pos hbig)
    rw [HR.out]
    go_enter Tryd.func8, Tryd.ntmps8
    go_wp2_with fail
    refine (rget_any s a _ (by omega)).mono ?_
    rintro e w1 ⟨rfl, hb1⟩
    have HB1 := Lib.hid hb1; clear hb1
    rw [HG.out]
    unfold getV
    go_wp2
    go_ret3
    exact ⟨rfl, HB1.out⟩
  by_cases hsh : s.size < b + (4 + n)
  · have HR := Lib.hid (show nextG s a b n = (⟨#[]⟩, 0, 2) from by unfold nextG; rw [if_neg hbig, if_pos hsh])
    rw [HR.out]
    have hi : (s.size : Int) - (b : Int) < 4 + (n : Int) := by omega
    go_enter Tryd.func8, Tryd.ntmps8
    go_wp2_with fail
    refine (rget_any s a _ (by omega)).mono ?_
    rintro e w1 ⟨rfl, hb1⟩
    have HB1 := Lib.hid hb1; clear hb1
    rw [HG.out]
    unfold getV
    go_wp2
    go_ret3
    exact ⟨rfl, HB1.out⟩
  have hi : ¬ ((s.size : Int) - (b : Int) < 4 + (n : Int)) := by omega
  have hR : nextG s a b n = if ((fourB (sumAt s a b n)).toList == (s.extract b (b + 4)).toList) = true then (s.extract (b + 4) (b + 4 + n), ((b + 4 + n : Nat) : Int), 0) else (⟨#[]⟩, 0, 9) := by unfold nextG; rw [if_neg hbig, if_neg hsh]
  have HR := Lib.hid hR
  obtain ⟨C, hC⟩ : ∃ C, addOf 0 (s.extract a b ++ s.extract (b + 4) (b + 4 + n)).data.toList = C := ⟨_, rfl⟩
  have hCl : C < 4294967296 := by rw [← hC]; exact addOf_lt _ _
  have hsz : (s.extract a b ++ s.extract (b + 4) (b + 4 + n)).size ≤ 9223372036854775807 := by rw [ByteArray.size_append, ByteArray.size_extract, ByteArray.size_extract]; omega
  have hsl1 := slice_run s a b a b rfl rfl (by omega) (by omega)
  have hsl2 := slice_run s b (b + 4) b ((b : Int) + 4) rfl (by omega) (by omega) (by omega)
  have hwb : IntKind.i64.wrap ((b : Int) + 4) = (b : Int) + 4 := IntWalk.i64_in _ ⟨by omega, by omega⟩
  have hcat := concat_run (s.extract a b) (s.extract (b + 4) (b + 4 + n)) (by rw [ByteArray.size_append] at hsz; exact hsz)
  have HC := Lib.hid hC; have HSZ := Lib.hid hsz
  have HS : Hid (sumAt s a b n = C) := Lib.hid hC
  clear hC hR hsz
  go_enter Tryd.func8, Tryd.ntmps8
  go_wp2_with fail
  refine (rget_any s a _ (by omega)).mono ?_
  rintro e w1 ⟨rfl, hb1⟩
  have HB1 := Lib.hid hb1; clear hb1
  rw [HG.out]
  unfold getV
  go_wp2_with fail
  go_region_held3 (fun w' => St w w') (first | exact St.start2 HT.out HB1.out | exact St.below (by assumption) hb8 | assumption) (first | (go_at_call 18; have ht9 : Tab _ := St.tab (by assumption : St w _); (with_reducible refine (rsum_is _ C _ HC.out HSZ.out).mono ?_); rintro e w7 ⟨rfl, rfl⟩) | (go_at_call 17; (with_reducible refine (rfour_any C _ hCl).mono ?_); rintro e w8 ⟨rfl, hb8⟩))
  have hq : Below w.heap.size w _ := St.since (by assumption)
  go_wp2
  · have hway0 : (!(s.extract b (b + 4)).toList == (fourB C).toList) = true := by assumption
    have hway : (!(fourB C).toList == (s.extract b (b + 4)).toList) = true := by rw [BEq.comm]; exact hway0
    have HV : Hid (nextG s a b n = (⟨#[]⟩, 0, 9)) := Lib.hid (by
      rw [HR.out, HS.out]
      rw [if_neg (by intro h; rw [h] at hway; simp at hway)])
    go_ret3
    exact ⟨by rw [HV.out]; rfl, hq⟩
  · have hway0 : (!(s.extract b (b + 4)).toList == (fourB C).toList) = false := by assumption
    have hway : (!(fourB C).toList == (s.extract b (b + 4)).toList) = false := by rw [BEq.comm]; exact hway0
    have HV : Hid (nextG s a b n = (s.extract (b + 4) (b + 4 + n), ((b + 4 + n : Nat) : Int), 0)) := Lib.hid (by
      rw [HR.out, HS.out]
      rw [if_pos (by cases h : ((fourB C).toList == (s.extract b (b + 4)).toList) with | true => rfl | false => rw [h] at hway; simp at hway)])
    go_ret3
    exact ⟨by rw [HV.out]; rfl, hq⟩
theorem rnext_any (s : ByteArray) (a : Int) (w : World) (ht : Tab w) (hs : s.size ≤ 281474976710656) :
    Calls Tryd.prog 8 #[.string s, .int .i64 a] w fun e w' => e = .returned (nextV (nextR s a)) ∧ Below w.heap.size w w' := by
  by_cases h : (getR s a).2.2 = 0
  · obtain ⟨k, rfl⟩ := getR_nat s a h
    obtain ⟨h1, h2, h3, h4⟩ := getR_go s k h
    have hR : nextR s k = nextG s k (getR s k).2.1.toNat (getR s k).1.toNat := if_pos h
    rw [hR]
    refine rnext_good s k _ _ w ht hs ?_ (by omega) (by omega) (by omega)
    rw [Int.toNat_of_nonneg h3, Int.toNat_of_nonneg (by omega), ← h]
  · exact rnext_err s a w hs h
end Go.Proofs.YtlchdphgnmcaeaaDoor
