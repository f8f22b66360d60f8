/- SumPlays, SumPieces. Conditions: the table reads as it is laid. -/
import Derived.Test.YtfjajahniocbkaaDoorSumG
import Derived.Test.YtfjajahniocbkaaDoorStrs
namespace Go.Proofs.YtfjajahniocbkaaDoor
open Go.RowKit Go.PlainAid

theorem wf_u32 {a : Int} (h : (Lit.int .u32 a).wf = true) : ∃ c : Nat, a = c ∧ c < 4294967296 := by
  have : 0 ≤ a ∧ a ≤ 4294967295 := by simpa [Lit.wf, IntKind.min, IntKind.max, IntKind.signed, IntKind.bits] using h
  exact ⟨a.toNat, by omega, by omega⟩
theorem tab_pos {w : World} (h : Tab w) : 0 < w.heap.size := World.block_lt_of_cell? w _ (h 0 (by omega))

set_option maxRecDepth 100000 in
set_option maxHeartbeats 1600000 in
theorem splays_law (ci : Int) (s t : ByteArray) (w : World) (ht : Tab w) (h : (Lit.int .u32 ci).wf = true) (hs : s.size ≤ 140737488351232) (htt : t.size ≤ 140737488351232) :
    Calls Tryd.prog 3 #[.int .u32 ci, .string s, .string t] w fun e w' => e = .returned (.bool true) ∧ Below w.heap.size w w' := by
  obtain ⟨c, rfl, hc⟩ := wf_u32 h
  have hpos := tab_pos ht
  have HT := Lib.hid ht
  clear h ht
  go_enter Tryd.func3, Tryd.ntmps3
  go_wp2_with fail
  refine (new_any _).mono ?_
  rintro e w1 ⟨rfl, hm1, hb1⟩
  have HM1 := Lib.hid hm1; have HB1 := Lib.hid hb1; have HT1 := Lib.hid (HT.out.below hb1)
  obtain ⟨b, hbe⟩ : ∃ b, b = w.heap.size := ⟨_, rfl⟩
  rw [← hbe] at HM1
  rw [← hbe]
  have hbb : 0 < b := by omega
  have hbs : w.heap.size ≤ b := by omega
  clear hm1 hb1 hbe
  go_wp2_with fail
  refine (sum_any _ _ HT1.out (by omega)).mono ?_
  rintro e w2 ⟨rfl, rfl⟩
  go_wp2_with fail
  refine (rsum_any _ _ (by omega)).mono ?_
  rintro e w2 ⟨rfl, rfl⟩
  go_wp2_with fail
  refine (add_any b 0 0 0 c _ _ HM1.out (Or.inl ⟨rfl, rfl⟩) (by omega) (by omega) hc (by omega)).mono ?_
  rintro e w2 ⟨rfl, hm2, hb2⟩
  have HM2 := Lib.hid hm2; have HB2 := Lib.hid (below_but HB1.out hb2 HB1.out.size (fun x _ e => by subst e; exact hbs)); have HT2 := Lib.hid (HT1.out.but hb2 (by omega))
  clear hm2 hb2
  go_wp2_with fail
  refine (radd_any c _ _ hc (by omega)).mono ?_
  rintro e w3 ⟨rfl, rfl⟩
  go_wp2_with fail
  refine (add_any b 1 256 1 0 _ _ HM2.out (Or.inr ⟨rfl, rfl⟩) (by omega) (by omega) (by omega) (by omega)).mono ?_
  rintro e w3 ⟨rfl, hm3, hb3⟩
  have HM3 := Lib.hid hm3; have HB3 := Lib.hid (below_but HB2.out hb3 HB2.out.size (fun x _ e => by subst e; exact hbs)); have HT3 := Lib.hid (HT2.out.but hb3 (by omega))
  clear hm3 hb3
  go_wp2_with fail
  refine (sum_any _ _ HT3.out (by omega)).mono ?_
  rintro e w4 ⟨rfl, rfl⟩
  go_wp2_with fail
  refine (used_any b 1 256 2 _ HM3.out).mono ?_
  rintro e w4 ⟨rfl, hb4⟩
  have HB4 := Lib.hid (HB3.out.trans (hb4.mono HB3.out.size)); have HT4 := Lib.hid (HT3.out.below hb4)
  clear hb4
  go_wp2_with fail
  refine (awake03 _ HT4.out).mono ?_
  rintro e w5 ⟨rfl, hb5⟩
  have HB5 := Lib.hid (HB4.out.trans (hb5.mono HB4.out.size)); clear hb5
  go_wp2
  go_ret
  exact ⟨rfl, HB5.out⟩

def cat (l : List ByteArray) : List UInt8 := l.flatMap fun s => s.data.toList
theorem cat_snoc (l : List ByteArray) (s : ByteArray) : cat (l ++ [s]) = cat l ++ s.data.toList := by simp [cat]
set_option maxRecDepth 100000 in
set_option maxHeartbeats 1600000 in
theorem spieces_law (v : Value) (l : List ByteArray) (w : World) (ht : Tab w) (hs : SliceOf strE 1 w v l) (hl : l.length ≤ 8796093022208) (hw : ∀ s ∈ l, s.size ≤ 140737488351232) :
    Calls Tryd.prog 4 #[v] w fun e w' => e = .returned (.bool true) ∧ Below w.heap.size w w' := by
  have hpos := tab_pos ht
  have HT := Lib.hid ht; have HW := Lib.hid hw
  clear ht hw
  obtain ⟨ao, cp, rfl, hcap, hcm, _, hcell⟩ := hs
  have HC := Lib.hid hcell; clear hcell
  go_enter Tryd.func4, Tryd.ntmps4
  go_wp2_with fail
  refine (new_any _).mono ?_
  rintro e w1 ⟨rfl, hm1, hb1⟩
  have HM1 := Lib.hid hm1; have HB1 := Lib.hid hb1; have HT1 := Lib.hid (HT.out.below hb1)
  obtain ⟨b, hbe⟩ : ∃ b, b = w.heap.size := ⟨_, rfl⟩
  rw [← hbe] at HM1
  rw [← hbe]
  have hbb : 0 < b := by omega
  have hbs : w.heap.size ≤ b := by omega
  clear hm1 hb1 hbe
  go_wp2_with fail
  go_loopg [4, 5, 6] 31 (fun g s4 s5 s6 wr => ∃ (i c : Nat) (a : ByteArray) (d : Int) (T : Nat), s6 = .int .i64 i ∧ s4 = .int .u32 c ∧ s5 = .string a ∧ i ≤ l.length ∧ i ≤ 30 ∧ 31 ≤ i + g ∧ Hid (c = addOf 0 (cat (l.take i))) ∧ Hid (a.data.toList = cat (l.take i)) ∧ c < 4294967296 ∧ a.size ≤ 140737488351232 * i ∧ Mk wr b d 0 T i ∧ Hid (d = 0 ∧ T = 0 ∨ d = 1 ∧ T = 256) ∧ Tab wr ∧ Below w.heap.size w wr)
  case atStart => exact ⟨0, 0, ⟨#[]⟩, 0, 0, rfl, rfl, rfl, by omega, by omega, by omega, Lib.hid (by rw [List.take_zero]; decide), Lib.hid (by rw [List.take_zero]; rfl), by omega, by decide, HM1.out, Or.inl ⟨rfl, rfl⟩, HT1.out, HB1.out⟩
  case round =>
    obtain ⟨i, c, a, d, T, rfl, rfl, rfl, hil, hi30, hg, hc, ha, hcl, hal, hm, hd, ht, hb⟩ := hrel
    have HM := Lib.hid hm; have HTr := Lib.hid ht; have HB := Lib.hid hb
    clear hm ht hb
    by_cases hlt : i < l.length
    · by_cases h30 : i < 30
      · obtain ⟨bb, off, rfl, hr⟩ := HC.out i hlt
        obtain ⟨x, hx⟩ : ∃ x, x = l[i] := ⟨_, rfl⟩
        have hxs : x.size ≤ 140737488351232 := by rw [hx]; exact HW.out _ (List.getElem_mem hlt)
        have hk := hr 0 _ rfl
        rw [Nat.mul_one, Nat.add_zero, ← hx] at hk
        have HK := Lib.hid hk
        have hts : l.take (i + 1) = l.take i ++ [x] := by rw [hx]; exact List.take_succ_eq_append_getElem hlt
        have HTS := Lib.hid hts
        have k0 := cell_below HB.out hk
        clear hr hk hx hts
        go_wp2_with fail
        refine (add_any b d T i c x _ HM.out hd.out (by omega) (by omega) hcl (by omega)).mono ?_
        rintro e w2 ⟨rfl, hm2, hb2⟩
        have HM2 := Lib.hid hm2; have HB2 := Lib.hid (below_but HB.out hb2 HB.out.size (fun x _ e => by subst e; exact hbs)); have HT2 := Lib.hid (HTr.out.but hb2 (by omega))
        clear hm2 hb2 k0
        have k0 := cell_below HB2.out HK.out
        have hsum : ¬ (9223372036854775807 < a.size + x.size) := by omega
        go_wp2
        go_roundg (gk - 1)
        case rel =>
          refine ⟨i + 1, _, _, 1, 256, by go_num, rfl, rfl, by omega, by omega, by omega, ?_, ?_, addOf_lt _ _, ?_, HM2.out, Or.inr ⟨rfl, rfl⟩, HT2.out, HB2.out⟩
          · show addOf c x.data.toList = _
            rw [HTS.out, cat_snoc, hc.out, addOf_append]
          · show (a ++ x).data.toList = _
            rw [HTS.out, cat_snoc, ← ha.out, ByteArray.data_append, Array.toList_append]
          · rw [ByteArray.size_append]; omega
        case measure => omega
      · have hmin : (30 < l.length) = True := eq_true (by omega)
        have HE : Hid (addOf 0 a.data.toList = c) := Lib.hid (by rw [ha.out, hc.out])
        clear ha hc
        go_wp2_with fail
        refine (sum_any _ _ HTr.out (by omega)).mono ?_
        rintro e w2 ⟨rfl, rfl⟩
        rw [HE.out]
        go_wp2_with fail
        refine (used_any b d T i _ HM.out).mono ?_
        rintro e w4 ⟨rfl, hb4⟩
        have HB4 := Lib.hid (HB.out.trans (hb4.mono HB.out.size)); have HT4 := Lib.hid (HTr.out.below hb4)
        clear hb4
        go_wp2_with fail
        refine (awake03 _ HT4.out).mono ?_
        rintro e w5 ⟨rfl, hb5⟩
        have HB5 := Lib.hid (HB4.out.trans (hb5.mono HB4.out.size)); clear hb5
        go_wp2
        go_ret
        exact ⟨rfl, HB5.out⟩
    · have hmin : (30 < l.length) = False := eq_false (by omega)
      have HE : Hid (addOf 0 a.data.toList = c) := Lib.hid (by rw [ha.out, hc.out])
      clear ha hc
      go_wp2_with fail
      refine (sum_any _ _ HTr.out (by omega)).mono ?_
      rintro e w2 ⟨rfl, rfl⟩
      rw [HE.out]
      go_wp2_with fail
      refine (used_any b d T i _ HM.out).mono ?_
      rintro e w4 ⟨rfl, hb4⟩
      have HB4 := Lib.hid (HB.out.trans (hb4.mono HB.out.size)); have HT4 := Lib.hid (HTr.out.below hb4)
      clear hb4
      go_wp2_with fail
      refine (awake03 _ HT4.out).mono ?_
      rintro e w5 ⟨rfl, hb5⟩
      have HB5 := Lib.hid (HB4.out.trans (hb5.mono HB4.out.size)); clear hb5
      go_wp2
      go_ret
      exact ⟨rfl, HB5.out⟩
end Go.Proofs.YtfjajahniocbkaaDoor
