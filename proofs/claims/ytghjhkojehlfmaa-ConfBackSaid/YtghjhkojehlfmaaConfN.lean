/- The document's own conf: a configuration is read. Conditions: texts of at most 2000 bytes. -/
import Derived.Test.YtghjhkojehlfmaaConfM
import Derived.Deep.Cut
namespace Go.Proofs.Ytghjhkojehlfmaa
open Go.RowKit Go.PlainAid

set_option maxRecDepth 100000 in
set_option maxHeartbeats 12800000 in
theorem rof_any (s : ByteArray) (w : World) (hs : s.size ≤ 2000) :
    Calls Try.prog 42 #[.string s] w (OfPost s w) := by
  obtain ⟨i0, hi, hz0, hz1, hz2⟩ := info_parts info_mem
  have hs63 : s.size ≤ 9223372036854775807 := by omega
  have hlay := OC.lay w s
  obtain ⟨W, hW⟩ : ∃ W, W = (((w.alloc (.cells #[.int .i64 0, .slice none 0 0, .int .u64 0] 43)).alloc (.cells #[.string s, .int .i64 0, .int .i64 0] 110)).alloc (.cells #[.int .i64 0, .slice none 0 0, .int .u64 0] 43)) := ⟨_, rfl⟩
  rw [← hW] at hlay
  have HO0 := Lib.hid hlay.1; have HE0 := Lib.hid hlay.2; have HW := Lib.hid hW
  clear hlay hW
  -- what is read, name by name
  obtain ⟨ep, hep⟩ : ∃ ep, (numR s 0 0 1073741824).1 = ep := ⟨_, rfl⟩
  obtain ⟨a0, ha0⟩ : ∃ a0, (numR s 0 0 1073741824).2.1 = a0 := ⟨_, rfl⟩
  obtain ⟨x0, hx0⟩ : ∃ x0, (numR s 0 0 1073741824).2.2 = x0 := ⟨_, rfl⟩
  have hepb := numR_bd s 0 0 1073741824 (by omega)
  rw [hep] at hepb
  obtain ⟨nn, hnn⟩ : ∃ nn : Nat, (numR s a0 x0 4).1 = (nn : Int) := ⟨(numR s a0 x0 4).1.toNat, by have := numR_bd s a0 x0 4 (by omega); omega⟩
  have hnb := numR_bd s a0 x0 4 (by omega)
  rw [hnn] at hnb
  obtain ⟨a1, ha1⟩ : ∃ a1, (numR s a0 x0 4).2.1 = a1 := ⟨_, rfl⟩
  obtain ⟨x1, hx1⟩ : ∃ x1, (numR s a0 x0 4).2.2 = x1 := ⟨_, rfl⟩
  have HAll : Hid (ofAll s = (ep, (ofRows s nn a1 x1 []).1, (bigR s (ofRows s nn a1 x1 []).2.1 (ofRows s nn a1 x1 []).2.2).1, (bigR s (ofRows s nn a1 x1 []).2.1 (ofRows s nn a1 x1 []).2.2).2.1, (bigR s (ofRows s nn a1 x1 []).2.1 (ofRows s nn a1 x1 []).2.2).2.2)) := Lib.hid (by
    unfold ofAll; simp only [hep, ha0, hx0, hnn, ha1, hx1, Int.toNat_natCast])
  have HEp := Lib.hid hep; have HA0 := Lib.hid ha0; have HX0 := Lib.hid hx0; have HNn := Lib.hid hnn; have HA1 := Lib.hid ha1; have HX1 := Lib.hid hx1
  clear hep ha0 hx0 hnn ha1 hx1
  go_enter Try.func42, Try.ntmps42
  go_wp2_with fail
  rw [← HW.out]
  obtain ⟨rb, hrb⟩ : ∃ rb, rb = w.heap.size := ⟨_, rfl⟩
  rw [← hrb] at HO0 HE0 ⊢
  obtain ⟨R, hR⟩ : ∃ R, R = rb + 1 := ⟨_, rfl⟩
  rw [← hR] at HO0 HE0 ⊢
  obtain ⟨cb, hcb⟩ : ∃ cb, cb = R + 1 := ⟨_, rfl⟩
  rw [← hcb] at HO0 ⊢
  clear hrb hR hcb HW
  refine (xrNum_re R s 0 0 1073741824 _ HE0.out hs63 (by omega)).mono ?_
  rintro e w3 ⟨rfl, hm, hb⟩
  rw [HEp.out]
  rw [HA0.out, HX0.out] at hm
  have HO3 := Lib.hid (HO0.out.read hb)
  have hcR : R < cb := HO3.out.o3
  have HO3b := Lib.hid (HO3.out.setEp ep)
  have HE3b : Hid (XRE (w3.setCell ⟨cb, 0, none⟩ (.int .i64 ep)) R s a0 x0) := Lib.hid (hm.but ((But.refl (fun k => k = cb) w3).store 0 _) (show ¬ R = cb by omega))
  have c0 := HO3.out.c0; have f0 := HO3.out.f0
  clear hm hb HO0 HE0
  go_wp2_with fail
  refine (xrNum_re R s a0 x0 4 _ HE3b.out hs63 (by omega)).mono ?_
  rintro e w4 ⟨rfl, hm, hb⟩
  rw [HNn.out]
  rw [HA1.out, HX1.out] at hm
  have HO4 := Lib.hid (HO3b.out.read hb); have HM4 := Lib.hid hm
  clear hm hb HO3 HO3b HE3b c0 f0
  go_wp2_with fail
  go_loopg [7] (nn + 1) (fun g s7 wr => ∃ (i : Nat) (a x : Int) (v : Value) (acc : List MemT), s7 = .int .i64 i ∧ i ≤ nn ∧ nn + 1 ≤ i + g ∧ ofRows s nn a1 x1 [] = ofRows s (nn - i) a x acc ∧ acc.length = i ∧ OC R rb cb ep v acc w wr ∧ XRE wr R s a x)
  case atStart => exact ⟨0, a1, x1, _, [], rfl, by omega, by omega, rfl, rfl, HO4.out, HM4.out⟩
  case round =>
    clear HO4 HM4
    obtain ⟨i, a, x, v, acc, rfl, hin, hg, hof, hal, hoc, hre⟩ := hrel
    have HO := Lib.hid hoc; have HE := Lib.hid hre; have HOf := Lib.hid hof; have HAl := Lib.hid hal
    clear hoc hre hof hal
    by_cases hlt : i < nn
    · have hlt2 : (i : Int) < (nn : Int) := by omega
      obtain ⟨v1, hv1⟩ : ∃ v1, (numR s a x 3).1 = v1 := ⟨_, rfl⟩
      obtain ⟨b1, hb1⟩ : ∃ b1, (numR s a x 3).2.1 = b1 := ⟨_, rfl⟩
      obtain ⟨y1, hy1⟩ : ∃ y1, (numR s a x 3).2.2 = y1 := ⟨_, rfl⟩
      obtain ⟨v2, hv2⟩ : ∃ v2, (numR s b1 y1 1073741824).1 = v2 := ⟨_, rfl⟩
      obtain ⟨b2, hb2⟩ : ∃ b2, (numR s b1 y1 1073741824).2.1 = b2 := ⟨_, rfl⟩
      obtain ⟨y2, hy2⟩ : ∃ y2, (numR s b1 y1 1073741824).2.2 = y2 := ⟨_, rfl⟩
      have HStep : Hid (ofRows s (nn - i) a x acc = ofRows s (nn - (i + 1)) b2 y2 (acc ++ [(v1, v2)])) := Lib.hid (by
        rw [show nn - i = (nn - (i + 1)) + 1 by omega]
        show ofRows s (nn - (i + 1)) _ _ _ = _
        rw [hv1, hb1, hy1, hv2, hb2, hy2])
      have HV1 := Lib.hid hv1; have HB1 := Lib.hid hb1; have HY1 := Lib.hid hy1; have HV2 := Lib.hid hv2; have HB2 := Lib.hid hb2; have HY2 := Lib.hid hy2
      have hacc : acc.length ≤ 4 := by have := HAl.out; omega
      obtain ⟨bm, hbm⟩ : ∃ bm, bm = wr.heap.size := ⟨_, rfl⟩
      obtain ⟨w5, hw5⟩ : ∃ w5, w5 = wr.alloc (.cells #[.int .i64 0, .int .i64 0] 45) := ⟨_, rfl⟩
      have hb5 : Below wr.heap.size wr w5 := by rw [hw5]; exact (Below.refl _ _).alloc (Nat.le_refl _) _
      have hm5 : MB bm (0, 0) w5 := by rw [hbm, hw5]; unfold MB; exact heap_alloc_new wr _
      have HBut5 := Lib.hid (But.of_below (S := Own R) hb5)
      have HE5 := Lib.hid (HE.out.below hb5); have HMB5 := Lib.hid hm5
      have hcm : cb ≠ bm := by have := HO.out.o4; omega
      have hmc : bm ≠ cb := by omega
      have hmR : bm ≠ R := by have := HO.out.o4; omega
      have hRm : ¬ R = bm := by omega
      have HW5 := Lib.hid hw5; have HBm := Lib.hid hbm
      clear hv1 hb1 hy1 hv2 hb2 hy2 hw5 hbm hb5 hm5
      go_wp2_with fail
      rw [← HW5.out, ← HBm.out]
      refine (xrNum_re R s a x 3 _ HE5.out hs63 (by omega)).mono ?_
      rintro e w6 ⟨rfl, hm, hb⟩
      rw [HV1.out]
      rw [HB1.out, HY1.out] at hm
      have HMB6 : Hid (MB bm (0, 0) w6) := Lib.hid (by unfold MB; rw [hb.block bm HMB5.out.lt hmR]; exact HMB5.out)
      have HBut6 : Hid (But (Own R) wr (w6.setCell ⟨bm, 0, none⟩ (.int .i64 v1))) := Lib.hid ((HBut5.out.trans hb).setCell (p := ⟨bm, 0, none⟩) (fun h => by have := HBm.out; simp only at h; omega) _)
      have HE6 : Hid (XRE (w6.setCell ⟨bm, 0, none⟩ (.int .i64 v1)) R s b1 y1) := Lib.hid (hm.but ((But.refl (fun k => k = bm) w6).store 0 _) hRm)
      have m0 := HMB6.out.cells.1; have m1 := HMB6.out.cells.2
      have z0 : w6.frozen? ⟨bm, 0, none⟩ = false := by have := HMB6.out; unfold MB at this; unfold World.frozen?; rw [this]; simp
      have HZ1 : Hid (w6.frozen? ⟨bm, 1, none⟩ = false) := Lib.hid (by have := HMB6.out; unfold MB at this; unfold World.frozen?; rw [this]; simp)
      have hl6 : bm < w6.heap.size := HMB6.out.lt
      clear hm hb
      go_wp2_with fail
      refine (xrNum_re R s b1 y1 1073741824 _ HE6.out hs63 (by omega)).mono ?_
      rintro e w7 ⟨rfl, hm, hb⟩
      rw [HV2.out]
      rw [HB2.out, HY2.out] at hm
      have HM0 : Hid (w7.cell? ⟨bm, 0, none⟩ = some (.int .i64 v1)) := Lib.hid (hb.cell (a := ⟨bm, 0, none⟩) hmR (World.cell?_setCell_same _ _ _ m0))
      have HM1 : Hid (w7.cell? ⟨bm, 1, none⟩ = some (.int .i64 0)) := Lib.hid (hb.cell (a := ⟨bm, 1, none⟩) hmR (by rw [World.cell?_setCell_other _ _ _ _ (by simp)]; exact m1))
      have z1 : w7.frozen? ⟨bm, 1, none⟩ = false := by rw [hb.frozen (a := ⟨bm, 1, none⟩) (by rw [World.size_setCell]; exact hl6) hmR, World.frozen?_setCell]; exact HZ1.out
      have HBut7 : Hid (But (Own R) wr (w7.setCell ⟨bm, 1, none⟩ (.int .i64 v2))) := Lib.hid ((HBut6.out.trans hb).setCell (p := ⟨bm, 1, none⟩) (fun h => by have := HBm.out; simp only at h; omega) _)
      have HE7 : Hid (XRE (w7.setCell ⟨bm, 1, none⟩ (.int .i64 v2)) R s b2 y2) := Lib.hid (hm.but ((But.refl (fun k => k = bm) w7).store 1 _) hRm)
      have HO7 := Lib.hid (HO.out.read HBut7.out)
      clear hm hb m0 m1 z0 hl6
      obtain ⟨w8, hw8⟩ : ∃ w8, w8 = w7.setCell ⟨bm, 1, none⟩ (.int .i64 v2) := ⟨_, rfl⟩
      rw [← hw8] at HO7 HE7
      have HC8 := Lib.hid HO7.out.c1
      have HN0 : Hid (w8.cell? ⟨bm, 0, none⟩ = some (.int .i64 v1)) := Lib.hid (by rw [hw8, World.cell?_setCell_other _ _ _ _ (by simp)]; exact HM0.out)
      have HN1 : Hid (w8.cell? ⟨bm, 1, none⟩ = some (.int .i64 v2)) := Lib.hid (by rw [hw8]; exact World.cell?_setCell_same _ _ _ HM1.out)
      have HW8 := Lib.hid hw8
      have q0 := HM1.out
      clear hw8
      go_upto_region 11 with (fail)
      rw [← HW8.out]
      have n0 := HN0.out; have n1 := HN1.out; have c1 := HC8.out
      clear q0 z1
      go_wp2_with (at_builtin; go_loud (refine wpList_append_lies _ rfl (.tmp 33) (.tmp 35) 40 rfl (cb + 1) 45 i0 (.agg #[.int .i64 0, .int .i64 0]) 2 16 Try.underlying40 hi hz0 hz1 hz2 rfl (by decide) v acc.length _ rfl (HO7.out.own.alloc _) ⟨w8.heap.size, 0, none⟩ 1 1 [.int .i64 v1, .int .i64 v2] rfl rfl (two_cell_at rfl _ _ _) (by simp [Value.oneCell']) (by omega) (by unfold maxLen; omega) (by omega) (by simp; have := HO7.out.o4; omega) (w8.heap.size + 1) (by simp) ?_); intro g2 cp2 w9 hown2 hgr2 hg2 hg2s; have HP := Lib.hid (HO7.out.push0 (m := (v1, v2)) ((Below.refl _ _).alloc (Nat.le_refl _) _) hgr2 hown2); have c7 := HP.out.2.2.1; have z7 := HP.out.2.2.2; clear hown2 hgr2 hg2 hg2s)
      have HPo := Lib.hid HP.out.1
      have HPe : Hid (XRE (w9.setCell ⟨cb, 1, none⟩ (.slice (some ⟨g2, 0, none⟩) (acc.length + 1) cp2)) R s b2 y2) := Lib.hid (HE7.out.but HP.out.2.1 (show ¬ cb ≤ R by omega))
      have HOf2 := Lib.hid (HOf.out.trans HStep.out)
      have HAl2 : Hid ((acc ++ [(v1, v2)]).length = i + 1) := Lib.hid (by rw [List.length_append, HAl.out]; rfl)
      go_roundg (gk - 1)
      case rel => exact ⟨i + 1, b2, y2, _, _, by go_num, by omega, by omega, HOf2.out, HAl2.out, HPo.out, HPe.out⟩
      case measure => omega
    · have HOf2 : Hid (ofRows s nn a1 x1 [] = (acc, a, x)) := Lib.hid (by rw [HOf.out, show nn - i = 0 by omega]; rfl)
      have hge : (nn : Int) ≤ (i : Int) := by omega
      obtain ⟨ao, cp, hvv, _⟩ := SliceOf.own HO.out.own (fun _ _ => rfl)
      subst hvv
      obtain ⟨fl, hfl⟩ : ∃ fl, (bigR s a x).1 = fl := ⟨_, rfl⟩
      obtain ⟨a2, ha2⟩ : ∃ a2, (bigR s a x).2.1 = a2 := ⟨_, rfl⟩
      obtain ⟨x2, hx2⟩ : ∃ x2, (bigR s a x).2.2 = x2 := ⟨_, rfl⟩
      have HAll2 : Hid (ofAll s = (ep, acc, fl, a2, x2)) := Lib.hid (by rw [HAll.out, HOf2.out]; simp only [hfl, ha2, hx2])
      have hflb := bigR_bd s a x
      rw [hfl] at hflb
      have HFb := Lib.hid hflb; have HEb := Lib.hid hepb
      have HMs : Hid (∀ m ∈ acc, memOk m) := Lib.hid (by have := ofRows_ok s nn a1 x1 [] (by simp); rw [HOf2.out] at this; exact this)
      have HAt : Hid (x2 = 0 → 0 ≤ a2 ∧ a2 ≤ s.size) := Lib.hid (fun h => by rw [← ha2]; exact bigR_at (by rw [hx2, h]))
      have HFl := Lib.hid hfl; have HA2 := Lib.hid ha2; have HX2 := Lib.hid hx2
      clear hfl ha2 hx2 hflb hepb hlt
      go_wp2_with fail
      refine (xrBig_re R s a x _ HE.out hs63).mono ?_
      rintro e w5 ⟨rfl, hm, hb⟩
      rw [HFl.out]
      rw [HA2.out, HX2.out] at hm
      have HO5 := Lib.hid (HO.out.read hb)
      have hd := HO5.out.doneX hm fl
      have HD := Lib.hid hd.1
      have c2 := HO5.out.c2; have f2 := HO5.out.f2
      obtain ⟨na, hna⟩ : ∃ na, na = a2.toNat := ⟨_, rfl⟩
      have HRE : Hid (XRE (w5.setCell ⟨cb, 2, none⟩ (.int .u64 fl)) R s (na : Int) x2) := Lib.hid (by
        by_cases hx : x2 = 0
        · have := HAt.out hx
          rw [show ((na : Nat) : Int) = a2 by omega]; exact hd.2
        · exact XRE.weak hx hd.2)
      have HNa : Hid (x2 = 0 → na ≤ s.size) := Lib.hid (fun h => by have := HAt.out h; omega)
      obtain ⟨ev, hev⟩ : ∃ ev, endV s na x2 = ev := ⟨_, rfl⟩
      have HErr : Hid (ofErr s = if ev ≠ 0 then ev else chkC ep acc) := Lib.hid (by unfold ofErr; rw [HAll2.out]; simp only; rw [← hna, hev])
      have HEv := Lib.hid hev
      clear hm hb hd hna hev
      go_wp2_with fail
      refine (xend_re R s na x2 _ HRE.out hs63 HNa.out).mono ?_
      rintro e w6 ⟨rfl, hb⟩
      rw [HEv.out]
      have HD6 := Lib.hid (HD.out.below hb)
      clear hb c2 f2
      by_cases hev0 : ev = 0
      · have HErr2 : Hid (ofErr s = chkC ep acc) := Lib.hid (by rw [HErr.out, if_neg (by simp [hev0])])
        have hne : (ev != 0) = false := by simp [hev0]
        have c0 := HD6.out.c0; have c1 := HD6.out.c1; have c2 := HD6.out.c2
        simp only at c0 c1 c2
        clear hev0
        go_wp2_with fail
        refine (rcheck_any ⟨ep, .slice ao acc.length cp, acc, fl⟩ _ (HD6.out.conf HMs.out HEb.out HFb.out)).mono ?_
        rintro e w7 ⟨rfl, hb⟩
        have HD7 := Lib.hid (HD6.out.below hb)
        clear hb c0 c1 c2
        obtain ⟨ck, hck⟩ : ∃ ck, chkC ep acc = ck := ⟨_, rfl⟩
        rw [show chkC (ConfT.mk ep (.slice ao acc.length cp) acc fl).ep (ConfT.mk ep (.slice ao acc.length cp) acc fl).ms = ck from hck]
        have HErr3 : Hid (ofErr s = ck) := Lib.hid (by rw [HErr2.out, hck])
        clear hck
        obtain ⟨⟨r0, r1, r2⟩, z0, z1, z2⟩ := HD7.out.box
        by_cases hck0 : ck = 0
        · subst hck0
          have c0 := HD7.out.c0; have c1 := HD7.out.c1; have c2 := HD7.out.c2
          simp only at c0 c1 c2
          have hcr : rb ≠ cb := by have := HD7.out.o2; omega
          have HR := Lib.hid (HD7.out.res (.int .i64 ep) (.slice ao acc.length cp) (.int .u64 fl) HMs.out HEb.out HFb.out)
          go_wp2
          exact bodyPost_ret (v := .tuple #[.agg #[.int .i64 ep, .slice ao acc.length cp, .int .u64 fl], .int .i64 0]) (by simp [results, Try.results42, go_sem, r0, r1, r2]) rfl ⟨⟨ep, .slice ao acc.length cp, acc, fl⟩, by rw [HErr3.out]; rfl, by unfold OfSpec; rw [if_pos HErr3.out, HAll2.out]; exact ⟨rfl, rfl, rfl⟩, HR.out.1, HR.out.2⟩
        · have hne2 : (ck != 0) = true := by simp [hck0]
          have HCk := Lib.hid hck0
          have HR := Lib.hid (HD7.out.res (.int .i64 0) (.slice none 0 0) (.int .u64 0) HMs.out HEb.out HFb.out)
          clear hck0
          go_wp2
          exact bodyPost_ret (v := .tuple #[.agg #[.int .i64 0, .slice none 0 0, .int .u64 0], .int .i64 ck]) (by simp [results, Try.results42, go_sem, r0, r1, r2]) rfl ⟨⟨0, .slice none 0 0, [], 0⟩, by rw [HErr3.out]; rfl, by unfold OfSpec; rw [if_neg (by rw [HErr3.out]; exact HCk.out)]; exact ⟨rfl, rfl, rfl⟩, zero_ok _, HR.out.2⟩
      · have hne : (ev != 0) = true := by simp [hev0]
        have HErr2 : Hid (ofErr s = ev) := Lib.hid (by rw [HErr.out, if_pos hev0])
        have HCk := Lib.hid hev0
        obtain ⟨⟨r0, r1, r2⟩, z0, z1, z2⟩ := HD6.out.box
        have HR := Lib.hid (HD6.out.res (.int .i64 0) (.slice none 0 0) (.int .u64 0) HMs.out HEb.out HFb.out)
        clear hev0
        go_wp2
        exact bodyPost_ret (v := .tuple #[.agg #[.int .i64 0, .slice none 0 0, .int .u64 0], .int .i64 ev]) (by simp [results, Try.results42, go_sem, r0, r1, r2]) rfl ⟨⟨0, .slice none 0 0, [], 0⟩, by rw [HErr2.out]; rfl, by unfold OfSpec; rw [if_neg (by rw [HErr2.out]; exact HCk.out)]; exact ⟨rfl, rfl, rfl⟩, zero_ok _, HR.out.2⟩
end Go.Proofs.Ytghjhkojehlfmaa
