/- Package catenaref02: a Reader. Conditions: texts of at most 2^63-1 bytes. -/
import Derived.Test.YteioaaegooebpaaGreatWireN
import Derived.Test.YteioaaegooebpaaGreatVnG
namespace Go.Proofs.YteioaaegooebpaaGreat
open Go.RowKit Go.PlainAid

/-- The document's own Reader: block b. -/
structure XRd (w : World) (b : Nat) (s : ByteArray) (a e : Int) : Prop where
  txt : w.cell? ⟨b, 0, none⟩ = some (.string s)
  pos : w.cell? ⟨b, 1, none⟩ = some (.int .i64 a)
  err : w.cell? ⟨b, 2, none⟩ = some (.int .i64 e)
  fr1 : w.frozen? ⟨b, 1, none⟩ = false
  fr2 : w.frozen? ⟨b, 2, none⟩ = false
theorem XRd.lt {w : World} {b : Nat} {s : ByteArray} {a e : Int} (h : XRd w b s a e) : b < w.heap.size := World.block_lt_of_cell? w _ h.txt
theorem XRd.but {S : Nat → Prop} {w w' : World} {b : Nat} {s : ByteArray} {a e : Int} (h : XRd w b s a e) (hb : But S w w') (hs : ¬ S b) : XRd w' b s a e :=
  ⟨hb.cell hs h.txt, hb.cell hs h.pos, hb.cell hs h.err, by rw [hb.frozen h.lt hs]; exact h.fr1, by rw [hb.frozen h.lt hs]; exact h.fr2⟩
theorem XRd.below {w w' : World} {b : Nat} {s : ByteArray} {a e : Int} (h : XRd w b s a e) (hb : Below w.heap.size w w') : XRd w' b s a e := h.but (But.of_below (S := fun _ => False) hb) id
theorem XRd.setPos {w : World} {b : Nat} {s : ByteArray} {a e : Int} (h : XRd w b s a e) (a' : Int) : XRd (w.setCell ⟨b, 1, none⟩ (.int .i64 a')) b s a' e :=
  ⟨by rw [World.cell?_setCell_other _ _ _ _ (by simp)]; exact h.txt, World.cell?_setCell_same _ _ _ h.pos, by rw [World.cell?_setCell_other _ _ _ _ (by simp)]; exact h.err, by rw [World.frozen?_setCell]; exact h.fr1, by rw [World.frozen?_setCell]; exact h.fr2⟩
theorem XRd.setErr {w : World} {b : Nat} {s : ByteArray} {a e : Int} (h : XRd w b s a e) (x : Int) : XRd (w.setCell ⟨b, 2, none⟩ (.int .i64 x)) b s a x :=
  ⟨by rw [World.cell?_setCell_other _ _ _ _ (by simp)]; exact h.txt, by rw [World.cell?_setCell_other _ _ _ _ (by simp)]; exact h.pos, World.cell?_setCell_same _ _ _ h.err, by rw [World.frozen?_setCell]; exact h.fr1, by rw [World.frozen?_setCell]; exact h.fr2⟩
def XRE (w : World) (b : Nat) (s : ByteArray) (a x : Int) : Prop := if x = 0 then XRd w b s a 0 else ∃ a', XRd w b s a' x
theorem XRE.good {w : World} {b : Nat} {s : ByteArray} {a : Int} (h : XRd w b s a 0) : XRE w b s a 0 := by unfold XRE; rw [if_pos rfl]; exact h
theorem XRE.bad {w : World} {b : Nat} {s : ByteArray} {a a' x : Int} (hx : x ≠ 0) (h : XRd w b s a' x) : XRE w b s a x := by unfold XRE; rw [if_neg hx]; exact ⟨a', h⟩
/-- The reader is as it was; what came up is new. -/
def XB (b : Nat) (s : ByteArray) (a : Int) (w w' : World) : Prop := Below w.heap.size w w' ∧ XRd w' b s a 0
theorem XB.start {b : Nat} {s : ByteArray} {a : Int} {w : World} (h : XRd w b s a 0) : w.drew.cell? ⟨b, 0, none⟩ = some (.string s) ∧ w.drew.cell? ⟨b, 1, none⟩ = some (.int .i64 a) ∧ XB b s a w w.drew := ⟨h.txt, h.pos, (Below.refl _ _).drew, h.below (Below.refl _ _).drew⟩
theorem XB.step {b : Nat} {s : ByteArray} {a : Int} {w w1 w2 : World} (h : w1.cell? ⟨b, 0, none⟩ = some (.string s) ∧ w1.cell? ⟨b, 1, none⟩ = some (.int .i64 a) ∧ XB b s a w w1) (hb : Below w1.heap.size w1 w2) : w2.cell? ⟨b, 0, none⟩ = some (.string s) ∧ w2.cell? ⟨b, 1, none⟩ = some (.int .i64 a) ∧ XB b s a w w2 :=
  ⟨(h.2.2.2.below hb).txt, (h.2.2.2.below hb).pos, h.2.2.1.trans (hb.mono h.2.2.1.size), h.2.2.2.below hb⟩
set_option maxRecDepth 100000 in
set_option maxHeartbeats 1600000 in
theorem xrBig_any (b : Nat) (s : ByteArray) (a x : Int) (w : World) (h : XRd w b s a x) (hs : s.size ≤ 9223372036854775807) :
    Calls Tryz.prog 128 #[.pointer (some ⟨b, 0, none⟩)] w fun e w' => e = .returned (.int .u64 (bigR s a x).1) ∧ XRE w' b s (bigR s a x).2.1 (bigR s a x).2.2 ∧ But (Own b) w w' := by
  have H := Lib.hid h
  have c0 := h.err
  by_cases hx : x = 0
  · subst hx
    have HS := Lib.hid (XB.start h)
    have hg := fun w => rget_any s a w hs
    unfold getV at hg
    rcases hgr : getR s a with ⟨g1, g2, g3⟩
    rw [hgr] at hg
    have HG := Lib.hid hg
    by_cases he : g3 = 0
    · subst he
      have hq : bigR s a 0 = (g1, g2, 0) := by unfold bigR; rw [if_neg (by simp), hgr, if_pos rfl]
      rw [hq]
      clear h hg hgr hq
      go_enter Tryz.func128, Tryz.ntmps128
      go_wp2_with fail
      go_region_held3 (fun w' => w'.cell? ⟨b, 0, none⟩ = some (.string s) ∧ w'.cell? ⟨b, 1, none⟩ = some (.int .i64 a) ∧ XB b s a w w') (first | exact HS.out | exact XB.step (by assumption) hb7 | assumption) (first | (go_at_call 156; (with_reducible refine (HG.out _).mono ?_); rintro e w7 ⟨rfl, hb7⟩))
      have HQ : Hid (XB b s a w _) := Lib.hid (by assumption : _ ∧ _ ∧ XB b s a w _).2.2
      have k1 := HQ.out.2.pos; have f1 := HQ.out.2.fr1
      have HF := Lib.hid (HQ.out.2.setPos g2)
      have HB := Lib.hid ((But.of_below (S := Own b) HQ.out.1).setCell (p := ⟨b, 1, none⟩) (fun _ => rfl) (.int .i64 g2))
      go_wp2
      go_ret
      exact ⟨rfl, XRE.good HF.out, HB.out⟩
    · have hq : bigR s a 0 = (0, g2, g3) := by unfold bigR; rw [if_neg (by simp), hgr, if_neg he]
      rw [hq]
      have HE := Lib.hid he
      have hne : (g3 != 0) = true := by simp [he]
      clear h hg hgr hq he
      go_enter Tryz.func128, Tryz.ntmps128
      go_wp2_with fail
      go_region_held3 (fun w' => w'.cell? ⟨b, 0, none⟩ = some (.string s) ∧ w'.cell? ⟨b, 1, none⟩ = some (.int .i64 a) ∧ XB b s a w w') (first | exact HS.out | exact XB.step (by assumption) hb7 | assumption) (first | (go_at_call 156; (with_reducible refine (HG.out _).mono ?_); rintro e w7 ⟨rfl, hb7⟩))
      have HQ : Hid (XB b s a w _) := Lib.hid (by assumption : _ ∧ _ ∧ XB b s a w _).2.2
      have k2 := HQ.out.2.err; have f2 := HQ.out.2.fr2
      have HF := Lib.hid (HQ.out.2.setErr g3)
      have HB := Lib.hid ((But.of_below (S := Own b) HQ.out.1).setCell (p := ⟨b, 2, none⟩) (fun _ => rfl) (.int .i64 g3))
      go_wp2
      go_ret
      exact ⟨rfl, XRE.bad HE.out HF.out, HB.out⟩
  · have hq : bigR s a x = (0, a, x) := by unfold bigR; rw [if_pos hx]
    rw [hq]
    have hne : (x != 0) = true := by simp [hx]
    have HX := Lib.hid hx
    clear h hq hx
    go_enter Tryz.func128, Tryz.ntmps128
    go_wp2
    go_ret
    exact ⟨rfl, XRE.bad HX.out H.out, But.refl _ _⟩
theorem XRE.ok {w : World} {b : Nat} {s : ByteArray} {a : Int} (h : XRE w b s a 0) : XRd w b s a 0 := by unfold XRE at h; rw [if_pos rfl] at h; exact h
theorem XRE.err {w : World} {b : Nat} {s : ByteArray} {a x : Int} (hx : x ≠ 0) (h : XRE w b s a x) : ∃ a', XRd w b s a' x := by unfold XRE at h; rw [if_neg hx] at h; exact h
set_option maxRecDepth 100000 in
set_option maxHeartbeats 1600000 in
theorem xrNum_any (b : Nat) (s : ByteArray) (a x m : Int) (w : World) (h : XRd w b s a x) (hs : s.size ≤ 9223372036854775807) (hm1 : m ≤ 9223372036854775807) :
    Calls Tryz.prog 62 #[.pointer (some ⟨b, 0, none⟩), .int .i64 m] w fun e w' => e = .returned (.int .i64 (numR s a x m).1) ∧ XRE w' b s (numR s a x m).2.1 (numR s a x m).2.2 ∧ But (Own b) w w' := by
  have H := Lib.hid h
  clear h
  by_cases hx : x = 0
  · subst hx
    rcases hgr : getR s a with ⟨g1, g2, g3⟩
    have hr := getR_range s a
    rw [hgr] at hr
    have hu := upR_of (m := m) (x := 5) hgr
    by_cases he : g3 = 0
    · subst he
      have hB : bigR s a 0 = (g1, g2, 0) := by unfold bigR; rw [if_neg (by simp), hgr, if_pos rfl]
      rw [if_neg (by simp)] at hu
      by_cases hmm : m < 0 ∨ m < g1
      · rw [if_pos hmm] at hu
        have hq : numR s a 0 m = (0, g2, 5) := by unfold numR; rw [if_neg (by simp), hu, if_neg (by simp)]
        rw [hq]
        clear hq hu hgr
        rcases (show m < 0 ∨ (0 ≤ m ∧ m < g1) by omega) with h2 | ⟨h2, h3⟩
        · clear hmm
          go_enter Tryz.func62, Tryz.ntmps62
          go_wp2_with fail
          refine (xrBig_any b s a 0 _ H.out hs).mono ?_
          rintro e w1 ⟨rfl, hm, hb⟩
          rw [hB] at hm ⊢
          have c1 := hm.ok.err; have z1 := hm.ok.fr2
          have HF := Lib.hid (hm.ok.setErr 5)
          have HB := Lib.hid (hb.setCell (p := ⟨b, 2, none⟩) (fun _ => rfl) (.int .i64 5))
          clear hm hb
          go_wp2
          go_ret
          exact ⟨rfl, XRE.bad (by decide) HF.out, HB.out⟩
        · have hwm : IntKind.u64.wrap m = m := u64_nonneg h2 (by omega)
          have h0 : ¬ m < 0 := by omega
          clear hmm
          go_enter Tryz.func62, Tryz.ntmps62
          go_wp2_with fail
          refine (xrBig_any b s a 0 _ H.out hs).mono ?_
          rintro e w1 ⟨rfl, hm, hb⟩
          rw [hB] at hm ⊢
          have c1 := hm.ok.err; have z1 := hm.ok.fr2
          have HF := Lib.hid (hm.ok.setErr 5)
          have HB := Lib.hid (hb.setCell (p := ⟨b, 2, none⟩) (fun _ => rfl) (.int .i64 5))
          clear hm hb
          go_wp2
          go_ret
          exact ⟨rfl, XRE.bad (by decide) HF.out, HB.out⟩
      · rw [if_neg hmm] at hu
        have hq : numR s a 0 m = (g1, g2, 0) := by unfold numR; rw [if_neg (by simp), hu, if_pos rfl]
        rw [hq]
        have h0 : ¬ m < 0 := by omega
        have h3 : ¬ m < g1 := by omega
        have hwm : IntKind.u64.wrap m = m := u64_nonneg (by omega) (by omega)
        have hwg : IntKind.i64.wrap g1 = g1 := IntWalk.i64_in g1 ⟨by simp only at hr; omega, by simp only at hr; omega⟩
        clear hq hu hgr hmm
        go_enter Tryz.func62, Tryz.ntmps62
        go_wp2_with fail
        refine (xrBig_any b s a 0 _ H.out hs).mono ?_
        rintro e w1 ⟨rfl, hm, hb⟩
        rw [hB] at hm ⊢
        have c1 := hm.ok.err
        have HM := Lib.hid hm; have HB := Lib.hid hb
        clear hm hb
        go_wp2
        go_ret
        exact ⟨rfl, HM.out, HB.out⟩
    · have hB : bigR s a 0 = (0, g2, g3) := by unfold bigR; rw [if_neg (by simp), hgr, if_neg he]
      rw [if_pos he] at hu
      have hq : numR s a 0 m = (0, a, g3) := by unfold numR; rw [if_neg (by simp), hu, if_neg he]
      rw [hq]
      have HX := Lib.hid he
      have hn1 : (g3 == 0) = false := by simp [he]
      have hn2 : (g3 != 0) = true := by simp [he]
      clear hq hu hgr he
      go_enter Tryz.func62, Tryz.ntmps62
      go_wp2_with fail
      refine (xrBig_any b s a 0 _ H.out hs).mono ?_
      rintro e w1 ⟨rfl, hm, hb⟩
      rw [hB] at hm ⊢
      obtain ⟨a', hm⟩ := XRE.err HX.out hm
      have HM := Lib.hid hm; have HB := Lib.hid hb
      have c1 := hm.err
      clear hm hb
      go_wp2
      go_ret
      exact ⟨rfl, XRE.bad HX.out HM.out, HB.out⟩
  · have hB : bigR s a x = (0, a, x) := by unfold bigR; rw [if_pos hx]
    have hq : numR s a x m = (0, a, x) := by unfold numR; rw [if_pos hx]
    rw [hq]
    have HX := Lib.hid hx
    have hn1 : (x == 0) = false := by simp [hx]
    have hn2 : (x != 0) = true := by simp [hx]
    clear hq hx
    go_enter Tryz.func62, Tryz.ntmps62
    go_wp2_with fail
    refine (xrBig_any b s a x _ H.out hs).mono ?_
    rintro e w1 ⟨rfl, hm, hb⟩
    rw [hB] at hm ⊢
    obtain ⟨a', hm⟩ := XRE.err HX.out hm
    have HM := Lib.hid hm; have HB := Lib.hid hb
    have c1 := hm.err
    clear hm hb
    go_wp2
    go_ret
    exact ⟨rfl, XRE.bad HX.out HM.out, HB.out⟩
end Go.Proofs.YteioaaegooebpaaGreat
