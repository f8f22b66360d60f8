/- Put together: WireO, WireP, WireQ, WireR, WireT. Conditions: as each says. -/
import Derived.Test.YthmljllgfigebaaWireNLb
import Derived.Test.YthmljllgfigebaaVnG
import Derived.Test.YthmljllgfigebaaStrOps
import Derived.Test.YthmljllgfigebaaLb3
/- Package catenaref02: a Reader. Conditions: texts of at most 2^63-1 bytes. -/
namespace Go.Proofs.Ythmljllgfigebaa
set_option linter.unusedVariables false
open Go.RowKit Go.PlainAid

/-- The document's own Reader: block b. -/
structure XRd (w : World) (b : Nat) (s : ByteArray) (a e : Int) : Prop where
  txt : w.cell? ⟨b, 0, none⟩ = some (.string s)
  pos : w.cell? ⟨b, 1, none⟩ = some (.int .i64 a)
  err : w.cell? ⟨b, 2, none⟩ = some (.int .i64 e)
  fr1 : w.frozen? ⟨b, 1, none⟩ = false
  fr2 : w.frozen? ⟨b, 2, none⟩ = false
theorem XRd.lt {w : World} {b : Nat} {s : ByteArray} {a e : Int} (h : XRd w b s a e) : b < w.heap.size := World.block_lt_of_cell? w _ h.txt
theorem XRd.but {S : Nat → Prop} {w w' : World} {b : Nat} {s : ByteArray} {a e : Int} (h : XRd w b s a e) (hb : But S w w') (hs : ¬ S b) : XRd w' b s a e :=
  ⟨hb.cell hs h.txt, hb.cell hs h.pos, hb.cell hs h.err, by rw [hb.frozen h.lt hs]; exact h.fr1, by rw [hb.frozen h.lt hs]; exact h.fr2⟩
theorem XRd.below {w w' : World} {b : Nat} {s : ByteArray} {a e : Int} (h : XRd w b s a e) (hb : Below w.heap.size w w') : XRd w' b s a e := h.but (But.of_below (S := fun _ => False) hb) id
theorem XRd.setPos {w : World} {b : Nat} {s : ByteArray} {a e : Int} (h : XRd w b s a e) (a' : Int) : XRd (w.setCell ⟨b, 1, none⟩ (.int .i64 a')) b s a' e :=
  ⟨by rw [World.cell?_setCell_other _ _ _ _ (by simp)]; exact h.txt, World.cell?_setCell_same _ _ _ h.pos, by rw [World.cell?_setCell_other _ _ _ _ (by simp)]; exact h.err, by rw [World.frozen?_setCell]; exact h.fr1, by rw [World.frozen?_setCell]; exact h.fr2⟩
theorem XRd.setErr {w : World} {b : Nat} {s : ByteArray} {a e : Int} (h : XRd w b s a e) (x : Int) : XRd (w.setCell ⟨b, 2, none⟩ (.int .i64 x)) b s a x :=
  ⟨by rw [World.cell?_setCell_other _ _ _ _ (by simp)]; exact h.txt, by rw [World.cell?_setCell_other _ _ _ _ (by simp)]; exact h.pos, World.cell?_setCell_same _ _ _ h.err, by rw [World.frozen?_setCell]; exact h.fr1, by rw [World.frozen?_setCell]; exact h.fr2⟩
def XRE (w : World) (b : Nat) (s : ByteArray) (a x : Int) : Prop := if x = 0 then XRd w b s a 0 else ∃ a', XRd w b s a' x
theorem XRE.good {w : World} {b : Nat} {s : ByteArray} {a : Int} (h : XRd w b s a 0) : XRE w b s a 0 := by unfold XRE; rw [if_pos rfl]; exact h
theorem XRE.bad {w : World} {b : Nat} {s : ByteArray} {a a' x : Int} (hx : x ≠ 0) (h : XRd w b s a' x) : XRE w b s a x := by unfold XRE; rw [if_neg hx]; exact ⟨a', h⟩
/-- The reader is as it was; what came up is new. -/
def XB (b : Nat) (s : ByteArray) (a : Int) (w w' : World) : Prop := Below w.heap.size w w' ∧ XRd w' b s a 0
theorem XB.start {b : Nat} {s : ByteArray} {a : Int} {w : World} (h : XRd w b s a 0) : w.drew.cell? ⟨b, 0, none⟩ = some (.string s) ∧ w.drew.cell? ⟨b, 1, none⟩ = some (.int .i64 a) ∧ XB b s a w w.drew := ⟨h.txt, h.pos, (Below.refl _ _).drew, h.below (Below.refl _ _).drew⟩
theorem XB.step {b : Nat} {s : ByteArray} {a : Int} {w w1 w2 : World} (h : w1.cell? ⟨b, 0, none⟩ = some (.string s) ∧ w1.cell? ⟨b, 1, none⟩ = some (.int .i64 a) ∧ XB b s a w w1) (hb : Below w1.heap.size w1 w2) : w2.cell? ⟨b, 0, none⟩ = some (.string s) ∧ w2.cell? ⟨b, 1, none⟩ = some (.int .i64 a) ∧ XB b s a w w2 :=
  ⟨(h.2.2.2.below hb).txt, (h.2.2.2.below hb).pos, h.2.2.1.trans (hb.mono h.2.2.1.size), h.2.2.2.below hb⟩
set_option maxRecDepth 100000 in
set_option maxHeartbeats 1600000 in
theorem xrBig_any (b : Nat) (s : ByteArray) (a x : Int) (w : World) (h : XRd w b s a x) (hs : s.size ≤ 9223372036854775807) :
    Calls Try.prog 123 #[.pointer (some ⟨b, 0, none⟩)] w fun e w' => e = .returned (.int .u64 (bigR s a x).1) ∧ XRE w' b s (bigR s a x).2.1 (bigR s a x).2.2 ∧ But (Own b) w w' := by
  have H := Lib.hid h
  have c0 := h.err
  by_cases hx : x = 0
  · subst hx
    have HS := Lib.hid (XB.start h)
    have hg := fun w => rget_any s a w hs
    unfold getV at hg
    rcases hgr : getR s a with ⟨g1, g2, g3⟩
    rw [hgr] at hg
    have HG := Lib.hid hg
    by_cases he : g3 = 0
    · subst he
      have hq : bigR s a 0 = (g1, g2, 0) := by unfold bigR; rw [if_neg (by simp), hgr, if_pos rfl]
      rw [hq]
      clear h hg hgr hq
      go_enter Try.func123, Try.ntmps123
      go_wp2_with fail
      go_region_held3 (fun w' => w'.cell? ⟨b, 0, none⟩ = some (.string s) ∧ w'.cell? ⟨b, 1, none⟩ = some (.int .i64 a) ∧ XB b s a w w') (first | exact HS.out | exact XB.step (by assumption) hb7 | assumption) (first | (go_at_call 135; (with_reducible refine (HG.out _).mono ?_); rintro e w7 ⟨rfl, hb7⟩))
      have HQ : Hid (XB b s a w _) := Lib.hid (by assumption : _ ∧ _ ∧ XB b s a w _).2.2
      have k1 := HQ.out.2.pos; have f1 := HQ.out.2.fr1
      have HF := Lib.hid (HQ.out.2.setPos g2)
      have HB := Lib.hid ((But.of_below (S := Own b) HQ.out.1).setCell (p := ⟨b, 1, none⟩) (fun _ => rfl) (.int .i64 g2))
      go_wp2
      go_ret
      exact ⟨rfl, XRE.good HF.out, HB.out⟩
    · have hq : bigR s a 0 = (0, g2, g3) := by unfold bigR; rw [if_neg (by simp), hgr, if_neg he]
      rw [hq]
      have HE := Lib.hid he
      have hne : (g3 != 0) = true := by simp [he]
      clear h hg hgr hq he
      go_enter Try.func123, Try.ntmps123
      go_wp2_with fail
      go_region_held3 (fun w' => w'.cell? ⟨b, 0, none⟩ = some (.string s) ∧ w'.cell? ⟨b, 1, none⟩ = some (.int .i64 a) ∧ XB b s a w w') (first | exact HS.out | exact XB.step (by assumption) hb7 | assumption) (first | (go_at_call 135; (with_reducible refine (HG.out _).mono ?_); rintro e w7 ⟨rfl, hb7⟩))
      have HQ : Hid (XB b s a w _) := Lib.hid (by assumption : _ ∧ _ ∧ XB b s a w _).2.2
      have k2 := HQ.out.2.err; have f2 := HQ.out.2.fr2
      have HF := Lib.hid (HQ.out.2.setErr g3)
      have HB := Lib.hid ((But.of_below (S := Own b) HQ.out.1).setCell (p := ⟨b, 2, none⟩) (fun _ => rfl) (.int .i64 g3))
      go_wp2
      go_ret
      exact ⟨rfl, XRE.bad HE.out HF.out, HB.out⟩
  · have hq : bigR s a x = (0, a, x) := by unfold bigR; rw [if_pos hx]
    rw [hq]
    have hne : (x != 0) = true := by simp [hx]
    have HX := Lib.hid hx
    clear h hq hx
    go_enter Try.func123, Try.ntmps123
    go_wp2
    go_ret
    exact ⟨rfl, XRE.bad HX.out H.out, But.refl _ _⟩
theorem XRE.ok {w : World} {b : Nat} {s : ByteArray} {a : Int} (h : XRE w b s a 0) : XRd w b s a 0 := by unfold XRE at h; rw [if_pos rfl] at h; exact h
theorem XRE.err {w : World} {b : Nat} {s : ByteArray} {a x : Int} (hx : x ≠ 0) (h : XRE w b s a x) : ∃ a', XRd w b s a' x := by unfold XRE at h; rw [if_neg hx] at h; exact h
set_option maxRecDepth 100000 in
set_option maxHeartbeats 1600000 in
theorem xrNum_any (b : Nat) (s : ByteArray) (a x m : Int) (w : World) (h : XRd w b s a x) (hs : s.size ≤ 9223372036854775807) (hm1 : m ≤ 9223372036854775807) :
    Calls Try.prog 92 #[.pointer (some ⟨b, 0, none⟩), .int .i64 m] w fun e w' => e = .returned (.int .i64 (numR s a x m).1) ∧ XRE w' b s (numR s a x m).2.1 (numR s a x m).2.2 ∧ But (Own b) w w' := by
  have H := Lib.hid h
  clear h
  by_cases hx : x = 0
  · subst hx
    rcases hgr : getR s a with ⟨g1, g2, g3⟩
    have hr := getR_range s a
    rw [hgr] at hr
    have hu := upR_of (m := m) (x := 5) hgr
    by_cases he : g3 = 0
    · subst he
      have hB : bigR s a 0 = (g1, g2, 0) := by unfold bigR; rw [if_neg (by simp), hgr, if_pos rfl]
      rw [if_neg (by simp)] at hu
      by_cases hmm : m < 0 ∨ m < g1
      · rw [if_pos hmm] at hu
        have hq : numR s a 0 m = (0, g2, 5) := by unfold numR; rw [if_neg (by simp), hu, if_neg (by simp)]
        rw [hq]
        clear hq hu hgr
        rcases (show m < 0 ∨ (0 ≤ m ∧ m < g1) by omega) with h2 | ⟨h2, h3⟩
        · clear hmm
          go_enter Try.func92, Try.ntmps92
          go_wp2_with fail
          refine (xrBig_any b s a 0 _ H.out hs).mono ?_
          rintro e w1 ⟨rfl, hm, hb⟩
          rw [hB] at hm ⊢
          have c1 := hm.ok.err; have z1 := hm.ok.fr2
          have HF := Lib.hid (hm.ok.setErr 5)
          have HB := Lib.hid (hb.setCell (p := ⟨b, 2, none⟩) (fun _ => rfl) (.int .i64 5))
          clear hm hb
          go_wp2
          go_ret
          exact ⟨rfl, XRE.bad (by decide) HF.out, HB.out⟩
        · have hwm : IntKind.u64.wrap m = m := u64_nonneg h2 (by omega)
          have h0 : ¬ m < 0 := by omega
          clear hmm
          go_enter Try.func92, Try.ntmps92
          go_wp2_with fail
          refine (xrBig_any b s a 0 _ H.out hs).mono ?_
          rintro e w1 ⟨rfl, hm, hb⟩
          rw [hB] at hm ⊢
          have c1 := hm.ok.err; have z1 := hm.ok.fr2
          have HF := Lib.hid (hm.ok.setErr 5)
          have HB := Lib.hid (hb.setCell (p := ⟨b, 2, none⟩) (fun _ => rfl) (.int .i64 5))
          clear hm hb
          go_wp2
          go_ret
          exact ⟨rfl, XRE.bad (by decide) HF.out, HB.out⟩
      · rw [if_neg hmm] at hu
        have hq : numR s a 0 m = (g1, g2, 0) := by unfold numR; rw [if_neg (by simp), hu, if_pos rfl]
        rw [hq]
        have h0 : ¬ m < 0 := by omega
        have h3 : ¬ m < g1 := by omega
        have hwm : IntKind.u64.wrap m = m := u64_nonneg (by omega) (by omega)
        have hwg : IntKind.i64.wrap g1 = g1 := IntWalk.i64_in g1 ⟨by simp only at hr; omega, by simp only at hr; omega⟩
        clear hq hu hgr hmm
        go_enter Try.func92, Try.ntmps92
        go_wp2_with fail
        refine (xrBig_any b s a 0 _ H.out hs).mono ?_
        rintro e w1 ⟨rfl, hm, hb⟩
        rw [hB] at hm ⊢
        have c1 := hm.ok.err
        have HM := Lib.hid hm; have HB := Lib.hid hb
        clear hm hb
        go_wp2
        go_ret
        exact ⟨rfl, HM.out, HB.out⟩
    · have hB : bigR s a 0 = (0, g2, g3) := by unfold bigR; rw [if_neg (by simp), hgr, if_neg he]
      rw [if_pos he] at hu
      have hq : numR s a 0 m = (0, a, g3) := by unfold numR; rw [if_neg (by simp), hu, if_neg he]
      rw [hq]
      have HX := Lib.hid he
      have hn1 : (g3 == 0) = false := by simp [he]
      have hn2 : (g3 != 0) = true := by simp [he]
      clear hq hu hgr he
      go_enter Try.func92, Try.ntmps92
      go_wp2_with fail
      refine (xrBig_any b s a 0 _ H.out hs).mono ?_
      rintro e w1 ⟨rfl, hm, hb⟩
      rw [hB] at hm ⊢
      obtain ⟨a', hm⟩ := XRE.err HX.out hm
      have HM := Lib.hid hm; have HB := Lib.hid hb
      have c1 := hm.err
      clear hm hb
      go_wp2
      go_ret
      exact ⟨rfl, XRE.bad HX.out HM.out, HB.out⟩
  · have hB : bigR s a x = (0, a, x) := by unfold bigR; rw [if_pos hx]
    have hq : numR s a x m = (0, a, x) := by unfold numR; rw [if_pos hx]
    rw [hq]
    have HX := Lib.hid hx
    have hn1 : (x == 0) = false := by simp [hx]
    have hn2 : (x != 0) = true := by simp [hx]
    clear hq hx
    go_enter Try.func92, Try.ntmps92
    go_wp2_with fail
    refine (xrBig_any b s a x _ H.out hs).mono ?_
    rintro e w1 ⟨rfl, hm, hb⟩
    rw [hB] at hm ⊢
    obtain ⟨a', hm⟩ := XRE.err HX.out hm
    have HM := Lib.hid hm; have HB := Lib.hid hb
    have c1 := hm.err
    clear hm hb
    go_wp2
    go_ret
    exact ⟨rfl, XRE.bad HX.out HM.out, HB.out⟩
end Go.Proofs.Ythmljllgfigebaa

/- Package catenaref02: what a Reader has left. Conditions: texts of at most 2^63-1 bytes. -/
namespace Go.Proofs.Ythmljllgfigebaa
set_option linter.unusedVariables false
open Go.RowKit Go.PlainAid

set_option maxRecDepth 100000 in
set_option maxHeartbeats 1600000 in
theorem xrEnd_ok (b : Nat) (s : ByteArray) (a : Nat) (w : World) (h : XRd w b s a 0) (hs : s.size ≤ 9223372036854775807) (ha : a ≤ s.size) :
    Calls Try.prog 95 #[.pointer (some ⟨b, 0, none⟩)] w fun e w' => e = .returned (.int .i64 (if a < s.size then 4 else 0)) ∧ Below w.heap.size w w' := by
  have c0 := h.txt; have c1 := h.pos; have c2 := h.err
  clear h
  by_cases hlt : a < s.size
  · rw [if_pos hlt]
    have hq : (a : Int) < (s.size : Int) := by omega
    go_enter Try.func95, Try.ntmps95
    go_wp2_with fail
    go_quiet (fail)
    go_wp2
    go_ret
    exact ⟨rfl, below_draws (Below.refl _ _) _⟩
  · rw [if_neg hlt]
    have hq : ¬ (a : Int) < (s.size : Int) := by omega
    go_enter Try.func95, Try.ntmps95
    go_wp2_with fail
    go_quiet (fail)
    go_wp2
    go_ret
    exact ⟨rfl, below_draws (Below.refl _ _) _⟩
set_option maxRecDepth 100000 in
set_option maxHeartbeats 1600000 in
theorem xrEnd_err (b : Nat) (s : ByteArray) (a x : Int) (w : World) (h : XRd w b s a x) (hx : x ≠ 0) :
    Calls Try.prog 95 #[.pointer (some ⟨b, 0, none⟩)] w fun e w' => e = .returned (.int .i64 x) ∧ Below w.heap.size w w' := by
  have c2 := h.err
  have hq : (x == 0) = false := by simp [hx]
  clear h
  go_enter Try.func95, Try.ntmps95
  go_wp2_with fail
  go_quiet (fail)
  go_wp2
  go_ret
  exact ⟨rfl, below_draws (Below.refl _ _) _⟩
set_option maxRecDepth 100000 in
set_option maxHeartbeats 1600000 in
theorem xrFlag_any (b : Nat) (s : ByteArray) (a : Nat) (x : Int) (w : World) (h : XRd w b s a x) (hs : s.size ≤ 9223372036854775807) (ha : a ≤ s.size) :
    Calls Try.prog 93 #[.pointer (some ⟨b, 0, none⟩)] w fun e w' => e = .returned (.bool (flagR s a x).1) ∧ XRE w' b s (flagR s a x).2.1 (flagR s a x).2.2 ∧ But (Own b) w w' := by
  have H := Lib.hid h
  have c0 := h.txt; have c1 := h.pos; have c2 := h.err; have z1 := h.fr1; have z2 := h.fr2
  have hbt := get_bt s
  clear h
  by_cases hx : x = 0
  · subst hx
    by_cases hu : a = s.size
    · have hq : flagR s a 0 = (false, (a : Int), 2) := by unfold flagR; rw [if_neg (by simp), if_pos hu]
      rw [hq]
      have hne : ((a : Int) == (s.size : Int)) = true := by simp [hu]
      have HF := Lib.hid (fun n => ((H.out.below (below_draws (Below.refl _ _) n)).setErr 2))
      have HB := Lib.hid (fun n => ((But.refl (Own b) w).draws n).setCell (p := ⟨b, 2, none⟩) (fun _ => rfl) (.int .i64 2))
      clear hq
      go_enter Try.func93, Try.ntmps93
      go_wp2_with fail
      go_quiet (fail)
      obtain ⟨k1, hk1⟩ : ∃ k, k = nq := ⟨_, rfl⟩
      rw [← hk1]
      clear hk1
      have e2 : (w.drewN k1).cell? ⟨b, 2, none⟩ = some (.int .i64 0) := c2
      have e3 : (w.drewN k1).frozen? ⟨b, 2, none⟩ = false := z2
      have HFk := Lib.hid (HF.out k1)
      have HBk := Lib.hid (HB.out k1)
      go_wp2_with fail
      go_quiet (fail)
      go_wp2
      go_ret
      exact ⟨rfl, XRE.bad (by simp) (HFk.out.below (below_draws (Below.refl _ _) _)), HBk.out.draws _⟩
    · have hne : ((a : Int) == (s.size : Int)) = false := by simp; omega
      have hlt : a < s.size := by omega
      by_cases hf : 1 < bt s a
      · have hq : flagR s a 0 = (false, (a : Int), 4) := by unfold flagR; rw [if_neg (by simp), if_neg hu, if_pos hf]
        rw [hq]
        have HF := Lib.hid (fun n => ((H.out.below (below_draws (Below.refl _ _) n)).setErr 4))
        have HB := Lib.hid (fun n => ((But.refl (Own b) w).draws n).setCell (p := ⟨b, 2, none⟩) (fun _ => rfl) (.int .i64 4))
        clear hq
        go_enter Try.func93, Try.ntmps93
        go_wp2_with fail
        go_quiet (fail)
        go_wp2_with fail
        go_quiet (fail)
        go_wp2
        go_ret
        exact ⟨rfl, XRE.bad (by simp) (HF.out _), HB.out _⟩
      · have hq : flagR s a 0 = (bt s a == 1, (a : Int) + 1, 0) := by unfold flagR; rw [if_neg (by simp), if_neg hu, if_neg hf]
        rw [hq]
        have hadd : IntKind.i64.wrap ((a : Int) + 1) = (a : Int) + 1 := IntWalk.i64_in _ ⟨by omega, by omega⟩
        have HF := Lib.hid (fun n => ((H.out.below (below_draws (Below.refl _ _) n)).setPos ((a : Int) + 1)))
        have HB := Lib.hid (fun n => ((But.refl (Own b) w).draws n).setCell (p := ⟨b, 1, none⟩) (fun _ => rfl) (.int .i64 ((a : Int) + 1)))
        clear hq
        go_enter Try.func93, Try.ntmps93
        go_wp2_with fail
        go_quiet (fail)
        go_wp2_with fail
        go_quiet (fail)
        go_wp2_with fail
        go_quiet (fail)
        go_wp2
        go_ret
        exact ⟨rfl, XRE.good (HF.out _), HB.out _⟩
  · have hq : flagR s a x = (false, (a : Int), x) := by unfold flagR; rw [if_pos hx]
    rw [hq]
    have hn1 : (x == 0) = false := by simp [hx]
    have hn2 : (x != 0) = true := by simp [hx]
    have HX := Lib.hid hx
    clear hq hx
    go_enter Try.func93, Try.ntmps93
    go_wp2_with fail
    go_quiet (fail)
    go_wp2_with fail
    go_quiet (fail)
    go_wp2
    go_ret
    exact ⟨rfl, XRE.bad HX.out (H.out.below (below_draws (Below.refl _ _) _)), (But.refl _ _).draws _⟩
end Go.Proofs.Ythmljllgfigebaa

/- Package catenaref02: a Reader's Text, where there is one. Conditions: texts of at most 2^63-1 bytes. -/
namespace Go.Proofs.Ythmljllgfigebaa
set_option linter.unusedVariables false
open Go.RowKit Go.PlainAid

set_option maxRecDepth 100000 in
set_option maxHeartbeats 1600000 in
theorem xrText_good (b : Nat) (s : ByteArray) (a m : Int) (n a2 : Nat) (w : World) (h : XRd w b s a 0) (hs : s.size ≤ 9223372036854775807) (hm1 : m ≤ 9223372036854775807) (hg : bigR s a 0 = ((n : Int), (a2 : Int), 0)) (hle : a2 + n ≤ s.size) (hmn : (n : Int) ≤ m) :
    Calls Try.prog 94 #[.pointer (some ⟨b, 0, none⟩), .int .i64 m] w fun e w' => e = .returned (.string (s.extract a2 (a2 + n))) ∧ XRd w' b s ((a2 : Int) + n) 0 ∧ But (Own b) w w' := by
  have H := Lib.hid h
  clear h
  have h0 : ¬ m < 0 := by omega
  have h3 : ¬ m < (n : Int) := by omega
  have hwm : IntKind.u64.wrap m = m := u64_nonneg (by omega) (by omega)
  have hwn : IntKind.i64.wrap (n : Int) = (n : Int) := IntWalk.i64_in _ ⟨by omega, by omega⟩
  have hsub : IntKind.i64.wrap ((s.size : Int) - (a2 : Int)) = (s.size : Int) - (a2 : Int) := IntWalk.i64_in _ ⟨by omega, by omega⟩
  have hwd : IntKind.u64.wrap ((s.size : Int) - (a2 : Int)) = (s.size : Int) - (a2 : Int) := u64_nonneg (by omega) (by omega)
  have h4 : ¬ ((s.size : Int) - (a2 : Int) < (n : Int)) := by omega
  have hadd : IntKind.i64.wrap ((a2 : Int) + (n : Int)) = (a2 : Int) + (n : Int) := IntWalk.i64_in _ ⟨by omega, by omega⟩
  have hsl := slice_run s a2 (a2 + n) (a2 : Int) ((a2 : Int) + (n : Int)) rfl (by omega) (by omega) (by omega)
  go_enter Try.func94, Try.ntmps94
  go_wp2_with fail
  refine (xrBig_any b s a 0 _ H.out hs).mono ?_
  rintro e w1 ⟨rfl, hm, hb⟩
  rw [hg] at hm ⊢
  have c0 := hm.ok.txt; have c1 := hm.ok.pos; have c2 := hm.ok.err; have z1 := hm.ok.fr1
  have HF := Lib.hid (fun k => ((hm.ok.below (below_draws (Below.refl _ _) k)).setPos ((a2 : Int) + n)))
  have HB := Lib.hid (fun k => (hb.draws k).setCell (p := ⟨b, 1, none⟩) (fun _ => rfl) (.int .i64 ((a2 : Int) + n)))
  clear hm hb
  go_wp2_with fail
  go_quiet (fail)
  go_wp2_with fail
  go_quiet (fail)
  go_wp2
  go_ret
  exact ⟨rfl, HF.out _, HB.out _⟩
end Go.Proofs.Ythmljllgfigebaa

/- Package catenaref02: a Reader's Text, whole. Conditions: texts of at most 2^63-1 bytes. -/
namespace Go.Proofs.Ythmljllgfigebaa
set_option linter.unusedVariables false
open Go.RowKit Go.PlainAid

set_option maxRecDepth 100000 in
set_option maxHeartbeats 1600000 in
theorem xrText_err (b : Nat) (s : ByteArray) (a x m x2 : Int) (w : World) (h : XRd w b s a x) (hs : s.size ≤ 9223372036854775807) (hx2 : x2 ≠ 0) (hB : (bigR s a x).2.2 = x2) :
    Calls Try.prog 94 #[.pointer (some ⟨b, 0, none⟩), .int .i64 m] w fun e w' => e = .returned (.string ⟨#[]⟩) ∧ XRE w' b s a x2 ∧ But (Own b) w w' := by
  have H := Lib.hid h
  have HX := Lib.hid hx2
  have HB0 := Lib.hid hB
  have hn1 : (x2 == 0) = false := by simp [hx2]
  have hn2 : (x2 != 0) = true := by simp [hx2]
  clear h hx2 hB
  go_enter Try.func94, Try.ntmps94
  go_wp2_with fail
  refine (xrBig_any b s a x _ H.out hs).mono ?_
  rintro e w1 ⟨rfl, hm, hb⟩
  rw [HB0.out] at hm
  obtain ⟨a', hm⟩ := XRE.err HX.out hm
  have HM := Lib.hid hm; have HB := Lib.hid hb
  have c1 := hm.err
  clear hm hb
  go_wp2_with fail
  go_quiet (fail)
  go_wp2
  go_ret
  exact ⟨rfl, XRE.bad HX.out (HM.out.below (below_draws (Below.refl _ _) _)), HB.out.draws _⟩
set_option maxRecDepth 100000 in
set_option maxHeartbeats 1600000 in
theorem xrText_long (b : Nat) (s : ByteArray) (a m g1 g2 : Int) (w : World) (h : XRd w b s a 0) (hs : s.size ≤ 9223372036854775807) (hm1 : m ≤ 9223372036854775807) (hB : bigR s a 0 = (g1, g2, 0)) (hmm : m < 0 ∨ (0 ≤ m ∧ m < g1)) :
    Calls Try.prog 94 #[.pointer (some ⟨b, 0, none⟩), .int .i64 m] w fun e w' => e = .returned (.string ⟨#[]⟩) ∧ XRE w' b s g2 3 ∧ But (Own b) w w' := by
  have H := Lib.hid h
  have HB0 := Lib.hid hB
  clear h hB
  rcases hmm with h2 | ⟨h2, h3⟩
  · go_enter Try.func94, Try.ntmps94
    go_wp2_with fail
    refine (xrBig_any b s a 0 _ H.out hs).mono ?_
    rintro e w1 ⟨rfl, hm, hb⟩
    rw [HB0.out] at hm ⊢
    have c1 := hm.ok.err; have z1 := hm.ok.fr2
    have HF := Lib.hid (hm.ok.setErr 3)
    have HB := Lib.hid (hb.setCell (p := ⟨b, 2, none⟩) (fun _ => rfl) (.int .i64 3))
    clear hm hb
    go_wp2_with fail
    go_quiet (fail)
    go_wp2
    go_ret
    exact ⟨rfl, XRE.bad (by decide) (HF.out.below (below_draws (Below.refl _ _) _)), HB.out.draws _⟩
  · have hwm : IntKind.u64.wrap m = m := u64_nonneg h2 (by omega)
    have h0 : ¬ m < 0 := by omega
    go_enter Try.func94, Try.ntmps94
    go_wp2_with fail
    refine (xrBig_any b s a 0 _ H.out hs).mono ?_
    rintro e w1 ⟨rfl, hm, hb⟩
    rw [HB0.out] at hm ⊢
    have c1 := hm.ok.err; have z1 := hm.ok.fr2
    have HF := Lib.hid (hm.ok.setErr 3)
    have HB := Lib.hid (hb.setCell (p := ⟨b, 2, none⟩) (fun _ => rfl) (.int .i64 3))
    clear hm hb
    go_wp2_with fail
    go_quiet (fail)
    go_wp2
    go_ret
    exact ⟨rfl, XRE.bad (by decide) (HF.out.below (below_draws (Below.refl _ _) _)), HB.out.draws _⟩
set_option maxRecDepth 100000 in
set_option maxHeartbeats 1600000 in
theorem xrText_short (b : Nat) (s : ByteArray) (a m : Int) (n a2 : Nat) (w : World) (h : XRd w b s a 0) (hs : s.size ≤ 9223372036854775807) (hm1 : m ≤ 9223372036854775807) (hg : bigR s a 0 = ((n : Int), (a2 : Int), 0)) (ha2 : a2 ≤ s.size) (hle : ¬ a2 + n ≤ s.size) (hmn : (n : Int) ≤ m) :
    Calls Try.prog 94 #[.pointer (some ⟨b, 0, none⟩), .int .i64 m] w fun e w' => e = .returned (.string ⟨#[]⟩) ∧ XRE w' b s a2 2 ∧ But (Own b) w w' := by
  have H := Lib.hid h
  clear h
  have h0 : ¬ m < 0 := by omega
  have h3 : ¬ m < (n : Int) := by omega
  have hwm : IntKind.u64.wrap m = m := u64_nonneg (by omega) (by omega)
  have hsub : IntKind.i64.wrap ((s.size : Int) - (a2 : Int)) = (s.size : Int) - (a2 : Int) := IntWalk.i64_in _ ⟨by omega, by omega⟩
  have hwd : IntKind.u64.wrap ((s.size : Int) - (a2 : Int)) = (s.size : Int) - (a2 : Int) := u64_nonneg (by omega) (by omega)
  have h4 : (s.size : Int) - (a2 : Int) < (n : Int) := by omega
  go_enter Try.func94, Try.ntmps94
  go_wp2_with fail
  refine (xrBig_any b s a 0 _ H.out hs).mono ?_
  rintro e w1 ⟨rfl, hm, hb⟩
  rw [hg] at hm ⊢
  have c0 := hm.ok.txt; have c1 := hm.ok.pos; have c2 := hm.ok.err; have z1 := hm.ok.fr2
  have HF := Lib.hid (fun k => ((hm.ok.below (below_draws (Below.refl _ _) k)).setErr 2))
  have HB := Lib.hid (fun k => (hb.draws k).setCell (p := ⟨b, 2, none⟩) (fun _ => rfl) (.int .i64 2))
  clear hm hb
  go_wp2_with fail
  go_quiet (fail)
  go_wp2
  go_ret
  exact ⟨rfl, XRE.bad (by decide) (HF.out _), HB.out _⟩
theorem xrText_any (b : Nat) (s : ByteArray) (a x m : Int) (w : World) (h : XRd w b s a x) (hs : s.size ≤ 9223372036854775807) (hm1 : m ≤ 9223372036854775807) :
    Calls Try.prog 94 #[.pointer (some ⟨b, 0, none⟩), .int .i64 m] w fun e w' => e = .returned (.string (textR s a x m).1) ∧ XRE w' b s (textR s a x m).2.1 (textR s a x m).2.2 ∧ But (Own b) w w' := by
  have weak : ∀ {y a1 a2 : Int} {w' : World}, y ≠ 0 → XRE w' b s a1 y → XRE w' b s a2 y := fun hy hh => by
    obtain ⟨a', h'⟩ := XRE.err hy hh; exact XRE.bad hy h'
  by_cases hx : x = 0
  · subst hx
    rcases hgr : getR s a with ⟨g1, g2, g3⟩
    have hr := getR_range s a
    rw [hgr] at hr
    have hu := upR_of (m := m) (x := 3) hgr
    by_cases he : g3 = 0
    · subst he
      have hB : bigR s a 0 = (g1, g2, 0) := by unfold bigR; rw [if_neg (by simp), hgr, if_pos rfl]
      rw [if_neg (by simp)] at hu
      have hp := getR_pos hgr
      by_cases hmm : m < 0 ∨ m < g1
      · rw [if_pos hmm] at hu
        have hq : textR s a 0 m = (⟨#[]⟩, g2, 3) := by unfold textR; rw [if_neg (by simp), hu, if_pos (by simp)]
        rw [hq]
        exact xrText_long b s a m g1 g2 w h hs hm1 hB (by omega)
      · rw [if_neg hmm] at hu
        obtain ⟨n, rfl⟩ := Int.eq_ofNat_of_zero_le hr
        obtain ⟨a2, rfl⟩ := Int.eq_ofNat_of_zero_le hp.1
        by_cases hle : a2 + n ≤ s.size
        · have hq : textR s a 0 m = (s.extract a2 (a2 + n), (a2 : Int) + n, 0) := by unfold textR; rw [if_neg (by simp), hu, if_neg (by simp), if_neg (by simp only; omega)]; simp
          rw [hq]
          exact (xrText_good b s a m n a2 w h hs hm1 hB hle (by omega)).mono fun e w' ⟨h1, h2, h3⟩ => ⟨h1, XRE.good h2, h3⟩
        · have hq : textR s a 0 m = (⟨#[]⟩, (a2 : Int), 2) := by unfold textR; rw [if_neg (by simp), hu, if_neg (by simp), if_pos (by simp only; omega)]
          rw [hq]
          exact xrText_short b s a m n a2 w h hs hm1 hB (by omega) hle (by omega)
    · have hB : (bigR s a 0).2.2 = g3 := by unfold bigR; rw [if_neg (by simp), hgr]
      rw [if_pos he] at hu
      have hq : textR s a 0 m = (⟨#[]⟩, a, g3) := by unfold textR; rw [if_neg (by simp), hu, if_pos he]
      rw [hq]
      exact xrText_err b s a 0 m g3 w h hs he hB
  · have hq : textR s a x m = (⟨#[]⟩, a, x) := by unfold textR; rw [if_pos hx]
    rw [hq]
    exact xrText_err b s a x m x w h hs hx (by unfold bigR; rw [if_pos hx])
end Go.Proofs.Ythmljllgfigebaa

/- Package wire and the document's Reader: every call, behind an error or not. Conditions: texts of at most 2^63-1 bytes. -/
namespace Go.Proofs.Ythmljllgfigebaa
set_option linter.unusedVariables false
open Go.RowKit Go.PlainAid

theorem RE.err {w : World} {b : Nat} {s : ByteArray} {a x : Int} (hx : x ≠ 0) (h : RE w b s a x) : ∃ a', Rd w b s a' x := by unfold RE at h; rw [if_neg hx] at h; exact h
theorem RE.below {w w' : World} {b : Nat} {s : ByteArray} {a x : Int} (h : RE w b s a x) (hb : Below w.heap.size w w') : RE w' b s a x := by
  by_cases hx : x = 0
  · subst hx; exact RE.good (h.ok.below hb)
  · obtain ⟨a', h'⟩ := RE.err hx h; exact RE.bad hx (h'.below hb)
theorem RE.but {S : Nat → Prop} {w w' : World} {b : Nat} {s : ByteArray} {a x : Int} (h : RE w b s a x) (hb : But S w w') (hs : ¬ S b) : RE w' b s a x := by
  by_cases hx : x = 0
  · subst hx; exact RE.good (h.ok.but hb hs)
  · obtain ⟨a', h'⟩ := RE.err hx h; exact RE.bad hx (h'.but hb hs)
theorem RE.weak {w : World} {b : Nat} {s : ByteArray} {a a2 x : Int} (hx : x ≠ 0) (h : RE w b s a x) : RE w b s a2 x := by
  obtain ⟨a', h'⟩ := RE.err hx h; exact RE.bad hx h'
theorem RE.lt {w : World} {b : Nat} {s : ByteArray} {a x : Int} (h : RE w b s a x) : b < w.heap.size := by
  by_cases hx : x = 0
  · subst hx; exact h.ok.lt
  · obtain ⟨a', h'⟩ := RE.err hx h; exact h'.lt
theorem XRE.below {w w' : World} {b : Nat} {s : ByteArray} {a x : Int} (h : XRE w b s a x) (hb : Below w.heap.size w w') : XRE w' b s a x := by
  by_cases hx : x = 0
  · subst hx; exact XRE.good (h.ok.below hb)
  · obtain ⟨a', h'⟩ := XRE.err hx h; exact XRE.bad hx (h'.below hb)
theorem XRE.but {S : Nat → Prop} {w w' : World} {b : Nat} {s : ByteArray} {a x : Int} (h : XRE w b s a x) (hb : But S w w') (hs : ¬ S b) : XRE w' b s a x := by
  by_cases hx : x = 0
  · subst hx; exact XRE.good (h.ok.but hb hs)
  · obtain ⟨a', h'⟩ := XRE.err hx h; exact XRE.bad hx (h'.but hb hs)
theorem XRE.weak {w : World} {b : Nat} {s : ByteArray} {a a2 x : Int} (hx : x ≠ 0) (h : XRE w b s a x) : XRE w b s a2 x := by
  obtain ⟨a', h'⟩ := XRE.err hx h; exact XRE.bad hx h'
theorem XRE.cell {w : World} {b : Nat} {s : ByteArray} {a x : Int} (h : XRE w b s a x) : w.cell? ⟨b, 2, none⟩ = some (.int .i64 x) := by
  by_cases hx : x = 0
  · subst hx; exact h.ok.err
  · obtain ⟨a', h'⟩ := XRE.err hx h; exact h'.err
theorem numR_err {s : ByteArray} {a x m : Int} (hx : x ≠ 0) : numR s a x m = (0, a, x) := by unfold numR; rw [if_pos hx]
theorem bigR_err {s : ByteArray} {a x : Int} (hx : x ≠ 0) : bigR s a x = (0, a, x) := by unfold bigR; rw [if_pos hx]
theorem textR_err {s : ByteArray} {a x m : Int} (hx : x ≠ 0) : textR s a x m = (⟨#[]⟩, a, x) := by unfold textR; rw [if_pos hx]
theorem flagR_err {s : ByteArray} {a : Nat} {x : Int} (hx : x ≠ 0) : flagR s a x = (false, (a : Int), x) := by unfold flagR; rw [if_pos hx]

theorem rNum_re (b : Nat) (s : ByteArray) (a x m : Int) (w : World) (h : RE w b s a x) (hs : s.size ≤ 9223372036854775807) (hm : m ≤ 9223372036854775807) :
    Calls Try.prog 88 #[.pointer (some ⟨b, 0, none⟩), .int .i64 m] w fun e w' => e = .returned (.int .i64 (numR s a x m).1) ∧ RE w' b s (numR s a x m).2.1 (numR s a x m).2.2 ∧ But (Own b) w w' := by
  by_cases hx : x = 0
  · subst hx; exact rNum_any b s a 0 m w h.ok hs hm
  · obtain ⟨a', h'⟩ := RE.err hx h
    refine (rNum_any b s a' x m w h' hs hm).mono ?_
    rw [numR_err hx, numR_err hx]
    exact fun e w' ⟨h1, h2, h3⟩ => ⟨h1, RE.weak hx h2, h3⟩
-- left out here







theorem rText_re (b : Nat) (s : ByteArray) (a x m : Int) (w : World) (h : RE w b s a x) (hs : s.size ≤ 9223372036854775807) (hm : m ≤ 9223372036854775807) :
    Calls Try.prog 90 #[.pointer (some ⟨b, 0, none⟩), .int .i64 m] w fun e w' => e = .returned (.string (textR s a x m).1) ∧ RE w' b s (textR s a x m).2.1 (textR s a x m).2.2 ∧ But (Own b) w w' := by
  by_cases hx : x = 0
  · subst hx; exact rText_any b s a 0 m w h.ok hs hm
  · obtain ⟨a', h'⟩ := RE.err hx h
    refine (rText_any b s a' x m w h' hs hm).mono ?_
    rw [textR_err hx, textR_err hx]
    exact fun e w' ⟨h1, h2, h3⟩ => ⟨h1, RE.weak hx h2, h3⟩
theorem xrNum_re (b : Nat) (s : ByteArray) (a x m : Int) (w : World) (h : XRE w b s a x) (hs : s.size ≤ 9223372036854775807) (hm : m ≤ 9223372036854775807) :
    Calls Try.prog 92 #[.pointer (some ⟨b, 0, none⟩), .int .i64 m] w fun e w' => e = .returned (.int .i64 (numR s a x m).1) ∧ XRE w' b s (numR s a x m).2.1 (numR s a x m).2.2 ∧ But (Own b) w w' := by
  by_cases hx : x = 0
  · subst hx; exact xrNum_any b s a 0 m w h.ok hs hm
  · obtain ⟨a', h'⟩ := XRE.err hx h
    refine (xrNum_any b s a' x m w h' hs hm).mono ?_
    rw [numR_err hx, numR_err hx]
    exact fun e w' ⟨h1, h2, h3⟩ => ⟨h1, XRE.weak hx h2, h3⟩
theorem xrBig_re (b : Nat) (s : ByteArray) (a x : Int) (w : World) (h : XRE w b s a x) (hs : s.size ≤ 9223372036854775807) :
    Calls Try.prog 123 #[.pointer (some ⟨b, 0, none⟩)] w fun e w' => e = .returned (.int .u64 (bigR s a x).1) ∧ XRE w' b s (bigR s a x).2.1 (bigR s a x).2.2 ∧ But (Own b) w w' := by
  by_cases hx : x = 0
  · subst hx; exact xrBig_any b s a 0 w h.ok hs
  · obtain ⟨a', h'⟩ := XRE.err hx h
    refine (xrBig_any b s a' x w h' hs).mono ?_
    rw [bigR_err hx, bigR_err hx]
    exact fun e w' ⟨h1, h2, h3⟩ => ⟨h1, XRE.weak hx h2, h3⟩
theorem xrText_re (b : Nat) (s : ByteArray) (a x m : Int) (w : World) (h : XRE w b s a x) (hs : s.size ≤ 9223372036854775807) (hm : m ≤ 9223372036854775807) :
    Calls Try.prog 94 #[.pointer (some ⟨b, 0, none⟩), .int .i64 m] w fun e w' => e = .returned (.string (textR s a x m).1) ∧ XRE w' b s (textR s a x m).2.1 (textR s a x m).2.2 ∧ But (Own b) w w' := by
  by_cases hx : x = 0
  · subst hx; exact xrText_any b s a 0 m w h.ok hs hm
  · obtain ⟨a', h'⟩ := XRE.err hx h
    refine (xrText_any b s a' x m w h' hs hm).mono ?_
    rw [textR_err hx, textR_err hx]
    exact fun e w' ⟨h1, h2, h3⟩ => ⟨h1, XRE.weak hx h2, h3⟩
set_option maxRecDepth 100000 in
set_option maxHeartbeats 1600000 in
theorem rFlag_err (b : Nat) (s : ByteArray) (a x : Int) (w : World) (h : Rd w b s a x) (hx : x ≠ 0) :
    Calls Try.prog 89 #[.pointer (some ⟨b, 0, none⟩)] w fun e w' => e = .returned (.bool false) ∧ RE w' b s a x ∧ But (Own b) w w' := by
  have hmf : ∀ (fn : Fn) (first cap : Array Value) (w : World), (Instr.makeFunc fn first cap).run Try.prog w = .ok (.func fn first cap) w := fun _ _ _ _ => rfl
  obtain ⟨W, hW⟩ : ∃ W, W = ((w.alloc (.cells #[.pointer (some ⟨b, 0, none⟩)] 157)).alloc (.cells #[.bool false] 4)) := ⟨_, rfl⟩
  have hl := lay2 w (.pointer (some ⟨b, 0, none⟩)) (.bool false) 157 4
  rw [← hW] at hl
  obtain ⟨l0, l1, l3, l4⟩ := hl
  have H1 := Lib.hid (h.below l0)
  have HB := Lib.hid (But.of_below (S := Own b) l0)
  have hlt := h.lt
  have HW := Lib.hid hW; have M3 := Lib.hid l3
  clear h l0 l1 l3 l4
  go_enter Try.func89, Try.ntmps89
  go_wp2_with fail
  rw [← HW.out]
  refine (take_err b s a x _ _ H1.out hx).mono ?_
  rintro e w1 ⟨rfl, r1⟩
  have c3 := cell_below r1 M3.out
  have R2 : Hid (RE w1 b s a x) := Lib.hid (RE.bad hx (H1.out.below r1))
  have R3 := Lib.hid (HB.out.trans (But.of_below r1))
  clear r1
  go_wp2
  go_ret
  exact ⟨rfl, R2.out, R3.out⟩
set_option maxRecDepth 100000 in
set_option maxHeartbeats 1600000 in
theorem xrFlag_err (b : Nat) (s : ByteArray) (a x : Int) (w : World) (h : XRd w b s a x) (hx : x ≠ 0) :
    Calls Try.prog 93 #[.pointer (some ⟨b, 0, none⟩)] w fun e w' => e = .returned (.bool false) ∧ XRE w' b s a x ∧ But (Own b) w w' := by
  have H := Lib.hid h
  have c2 := h.err
  have hn1 : (x == 0) = false := by simp [hx]
  have hn2 : (x != 0) = true := by simp [hx]
  have HX := Lib.hid hx
  clear h hx
  go_enter Try.func93, Try.ntmps93
  go_wp2_with fail
  go_quiet (fail)
  go_wp2_with fail
  go_quiet (fail)
  go_wp2
  go_ret
  exact ⟨rfl, XRE.bad HX.out (H.out.below (below_draws (Below.refl _ _) _)), (But.refl _ _).draws _⟩
theorem rFlag_re (b : Nat) (s : ByteArray) (a : Nat) (x : Int) (w : World) (h : RE w b s a x) (hs : s.size ≤ 9223372036854775807) (ha : x = 0 → a ≤ s.size) :
    Calls Try.prog 89 #[.pointer (some ⟨b, 0, none⟩)] w fun e w' => e = .returned (.bool (flagR s a x).1) ∧ RE w' b s (flagR s a x).2.1 (flagR s a x).2.2 ∧ But (Own b) w w' := by
  by_cases hx : x = 0
  · subst hx; exact rFlag_any b s a 0 w h.ok hs (ha rfl)
  · obtain ⟨a', h'⟩ := RE.err hx h
    rw [flagR_err hx]
    exact (rFlag_err b s a' x w h' hx).mono fun e w' ⟨h1, h2, h3⟩ => ⟨h1, RE.weak hx h2, h3⟩
theorem xrFlag_re (b : Nat) (s : ByteArray) (a : Nat) (x : Int) (w : World) (h : XRE w b s a x) (hs : s.size ≤ 9223372036854775807) (ha : x = 0 → a ≤ s.size) :
    Calls Try.prog 93 #[.pointer (some ⟨b, 0, none⟩)] w fun e w' => e = .returned (.bool (flagR s a x).1) ∧ XRE w' b s (flagR s a x).2.1 (flagR s a x).2.2 ∧ But (Own b) w w' := by
  by_cases hx : x = 0
  · subst hx; exact xrFlag_any b s a 0 w h.ok hs (ha rfl)
  · obtain ⟨a', h'⟩ := XRE.err hx h
    rw [flagR_err hx]
    exact (xrFlag_err b s a' x w h' hx).mono fun e w' ⟨h1, h2, h3⟩ => ⟨h1, XRE.weak hx h2, h3⟩
/-- What is left; what the end says. -/
def leftV (s : ByteArray) (a : Nat) (x : Int) : Int := if x = 0 then (s.size : Int) - a else 0
def endV (s : ByteArray) (a : Nat) (x : Int) : Int := if x = 0 then (if a < s.size then 4 else 0) else x
theorem err_re (b : Nat) (s : ByteArray) (a x : Int) (w : World) (h : RE w b s a x) :
    Calls Try.prog 122 #[.pointer (some ⟨b, 0, none⟩)] w fun e w' => e = .returned (.int .i64 x) ∧ w = w' := by
  by_cases hx : x = 0
  · subst hx; exact err_made b s a 0 w h.ok
  · obtain ⟨a', h'⟩ := RE.err hx h; exact err_made b s a' x w h'
theorem left_re (b : Nat) (s : ByteArray) (a : Nat) (x : Int) (w : World) (h : RE w b s a x) (hs : s.size ≤ 9223372036854775807) (ha : x = 0 → a ≤ s.size) :
    Calls Try.prog 121 #[.pointer (some ⟨b, 0, none⟩)] w fun e w' => e = .returned (.int .i64 (leftV s a x)) ∧ Below w.heap.size w w' := by
  by_cases hx : x = 0
  · subst hx; exact left_ok b s a w h.ok hs (ha rfl)
  · obtain ⟨a', h'⟩ := RE.err hx h
    unfold leftV
    rw [if_neg hx]
    exact (left_err b s a' x w h' hx).mono fun e w' ⟨h1, h2⟩ => ⟨h1, h2 ▸ Below.refl _ _⟩
theorem end_re (b : Nat) (s : ByteArray) (a : Nat) (x : Int) (w : World) (h : RE w b s a x) (hs : s.size ≤ 9223372036854775807) (ha : x = 0 → a ≤ s.size) :
    Calls Try.prog 91 #[.pointer (some ⟨b, 0, none⟩)] w fun e w' => e = .returned (.int .i64 (endV s a x)) ∧ Below w.heap.size w w' := by
  by_cases hx : x = 0
  · subst hx; exact end_ok b s a w h.ok hs (ha rfl)
  · obtain ⟨a', h'⟩ := RE.err hx h
    unfold endV
    rw [if_neg hx]
    exact (end_err b s a' x w h' hx).mono fun e w' ⟨h1, h2⟩ => ⟨h1, h2 ▸ Below.refl _ _⟩
theorem xend_re (b : Nat) (s : ByteArray) (a : Nat) (x : Int) (w : World) (h : XRE w b s a x) (hs : s.size ≤ 9223372036854775807) (ha : x = 0 → a ≤ s.size) :
    Calls Try.prog 95 #[.pointer (some ⟨b, 0, none⟩)] w fun e w' => e = .returned (.int .i64 (endV s a x)) ∧ Below w.heap.size w w' := by
  by_cases hx : x = 0
  · subst hx; exact xrEnd_ok b s a w h.ok hs (ha rfl)
  · obtain ⟨a', h'⟩ := XRE.err hx h
    unfold endV
    rw [if_neg hx]
    exact xrEnd_err b s a' x w h' hx
/-- Where a read leaves the place. -/
theorem getR_at {s : ByteArray} {a : Int} (h : (getR s a).2.2 = 0) : 0 ≤ (getR s a).2.1 ∧ (getR s a).2.1 ≤ s.size := by
  rcases hg : getR s a with ⟨g1, g2, g3⟩
  rw [hg] at h
  simp only at h
  subst h
  exact getR_pos hg
theorem numR_at {s : ByteArray} {a x m : Int} (h : (numR s a x m).2.2 = 0) : 0 ≤ (numR s a x m).2.1 ∧ (numR s a x m).2.1 ≤ s.size := by
  by_cases hx : x = 0
  · subst hx
    have e : numR s a 0 m = ((if (upR s a m 5).2.2 = 0 then (upR s a m 5).1 else 0), (upR s a m 5).2.1, (upR s a m 5).2.2) := by unfold numR; rw [if_neg (by simp)]
    rw [e] at h ⊢
    obtain ⟨n, a2, h1, h2⟩ := upR_good (by decide) h
    rw [h1]; simp only; omega
  · rw [numR_err hx] at h; exact absurd h hx
theorem bigR_at {s : ByteArray} {a x : Int} (h : (bigR s a x).2.2 = 0) : 0 ≤ (bigR s a x).2.1 ∧ (bigR s a x).2.1 ≤ s.size := by
  by_cases hx : x = 0
  · subst hx
    have e : bigR s a 0 = ((if (getR s a).2.2 = 0 then (getR s a).1 else 0), (getR s a).2.1, (getR s a).2.2) := by unfold bigR; rw [if_neg (by simp)]
    rw [e] at h ⊢
    exact getR_at h
  · rw [bigR_err hx] at h; exact absurd h hx
theorem textR_at {s : ByteArray} {a x m : Int} (h : (textR s a x m).2.2 = 0) : 0 ≤ (textR s a x m).2.1 ∧ (textR s a x m).2.1 ≤ s.size := by
  by_cases hx : x = 0
  · subst hx
    unfold textR at h ⊢
    rw [if_neg (by simp)] at h ⊢
    by_cases hu : (upR s a m 3).2.2 = 0
    · rw [if_neg (by simp [hu])] at h ⊢
      obtain ⟨n, a2, h1, h2⟩ := upR_good (by decide) hu
      rw [h1] at h ⊢
      simp only at h ⊢
      split at h
      · simp at h
      · rw [if_neg (by assumption)]; simp only; omega
    · rw [if_pos hu] at h; exact absurd h hu
  · rw [textR_err hx] at h; exact absurd h hx
theorem flagR_at {s : ByteArray} {a : Nat} {x : Int} (ha : x = 0 → a ≤ s.size) (h : (flagR s a x).2.2 = 0) : 0 ≤ (flagR s a x).2.1 ∧ (flagR s a x).2.1 ≤ s.size := by
  by_cases hx : x = 0
  · subst hx
    have := ha rfl
    unfold flagR at h ⊢
    rw [if_neg (by simp)] at h ⊢
    split at h
    · simp at h
    rename_i h1
    rw [if_neg h1]
    split at h
    · simp at h
    rename_i h2
    rw [if_neg h2]
    simp only; omega
  · rw [flagR_err hx] at h; exact absurd h hx
end Go.Proofs.Ythmljllgfigebaa
