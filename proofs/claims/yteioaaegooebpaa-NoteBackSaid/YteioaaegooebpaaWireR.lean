/- Package catenaref02: a Reader's Text, whole. Conditions: texts of at most 2^63-1 bytes. -/
import Derived.Test.YteioaaegooebpaaWireQ
import Derived.Test.YteioaaegooebpaaWireJ
namespace Go.Proofs.Yteioaaegooebpaa
open Go.RowKit Go.PlainAid

set_option maxRecDepth 100000 in
set_option maxHeartbeats 1600000 in
theorem xrText_err (b : Nat) (s : ByteArray) (a x m x2 : Int) (w : World) (h : XRd w b s a x) (hs : s.size ≤ 9223372036854775807) (hx2 : x2 ≠ 0) (hB : (bigR s a x).2.2 = x2) :
    Calls Try.prog 74 #[.pointer (some ⟨b, 0, none⟩), .int .i64 m] w fun e w' => e = .returned (.string ⟨#[]⟩) ∧ XRE w' b s a x2 ∧ But (Own b) w w' := by
  have H := Lib.hid h
  have HX := Lib.hid hx2
  have HB0 := Lib.hid hB
  have hn1 : (x2 == 0) = false := by simp [hx2]
  have hn2 : (x2 != 0) = true := by simp [hx2]
  clear h hx2 hB
  go_enter Try.func74, Try.ntmps74
  go_wp2_with fail
  refine (xrBig_any b s a x _ H.out hs).mono ?_
  rintro e w1 ⟨rfl, hm, hb⟩
  rw [HB0.out] at hm
  obtain ⟨a', hm⟩ := XRE.err HX.out hm
  have HM := Lib.hid hm; have HB := Lib.hid hb
  have c1 := hm.err
  clear hm hb
  go_wp2_with fail
  go_quiet (fail)
  go_wp2
  go_ret
  exact ⟨rfl, XRE.bad HX.out (HM.out.below (below_draws (Below.refl _ _) _)), HB.out.draws _⟩
set_option maxRecDepth 100000 in
set_option maxHeartbeats 1600000 in
theorem xrText_long (b : Nat) (s : ByteArray) (a m g1 g2 : Int) (w : World) (h : XRd w b s a 0) (hs : s.size ≤ 9223372036854775807) (hm1 : m ≤ 9223372036854775807) (hB : bigR s a 0 = (g1, g2, 0)) (hmm : m < 0 ∨ (0 ≤ m ∧ m < g1)) :
    Calls Try.prog 74 #[.pointer (some ⟨b, 0, none⟩), .int .i64 m] w fun e w' => e = .returned (.string ⟨#[]⟩) ∧ XRE w' b s g2 3 ∧ But (Own b) w w' := by
  have H := Lib.hid h
  have HB0 := Lib.hid hB
  clear h hB
  rcases hmm with h2 | ⟨h2, h3⟩
  · go_enter Try.func74, Try.ntmps74
    go_wp2_with fail
    refine (xrBig_any b s a 0 _ H.out hs).mono ?_
    rintro e w1 ⟨rfl, hm, hb⟩
    rw [HB0.out] at hm ⊢
    have c1 := hm.ok.err; have z1 := hm.ok.fr2
    have HF := Lib.hid (hm.ok.setErr 3)
    have HB := Lib.hid (hb.setCell (p := ⟨b, 2, none⟩) (fun _ => rfl) (.int .i64 3))
    clear hm hb
    go_wp2_with fail
    go_quiet (fail)
    go_wp2
    go_ret
    exact ⟨rfl, XRE.bad (by decide) (HF.out.below (below_draws (Below.refl _ _) _)), HB.out.draws _⟩
  · have hwm : IntKind.u64.wrap m = m := u64_nonneg h2 (by omega)
    have h0 : ¬ m < 0 := by omega
    go_enter Try.func74, Try.ntmps74
    go_wp2_with fail
    refine (xrBig_any b s a 0 _ H.out hs).mono ?_
    rintro e w1 ⟨rfl, hm, hb⟩
    rw [HB0.out] at hm ⊢
    have c1 := hm.ok.err; have z1 := hm.ok.fr2
    have HF := Lib.hid (hm.ok.setErr 3)
    have HB := Lib.hid (hb.setCell (p := ⟨b, 2, none⟩) (fun _ => rfl) (.int .i64 3))
    clear hm hb
    go_wp2_with fail
    go_quiet (fail)
    go_wp2
    go_ret
    exact ⟨rfl, XRE.bad (by decide) (HF.out.below (below_draws (Below.refl _ _) _)), HB.out.draws _⟩
set_option maxRecDepth 100000 in
set_option maxHeartbeats 1600000 in
theorem xrText_short (b : Nat) (s : ByteArray) (a m : Int) (n a2 : Nat) (w : World) (h : XRd w b s a 0) (hs : s.size ≤ 9223372036854775807) (hm1 : m ≤ 9223372036854775807) (hg : bigR s a 0 = ((n : Int), (a2 : Int), 0)) (ha2 : a2 ≤ s.size) (hle : ¬ a2 + n ≤ s.size) (hmn : (n : Int) ≤ m) :
    Calls Try.prog 74 #[.pointer (some ⟨b, 0, none⟩), .int .i64 m] w fun e w' => e = .returned (.string ⟨#[]⟩) ∧ XRE w' b s a2 2 ∧ But (Own b) w w' := by
  have H := Lib.hid h
  clear h
  have h0 : ¬ m < 0 := by omega
  have h3 : ¬ m < (n : Int) := by omega
  have hwm : IntKind.u64.wrap m = m := u64_nonneg (by omega) (by omega)
  have hsub : IntKind.i64.wrap ((s.size : Int) - (a2 : Int)) = (s.size : Int) - (a2 : Int) := IntWalk.i64_in _ ⟨by omega, by omega⟩
  have hwd : IntKind.u64.wrap ((s.size : Int) - (a2 : Int)) = (s.size : Int) - (a2 : Int) := u64_nonneg (by omega) (by omega)
  have h4 : (s.size : Int) - (a2 : Int) < (n : Int) := by omega
  go_enter Try.func74, Try.ntmps74
  go_wp2_with fail
  refine (xrBig_any b s a 0 _ H.out hs).mono ?_
  rintro e w1 ⟨rfl, hm, hb⟩
  rw [hg] at hm ⊢
  have c0 := hm.ok.txt; have c1 := hm.ok.pos; have c2 := hm.ok.err; have z1 := hm.ok.fr2
  have HF := Lib.hid (fun k => ((hm.ok.below (below_draws (Below.refl _ _) k)).setErr 2))
  have HB := Lib.hid (fun k => (hb.draws k).setCell (p := ⟨b, 2, none⟩) (fun _ => rfl) (.int .i64 2))
  clear hm hb
  go_wp2_with fail
  go_quiet (fail)
  go_wp2
  go_ret
  exact ⟨rfl, XRE.bad (by decide) (HF.out _), HB.out _⟩
theorem xrText_any (b : Nat) (s : ByteArray) (a x m : Int) (w : World) (h : XRd w b s a x) (hs : s.size ≤ 9223372036854775807) (hm1 : m ≤ 9223372036854775807) :
    Calls Try.prog 74 #[.pointer (some ⟨b, 0, none⟩), .int .i64 m] w fun e w' => e = .returned (.string (textR s a x m).1) ∧ XRE w' b s (textR s a x m).2.1 (textR s a x m).2.2 ∧ But (Own b) w w' := by
  have weak : ∀ {y a1 a2 : Int} {w' : World}, y ≠ 0 → XRE w' b s a1 y → XRE w' b s a2 y := fun hy hh => by
    obtain ⟨a', h'⟩ := XRE.err hy hh; exact XRE.bad hy h'
  by_cases hx : x = 0
  · subst hx
    rcases hgr : getR s a with ⟨g1, g2, g3⟩
    have hr := getR_range s a
    rw [hgr] at hr
    have hu := upR_of (m := m) (x := 3) hgr
    by_cases he : g3 = 0
    · subst he
      have hB : bigR s a 0 = (g1, g2, 0) := by unfold bigR; rw [if_neg (by simp), hgr, if_pos rfl]
      rw [if_neg (by simp)] at hu
      have hp := getR_pos hgr
      by_cases hmm : m < 0 ∨ m < g1
      · rw [if_pos hmm] at hu
        have hq : textR s a 0 m = (⟨#[]⟩, g2, 3) := by unfold textR; rw [if_neg (by simp), hu, if_pos (by simp)]
        rw [hq]
        exact xrText_long b s a m g1 g2 w h hs hm1 hB (by omega)
      · rw [if_neg hmm] at hu
        obtain ⟨n, rfl⟩ := Int.eq_ofNat_of_zero_le hr
        obtain ⟨a2, rfl⟩ := Int.eq_ofNat_of_zero_le hp.1
        by_cases hle : a2 + n ≤ s.size
        · have hq : textR s a 0 m = (s.extract a2 (a2 + n), (a2 : Int) + n, 0) := by unfold textR; rw [if_neg (by simp), hu, if_neg (by simp), if_neg (by simp only; omega)]; simp
          rw [hq]
          exact (xrText_good b s a m n a2 w h hs hm1 hB hle (by omega)).mono fun e w' ⟨h1, h2, h3⟩ => ⟨h1, XRE.good h2, h3⟩
        · have hq : textR s a 0 m = (⟨#[]⟩, (a2 : Int), 2) := by unfold textR; rw [if_neg (by simp), hu, if_neg (by simp), if_pos (by simp only; omega)]
          rw [hq]
          exact xrText_short b s a m n a2 w h hs hm1 hB (by omega) hle (by omega)
    · have hB : (bigR s a 0).2.2 = g3 := by unfold bigR; rw [if_neg (by simp), hgr]
      rw [if_pos he] at hu
      have hq : textR s a 0 m = (⟨#[]⟩, a, g3) := by unfold textR; rw [if_neg (by simp), hu, if_pos he]
      rw [hq]
      exact xrText_err b s a 0 m g3 w h hs he hB
  · have hq : textR s a x m = (⟨#[]⟩, a, x) := by unfold textR; rw [if_pos hx]
    rw [hq]
    exact xrText_err b s a x m x w h hs hx (by unfold bigR; rw [if_pos hx])
end Go.Proofs.Yteioaaegooebpaa
