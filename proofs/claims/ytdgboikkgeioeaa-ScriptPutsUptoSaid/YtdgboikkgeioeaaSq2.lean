/- Put together: WireRSp, WireTSp, ObjSp, OpsASp, OpsBSp, EatsSp, ScrASp, PexTSp, MapSp, MapCSp, MapRSp, MapOSp, PexUSp, PexVSp. Conditions: as each says. -/
import Derived.Test.YtdgboikkgeioeaaSq1
import Derived.PlainAid
import Derived.Laws.StructEq
import Derived.StringKeys
import Derived.Maps.RangeRun
import Derived.MapKept
import Derived.OwnWalk
import Derived.Laws.BytesArg
/- Package catenaref02: a Reader's Text, whole. Conditions: texts of at most 2^63-1 bytes. -/
namespace Go.Proofs.Ytdgboikkgeioeaa
open Go.RowKit Go.PlainAid

set_option maxRecDepth 100000 in
set_option maxHeartbeats 1600000 in
theorem xrText_err (b : Nat) (s : ByteArray) (a x m x2 : Int) (w : World) (h : XRd w b s a x) (hs : s.size ≤ 9223372036854775807) (hx2 : x2 ≠ 0) (hB : (bigR s a x).2.2 = x2) :
    Calls Try.prog 86 #[.pointer (some ⟨b, 0, none⟩), .int .i64 m] w fun e w' => e = .returned (.string ⟨#[]⟩) ∧ XRE w' b s a x2 ∧ But (Own b) w w' := by
  have H := Lib.hid h
  have HX := Lib.hid hx2
  have HB0 := Lib.hid hB
  have hn1 : (x2 == 0) = false := by simp [hx2]
  have hn2 : (x2 != 0) = true := by simp [hx2]
  clear h hx2 hB
  go_enter Try.func86, Try.ntmps86
  go_wp2_with fail
  refine (xrBig_any b s a x _ H.out hs).mono ?_
  rintro e w1 ⟨rfl, hm, hb⟩
  rw [HB0.out] at hm
  obtain ⟨a', hm⟩ := XRE.err HX.out hm
  have HM := Lib.hid hm; have HB := Lib.hid hb
  have c1 := hm.err
  clear hm hb
  go_wp2_with fail
  go_quiet (fail)
  go_wp2
  go_ret
  exact ⟨rfl, XRE.bad HX.out (HM.out.below (below_draws (Below.refl _ _) _)), HB.out.draws _⟩
set_option maxRecDepth 100000 in
set_option maxHeartbeats 1600000 in
theorem xrText_long (b : Nat) (s : ByteArray) (a m g1 g2 : Int) (w : World) (h : XRd w b s a 0) (hs : s.size ≤ 9223372036854775807) (hm1 : m ≤ 9223372036854775807) (hB : bigR s a 0 = (g1, g2, 0)) (hmm : m < 0 ∨ (0 ≤ m ∧ m < g1)) :
    Calls Try.prog 86 #[.pointer (some ⟨b, 0, none⟩), .int .i64 m] w fun e w' => e = .returned (.string ⟨#[]⟩) ∧ XRE w' b s g2 3 ∧ But (Own b) w w' := by
  have H := Lib.hid h
  have HB0 := Lib.hid hB
  clear h hB
  rcases hmm with h2 | ⟨h2, h3⟩
  · go_enter Try.func86, Try.ntmps86
    go_wp2_with fail
    refine (xrBig_any b s a 0 _ H.out hs).mono ?_
    rintro e w1 ⟨rfl, hm, hb⟩
    rw [HB0.out] at hm ⊢
    have c1 := hm.ok.err; have z1 := hm.ok.fr2
    have HF := Lib.hid (hm.ok.setErr 3)
    have HB := Lib.hid (hb.setCell (p := ⟨b, 2, none⟩) (fun _ => rfl) (.int .i64 3))
    clear hm hb
    go_wp2_with fail
    go_quiet (fail)
    go_wp2
    go_ret
    exact ⟨rfl, XRE.bad (by decide) (HF.out.below (below_draws (Below.refl _ _) _)), HB.out.draws _⟩
  · have hwm : IntKind.u64.wrap m = m := u64_nonneg h2 (by omega)
    have h0 : ¬ m < 0 := by omega
    go_enter Try.func86, Try.ntmps86
    go_wp2_with fail
    refine (xrBig_any b s a 0 _ H.out hs).mono ?_
    rintro e w1 ⟨rfl, hm, hb⟩
    rw [HB0.out] at hm ⊢
    have c1 := hm.ok.err; have z1 := hm.ok.fr2
    have HF := Lib.hid (hm.ok.setErr 3)
    have HB := Lib.hid (hb.setCell (p := ⟨b, 2, none⟩) (fun _ => rfl) (.int .i64 3))
    clear hm hb
    go_wp2_with fail
    go_quiet (fail)
    go_wp2
    go_ret
    exact ⟨rfl, XRE.bad (by decide) (HF.out.below (below_draws (Below.refl _ _) _)), HB.out.draws _⟩
set_option maxRecDepth 100000 in
set_option maxHeartbeats 1600000 in
theorem xrText_short (b : Nat) (s : ByteArray) (a m : Int) (n a2 : Nat) (w : World) (h : XRd w b s a 0) (hs : s.size ≤ 9223372036854775807) (hm1 : m ≤ 9223372036854775807) (hg : bigR s a 0 = ((n : Int), (a2 : Int), 0)) (ha2 : a2 ≤ s.size) (hle : ¬ a2 + n ≤ s.size) (hmn : (n : Int) ≤ m) :
    Calls Try.prog 86 #[.pointer (some ⟨b, 0, none⟩), .int .i64 m] w fun e w' => e = .returned (.string ⟨#[]⟩) ∧ XRE w' b s a2 2 ∧ But (Own b) w w' := by
  have H := Lib.hid h
  clear h
  have h0 : ¬ m < 0 := by omega
  have h3 : ¬ m < (n : Int) := by omega
  have hwm : IntKind.u64.wrap m = m := u64_nonneg (by omega) (by omega)
  have hsub : IntKind.i64.wrap ((s.size : Int) - (a2 : Int)) = (s.size : Int) - (a2 : Int) := IntWalk.i64_in _ ⟨by omega, by omega⟩
  have hwd : IntKind.u64.wrap ((s.size : Int) - (a2 : Int)) = (s.size : Int) - (a2 : Int) := u64_nonneg (by omega) (by omega)
  have h4 : (s.size : Int) - (a2 : Int) < (n : Int) := by omega
  go_enter Try.func86, Try.ntmps86
  go_wp2_with fail
  refine (xrBig_any b s a 0 _ H.out hs).mono ?_
  rintro e w1 ⟨rfl, hm, hb⟩
  rw [hg] at hm ⊢
  have c0 := hm.ok.txt; have c1 := hm.ok.pos; have c2 := hm.ok.err; have z1 := hm.ok.fr2
  have HF := Lib.hid (fun k => ((hm.ok.below (below_draws (Below.refl _ _) k)).setErr 2))
  have HB := Lib.hid (fun k => (hb.draws k).setCell (p := ⟨b, 2, none⟩) (fun _ => rfl) (.int .i64 2))
  clear hm hb
  go_wp2_with fail
  go_quiet (fail)
  go_wp2
  go_ret
  exact ⟨rfl, XRE.bad (by decide) (HF.out _), HB.out _⟩
theorem xrText_any (b : Nat) (s : ByteArray) (a x m : Int) (w : World) (h : XRd w b s a x) (hs : s.size ≤ 9223372036854775807) (hm1 : m ≤ 9223372036854775807) :
    Calls Try.prog 86 #[.pointer (some ⟨b, 0, none⟩), .int .i64 m] w fun e w' => e = .returned (.string (textR s a x m).1) ∧ XRE w' b s (textR s a x m).2.1 (textR s a x m).2.2 ∧ But (Own b) w w' := by
  have weak : ∀ {y a1 a2 : Int} {w' : World}, y ≠ 0 → XRE w' b s a1 y → XRE w' b s a2 y := fun hy hh => by
    obtain ⟨a', h'⟩ := XRE.err hy hh; exact XRE.bad hy h'
  by_cases hx : x = 0
  · subst hx
    rcases hgr : getR s a with ⟨g1, g2, g3⟩
    have hr := getR_range s a
    rw [hgr] at hr
    have hu := upR_of (m := m) (x := 3) hgr
    by_cases he : g3 = 0
    · subst he
      have hB : bigR s a 0 = (g1, g2, 0) := by unfold bigR; rw [if_neg (by simp), hgr, if_pos rfl]
      rw [if_neg (by simp)] at hu
      have hp := getR_pos hgr
      by_cases hmm : m < 0 ∨ m < g1
      · rw [if_pos hmm] at hu
        have hq : textR s a 0 m = (⟨#[]⟩, g2, 3) := by unfold textR; rw [if_neg (by simp), hu, if_pos (by simp)]
        rw [hq]
        exact xrText_long b s a m g1 g2 w h hs hm1 hB (by omega)
      · rw [if_neg hmm] at hu
        obtain ⟨n, rfl⟩ := Int.eq_ofNat_of_zero_le hr
        obtain ⟨a2, rfl⟩ := Int.eq_ofNat_of_zero_le hp.1
        by_cases hle : a2 + n ≤ s.size
        · have hq : textR s a 0 m = (s.extract a2 (a2 + n), (a2 : Int) + n, 0) := by unfold textR; rw [if_neg (by simp), hu, if_neg (by simp), if_neg (by simp only; omega)]; simp
          rw [hq]
          exact (xrText_good b s a m n a2 w h hs hm1 hB hle (by omega)).mono fun e w' ⟨h1, h2, h3⟩ => ⟨h1, XRE.good h2, h3⟩
        · have hq : textR s a 0 m = (⟨#[]⟩, (a2 : Int), 2) := by unfold textR; rw [if_neg (by simp), hu, if_neg (by simp), if_pos (by simp only; omega)]
          rw [hq]
          exact xrText_short b s a m n a2 w h hs hm1 hB (by omega) hle (by omega)
    · have hB : (bigR s a 0).2.2 = g3 := by unfold bigR; rw [if_neg (by simp), hgr]
      rw [if_pos he] at hu
      have hq : textR s a 0 m = (⟨#[]⟩, a, g3) := by unfold textR; rw [if_neg (by simp), hu, if_pos he]
      rw [hq]
      exact xrText_err b s a 0 m g3 w h hs he hB
  · have hq : textR s a x m = (⟨#[]⟩, a, x) := by unfold textR; rw [if_pos hx]
    rw [hq]
    exact xrText_err b s a x m x w h hs hx (by unfold bigR; rw [if_pos hx])
end Go.Proofs.Ytdgboikkgeioeaa

/- Package wire and the document's Reader: every call, behind an error or not. Conditions: texts of at most 2^63-1 bytes. -/
namespace Go.Proofs.Ytdgboikkgeioeaa
open Go.RowKit Go.PlainAid

theorem RE.err {w : World} {b : Nat} {s : ByteArray} {a x : Int} (hx : x ≠ 0) (h : RE w b s a x) : ∃ a', Rd w b s a' x := by unfold RE at h; rw [if_neg hx] at h; exact h
theorem RE.below {w w' : World} {b : Nat} {s : ByteArray} {a x : Int} (h : RE w b s a x) (hb : Below w.heap.size w w') : RE w' b s a x := by
  by_cases hx : x = 0
  · subst hx; exact RE.good (h.ok.below hb)
  · obtain ⟨a', h'⟩ := RE.err hx h; exact RE.bad hx (h'.below hb)
theorem RE.but {S : Nat → Prop} {w w' : World} {b : Nat} {s : ByteArray} {a x : Int} (h : RE w b s a x) (hb : But S w w') (hs : ¬ S b) : RE w' b s a x := by
  by_cases hx : x = 0
  · subst hx; exact RE.good (h.ok.but hb hs)
  · obtain ⟨a', h'⟩ := RE.err hx h; exact RE.bad hx (h'.but hb hs)
theorem RE.weak {w : World} {b : Nat} {s : ByteArray} {a a2 x : Int} (hx : x ≠ 0) (h : RE w b s a x) : RE w b s a2 x := by
  obtain ⟨a', h'⟩ := RE.err hx h; exact RE.bad hx h'
theorem RE.lt {w : World} {b : Nat} {s : ByteArray} {a x : Int} (h : RE w b s a x) : b < w.heap.size := by
  by_cases hx : x = 0
  · subst hx; exact h.ok.lt
  · obtain ⟨a', h'⟩ := RE.err hx h; exact h'.lt
theorem XRE.below {w w' : World} {b : Nat} {s : ByteArray} {a x : Int} (h : XRE w b s a x) (hb : Below w.heap.size w w') : XRE w' b s a x := by
  by_cases hx : x = 0
  · subst hx; exact XRE.good (h.ok.below hb)
  · obtain ⟨a', h'⟩ := XRE.err hx h; exact XRE.bad hx (h'.below hb)
theorem XRE.but {S : Nat → Prop} {w w' : World} {b : Nat} {s : ByteArray} {a x : Int} (h : XRE w b s a x) (hb : But S w w') (hs : ¬ S b) : XRE w' b s a x := by
  by_cases hx : x = 0
  · subst hx; exact XRE.good (h.ok.but hb hs)
  · obtain ⟨a', h'⟩ := XRE.err hx h; exact XRE.bad hx (h'.but hb hs)
theorem XRE.weak {w : World} {b : Nat} {s : ByteArray} {a a2 x : Int} (hx : x ≠ 0) (h : XRE w b s a x) : XRE w b s a2 x := by
  obtain ⟨a', h'⟩ := XRE.err hx h; exact XRE.bad hx h'
theorem XRE.cell {w : World} {b : Nat} {s : ByteArray} {a x : Int} (h : XRE w b s a x) : w.cell? ⟨b, 2, none⟩ = some (.int .i64 x) := by
  by_cases hx : x = 0
  · subst hx; exact h.ok.err
  · obtain ⟨a', h'⟩ := XRE.err hx h; exact h'.err
theorem numR_err {s : ByteArray} {a x m : Int} (hx : x ≠ 0) : numR s a x m = (0, a, x) := by unfold numR; rw [if_pos hx]
theorem bigR_err {s : ByteArray} {a x : Int} (hx : x ≠ 0) : bigR s a x = (0, a, x) := by unfold bigR; rw [if_pos hx]
theorem textR_err {s : ByteArray} {a x m : Int} (hx : x ≠ 0) : textR s a x m = (⟨#[]⟩, a, x) := by unfold textR; rw [if_pos hx]
theorem flagR_err {s : ByteArray} {a : Nat} {x : Int} (hx : x ≠ 0) : flagR s a x = (false, (a : Int), x) := by unfold flagR; rw [if_pos hx]

theorem rNum_re (b : Nat) (s : ByteArray) (a x m : Int) (w : World) (h : RE w b s a x) (hs : s.size ≤ 9223372036854775807) (hm : m ≤ 9223372036854775807) :
    Calls Try.prog 113 #[.pointer (some ⟨b, 0, none⟩), .int .i64 m] w fun e w' => e = .returned (.int .i64 (numR s a x m).1) ∧ RE w' b s (numR s a x m).2.1 (numR s a x m).2.2 ∧ But (Own b) w w' := by
  by_cases hx : x = 0
  · subst hx; exact rNum_any b s a 0 m w h.ok hs hm
  · obtain ⟨a', h'⟩ := RE.err hx h
    refine (rNum_any b s a' x m w h' hs hm).mono ?_
    rw [numR_err hx, numR_err hx]
    exact fun e w' ⟨h1, h2, h3⟩ => ⟨h1, RE.weak hx h2, h3⟩
theorem rBig_re (b : Nat) (s : ByteArray) (a x : Int) (w : World) (h : RE w b s a x) (hs : s.size ≤ 9223372036854775807) :
    Calls Try.prog 115 #[.pointer (some ⟨b, 0, none⟩)] w fun e w' => e = .returned (.int .u64 (bigR s a x).1) ∧ RE w' b s (bigR s a x).2.1 (bigR s a x).2.2 ∧ But (Own b) w w' := by
  by_cases hx : x = 0
  · subst hx; exact rBig_any b s a 0 w h.ok hs
  · obtain ⟨a', h'⟩ := RE.err hx h
    refine (rBig_any b s a' x w h' hs).mono ?_
    rw [bigR_err hx, bigR_err hx]
    exact fun e w' ⟨h1, h2, h3⟩ => ⟨h1, RE.weak hx h2, h3⟩
theorem rText_re (b : Nat) (s : ByteArray) (a x m : Int) (w : World) (h : RE w b s a x) (hs : s.size ≤ 9223372036854775807) (hm : m ≤ 9223372036854775807) :
    Calls Try.prog 116 #[.pointer (some ⟨b, 0, none⟩), .int .i64 m] w fun e w' => e = .returned (.string (textR s a x m).1) ∧ RE w' b s (textR s a x m).2.1 (textR s a x m).2.2 ∧ But (Own b) w w' := by
  by_cases hx : x = 0
  · subst hx; exact rText_any b s a 0 m w h.ok hs hm
  · obtain ⟨a', h'⟩ := RE.err hx h
    refine (rText_any b s a' x m w h' hs hm).mono ?_
    rw [textR_err hx, textR_err hx]
    exact fun e w' ⟨h1, h2, h3⟩ => ⟨h1, RE.weak hx h2, h3⟩
theorem xrNum_re (b : Nat) (s : ByteArray) (a x m : Int) (w : World) (h : XRE w b s a x) (hs : s.size ≤ 9223372036854775807) (hm : m ≤ 9223372036854775807) :
    Calls Try.prog 84 #[.pointer (some ⟨b, 0, none⟩), .int .i64 m] w fun e w' => e = .returned (.int .i64 (numR s a x m).1) ∧ XRE w' b s (numR s a x m).2.1 (numR s a x m).2.2 ∧ But (Own b) w w' := by
  by_cases hx : x = 0
  · subst hx; exact xrNum_any b s a 0 m w h.ok hs hm
  · obtain ⟨a', h'⟩ := XRE.err hx h
    refine (xrNum_any b s a' x m w h' hs hm).mono ?_
    rw [numR_err hx, numR_err hx]
    exact fun e w' ⟨h1, h2, h3⟩ => ⟨h1, XRE.weak hx h2, h3⟩
theorem xrBig_re (b : Nat) (s : ByteArray) (a x : Int) (w : World) (h : XRE w b s a x) (hs : s.size ≤ 9223372036854775807) :
    Calls Try.prog 85 #[.pointer (some ⟨b, 0, none⟩)] w fun e w' => e = .returned (.int .u64 (bigR s a x).1) ∧ XRE w' b s (bigR s a x).2.1 (bigR s a x).2.2 ∧ But (Own b) w w' := by
  by_cases hx : x = 0
  · subst hx; exact xrBig_any b s a 0 w h.ok hs
  · obtain ⟨a', h'⟩ := XRE.err hx h
    refine (xrBig_any b s a' x w h' hs).mono ?_
    rw [bigR_err hx, bigR_err hx]
    exact fun e w' ⟨h1, h2, h3⟩ => ⟨h1, XRE.weak hx h2, h3⟩
theorem xrText_re (b : Nat) (s : ByteArray) (a x m : Int) (w : World) (h : XRE w b s a x) (hs : s.size ≤ 9223372036854775807) (hm : m ≤ 9223372036854775807) :
    Calls Try.prog 86 #[.pointer (some ⟨b, 0, none⟩), .int .i64 m] w fun e w' => e = .returned (.string (textR s a x m).1) ∧ XRE w' b s (textR s a x m).2.1 (textR s a x m).2.2 ∧ But (Own b) w w' := by
  by_cases hx : x = 0
  · subst hx; exact xrText_any b s a 0 m w h.ok hs hm
  · obtain ⟨a', h'⟩ := XRE.err hx h
    refine (xrText_any b s a' x m w h' hs hm).mono ?_
    rw [textR_err hx, textR_err hx]
    exact fun e w' ⟨h1, h2, h3⟩ => ⟨h1, XRE.weak hx h2, h3⟩
set_option maxRecDepth 100000 in
set_option maxHeartbeats 1600000 in
theorem rFlag_err (b : Nat) (s : ByteArray) (a x : Int) (w : World) (h : Rd w b s a x) (hx : x ≠ 0) :
    Calls Try.prog 117 #[.pointer (some ⟨b, 0, none⟩)] w fun e w' => e = .returned (.bool false) ∧ RE w' b s a x ∧ But (Own b) w w' := by
  have hmf : ∀ (fn : Fn) (first cap : Array Value) (w : World), (Instr.makeFunc fn first cap).run Try.prog w = .ok (.func fn first cap) w := fun _ _ _ _ => rfl
  obtain ⟨W, hW⟩ : ∃ W, W = ((w.alloc (.cells #[.pointer (some ⟨b, 0, none⟩)] 161)).alloc (.cells #[.bool false] 4)) := ⟨_, rfl⟩
  have hl := lay2 w (.pointer (some ⟨b, 0, none⟩)) (.bool false) 161 4
  rw [← hW] at hl
  obtain ⟨l0, l1, l3, l4⟩ := hl
  have H1 := Lib.hid (h.below l0)
  have HB := Lib.hid (But.of_below (S := Own b) l0)
  have hlt := h.lt
  have HW := Lib.hid hW; have M3 := Lib.hid l3
  clear h l0 l1 l3 l4
  go_enter Try.func117, Try.ntmps117
  go_wp2_with fail
  rw [← HW.out]
  refine (take_err b s a x _ _ H1.out hx).mono ?_
  rintro e w1 ⟨rfl, r1⟩
  have c3 := cell_below r1 M3.out
  have R2 : Hid (RE w1 b s a x) := Lib.hid (RE.bad hx (H1.out.below r1))
  have R3 := Lib.hid (HB.out.trans (But.of_below r1))
  clear r1
  go_wp2
  go_ret
  exact ⟨rfl, R2.out, R3.out⟩
set_option maxRecDepth 100000 in
set_option maxHeartbeats 1600000 in
theorem xrFlag_err (b : Nat) (s : ByteArray) (a x : Int) (w : World) (h : XRd w b s a x) (hx : x ≠ 0) :
    Calls Try.prog 87 #[.pointer (some ⟨b, 0, none⟩)] w fun e w' => e = .returned (.bool false) ∧ XRE w' b s a x ∧ But (Own b) w w' := by
  have H := Lib.hid h
  have c2 := h.err
  have hn1 : (x == 0) = false := by simp [hx]
  have hn2 : (x != 0) = true := by simp [hx]
  have HX := Lib.hid hx
  clear h hx
  go_enter Try.func87, Try.ntmps87
  go_wp2_with fail
  go_quiet (fail)
  go_wp2_with fail
  go_quiet (fail)
  go_wp2
  go_ret
  exact ⟨rfl, XRE.bad HX.out (H.out.below (below_draws (Below.refl _ _) _)), (But.refl _ _).draws _⟩
theorem rFlag_re (b : Nat) (s : ByteArray) (a : Nat) (x : Int) (w : World) (h : RE w b s a x) (hs : s.size ≤ 9223372036854775807) (ha : x = 0 → a ≤ s.size) :
    Calls Try.prog 117 #[.pointer (some ⟨b, 0, none⟩)] w fun e w' => e = .returned (.bool (flagR s a x).1) ∧ RE w' b s (flagR s a x).2.1 (flagR s a x).2.2 ∧ But (Own b) w w' := by
  by_cases hx : x = 0
  · subst hx; exact rFlag_any b s a 0 w h.ok hs (ha rfl)
  · obtain ⟨a', h'⟩ := RE.err hx h
    rw [flagR_err hx]
    exact (rFlag_err b s a' x w h' hx).mono fun e w' ⟨h1, h2, h3⟩ => ⟨h1, RE.weak hx h2, h3⟩
theorem xrFlag_re (b : Nat) (s : ByteArray) (a : Nat) (x : Int) (w : World) (h : XRE w b s a x) (hs : s.size ≤ 9223372036854775807) (ha : x = 0 → a ≤ s.size) :
    Calls Try.prog 87 #[.pointer (some ⟨b, 0, none⟩)] w fun e w' => e = .returned (.bool (flagR s a x).1) ∧ XRE w' b s (flagR s a x).2.1 (flagR s a x).2.2 ∧ But (Own b) w w' := by
  by_cases hx : x = 0
  · subst hx; exact xrFlag_any b s a 0 w h.ok hs (ha rfl)
  · obtain ⟨a', h'⟩ := XRE.err hx h
    rw [flagR_err hx]
    exact (xrFlag_err b s a' x w h' hx).mono fun e w' ⟨h1, h2, h3⟩ => ⟨h1, XRE.weak hx h2, h3⟩
def endV (s : ByteArray) (a : Nat) (x : Int) : Int := if x = 0 then (if a < s.size then 4 else 0) else x
theorem err_re (b : Nat) (s : ByteArray) (a x : Int) (w : World) (h : RE w b s a x) :
    Calls Try.prog 114 #[.pointer (some ⟨b, 0, none⟩)] w fun e w' => e = .returned (.int .i64 x) ∧ w = w' := by
  by_cases hx : x = 0
  · subst hx; exact err_made b s a 0 w h.ok
  · obtain ⟨a', h'⟩ := RE.err hx h; exact err_made b s a' x w h'
theorem end_re (b : Nat) (s : ByteArray) (a : Nat) (x : Int) (w : World) (h : RE w b s a x) (hs : s.size ≤ 9223372036854775807) (ha : x = 0 → a ≤ s.size) :
    Calls Try.prog 118 #[.pointer (some ⟨b, 0, none⟩)] w fun e w' => e = .returned (.int .i64 (endV s a x)) ∧ Below w.heap.size w w' := by
  by_cases hx : x = 0
  · subst hx; exact end_ok b s a w h.ok hs (ha rfl)
  · obtain ⟨a', h'⟩ := RE.err hx h
    unfold endV
    rw [if_neg hx]
    exact (end_err b s a' x w h' hx).mono fun e w' ⟨h1, h2⟩ => ⟨h1, h2 ▸ Below.refl _ _⟩
theorem xend_re (b : Nat) (s : ByteArray) (a : Nat) (x : Int) (w : World) (h : XRE w b s a x) (hs : s.size ≤ 9223372036854775807) (ha : x = 0 → a ≤ s.size) :
    Calls Try.prog 88 #[.pointer (some ⟨b, 0, none⟩)] w fun e w' => e = .returned (.int .i64 (endV s a x)) ∧ Below w.heap.size w w' := by
  by_cases hx : x = 0
  · subst hx; exact xrEnd_ok b s a w h.ok hs (ha rfl)
  · obtain ⟨a', h'⟩ := XRE.err hx h
    unfold endV
    rw [if_neg hx]
    exact xrEnd_err b s a' x w h' hx
/-- Where a read leaves the place. -/
theorem getR_at {s : ByteArray} {a : Int} (h : (getR s a).2.2 = 0) : 0 ≤ (getR s a).2.1 ∧ (getR s a).2.1 ≤ s.size := by
  rcases hg : getR s a with ⟨g1, g2, g3⟩
  rw [hg] at h
  simp only at h
  subst h
  exact getR_pos hg
theorem numR_at {s : ByteArray} {a x m : Int} (h : (numR s a x m).2.2 = 0) : 0 ≤ (numR s a x m).2.1 ∧ (numR s a x m).2.1 ≤ s.size := by
  by_cases hx : x = 0
  · subst hx
    have e : numR s a 0 m = ((if (upR s a m 5).2.2 = 0 then (upR s a m 5).1 else 0), (upR s a m 5).2.1, (upR s a m 5).2.2) := by unfold numR; rw [if_neg (by simp)]
    rw [e] at h ⊢
    obtain ⟨n, a2, h1, h2⟩ := upR_good (by decide) h
    rw [h1]; simp only; omega
  · rw [numR_err hx] at h; exact absurd h hx
theorem bigR_at {s : ByteArray} {a x : Int} (h : (bigR s a x).2.2 = 0) : 0 ≤ (bigR s a x).2.1 ∧ (bigR s a x).2.1 ≤ s.size := by
  by_cases hx : x = 0
  · subst hx
    have e : bigR s a 0 = ((if (getR s a).2.2 = 0 then (getR s a).1 else 0), (getR s a).2.1, (getR s a).2.2) := by unfold bigR; rw [if_neg (by simp)]
    rw [e] at h ⊢
    exact getR_at h
  · rw [bigR_err hx] at h; exact absurd h hx
theorem textR_at {s : ByteArray} {a x m : Int} (h : (textR s a x m).2.2 = 0) : 0 ≤ (textR s a x m).2.1 ∧ (textR s a x m).2.1 ≤ s.size := by
  by_cases hx : x = 0
  · subst hx
    unfold textR at h ⊢
    rw [if_neg (by simp)] at h ⊢
    by_cases hu : (upR s a m 3).2.2 = 0
    · rw [if_neg (by simp [hu])] at h ⊢
      obtain ⟨n, a2, h1, h2⟩ := upR_good (by decide) hu
      rw [h1] at h ⊢
      simp only at h ⊢
      split at h
      · simp at h
      · rw [if_neg (by assumption)]; simp only; omega
    · rw [if_pos hu] at h; exact absurd h hu
  · rw [textR_err hx] at h; exact absurd h hx
theorem flagR_at {s : ByteArray} {a : Nat} {x : Int} (ha : x = 0 → a ≤ s.size) (h : (flagR s a x).2.2 = 0) : 0 ≤ (flagR s a x).2.1 ∧ (flagR s a x).2.1 ≤ s.size := by
  by_cases hx : x = 0
  · subst hx
    have := ha rfl
    unfold flagR at h ⊢
    rw [if_neg (by simp)] at h ⊢
    split at h
    · simp at h
    rename_i h1
    rw [if_neg h1]
    split at h
    · simp at h
    rename_i h2
    rw [if_neg h2]
    simp only; omega
  · rw [flagR_err hx] at h; exact absurd h hx
end Go.Proofs.Ytdgboikkgeioeaa

/- Writers and readers that a walk has made: what they hold, what a call on them turns. Conditions: none. -/
namespace Go.Proofs.Ytdgboikkgeioeaa
open Go.RowKit Go.PlainAid
set_option linter.unusedVariables false

section
variable {w x w0 : World} {b N : Nat} {l l' : List UInt8} {m m' : Nat} {e : Int}
theorem but_grown (h : But (Own b) w x) : w.grownBy x (some b) := ⟨h.os, h.tape, h.output, h.size, fun k hk hne => h.block k hk (fun e => hne (by rw [show k = b from e]))⟩
theorem grown_but {row : Option Nat} (h : w.grownBy x row) : But (fun k => row = some k) w x := ⟨h.os, h.tape, h.output, h.size, fun k hk hn => h.block k hk (fun e => hn e.symm)⟩
theorem Wr.lt' {B : Nat} (h : Wr w b B l e) : b < w.heap.size := World.block_lt_of_cell? w _ h.made
theorem Wr.keep {S : Nat → Prop} {B : Nat} (h : Wr w b B l e) (hb : But S w x) (hs : ¬ S b) (hr : ∀ k, rowOf w b = some k → ¬ S k) : Wr x b B l e := by
  have hl := h.lt'
  obtain ⟨v, hc, h1, h2⟩ := h.buf
  have hr' : ∀ k, v.ownBlock = some k → ¬ S k := fun k hk => hr k (by rw [rowOf_cell hc]; exact hk)
  refine ⟨hb.cell hs h.made, hb.cell hs h.err, by rw [hb.frozen hl hs]; exact h.fr1, by rw [hb.frozen hl hs]; exact h.fr2, h.lt, Nat.le_trans h.le hb.size, v, hb.cell hs hc, h1, ?_⟩
  rcases h2 with h2 | ⟨g, cap, cur, hv, hg, hh, r⟩
  · exact Or.inl h2
  · exact Or.inr ⟨g, cap, cur, hv, hg, by rw [hb.block g (Array.getElem?_eq_some_iff.1 hh).1 (hr' g (by rw [hv]; rfl))]; exact hh, r⟩
theorem Wr.row_is {B : Nat} (h : Wr w b B l e) {k : Nat} (hk : rowOf w b = some k) : ∃ cs, w.heap[k]? = some (.cells cs 5 (0, 0)) := by
  obtain ⟨v, hc, h1, h2⟩ := h.buf
  rw [rowOf_cell hc] at hk
  rcases h2 with ⟨hv, _⟩ | ⟨g, cap, cur, hv, hg, hh, r⟩
  · rw [hv] at hk; cases hk
  · rw [hv] at hk
    have : g = k := by simpa [Value.ownBlock] using hk
    subst this; exact ⟨cur, hh⟩
theorem Wr.ne_blk {B : Nat} {T : TypeId} {cs : Array Value} (h : Wr w b B l e) (hk : Blk w N T cs) (hT : T ≠ 5) : rowOf w b ≠ some N := fun e1 => by
  obtain ⟨c, h1⟩ := h.row_is e1
  unfold Blk at hk
  rw [hk] at h1
  injection h1 with h1; injection h1 with h2 h3
  exact hT h3
theorem Wr.ne_row {B B' k sz : Nat} {T : TypeId} {v : Value} {xs : List Value} (h : Wr w b B l e) (hr : w.ownsRow B' T sz v k xs) (hT : T ≠ 5) : ∀ g, v.ownBlock = some g → rowOf w b ≠ some g := fun g hg e1 => by
  obtain ⟨c, h1⟩ := h.row_is e1
  rcases hr.2 with ⟨hv, _⟩ | ⟨g', cap, cur, hv, _, hh, _⟩
  · rw [hv] at hg; cases hg
  · rw [hv] at hg
    have : g' = g := by simpa [Value.ownBlock] using hg
    subst this
    rw [hh] at h1
    injection h1 with h1; injection h1 with h2 h3
    exact hT h3
/-- The program's writer, block b: l, of at most m bytes, and no error. -/
structure OW (b : Nat) (l : List UInt8) (m : Nat) (w : World) : Prop where
  wr : Wr w b (b + 1) l 0
  len : l.length ≤ m
theorem OW.lt (h : OW b l m w) : b < w.heap.size := h.wr.lt'
theorem OW.below (h : OW b l m w) (hb : Below w.heap.size w x) : OW b l m x := ⟨h.wr.below hb, h.len⟩
theorem OW.new (h : OW b l m w) (hg : w.grownBy x none) : OW b l m x := h.below (grown_below hg)
theorem OW.eq (h : OW b l m w) (he : l = l') (hm : m ≤ m') : OW b l' m' w := by subst he; exact ⟨h.wr, Nat.le_trans h.len hm⟩
theorem OW.at {T : TypeId} {cs : Array Value} (h : OW b l m w) (hk : Blk w N T cs) (hT : T ≠ 5) (hne : b ≠ N) (hg : w.grownBy x (some N)) : OW b l m x :=
  ⟨h.wr.keep (grown_but hg) (fun e1 => hne (Option.some.inj e1).symm) (fun k hk' e1 => h.wr.ne_blk hk hT (by rw [hk']; exact e1.symm)), h.len⟩
theorem OW.row {B' k sz : Nat} {T : TypeId} {v : Value} {xs : List Value} (h : OW b l m w) (hr : w.ownsRow B' T sz v k xs) (hT : T ≠ 5) (hne : v.ownBlock ≠ some b) (hg : w.grownBy x v.ownBlock) : OW b l m x :=
  ⟨h.wr.keep (grown_but hg) hne (fun k hk' e1 => h.wr.ne_row hr hT k e1 hk'), h.len⟩
theorem blk_wr {T : TypeId} {cs : Array Value} (hk : Blk w N T cs) (h : OW b l m w) (hT : T ≠ 5) (hne : N ≠ b) (hb : But (Rw w b) w x) : Blk x N T cs := by
  have hl := hk.lt
  unfold Blk at hk ⊢
  rw [hb.block N hl ?_]
  · exact hk
  · rintro (h1 | h1)
    · exact hne h1
    · exact h.wr.ne_blk hk hT h1
theorem row_wr {B' k sz : Nat} {T : TypeId} {v : Value} {xs : List Value} (hr : w.ownsRow B' T sz v k xs) (h : OW b l m w) (hT : T ≠ 5) (hne : v.ownBlock ≠ some b) (hb : But (Rw w b) w x) : x.ownsRow B' T sz v k xs := by
  have hn := h.wr.ne_row hr hT
  obtain ⟨h1, h2⟩ := hr
  refine ⟨h1, ?_⟩
  rcases h2 with h2 | ⟨g, cap, cur, hv, hg, hh, r⟩
  · exact Or.inl h2
  · refine Or.inr ⟨g, cap, cur, hv, hg, ?_, r⟩
    have hvg : v.ownBlock = some g := by rw [hv]; rfl
    rw [hb.block g (Array.getElem?_eq_some_iff.1 hh).1 ?_]
    · exact hh
    · rintro (e1 | e1)
      · exact hne (by rw [hvg, e1])
      · exact hn g hvg e1
theorem hb_wr (h0 : Below w0.heap.size w0 w) (h : OW b l m w) (hlt : w0.heap.size ≤ b) (hb : But (Rw w b) w x) : Below w0.heap.size w0 x :=
  below_but h0 hb h0.size (fun k _ hk => by
    rcases h.wr.only hk with h1 | h1 <;> omega)
theorem sum_le {k q : Nat} (h : l.length ≤ m) (hk : l'.length ≤ k) (hq : q = m + k) : (l ++ l').length ≤ q := by rw [List.length_append]; omega
theorem ow_new (w : World) : Calls Try.prog 69 #[] w fun e w' => ∃ b, e = .returned (.pointer (some ⟨b, 0, none⟩)) ∧ b = w.heap.size ∧ OW b [] 0 w' ∧ Below w.heap.size w w' :=
  (wnew_any w).mono (by
    rintro e x ⟨rfl, hf, hz, hb⟩
    exact ⟨_, rfl, rfl, ⟨hf.wr (Below.refl _ _) (Nat.lt_succ_self _) (by omega), by simp⟩, hb⟩)
theorem ow_num (b : Nat) (l : List UInt8) (m : Nat) (n : Int) (w : World) (h : OW b l m w) (hm : m ≤ 140737488355000) (h0 : 0 ≤ n) (h1 : n ≤ 9223372036854775807) :
    Calls Try.prog 70 #[.pointer (some ⟨b, 0, none⟩), .int .i64 n] w fun e w' => e = .returned (.pointer (some ⟨b, 0, none⟩)) ∧ OW b (l ++ putL n) (m + 9) w' ∧ But (Rw w b) w w' :=
  (wNum_rw b (b + 1) l 0 n w h.wr (Nat.le_trans h.len hm) h1).mono (by
    rintro e x ⟨rfl, hw, hb⟩
    have e1 : wNum n (l, 0) = (l ++ putL n, 0) := by unfold wNum; rw [if_neg (by simp), if_neg (by omega)]
    rw [e1] at hw
    exact ⟨rfl, ⟨hw, sum_le h.len (putL_le n) rfl⟩, hb⟩)
theorem ow_big (b : Nat) (l : List UInt8) (m : Nat) (n : Int) (w : World) (h : OW b l m w) (hm : m ≤ 140737488355000) (h0 : 0 ≤ n) (h1 : n < 18446744073709551616) :
    Calls Try.prog 71 #[.pointer (some ⟨b, 0, none⟩), .int .u64 n] w fun e w' => e = .returned (.pointer (some ⟨b, 0, none⟩)) ∧ OW b (l ++ putL n) (m + 9) w' ∧ But (Rw w b) w w' :=
  (wBig_rw b (b + 1) l 0 n w h.wr (Nat.le_trans h.len hm) h0 h1).mono (by
    rintro e x ⟨rfl, hw, hb⟩
    have e1 : wBig n (l, 0) = (l ++ putL n, 0) := by unfold wBig; rw [if_neg (by simp)]
    rw [e1] at hw
    exact ⟨rfl, ⟨hw, sum_le h.len (putL_le n) rfl⟩, hb⟩)
theorem ow_text (b : Nat) (l : List UInt8) (m : Nat) (s : ByteArray) (w : World) (h : OW b l m w) (hm : m + s.size ≤ 140737488355000) :
    Calls Try.prog 72 #[.pointer (some ⟨b, 0, none⟩), .string s] w fun e w' => e = .returned (.pointer (some ⟨b, 0, none⟩)) ∧ OW b (l ++ (putL (s.size : Int) ++ s.data.toList)) (m + (9 + s.size)) w' ∧ But (Rw w b) w w' :=
  (wText_rw b (b + 1) l 0 s w h.wr (by have := h.len; omega)).mono (by
    rintro e x ⟨rfl, hw, hb⟩
    have e1 : wText s (l, 0) = (l ++ (putL (s.size : Int) ++ s.data.toList), 0) := by unfold wText; rw [if_neg (by simp), List.append_assoc]
    rw [e1] at hw
    exact ⟨rfl, ⟨hw, sum_le h.len (sum_le (putL_le _) (Nat.le_refl _) rfl) (by simp)⟩, hb⟩)
theorem ow_flag (b : Nat) (l : List UInt8) (m : Nat) (f : Bool) (w : World) (h : OW b l m w) (hm : m ≤ 140737488355000) :
    Calls Try.prog 73 #[.pointer (some ⟨b, 0, none⟩), .bool f] w fun e w' => e = .returned (.pointer (some ⟨b, 0, none⟩)) ∧ OW b (l ++ [flagB f]) (m + 1) w' ∧ But (Rw w b) w w' :=
  (wFlag_rw b (b + 1) l 0 f w h.wr (Nat.le_trans h.len hm)).mono (by
    rintro e x ⟨rfl, hw, hb⟩
    have e1 : wFlag f (l, 0) = (l ++ [flagB f], 0) := by unfold wFlag; rw [if_neg (by simp)]
    rw [e1] at hw
    exact ⟨rfl, ⟨hw, sum_le h.len (k := 1) (by simp) rfl⟩, hb⟩)
theorem ow_done (b : Nat) (l : List UInt8) (m : Nat) (w : World) (h : OW b l m w) :
    Calls Try.prog 74 #[.pointer (some ⟨b, 0, none⟩)] w fun e w' => e = .returned (.tuple #[.string ⟨l.toArray⟩, .int .i64 0]) ∧ Below w.heap.size w w' :=
  (wDone_ok b (b + 1) l w h.wr).mono (by rintro e x ⟨rfl, rfl⟩; exact ⟨rfl, Below.refl _ _⟩)
/-- The document's own writer. -/
structure OX (b : Nat) (l : List UInt8) (m : Nat) (w : World) : Prop where
  wr : RWr w b l 0
  len : l.length ≤ m
theorem OX.lt (h : OX b l m w) : b < w.heap.size := h.wr.lt
theorem OX.below (h : OX b l m w) (hb : Below w.heap.size w x) : OX b l m x := ⟨h.wr.below hb, h.len⟩
theorem OX.new (h : OX b l m w) (hg : w.grownBy x none) : OX b l m x := h.below (grown_below hg)
theorem OX.eq (h : OX b l m w) (he : l = l') (hm : m ≤ m') : OX b l' m' w := by subst he; exact ⟨h.wr, Nat.le_trans h.len hm⟩
theorem OX.at (h : OX b l m w) (hne : b ≠ N) (hg : w.grownBy x (some N)) : OX b l m x := ⟨h.wr.but (grown_but hg) (fun e1 => hne (Option.some.inj e1).symm), h.len⟩
theorem OX.row {v : Value} (h : OX b l m w) (hne : v.ownBlock ≠ some b) (hg : w.grownBy x v.ownBlock) : OX b l m x := ⟨h.wr.but (grown_but hg) hne, h.len⟩
theorem ox_of (h : Blk w b 126 #[.string ⟨#[]⟩, .int .i64 0]) : OX b [] 0 w := ⟨⟨h.cell rfl, h.cell rfl, h.frozen _, h.frozen _⟩, by simp⟩
theorem ox_num (b : Nat) (l : List UInt8) (m : Nat) (n : Int) (w : World) (h : OX b l m w) (hm : m ≤ 140737488355000) (h0 : 0 ≤ n) (h1 : n ≤ 9223372036854775807) :
    Calls Try.prog 76 #[.pointer (some ⟨b, 0, none⟩), .int .i64 n] w fun e w' => e = .returned (.tuple #[]) ∧ OX b (l ++ putL n) (m + 9) w' ∧ w.grownBy w' (some b) :=
  (xNum_any b l 0 n w h.wr (Nat.le_trans h.len hm) h1).mono (by
    rintro e x ⟨rfl, hw, hb⟩
    have e1 : wNum n (l, 0) = (l ++ putL n, 0) := by unfold wNum; rw [if_neg (by simp), if_neg (by omega)]
    rw [e1] at hw
    exact ⟨rfl, ⟨hw, sum_le h.len (putL_le n) rfl⟩, but_grown hb⟩)
theorem ox_big (b : Nat) (l : List UInt8) (m : Nat) (n : Int) (w : World) (h : OX b l m w) (hm : m ≤ 140737488355000) (h0 : 0 ≤ n) (h1 : n < 18446744073709551616) :
    Calls Try.prog 77 #[.pointer (some ⟨b, 0, none⟩), .int .u64 n] w fun e w' => e = .returned (.tuple #[]) ∧ OX b (l ++ putL n) (m + 9) w' ∧ w.grownBy w' (some b) :=
  (xBig_any b l 0 n w h.wr (Nat.le_trans h.len hm) h0 h1).mono (by
    rintro e x ⟨rfl, hw, hb⟩
    have e1 : wBig n (l, 0) = (l ++ putL n, 0) := by unfold wBig; rw [if_neg (by simp)]
    rw [e1] at hw
    exact ⟨rfl, ⟨hw, sum_le h.len (putL_le n) rfl⟩, but_grown hb⟩)
theorem ox_text (b : Nat) (l : List UInt8) (m : Nat) (s : ByteArray) (w : World) (h : OX b l m w) (hm : m + s.size ≤ 140737488355000) :
    Calls Try.prog 78 #[.pointer (some ⟨b, 0, none⟩), .string s] w fun e w' => e = .returned (.tuple #[]) ∧ OX b (l ++ (putL (s.size : Int) ++ s.data.toList)) (m + (9 + s.size)) w' ∧ w.grownBy w' (some b) :=
  (xText_any b l 0 s w h.wr (by have := h.len; omega)).mono (by
    rintro e x ⟨rfl, hw, hb⟩
    have e1 : wText s (l, 0) = (l ++ (putL (s.size : Int) ++ s.data.toList), 0) := by unfold wText; rw [if_neg (by simp), List.append_assoc]
    rw [e1] at hw
    exact ⟨rfl, ⟨hw, sum_le h.len (sum_le (putL_le _) (Nat.le_refl _) rfl) (by simp)⟩, but_grown hb⟩)
theorem ox_flag (b : Nat) (l : List UInt8) (m : Nat) (f : Bool) (w : World) (h : OX b l m w) (hm : m ≤ 140737488355000) :
    Calls Try.prog 79 #[.pointer (some ⟨b, 0, none⟩), .bool f] w fun e w' => e = .returned (.tuple #[]) ∧ OX b (l ++ [flagB f]) (m + 1) w' ∧ w.grownBy w' (some b) :=
  (xFlag_any b l 0 f w h.wr (Nat.le_trans h.len hm)).mono (by
    rintro e x ⟨rfl, hw, hb⟩
    have e1 : wFlag f (l, 0) = (l ++ [flagB f], 0) := by unfold wFlag; rw [if_neg (by simp)]
    rw [e1] at hw
    exact ⟨rfl, ⟨hw, sum_le h.len (k := 1) (by simp) rfl⟩, but_grown hb⟩)
theorem ox_done (b : Nat) (l : List UInt8) (m : Nat) (w : World) (h : OX b l m w) :
    Calls Try.prog 80 #[.pointer (some ⟨b, 0, none⟩)] w fun e w' => e = .returned (.tuple #[.string ⟨l.toArray⟩, .int .i64 0]) ∧ Below w.heap.size w w' :=
  (xDone_any b l 0 w h.wr).mono (by rintro e x ⟨rfl, hb⟩; exact ⟨by rw [if_pos rfl], hb⟩)
end

section
variable {w x : World} {b N : Nat} {s : ByteArray} {a e : Int}
/-- The program's reader: it stands at a (if it has no error), its error is e. -/
structure OR (b : Nat) (s : ByteArray) (a e : Int) (w : World) : Prop where
  re : RE w b s a e
  pos : e = 0 → 0 ≤ a ∧ a ≤ s.size
theorem OR.lt (h : OR b s a e w) : b < w.heap.size := h.re.lt
theorem OR.below (h : OR b s a e w) (hb : Below w.heap.size w x) : OR b s a e x := ⟨h.re.below hb, h.pos⟩
theorem OR.new (h : OR b s a e w) (hg : w.grownBy x none) : OR b s a e x := h.below (grown_below hg)
theorem OR.at (h : OR b s a e w) (hne : b ≠ N) (hg : w.grownBy x (some N)) : OR b s a e x := ⟨h.re.but (grown_but hg) (fun e1 => hne (Option.some.inj e1).symm), h.pos⟩
theorem OR.row {v : Value} (h : OR b s a e w) (hne : v.ownBlock ≠ some b) (hg : w.grownBy x v.ownBlock) : OR b s a e x := ⟨h.re.but (grown_but hg) hne, h.pos⟩
theorem OR.nat (h : OR b s a e w) : RE w b s (a.toNat : Int) e ∧ (e = 0 → a.toNat ≤ s.size) := by
  by_cases he : e = 0
  · have := h.pos he
    have e1 : (a.toNat : Int) = a := by omega
    rw [e1]; exact ⟨h.re, fun _ => by omega⟩
  · exact ⟨h.re.weak he, fun h1 => absurd h1 he⟩
theorem or_open (s : ByteArray) (w : World) : Calls Try.prog 111 #[.string s] w fun e w' => ∃ b, e = .returned (.pointer (some ⟨b, 0, none⟩)) ∧ b = w.heap.size ∧ OR b s 0 0 w' ∧ Below w.heap.size w w' :=
  (open_any s w).mono (by rintro e x ⟨rfl, hr, hb⟩; exact ⟨_, rfl, rfl, ⟨RE.good hr, fun _ => by omega⟩, hb⟩)
theorem upR_le {s : ByteArray} {a m x : Int} (hm : 0 ≤ m) : 0 ≤ (upR s a m x).1 ∧ (upR s a m x).1 ≤ m := by
  have := getR_range s a
  unfold upR
  split
  · exact ⟨Int.le_refl _, hm⟩
  split
  · exact ⟨Int.le_refl _, hm⟩
  · dsimp only; omega
theorem numR_le {s : ByteArray} {a x m : Int} (hm : 0 ≤ m) : 0 ≤ (numR s a x m).1 ∧ (numR s a x m).1 ≤ m := by
  have := upR_le (s := s) (a := a) (x := 5) hm
  unfold numR
  split
  · exact ⟨Int.le_refl _, hm⟩
  · dsimp only; split
    · exact this
    · exact ⟨Int.le_refl _, hm⟩
theorem textR_le {s : ByteArray} {a x m : Int} (hm : 0 ≤ m) : ((textR s a x m).1.size : Int) ≤ m := by
  have := upR_le (s := s) (a := a) (x := 3) hm
  unfold textR
  split
  · exact hm
  split
  · exact hm
  split
  · exact hm
  · dsimp only
    rw [ByteArray.size_extract]; omega
theorem or_num (b : Nat) (s : ByteArray) (a e m : Int) (w : World) (h : OR b s a e w) (hs : s.size ≤ 9223372036854775807) (h0 : 0 ≤ m) (hm : m ≤ 9223372036854775807) :
    Calls Try.prog 113 #[.pointer (some ⟨b, 0, none⟩), .int .i64 m] w fun e1 w' => ∃ n a' e', e1 = .returned (.int .i64 n) ∧ numR s a e m = (n, a', e') ∧ 0 ≤ n ∧ n ≤ m ∧ OR b s a' e' w' ∧ w.grownBy w' (some b) :=
  (rNum_re b s a e m w h.re hs hm).mono (by
    rintro e1 x ⟨rfl, hw, hb⟩
    exact ⟨_, _, _, rfl, rfl, (numR_le h0).1, (numR_le h0).2, ⟨hw, numR_at⟩, but_grown hb⟩)
theorem or_text (b : Nat) (s : ByteArray) (a e m : Int) (w : World) (h : OR b s a e w) (hs : s.size ≤ 9223372036854775807) (h0 : 0 ≤ m) (hm : m ≤ 9223372036854775807) :
    Calls Try.prog 116 #[.pointer (some ⟨b, 0, none⟩), .int .i64 m] w fun e1 w' => ∃ t a' e', e1 = .returned (.string t) ∧ textR s a e m = (t, a', e') ∧ (t.size : Int) ≤ m ∧ OR b s a' e' w' ∧ w.grownBy w' (some b) :=
  (rText_re b s a e m w h.re hs hm).mono (by
    rintro e1 x ⟨rfl, hw, hb⟩
    exact ⟨_, _, _, rfl, rfl, textR_le h0, ⟨hw, textR_at⟩, but_grown hb⟩)
theorem or_flag (b : Nat) (s : ByteArray) (a e : Int) (w : World) (h : OR b s a e w) (hs : s.size ≤ 9223372036854775807) :
    Calls Try.prog 117 #[.pointer (some ⟨b, 0, none⟩)] w fun e1 w' => ∃ f a' e', e1 = .returned (.bool f) ∧ flagR s a.toNat e = (f, a', e') ∧ OR b s a' e' w' ∧ w.grownBy w' (some b) :=
  (rFlag_re b s a.toNat e w h.nat.1 hs h.nat.2).mono (by
    rintro e1 x ⟨rfl, hw, hb⟩
    exact ⟨_, _, _, rfl, rfl, ⟨hw, flagR_at h.nat.2⟩, but_grown hb⟩)
theorem or_end (b : Nat) (s : ByteArray) (a e : Int) (w : World) (h : OR b s a e w) (hs : s.size ≤ 9223372036854775807) :
    Calls Try.prog 118 #[.pointer (some ⟨b, 0, none⟩)] w fun e1 w' => ∃ r, e1 = .returned (.int .i64 r) ∧ endV s a.toNat e = r ∧ Below w.heap.size w w' :=
  (end_re b s a.toNat e w h.nat.1 hs h.nat.2).mono (by
    rintro e1 x ⟨rfl, hb⟩
    exact ⟨_, rfl, rfl, hb⟩)
/-- The document's own reader. -/
structure OXR (b : Nat) (s : ByteArray) (a e : Int) (w : World) : Prop where
  re : XRE w b s a e
  pos : e = 0 → 0 ≤ a ∧ a ≤ s.size
theorem XRE.lt (h : XRE w b s a e) : b < w.heap.size := World.block_lt_of_cell? w _ h.cell
theorem OXR.lt (h : OXR b s a e w) : b < w.heap.size := h.re.lt
theorem OXR.below (h : OXR b s a e w) (hb : Below w.heap.size w x) : OXR b s a e x := ⟨h.re.below hb, h.pos⟩
theorem OXR.new (h : OXR b s a e w) (hg : w.grownBy x none) : OXR b s a e x := h.below (grown_below hg)
theorem OXR.at (h : OXR b s a e w) (hne : b ≠ N) (hg : w.grownBy x (some N)) : OXR b s a e x := ⟨h.re.but (grown_but hg) (fun e1 => hne (Option.some.inj e1).symm), h.pos⟩
theorem OXR.row {v : Value} (h : OXR b s a e w) (hne : v.ownBlock ≠ some b) (hg : w.grownBy x v.ownBlock) : OXR b s a e x := ⟨h.re.but (grown_but hg) hne, h.pos⟩
theorem OXR.nat (h : OXR b s a e w) : XRE w b s (a.toNat : Int) e ∧ (e = 0 → a.toNat ≤ s.size) := by
  by_cases he : e = 0
  · have := h.pos he
    have e1 : (a.toNat : Int) = a := by omega
    rw [e1]; exact ⟨h.re, fun _ => by omega⟩
  · exact ⟨h.re.weak he, fun h1 => absurd h1 he⟩
theorem oxr_of (h : Blk w b 137 #[.string s, .int .i64 0, .int .i64 0]) : OXR b s 0 0 w := ⟨XRE.good ⟨h.cell rfl, h.cell rfl, h.cell rfl, h.frozen _, h.frozen _⟩, fun _ => by omega⟩
theorem oxr_num (b : Nat) (s : ByteArray) (a e m : Int) (w : World) (h : OXR b s a e w) (hs : s.size ≤ 9223372036854775807) (h0 : 0 ≤ m) (hm : m ≤ 9223372036854775807) :
    Calls Try.prog 84 #[.pointer (some ⟨b, 0, none⟩), .int .i64 m] w fun e1 w' => ∃ n a' e', e1 = .returned (.int .i64 n) ∧ numR s a e m = (n, a', e') ∧ 0 ≤ n ∧ n ≤ m ∧ OXR b s a' e' w' ∧ w.grownBy w' (some b) :=
  (xrNum_re b s a e m w h.re hs hm).mono (by
    rintro e1 x ⟨rfl, hw, hb⟩
    exact ⟨_, _, _, rfl, rfl, (numR_le h0).1, (numR_le h0).2, ⟨hw, numR_at⟩, but_grown hb⟩)
theorem oxr_text (b : Nat) (s : ByteArray) (a e m : Int) (w : World) (h : OXR b s a e w) (hs : s.size ≤ 9223372036854775807) (h0 : 0 ≤ m) (hm : m ≤ 9223372036854775807) :
    Calls Try.prog 86 #[.pointer (some ⟨b, 0, none⟩), .int .i64 m] w fun e1 w' => ∃ t a' e', e1 = .returned (.string t) ∧ textR s a e m = (t, a', e') ∧ (t.size : Int) ≤ m ∧ OXR b s a' e' w' ∧ w.grownBy w' (some b) :=
  (xrText_re b s a e m w h.re hs hm).mono (by
    rintro e1 x ⟨rfl, hw, hb⟩
    exact ⟨_, _, _, rfl, rfl, textR_le h0, ⟨hw, textR_at⟩, but_grown hb⟩)
theorem oxr_flag (b : Nat) (s : ByteArray) (a e : Int) (w : World) (h : OXR b s a e w) (hs : s.size ≤ 9223372036854775807) :
    Calls Try.prog 87 #[.pointer (some ⟨b, 0, none⟩)] w fun e1 w' => ∃ f a' e', e1 = .returned (.bool f) ∧ flagR s a.toNat e = (f, a', e') ∧ OXR b s a' e' w' ∧ w.grownBy w' (some b) :=
  (xrFlag_re b s a.toNat e w h.nat.1 hs h.nat.2).mono (by
    rintro e1 x ⟨rfl, hw, hb⟩
    exact ⟨_, _, _, rfl, rfl, ⟨hw, flagR_at h.nat.2⟩, but_grown hb⟩)
theorem oxr_end (b : Nat) (s : ByteArray) (a e : Int) (w : World) (h : OXR b s a e w) (hs : s.size ≤ 9223372036854775807) :
    Calls Try.prog 88 #[.pointer (some ⟨b, 0, none⟩)] w fun e1 w' => ∃ r, e1 = .returned (.int .i64 r) ∧ endV s a.toNat e = r ∧ Below w.heap.size w w' :=
  (xend_re b s a.toNat e w h.nat.1 hs h.nat.2).mono (by
    rintro e1 x ⟨rfl, hb⟩
    exact ⟨_, rfl, rfl, hb⟩)
end
end Go.Proofs.Ytdgboikkgeioeaa

/- Package ops: Check of both. Conditions: none. -/
namespace Go.Proofs.Ytdgboikkgeioeaa
open Go.RowKit Go.PlainAid
set_option linter.unusedVariables false


abbrev OpT := ByteArray × ByteArray × Bool
def opE (o : OpT) : List Value := [.string o.1, .string o.2.1, .bool o.2.2]
theorem opE_len (o : OpT) : (opE o).length = 3 := rfl
theorem opE_one (o : OpT) : ∀ u ∈ opE o, u.oneCell' = true := by intro u hu; simp [opE] at hu; rcases hu with rfl | rfl | rfl <;> rfl
theorem eq_op (a b d e : ByteArray) (c f : Bool) (w : World) : (binOp .eql 66 (.agg #[.string a, .string b, .bool c]) (.agg #[.string d, .string e, .bool f])).run Try.prog w = .ok (.bool (a.toList == d.toList && b.toList == e.toList && c == f)) w := by
  have u := Try.underlying9
  have u' := Try.underlying4
  have hS : Try.prog.underlying 66 = some (.struct (Try.prog.fieldsOf 66)) := by kernel_rfl
  have hp : Try.prog.stoodInHeld 66 = false := by kernel_rfl
  have hf : (Try.prog.fieldsOf 66).toList.map (fun f => (f.offset, f.type)) = [(0, 9), (1, 9), (2, 4)] := by kernel_rfl
  rw [run_eql_struct, show (10000 : Nat) = 9999 + 1 from rfl, run_equalIn_agg w 9999 66 _ _ hS hp]
  simp only [Program.fieldsOf, Try.underlying66]
  go_simp
  by_cases h1 : a.toList = d.toList <;> by_cases h2 : b.toList = e.toList <;> by_cases h3 : c = f <;> simp [h1, h2, h3]
theorem takeO_at {α : Type} {l : List α} {i : Nat} {y : α} (h : l[i]? = some y) : l.take (i + 1) = l.take i ++ [y] := by
  rw [List.take_add_one, h]; rfl
end Go.Proofs.Ytdgboikkgeioeaa

/- Package ops: Same, Put of both. Conditions: none. -/
namespace Go.Proofs.Ytdgboikkgeioeaa
open Go.RowKit Go.PlainAid
set_option linter.unusedVariables false


/-- The bytes of a batch. -/
def putO1 (o : OpT) : List UInt8 := (putL (o.1.size : Int) ++ o.1.data.toList) ++ [flagB o.2.2] ++ (putL (o.2.1.size : Int) ++ o.2.1.data.toList)
def putOs (l : List OpT) : List UInt8 := l.flatMap putO1
end Go.Proofs.Ytdgboikkgeioeaa

/- What a reader that has no error has eaten: the bytes that a writer would have put; what was put is read. Conditions: none. -/
namespace Go.Proofs.Ytdgboikkgeioeaa
open Go.RowKit Go.PlainAid

/-- From a to b stand the bytes l. -/
def eats (s : ByteArray) (a : Nat) (l : List UInt8) (b : Nat) : Prop := a ≤ b ∧ b ≤ s.size ∧ (s.data.toList.drop a).take (b - a) = l
theorem eats.nil {s : ByteArray} {a : Nat} (h : a ≤ s.size) : eats s a [] a := ⟨Nat.le_refl _, h, by simp⟩
theorem eats.whole {s : ByteArray} {l : List UInt8} (h : eats s 0 l s.size) : (⟨l.toArray⟩ : ByteArray) = s := by
  obtain ⟨_, _, h3⟩ := h
  have : l = s.data.toList := by
    rw [← h3, List.drop_zero, List.take_of_length_le (by simp)]
  subst this; simp
end Go.Proofs.Ytdgboikkgeioeaa

/- Package script, pure: a step's bytes; steps' bytes. Conditions: none. -/
namespace Go.Proofs.Ytdgboikkgeioeaa
open Go.RowKit Go.PlainAid
set_option linter.unusedVariables false
set_option linter.unusedSimpArgs false

/-- A step: its kind, node, number; what is asked: kind, node, key, end, time, number, operations. -/
structure EvD where
  k : Int
  nd : Int
  n : Int
  ak : Int
  an : Int
  ky : ByteArray
  tt : ByteArray
  at_ : Int
  am : Int
  ops : List OpT
def txB (t : ByteArray) : List UInt8 := putL (t.size : Int) ++ t.data.toList
def askB (e : EvD) : List UInt8 := putL e.ak ++ putL e.an ++ putL e.am ++ putL e.at_ ++ txB e.ky ++ txB e.tt ++ putL ((e.ops.length : Nat) : Int) ++ putOs e.ops
def hedB (e : EvD) : List UInt8 := putL e.k ++ putL e.nd ++ putL e.n
def evB (e : EvD) : List UInt8 := if e.k = 0 then hedB e ++ askB e else hedB e
def mayJ (n : Int) : Prop := 0 ≤ n ∧ n ≤ 1073741824
instance (n : Int) : Decidable (mayJ n) := by unfold mayJ; infer_instance
def rngE (e : EvD) : Prop := (mayJ e.k ∧ mayJ e.nd ∧ mayJ e.n) ∧ (e.k = 0 → mayJ e.ak ∧ mayJ e.an ∧ mayJ e.am)
instance (e : EvD) : Decidable (rngE e) := by unfold rngE; infer_instance
/-- Why a step can't be put; its bytes. -/
def oneE (e : EvD) : Int := if rngE e then (if (evB e).length > 255 then 3 else 0) else 5
def oneB (e : EvD) : ByteArray := if oneE e = 0 then ⟨(evB e).toArray⟩ else ⟨#[]⟩
theorem oneE_5 {e : EvD} (h : ¬ rngE e) : oneE e = 5 ∧ oneB e = ⟨#[]⟩ := by have : oneE e = 5 := if_neg h; exact ⟨this, by unfold oneB; rw [this]; rfl⟩
theorem oneE_3 {e : EvD} (h : rngE e) (h2 : (evB e).length > 255) : oneE e = 3 ∧ oneB e = ⟨#[]⟩ := by
  have : oneE e = 3 := by unfold oneE; rw [if_pos h, if_pos h2]
  exact ⟨this, by unfold oneB; rw [this]; rfl⟩
theorem oneE_0 {e : EvD} (h : rngE e) (h2 : ¬ (evB e).length > 255) : oneE e = 0 ∧ oneB e = ⟨(evB e).toArray⟩ := by
  have : oneE e = 0 := by unfold oneE; rw [if_pos h, if_neg h2]
  exact ⟨this, by unfold oneB; rw [if_pos this]⟩
theorem oneB_len (e : EvD) : (oneB e).size ≤ 255 := by
  by_cases h : rngE e
  · by_cases h2 : (evB e).length > 255
    · rw [(oneE_3 h h2).2]; decide
    · rw [(oneE_0 h h2).2]; show (evB e).toArray.size ≤ 255; simp; omega
  · rw [(oneE_5 h).2]; decide
theorem rng_y {e : EvD} (h : ((0 ≤ e.k ∧ e.k ≤ 1073741824) ∧ (0 ≤ e.nd ∧ e.nd ≤ 1073741824) ∧ (0 ≤ e.n ∧ e.n ≤ 1073741824)) ∧ (¬ e.k = 0 ∨ ((0 ≤ e.ak ∧ e.ak ≤ 1073741824) ∧ (0 ≤ e.an ∧ e.an ≤ 1073741824) ∧ (0 ≤ e.am ∧ e.am ≤ 1073741824)))) : rngE e := by
  unfold rngE mayJ; exact ⟨h.1, fun h0 => by rcases h.2 with q | q; exact absurd h0 q; exact q⟩
theorem dropA_at {α : Type} {l : List α} {i : Nat} {y : α} (h : l[i]? = some y) : l.drop i = y :: l.drop (i + 1) := by
  obtain ⟨hi, rfl⟩ := List.getElem?_eq_some_iff.1 h
  exact List.drop_eq_getElem_cons hi
/-- A step with the list of its operations. -/
structure EvX where
  d : EvD
  ov : Value
def evE (x : EvX) : List Value := [.int .i64 x.d.k, .int .i64 x.d.nd, .int .i64 x.d.n, .int .i64 x.d.ak, .int .i64 x.d.an, .string x.d.ky, .string x.d.tt, .int .u64 x.d.at_, .int .i64 x.d.am, x.ov]
theorem evE_len (x : EvX) : (evE x).length = 10 := rfl
instance : Inhabited EvX := ⟨⟨⟨0, 0, 0, 0, 0, ⟨#[]⟩, ⟨#[]⟩, 0, 0, []⟩, .slice none 0 0⟩⟩
/-- What is known of a step that came in. -/
structure EvS (d : EvD) : Prop where
  ts : 0 ≤ d.at_ ∧ d.at_ < 18446744073709551616
  ky : d.ky.size ≤ 1048576
  tt : d.tt.size ≤ 1048576
  ops : ∀ o ∈ d.ops, o.1.size ≤ 1048576 ∧ o.2.1.size ≤ 1048576
structure EvOk (w : World) (x : EvX) : Prop where
  sl : SliceOf opE 3 w x.ov x.d.ops
  s : EvS x.d
/-- The first error of steps; all their bytes. -/
def allE : List EvD → Int
  | [] => 0
  | e :: r => if oneE e ≠ 0 then oneE e else allE r
def pcB (e : EvD) : List UInt8 := UInt8.ofNat (oneB e).size :: (oneB e).data.toList
def allB (l : List EvD) : List UInt8 := l.flatMap pcB
def putA (l : List EvD) : ByteArray := if allE l = 0 then ⟨(allB l).toArray⟩ else ⟨#[]⟩
theorem allE_bad {l : List EvD} {i : Nat} {y : EvD} {z : Int} (h : allE (l.drop i) = z) (hy : l[i]? = some y) (hc : oneE y ≠ 0) : oneE y = z := by
  rw [dropA_at hy] at h; unfold allE at h; rwa [if_pos hc] at h
theorem allE_step {l : List EvD} {i : Nat} {y : EvD} {z : Int} (h : allE (l.drop i) = z) (hy : l[i]? = some y) (hc : oneE y = 0) : allE (l.drop (i + 1)) = z := by
  rw [dropA_at hy] at h; unfold allE at h; rwa [if_neg (by simp [hc])] at h
theorem allE_end {l : List EvD} {i : Nat} {z : Int} (h : allE (l.drop i) = z) (hi : l.length ≤ i) : 0 = z := by
  rw [List.drop_eq_nil_of_le hi] at h; simpa [allE] using h
end Go.Proofs.Ytdgboikkgeioeaa

/- Steps of a walk over known slots: rows and blocks of other types lie apart; three results, the first one a struct in a cell. Conditions: none. -/
namespace Go.Proofs.Ytdgboikkgeioeaa
open Go.RowKit
section
variable {P : Program} {n : Nat} {m : List (Nat × Value)} {w x : World} {N : Nat} {T : TypeId} {cs : Array Value}
theorem own_neT {B sz k : Nat} {e : TypeId} {v : Value} {xs : List Value} (h : w.ownsRow B e sz v k xs) (hb : Blk w N T cs) (hT : e ≠ T) : v.ownBlock ≠ some N := fun e1 => by
  rcases h.2 with ⟨rfl, _⟩ | ⟨g, c, cur, rfl, hg, hh, _⟩
  · simp [Value.ownBlock] at e1
  · simp only [Value.ownBlock, Option.some.injEq] at e1
    subst e1
    have := hh.symm.trans hb
    simp only [Option.some.injEq, Obj.cells.injEq] at this
    exact hT this.2.1
theorem row_form {B sz k : Nat} {e : TypeId} {v : Value} {xs : List Value} (h : w.ownsRow B e sz v k xs) : ∃ a n c, v = .slice a n c := by
  rcases h.2 with ⟨rfl, _⟩ | ⟨g, c, cur, rfl, _⟩
  · exact ⟨_, _, _, rfl⟩
  · exact ⟨_, _, _, rfl⟩
end
end Go.Proofs.Ytdgboikkgeioeaa

/- Maps that the call makes: a list of keys and values; lookups, stores, deletes, lengths. Conditions: none. -/
namespace Go.Proofs.Ytdgboikkgeioeaa
open Go.RowKit

section
variable {K : Type} [DecidableEq K]
/-- The place and the value of a key. -/
def lookK (a : K) : List (K × Value) → Nat → Option (Nat × Value)
  | [], _ => none
  | p :: r, i => if a = p.1 then some (i, p.2) else lookK a r (i + 1)
def getK (l : List (K × Value)) (a : K) : Option Value := (lookK a l 0).map (·.2)
theorem lookK_shift (a : K) : ∀ (l : List (K × Value)) (i j : Nat), lookK a l (i + j) = (lookK a l j).map fun p => (i + p.1, p.2)
  | [], _, _ => rfl
  | p :: r, i, j => by
    unfold lookK
    split
    · rfl
    · rw [Nat.add_assoc]; exact lookK_shift a r i (j + 1)
theorem getK_cons (p : K × Value) (l : List (K × Value)) (b : K) : getK (p :: l) b = if b = p.1 then some p.2 else getK l b := by
  simp only [getK, lookK]
  split
  · rfl
  · rw [show (0 : Nat) + 1 = 1 + 0 from rfl, lookK_shift]; cases lookK b l 0 <;> rfl
@[simp] theorem getK_nil (b : K) : getK ([] : List (K × Value)) b = none := rfl
end

section
variable {K : Type}
variable {P : Program} {n : Nat} {m : List (Nat × Value)} {w x : World} {o : Oper} {B : Nat} {l : List (K × Value)} {kv : K → Value} {kt e t : TypeId} {q r : Operand} {a : K}
/-- Block B is a map that holds just these entries. -/
def MapB (kv : K → Value) (w : World) (B : Nat) (l : List (K × Value)) : Prop :=
  ∃ es clock, w.heap[B]? = some (.map es clock) ∧ es.toList.map (fun e => (e.key, e.val)) = l.map (fun p => (kv p.1, p.2)) ∧ (l.map (·.1)).Nodup ∧ (es.toList.map (·.born)).Nodup ∧ ∀ e ∈ es.toList, e.born < clock
theorem MapB.lt (h : MapB kv w B l) : B < w.heap.size := by obtain ⟨_, _, h, _⟩ := h; exact (Array.getElem?_eq_some_iff.1 h).1
theorem MapB.keys (h : MapB kv w B l) : (l.map (·.1)).Nodup := by obtain ⟨_, _, _, _, h, _⟩ := h; exact h
theorem MapB.kept {row : Option Nat} (h : MapB kv w B l) (hg : w.grownBy x row) (hne : row ≠ some B) : MapB kv x B l := by
  obtain ⟨es, c, h1, h2⟩ := h
  exact ⟨es, c, by rw [hg.block B (Array.getElem?_eq_some_iff.1 h1).1 (fun e => hne e.symm)]; exact h1, h2⟩
theorem MapB.below (h : MapB kv w B l) (hb : Below w.heap.size w x) : MapB kv x B l := h.kept (below_grown hb) (by simp)
end

section
variable {K : Type} [DecidableEq K]
variable {P : Program} {n : Nat} {m : List (Nat × Value)} {w x : World} {o : Oper} {B : Nat} {l : List (K × Value)} {kv : K → Value} {kt e t : TypeId} {q r : Operand} {a : K}
end
end Go.Proofs.Ytdgboikkgeioeaa

/- Maps that the call makes, told by a function that says what each key has (a default for those that are not there). Conditions: none. -/
namespace Go.Proofs.Ytdgboikkgeioeaa
open Go.RowKit

section
variable {K V : Type} {P : Program} {n : Nat} {m : List (Nat × Value)} {w x : World} {o : Oper} {B : Nat} {kv : K → Value} {kt e t : TypeId} {q r : Operand} {a : K} {enc : V → Value} {z : V} {g : K → V}

/-- Block B is a map; a key a has g a (z, if it is not there). -/
def MapG [DecidableEq K] (kv : K → Value) (enc : V → Value) (z : V) (w : World) (B : Nat) (g : K → V) : Prop := ∃ l, MapB kv w B l ∧ ∀ a, (getK l a).getD (enc z) = enc (g a)
variable [DecidableEq K]
theorem MapG.lt (h : MapG kv enc z w B g) : B < w.heap.size := by obtain ⟨l, h, _⟩ := h; exact h.lt
theorem MapG.kept {row : Option Nat} (h : MapG kv enc z w B g) (hg : w.grownBy x row) (hne : row ≠ some B) : MapG kv enc z x B g := by
  obtain ⟨l, h1, h2⟩ := h; exact ⟨l, h1.kept hg hne, h2⟩
theorem MapG.below (h : MapG kv enc z w B g) (hb : Below w.heap.size w x) : MapG kv enc z x B g := h.kept (below_grown hb) (by simp)
theorem MapG.row {B' : Nat} {T : TypeId} {sz k : Nat} {v : Value} {xs : List Value} (h : MapG kv enc z w B g) (hr : w.ownsRow B' T sz v k xs) : v.ownBlock ≠ some B := by
  intro e1
  obtain ⟨l, ⟨es, c, h1, _⟩, _⟩ := h
  rcases hr.2 with ⟨rfl, _⟩ | ⟨g1, _, _, rfl, _, hg1, _⟩
  · simp [Value.ownBlock] at e1
  · simp [Value.ownBlock] at e1
    subst e1; rw [h1] at hg1; cases hg1
end
end Go.Proofs.Ytdgboikkgeioeaa

/- Ranges over maps that the call made: what is still to come, whichever comes next. Conditions: none. -/
namespace Go.Proofs.Ytdgboikkgeioeaa
open Go.RowKit Go.ChangeMaps

section
variable {K : Type} {P : Program} {n : Nat} {m : List (Nat × Value)} {w x : World} {o : Oper} {B r : Nat} {l left : List (K × Value)} {kv : K → Value} {kt e t : TypeId} {q : Operand}
/-- Block r ranges over the map at B; left is still to come. -/
def IterB (kv : K → Value) (w : World) (r B : Nat) (left : List (K × Value)) : Prop :=
  ∃ es clock since seen c0, w.heap[B]? = some (.map es clock) ∧ w.heap[r]? = some (.mapIter (some B) since seen c0) ∧ since ≤ c0 ∧ c0 = clock ∧ (∀ e ∈ es.toList, e.born < since) ∧ (es.toList.map (·.born)).Nodup ∧
    (es.toList.filter fun e => !seen.contains e.born).map (fun e => (e.key, e.val)) = left.map (fun p => (kv p.1, p.2))
theorem IterB.lt (h : IterB kv w r B left) : r < w.heap.size := by obtain ⟨_, _, _, _, _, _, h, _⟩ := h; exact (Array.getElem?_eq_some_iff.1 h).1
theorem IterB.kept {row : Option Nat} (h : IterB kv w r B left) (hg : w.grownBy x row) (h1 : row ≠ some B) (h2 : row ≠ some r) : IterB kv x r B left := by
  obtain ⟨es, c, s, sn, c0, a1, a2, a3⟩ := h
  exact ⟨es, c, s, sn, c0, by rw [hg.block B (Array.getElem?_eq_some_iff.1 a1).1 (fun e => h1 e.symm)]; exact a1, by rw [hg.block r (Array.getElem?_eq_some_iff.1 a2).1 (fun e => h2 e.symm)]; exact a2, a3⟩
theorem IterB.row {B' : Nat} {T : TypeId} {sz k : Nat} {v : Value} {xs : List Value} (h : IterB kv w r B left) (hr : w.ownsRow B' T sz v k xs) : v.ownBlock ≠ some B ∧ v.ownBlock ≠ some r := by
  obtain ⟨es, c, s, sn, c0, a1, a2, _⟩ := h
  rcases hr.2 with ⟨rfl, _⟩ | ⟨g1, _, _, rfl, _, hg1, _⟩
  · simp [Value.ownBlock]
  · constructor
    · intro e1
      simp [Value.ownBlock] at e1
      subst e1; rw [a1] at hg1; cases hg1
    · intro e1
      simp [Value.ownBlock] at e1
      subst e1; rw [a2] at hg1; cases hg1
end
end Go.Proofs.Ytdgboikkgeioeaa

/- Maps that the call made, told by a function: what a key has, if anything; and ranges over them. Conditions: none. -/
namespace Go.Proofs.Ytdgboikkgeioeaa
open Go.RowKit

section
variable {K V : Type} [DecidableEq K] {P : Program} {n : Nat} {m : List (Nat × Value)} {w x : World} {o : Oper} {B r c : Nat} {kv : K → Value} {enc : V → Value} {g : K → Option V} {kt e t : TypeId} {q s : Operand} {a : K} {v : V} {left : List (K × V)}
/-- Block B is a map of at most c entries; a key a has g a. -/
def MapO (kv : K → Value) (enc : V → Value) (w : World) (B : Nat) (g : K → Option V) (c : Nat) : Prop := ∃ l, MapB kv w B l ∧ (∀ a, getK l a = (g a).map enc) ∧ l.length ≤ c
theorem MapO.lt (h : MapO kv enc w B g c) : B < w.heap.size := by obtain ⟨l, h, _⟩ := h; exact h.lt
theorem MapO.kept {row : Option Nat} (h : MapO kv enc w B g c) (hg : w.grownBy x row) (hne : row ≠ some B) : MapO kv enc x B g c := by
  obtain ⟨l, h1, h2⟩ := h; exact ⟨l, h1.kept hg hne, h2⟩
theorem MapO.below (h : MapO kv enc w B g c) (hb : Below w.heap.size w x) : MapO kv enc x B g c := h.kept (below_grown hb) (by simp)
theorem MapO.row {B' : Nat} {T : TypeId} {sz k : Nat} {u : Value} {xs : List Value} (h : MapO kv enc w B g c) (hr : w.ownsRow B' T sz u k xs) : u.ownBlock ≠ some B := by
  intro e1
  obtain ⟨l, ⟨es, c', h1, _⟩, _⟩ := h
  rcases hr.2 with ⟨rfl, _⟩ | ⟨g1, _, _, rfl, _, hg1, _⟩
  · simp [Value.ownBlock] at e1
  · simp [Value.ownBlock] at e1
    subst e1; rw [h1] at hg1; cases hg1
theorem MapO.eq {g' : K → Option V} {c' : Nat} (h : MapO kv enc w B g c) (hg : g = g') (hc : c ≤ c') : MapO kv enc w B g' c' := by
  subst hg; obtain ⟨l, h1, h2, h3⟩ := h; exact ⟨l, h1, h2, Nat.le_trans h3 hc⟩
/-- lt holds just what g has. -/
def Full (g : K → Option V) (lt : List (K × V)) : Prop := (lt.map (·.1)).Nodup ∧ ∀ a v, g a = some v ↔ (a, v) ∈ lt
theorem getK_mem : ∀ (l : List (K × Value)) (a : K) (u : Value), (l.map (·.1)).Nodup → (getK l a = some u ↔ (a, u) ∈ l)
  | [], a, u, _ => by simp
  | p :: r, a, u, h => by
    rw [List.map_cons, List.nodup_cons] at h
    have ih := getK_mem r a u h.2
    rw [getK_cons]
    by_cases e1 : a = p.1
    · rw [if_pos e1]
      constructor
      · intro h1
        have : p.2 = u := Option.some.inj h1
        exact List.mem_cons.2 (.inl (Prod.ext e1 this.symm))
      · intro h1
        rcases List.mem_cons.1 h1 with h2 | h2
        · rw [← h2]
        · exact absurd (e1 ▸ List.mem_map_of_mem (f := (·.1)) h2) h.1
    · rw [if_neg e1, ih]
      constructor
      · exact fun h1 => List.mem_cons_of_mem _ h1
      · intro h1
        rcases List.mem_cons.1 h1 with h2 | h2
        · exact absurd (by rw [← h2]) e1
        · exact h2
omit [DecidableEq K] in
theorem typed_list (g : K → Option V) (enc : V → Value) : ∀ (l : List (K × Value)), (∀ p ∈ l, (g p.1).map enc = some p.2) → ∃ lt : List (K × V), l = lt.map (fun p => (p.1, enc p.2)) ∧ ∀ p ∈ lt, g p.1 = some p.2
  | [], _ => ⟨[], rfl, by simp⟩
  | p :: r, h => by
    obtain ⟨lt, h1, h2⟩ := typed_list g enc r (fun y hy => h y (List.mem_cons_of_mem _ hy))
    have hp := h p (by simp)
    cases hg : g p.1 with
    | none => rw [hg] at hp; cases hp
    | some v =>
      rw [hg] at hp
      have hv : enc v = p.2 := Option.some.inj hp
      refine ⟨(p.1, v) :: lt, by rw [List.map_cons, ← h1, hv], fun y hy => ?_⟩
      rcases List.mem_cons.1 hy with rfl | hy
      · exact hg
      · exact h2 y hy
theorem MapO.list (h : MapO kv enc w B g c) : ∃ lt : List (K × V), MapB kv w B (lt.map fun p => (p.1, enc p.2)) ∧ Full g lt ∧ lt.length ≤ c := by
  obtain ⟨l, h1, h2, h3⟩ := h
  have hn := h1.keys
  obtain ⟨lt, e1, e2⟩ := typed_list g enc l (fun p hp => by rw [← h2]; exact (getK_mem l p.1 p.2 hn).2 hp)
  subst e1
  have hn' : (lt.map (·.1)).Nodup := by rw [List.map_map] at hn; exact hn
  refine ⟨lt, h1, ⟨hn', fun a v => ⟨fun hg => ?_, fun hm => e2 _ hm⟩⟩, by simpa using h3⟩
  have h4 := h2 a
  rw [hg] at h4
  have h5 := (getK_mem _ a (enc v) hn).1 h4
  obtain ⟨p, hp, hq⟩ := List.mem_map.1 h5
  have e3 : p.1 = a := (Prod.mk.inj hq).1
  have e4 := e2 p hp
  rw [e3, hg] at e4
  have : v = p.2 := Option.some.inj e4
  rw [← e3, this]; exact hp
/-- A range over it, what is still to come told as keys and values. -/
def IterO (kv : K → Value) (enc : V → Value) (w : World) (r B : Nat) (left : List (K × V)) : Prop := IterB kv w r B (left.map fun p => (p.1, enc p.2))
omit [DecidableEq K] in
theorem IterO.lt (h : IterO kv enc w r B left) : r < w.heap.size := IterB.lt h
omit [DecidableEq K] in
theorem IterO.kept {row : Option Nat} (h : IterO kv enc w r B left) (hg : w.grownBy x row) (h1 : row ≠ some B) (h2 : row ≠ some r) : IterO kv enc x r B left := IterB.kept h hg h1 h2
omit [DecidableEq K] in
theorem IterO.row {B' : Nat} {T : TypeId} {sz k : Nat} {u : Value} {xs : List Value} (h : IterO kv enc w r B left) (hr : w.ownsRow B' T sz u k xs) : u.ownBlock ≠ some B ∧ u.ownBlock ≠ some r := IterB.row h hr
end
section
variable {P : Program} {n : Nat} {m : List (Nat × Value)} {w : World} {o : Oper}
end
end Go.Proofs.Ytdgboikkgeioeaa

/- Steps of a walk over an object's own parts: effects upon a set of blocks, appends that tell where the row went, bytes, maps looked up, rows and maps cleared. Conditions: none. -/
namespace Go.Proofs.Ytdgboikkgeioeaa
open Go.RowKit

section
variable {P : Program} {n : Nat} {m : List (Nat × Value)} {w x w0 : World} {o : Oper} {N : Nat} {T : TypeId} {cs : Array Value} {S : Nat → Prop} {v u : Value} {k : Nat}
/-- Where a row lies: in S, or it was made since a world of n blocks. -/
def InS (S : Nat → Prop) (n : Nat) (v : Value) : Prop := ∀ k, v.ownBlock = some k → S k ∨ n ≤ k
/-- The row stayed in its block, or went into a new one. -/
def Went (w : World) (v u : Value) : Prop := u.ownBlock = v.ownBlock ∨ ∀ k, u.ownBlock = some k → w.heap.size ≤ k
theorem InS.went (h : InS S k v) (hf : Went w v u) (hn : k ≤ w.heap.size) : InS S k u := fun i hi => by
  rcases hf with e | e
  · exact h i (e ▸ hi)
  · exact .inr (Nat.le_trans hn (e i hi))
theorem InS.nil : InS S k (.slice none 0 0) := fun i hi => by simp [Value.ownBlock] at hi
theorem InS.of (h : ∀ i, v.ownBlock = some i → S i) : InS S k v := fun i hi => .inl (h i hi)
theorem strOfNums_bytesU (l : List UInt8) : strOfNums (l.map fun b => ((b.toNat : Nat) : Int)) = ⟨l.toArray⟩ := by
  apply ByteArray.ext
  apply Array.toList_inj.1
  rw [strOfNums_data, List.map_map]
  show _ = l
  have : ((fun n : Int => UInt8.ofNat n.toNat) ∘ fun b : UInt8 => ((b.toNat : Nat) : Int)) = id := by
    funext b
    simp
  rw [this, List.map_id]
/-- Bytes. -/
def u8E (b : UInt8) : List Value := [.int .u8 ((b.toNat : Nat) : Int)]
theorem flat_u8 : ∀ l : List UInt8, l.flatMap u8E = l.map fun b => Value.int .u8 ((b.toNat : Nat) : Int)
  | [] => rfl
  | b :: r => by rw [List.flatMap_cons, List.map_cons, flat_u8 r]; rfl
theorem strCells_flat (s : ByteArray) : Lib.strCells s = s.data.toList.flatMap u8E := by rw [flat_u8]; rfl
theorem op_appendStrF {sl q : Operand} {t t' : TypeId} (ho : o.op = .call { callee := .builtin .append, args := #[sl, q], argTypes := #[t, t'] })
    (base : Nat) (e : TypeId) (ht : P.underlying t = some (.slice e)) (hu : P.underlying t' = some .string) (hi : (P.info? e).map (fun i => (i.zero, i.size, i.bytes)) = some (some (.int .u8 0), 1, 1))
    {l : List UInt8} (hs : ev m sl = some v) (hown : w.ownsRow base e 1 v l.length (l.flatMap u8E)) {s : ByteArray} (hx : ev m q = some (.string s))
    (h63 : l.length + s.size ≤ 140737488355328) (hbase : base ≤ w.heap.size) :
    Op1 P n m o w (fun u x => x.ownsRow base e 1 u (l ++ s.data.toList).length ((l ++ s.data.toList).flatMap u8E) ∧ Went w v u ∧ w.grownBy x v.ownBlock) := by
  intro a ha K Q hN
  obtain ⟨i0, hii, hz0, hz1, hz2⟩ := info_parts hi
  obtain ⟨v', w', hr, h2, h3, h4⟩ := run_append_str_fresh (P := P) w base t t' o.type e i0 ht hu hii hz0 hz1 hz2 v l.length (l.flatMap u8E) hown s (by unfold maxLen; omega) h63 hbase
  unfold Oper.wp execOp
  simp only [ho, resolve, invoke, builtin, Sem.run_bind, Sem.run_pure, Result.andThen_ok, List.map_toArray, List.map_cons, List.map_nil, ha.ev hs, ha.ev hx, hr]
  refine hN _ _ ⟨?_, h4, h3⟩
  rw [List.length_append, List.flatMap_append, ← strCells_flat]
  have e1 : s.data.toList.length = s.size := rfl
  rw [e1]; exact h2
theorem rn_addStr {T T' : TypeId} {q r : Operand} {a b : ByteArray} (ho : o.op = .binOp .add T q r T') (hq : ev m q = some (.string a)) (hr : ev m r = some (.string b)) (h : a.size + b.size ≤ 9223372036854775807) : (execOp (lk m) o).run P w = .ok (.value (.string (a ++ b))) w := by
  have h0 := run_string_add_sum (P := P) w a b h
  unfold execOp
  simp only [ho, lk_ev hq, lk_ev hr]
  simp [eqGuard, binOp, h0]
theorem rn_convOwn {src dst e : TypeId} {q : Operand} {l : List UInt8} {base : Nat} (ho : o.op = .convert src dst q) (hq : ev m q = some v) (hs : P.underlying src = some (.slice e)) (he : P.underlying e = some (.int .u8)) (hd : P.underlying dst = some .string)
    (h : w.ownsRow base e 1 v l.length (l.flatMap u8E)) : (execOp (lk m) o).run P w = .ok (.value (.string ⟨l.toArray⟩)) w := by
  have hrun : (convert src dst v).run P w = .ok (.string ⟨l.toArray⟩) w := by
    rcases h.2 with ⟨rfl, h0⟩ | ⟨g, cap, cur, rfl, hbg, hg, hnc, hcm, hcs, htake⟩
    · have := run_convert_bytes_nil (P := P) (w := w) src e hs he 0 0 dst hd
      obtain rfl : l = [] := List.eq_nil_of_length_eq_zero h0
      exact this
    · rw [← strOfNums_bytesU]
      refine run_convert_bytes_arg w src e hs he g 0 l.length cap _ (by simp) (fun i hi => ?_) dst hd
      have hc := h.cells (g := g) rfl i (.int .u8 ((l[i].toNat : Nat) : Int)) (by rw [flat_u8, List.getElem?_map, List.getElem?_eq_getElem hi]; rfl)
      rw [Addr.add_lit] at hc
      rw [hc]; simp [List.getD, hi]
  unfold execOp
  simp only [ho, lk_ev hq, Sem.run_bind, hrun, Result.andThen_ok, Sem.run_pure]
end
section
variable {K V : Type} [DecidableEq K] {P : Program} {n : Nat} {m : List (Nat × Value)} {w x : World} {o : Oper} {B r c : Nat} {kv : K → Value} {enc : V → Value} {g : K → Option V} {kt e t : TypeId} {q s : Operand} {a : K} {v : V}
end
section
variable {P : Program} {n : Nat} {m : List (Nat × Value)} {w : World} {o : Oper} {v : Value} {α : Type} {enc : α → List Value} {l : List α} {sz base : Nat} {T : TypeId}
end
end Go.Proofs.Ytdgboikkgeioeaa

/- Stores into a part of a block; boxes of an opaque value. Conditions: none. -/
namespace Go.Proofs.Ytdgboikkgeioeaa
open Go.RowKit

section
variable {P : Program} {n : Nat} {m : List (Nat × Value)} {w x w0 : World} {o : Oper} {N : Nat} {T : TypeId} {cs : Array Value} {S : Nat → Prop}
theorem op_storePart {t : TypeId} {p q : Operand} {cells cs' : Array Value} {k : Nat} (ho : o.op = .store t p q) (hp : ev m p = some (.pointer (some ⟨N, k, none⟩))) (hq : ev m q = some (.agg cells)) (h1 : cells.all (·.oneCell') = true) (hi : (P.info? t).map (·.size) = some cells.size)
    (hb : Blk w N T cs) (hk : Nat.ble (k + cells.size) cs.size = true) (he : (cs.toList.take k ++ cells.toList ++ cs.toList.drop (k + cells.size)).toArray = cs') : Op1 P n m o w (fun _ x => Blk x N T cs' ∧ x.heap.size = w.heap.size ∧ w.grownBy x (some N)) := by
  intro a ha K Q hN
  have hk' : k + cells.size ≤ cs.size := by simpa using hk
  have hthere : w.there N k cells.size := fun j hj => ⟨by rw [hb.cell (k := k + j) (v := cs[k + j]'(by omega)) (by rw [Array.getElem?_eq_getElem])]; rfl, hb.frozen _⟩
  refine wp_store_mid t p q ho N k cells (ha.ev hp) (ha.ev hq) hthere hi h1 (hN _ _ ⟨?_, ?_, ?_⟩)
  · have := setCells_blk cells.toList w cs k hb (by simpa using hk')
    simp only [Array.length_toList] at this
    rw [he] at this; exact this
  · have hsz : ∀ (vs : List Value) (k : Nat) (w : World), (w.setCells N k vs).heap.size = w.heap.size := by
      intro vs
      induction vs with
      | nil => intro k w; rfl
      | cons v r ih => intro k w; rw [World.setCells, ih]; simp [World.setCell]
    exact hsz _ _ _
  · have hg : ∀ (vs : List Value) (k : Nat) (w : World), w.grownBy (w.setCells N k vs) (some N) := by
      intro vs
      induction vs with
      | nil => intro k w; exact World.grownBy.refl _ _
      | cons v r ih => intro k w; rw [World.setCells]; exact (grown_setCell w N k v).trans (ih _ _)
    exact hg _ _ _
end
end Go.Proofs.Ytdgboikkgeioeaa
