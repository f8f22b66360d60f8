/- Put together: WireRNb, WireTNb, ObjNb, OpsANb, OpsBNb, WireVbNb, EatsNb, OpsDNb, ScrANb, PexTNb, MapNb, MapCNb, MapRNb, MapONb, PexUNb, PexVNb, ScrBNb, ScrCNb, PexPNb, ObjBNb. Conditions: as each says. -/
import Derived.Test.YtdgboikkgeioeaaNd1
import Derived.PlainAid
import Derived.Laws.StructEq
import Derived.StringKeys
import Derived.Maps.RangeRun
import Derived.MapKept
import Derived.OwnWalk
import Derived.Laws.BytesArg
import Derived.LoopN
/- Package catenaref02: a Reader's Text, whole. Conditions: texts of at most 2^63-1 bytes. -/
namespace Go.Proofs.Ytdgboikkgeioeaa
open Go.RowKit Go.PlainAid

set_option maxRecDepth 100000 in
set_option maxHeartbeats 1600000 in
theorem xrText_err (b : Nat) (s : ByteArray) (a x m x2 : Int) (w : World) (h : XRd w b s a x) (hs : s.size ≤ 9223372036854775807) (hx2 : x2 ≠ 0) (hB : (bigR s a x).2.2 = x2) :
    Calls Try.prog 86 #[.pointer (some ⟨b, 0, none⟩), .int .i64 m] w fun e w' => e = .returned (.string ⟨#[]⟩) ∧ XRE w' b s a x2 ∧ But (Own b) w w' := by
  have H := Lib.hid h
  have HX := Lib.hid hx2
  have HB0 := Lib.hid hB
  have hn1 : (x2 == 0) = false := by simp [hx2]
  have hn2 : (x2 != 0) = true := by simp [hx2]
  clear h hx2 hB
  go_enter Try.func86, Try.ntmps86
  go_wp2_with fail
  refine (xrBig_any b s a x _ H.out hs).mono ?_
  rintro e w1 ⟨rfl, hm, hb⟩
  rw [HB0.out] at hm
  obtain ⟨a', hm⟩ := XRE.err HX.out hm
  have HM := Lib.hid hm; have HB := Lib.hid hb
  have c1 := hm.err
  clear hm hb
  go_wp2_with fail
  go_quiet (fail)
  go_wp2
  go_ret
  exact ⟨rfl, XRE.bad HX.out (HM.out.below (below_draws (Below.refl _ _) _)), HB.out.draws _⟩
set_option maxRecDepth 100000 in
set_option maxHeartbeats 1600000 in
theorem xrText_long (b : Nat) (s : ByteArray) (a m g1 g2 : Int) (w : World) (h : XRd w b s a 0) (hs : s.size ≤ 9223372036854775807) (hm1 : m ≤ 9223372036854775807) (hB : bigR s a 0 = (g1, g2, 0)) (hmm : m < 0 ∨ (0 ≤ m ∧ m < g1)) :
    Calls Try.prog 86 #[.pointer (some ⟨b, 0, none⟩), .int .i64 m] w fun e w' => e = .returned (.string ⟨#[]⟩) ∧ XRE w' b s g2 3 ∧ But (Own b) w w' := by
  have H := Lib.hid h
  have HB0 := Lib.hid hB
  clear h hB
  rcases hmm with h2 | ⟨h2, h3⟩
  · go_enter Try.func86, Try.ntmps86
    go_wp2_with fail
    refine (xrBig_any b s a 0 _ H.out hs).mono ?_
    rintro e w1 ⟨rfl, hm, hb⟩
    rw [HB0.out] at hm ⊢
    have c1 := hm.ok.err; have z1 := hm.ok.fr2
    have HF := Lib.hid (hm.ok.setErr 3)
    have HB := Lib.hid (hb.setCell (p := ⟨b, 2, none⟩) (fun _ => rfl) (.int .i64 3))
    clear hm hb
    go_wp2_with fail
    go_quiet (fail)
    go_wp2
    go_ret
    exact ⟨rfl, XRE.bad (by decide) (HF.out.below (below_draws (Below.refl _ _) _)), HB.out.draws _⟩
  · have hwm : IntKind.u64.wrap m = m := u64_nonneg h2 (by omega)
    have h0 : ¬ m < 0 := by omega
    go_enter Try.func86, Try.ntmps86
    go_wp2_with fail
    refine (xrBig_any b s a 0 _ H.out hs).mono ?_
    rintro e w1 ⟨rfl, hm, hb⟩
    rw [HB0.out] at hm ⊢
    have c1 := hm.ok.err; have z1 := hm.ok.fr2
    have HF := Lib.hid (hm.ok.setErr 3)
    have HB := Lib.hid (hb.setCell (p := ⟨b, 2, none⟩) (fun _ => rfl) (.int .i64 3))
    clear hm hb
    go_wp2_with fail
    go_quiet (fail)
    go_wp2
    go_ret
    exact ⟨rfl, XRE.bad (by decide) (HF.out.below (below_draws (Below.refl _ _) _)), HB.out.draws _⟩
set_option maxRecDepth 100000 in
set_option maxHeartbeats 1600000 in
theorem xrText_short (b : Nat) (s : ByteArray) (a m : Int) (n a2 : Nat) (w : World) (h : XRd w b s a 0) (hs : s.size ≤ 9223372036854775807) (hm1 : m ≤ 9223372036854775807) (hg : bigR s a 0 = ((n : Int), (a2 : Int), 0)) (ha2 : a2 ≤ s.size) (hle : ¬ a2 + n ≤ s.size) (hmn : (n : Int) ≤ m) :
    Calls Try.prog 86 #[.pointer (some ⟨b, 0, none⟩), .int .i64 m] w fun e w' => e = .returned (.string ⟨#[]⟩) ∧ XRE w' b s a2 2 ∧ But (Own b) w w' := by
  have H := Lib.hid h
  clear h
  have h0 : ¬ m < 0 := by omega
  have h3 : ¬ m < (n : Int) := by omega
  have hwm : IntKind.u64.wrap m = m := u64_nonneg (by omega) (by omega)
  have hsub : IntKind.i64.wrap ((s.size : Int) - (a2 : Int)) = (s.size : Int) - (a2 : Int) := IntWalk.i64_in _ ⟨by omega, by omega⟩
  have hwd : IntKind.u64.wrap ((s.size : Int) - (a2 : Int)) = (s.size : Int) - (a2 : Int) := u64_nonneg (by omega) (by omega)
  have h4 : (s.size : Int) - (a2 : Int) < (n : Int) := by omega
  go_enter Try.func86, Try.ntmps86
  go_wp2_with fail
  refine (xrBig_any b s a 0 _ H.out hs).mono ?_
  rintro e w1 ⟨rfl, hm, hb⟩
  rw [hg] at hm ⊢
  have c0 := hm.ok.txt; have c1 := hm.ok.pos; have c2 := hm.ok.err; have z1 := hm.ok.fr2
  have HF := Lib.hid (fun k => ((hm.ok.below (below_draws (Below.refl _ _) k)).setErr 2))
  have HB := Lib.hid (fun k => (hb.draws k).setCell (p := ⟨b, 2, none⟩) (fun _ => rfl) (.int .i64 2))
  clear hm hb
  go_wp2_with fail
  go_quiet (fail)
  go_wp2
  go_ret
  exact ⟨rfl, XRE.bad (by decide) (HF.out _), HB.out _⟩
theorem xrText_any (b : Nat) (s : ByteArray) (a x m : Int) (w : World) (h : XRd w b s a x) (hs : s.size ≤ 9223372036854775807) (hm1 : m ≤ 9223372036854775807) :
    Calls Try.prog 86 #[.pointer (some ⟨b, 0, none⟩), .int .i64 m] w fun e w' => e = .returned (.string (textR s a x m).1) ∧ XRE w' b s (textR s a x m).2.1 (textR s a x m).2.2 ∧ But (Own b) w w' := by
  have weak : ∀ {y a1 a2 : Int} {w' : World}, y ≠ 0 → XRE w' b s a1 y → XRE w' b s a2 y := fun hy hh => by
    obtain ⟨a', h'⟩ := XRE.err hy hh; exact XRE.bad hy h'
  by_cases hx : x = 0
  · subst hx
    rcases hgr : getR s a with ⟨g1, g2, g3⟩
    have hr := getR_range s a
    rw [hgr] at hr
    have hu := upR_of (m := m) (x := 3) hgr
    by_cases he : g3 = 0
    · subst he
      have hB : bigR s a 0 = (g1, g2, 0) := by unfold bigR; rw [if_neg (by simp), hgr, if_pos rfl]
      rw [if_neg (by simp)] at hu
      have hp := getR_pos hgr
      by_cases hmm : m < 0 ∨ m < g1
      · rw [if_pos hmm] at hu
        have hq : textR s a 0 m = (⟨#[]⟩, g2, 3) := by unfold textR; rw [if_neg (by simp), hu, if_pos (by simp)]
        rw [hq]
        exact xrText_long b s a m g1 g2 w h hs hm1 hB (by omega)
      · rw [if_neg hmm] at hu
        obtain ⟨n, rfl⟩ := Int.eq_ofNat_of_zero_le hr
        obtain ⟨a2, rfl⟩ := Int.eq_ofNat_of_zero_le hp.1
        by_cases hle : a2 + n ≤ s.size
        · have hq : textR s a 0 m = (s.extract a2 (a2 + n), (a2 : Int) + n, 0) := by unfold textR; rw [if_neg (by simp), hu, if_neg (by simp), if_neg (by simp only; omega)]; simp
          rw [hq]
          exact (xrText_good b s a m n a2 w h hs hm1 hB hle (by omega)).mono fun e w' ⟨h1, h2, h3⟩ => ⟨h1, XRE.good h2, h3⟩
        · have hq : textR s a 0 m = (⟨#[]⟩, (a2 : Int), 2) := by unfold textR; rw [if_neg (by simp), hu, if_neg (by simp), if_pos (by simp only; omega)]
          rw [hq]
          exact xrText_short b s a m n a2 w h hs hm1 hB (by omega) hle (by omega)
    · have hB : (bigR s a 0).2.2 = g3 := by unfold bigR; rw [if_neg (by simp), hgr]
      rw [if_pos he] at hu
      have hq : textR s a 0 m = (⟨#[]⟩, a, g3) := by unfold textR; rw [if_neg (by simp), hu, if_pos he]
      rw [hq]
      exact xrText_err b s a 0 m g3 w h hs he hB
  · have hq : textR s a x m = (⟨#[]⟩, a, x) := by unfold textR; rw [if_pos hx]
    rw [hq]
    exact xrText_err b s a x m x w h hs hx (by unfold bigR; rw [if_pos hx])
end Go.Proofs.Ytdgboikkgeioeaa

/- Package wire and the document's Reader: every call, behind an error or not. Conditions: texts of at most 2^63-1 bytes. -/
namespace Go.Proofs.Ytdgboikkgeioeaa
open Go.RowKit Go.PlainAid

theorem RE.err {w : World} {b : Nat} {s : ByteArray} {a x : Int} (hx : x ≠ 0) (h : RE w b s a x) : ∃ a', Rd w b s a' x := by unfold RE at h; rw [if_neg hx] at h; exact h
theorem RE.below {w w' : World} {b : Nat} {s : ByteArray} {a x : Int} (h : RE w b s a x) (hb : Below w.heap.size w w') : RE w' b s a x := by
  by_cases hx : x = 0
  · subst hx; exact RE.good (h.ok.below hb)
  · obtain ⟨a', h'⟩ := RE.err hx h; exact RE.bad hx (h'.below hb)
theorem RE.but {S : Nat → Prop} {w w' : World} {b : Nat} {s : ByteArray} {a x : Int} (h : RE w b s a x) (hb : But S w w') (hs : ¬ S b) : RE w' b s a x := by
  by_cases hx : x = 0
  · subst hx; exact RE.good (h.ok.but hb hs)
  · obtain ⟨a', h'⟩ := RE.err hx h; exact RE.bad hx (h'.but hb hs)
theorem RE.weak {w : World} {b : Nat} {s : ByteArray} {a a2 x : Int} (hx : x ≠ 0) (h : RE w b s a x) : RE w b s a2 x := by
  obtain ⟨a', h'⟩ := RE.err hx h; exact RE.bad hx h'
theorem RE.lt {w : World} {b : Nat} {s : ByteArray} {a x : Int} (h : RE w b s a x) : b < w.heap.size := by
  by_cases hx : x = 0
  · subst hx; exact h.ok.lt
  · obtain ⟨a', h'⟩ := RE.err hx h; exact h'.lt
theorem XRE.below {w w' : World} {b : Nat} {s : ByteArray} {a x : Int} (h : XRE w b s a x) (hb : Below w.heap.size w w') : XRE w' b s a x := by
  by_cases hx : x = 0
  · subst hx; exact XRE.good (h.ok.below hb)
  · obtain ⟨a', h'⟩ := XRE.err hx h; exact XRE.bad hx (h'.below hb)
theorem XRE.but {S : Nat → Prop} {w w' : World} {b : Nat} {s : ByteArray} {a x : Int} (h : XRE w b s a x) (hb : But S w w') (hs : ¬ S b) : XRE w' b s a x := by
  by_cases hx : x = 0
  · subst hx; exact XRE.good (h.ok.but hb hs)
  · obtain ⟨a', h'⟩ := XRE.err hx h; exact XRE.bad hx (h'.but hb hs)
theorem XRE.weak {w : World} {b : Nat} {s : ByteArray} {a a2 x : Int} (hx : x ≠ 0) (h : XRE w b s a x) : XRE w b s a2 x := by
  obtain ⟨a', h'⟩ := XRE.err hx h; exact XRE.bad hx h'
theorem XRE.cell {w : World} {b : Nat} {s : ByteArray} {a x : Int} (h : XRE w b s a x) : w.cell? ⟨b, 2, none⟩ = some (.int .i64 x) := by
  by_cases hx : x = 0
  · subst hx; exact h.ok.err
  · obtain ⟨a', h'⟩ := XRE.err hx h; exact h'.err
theorem numR_err {s : ByteArray} {a x m : Int} (hx : x ≠ 0) : numR s a x m = (0, a, x) := by unfold numR; rw [if_pos hx]
theorem bigR_err {s : ByteArray} {a x : Int} (hx : x ≠ 0) : bigR s a x = (0, a, x) := by unfold bigR; rw [if_pos hx]
theorem textR_err {s : ByteArray} {a x m : Int} (hx : x ≠ 0) : textR s a x m = (⟨#[]⟩, a, x) := by unfold textR; rw [if_pos hx]
theorem flagR_err {s : ByteArray} {a : Nat} {x : Int} (hx : x ≠ 0) : flagR s a x = (false, (a : Int), x) := by unfold flagR; rw [if_pos hx]

theorem rNum_re (b : Nat) (s : ByteArray) (a x m : Int) (w : World) (h : RE w b s a x) (hs : s.size ≤ 9223372036854775807) (hm : m ≤ 9223372036854775807) :
    Calls Try.prog 113 #[.pointer (some ⟨b, 0, none⟩), .int .i64 m] w fun e w' => e = .returned (.int .i64 (numR s a x m).1) ∧ RE w' b s (numR s a x m).2.1 (numR s a x m).2.2 ∧ But (Own b) w w' := by
  by_cases hx : x = 0
  · subst hx; exact rNum_any b s a 0 m w h.ok hs hm
  · obtain ⟨a', h'⟩ := RE.err hx h
    refine (rNum_any b s a' x m w h' hs hm).mono ?_
    rw [numR_err hx, numR_err hx]
    exact fun e w' ⟨h1, h2, h3⟩ => ⟨h1, RE.weak hx h2, h3⟩
theorem rBig_re (b : Nat) (s : ByteArray) (a x : Int) (w : World) (h : RE w b s a x) (hs : s.size ≤ 9223372036854775807) :
    Calls Try.prog 115 #[.pointer (some ⟨b, 0, none⟩)] w fun e w' => e = .returned (.int .u64 (bigR s a x).1) ∧ RE w' b s (bigR s a x).2.1 (bigR s a x).2.2 ∧ But (Own b) w w' := by
  by_cases hx : x = 0
  · subst hx; exact rBig_any b s a 0 w h.ok hs
  · obtain ⟨a', h'⟩ := RE.err hx h
    refine (rBig_any b s a' x w h' hs).mono ?_
    rw [bigR_err hx, bigR_err hx]
    exact fun e w' ⟨h1, h2, h3⟩ => ⟨h1, RE.weak hx h2, h3⟩
theorem rText_re (b : Nat) (s : ByteArray) (a x m : Int) (w : World) (h : RE w b s a x) (hs : s.size ≤ 9223372036854775807) (hm : m ≤ 9223372036854775807) :
    Calls Try.prog 116 #[.pointer (some ⟨b, 0, none⟩), .int .i64 m] w fun e w' => e = .returned (.string (textR s a x m).1) ∧ RE w' b s (textR s a x m).2.1 (textR s a x m).2.2 ∧ But (Own b) w w' := by
  by_cases hx : x = 0
  · subst hx; exact rText_any b s a 0 m w h.ok hs hm
  · obtain ⟨a', h'⟩ := RE.err hx h
    refine (rText_any b s a' x m w h' hs hm).mono ?_
    rw [textR_err hx, textR_err hx]
    exact fun e w' ⟨h1, h2, h3⟩ => ⟨h1, RE.weak hx h2, h3⟩
theorem xrNum_re (b : Nat) (s : ByteArray) (a x m : Int) (w : World) (h : XRE w b s a x) (hs : s.size ≤ 9223372036854775807) (hm : m ≤ 9223372036854775807) :
    Calls Try.prog 84 #[.pointer (some ⟨b, 0, none⟩), .int .i64 m] w fun e w' => e = .returned (.int .i64 (numR s a x m).1) ∧ XRE w' b s (numR s a x m).2.1 (numR s a x m).2.2 ∧ But (Own b) w w' := by
  by_cases hx : x = 0
  · subst hx; exact xrNum_any b s a 0 m w h.ok hs hm
  · obtain ⟨a', h'⟩ := XRE.err hx h
    refine (xrNum_any b s a' x m w h' hs hm).mono ?_
    rw [numR_err hx, numR_err hx]
    exact fun e w' ⟨h1, h2, h3⟩ => ⟨h1, XRE.weak hx h2, h3⟩
theorem xrBig_re (b : Nat) (s : ByteArray) (a x : Int) (w : World) (h : XRE w b s a x) (hs : s.size ≤ 9223372036854775807) :
    Calls Try.prog 85 #[.pointer (some ⟨b, 0, none⟩)] w fun e w' => e = .returned (.int .u64 (bigR s a x).1) ∧ XRE w' b s (bigR s a x).2.1 (bigR s a x).2.2 ∧ But (Own b) w w' := by
  by_cases hx : x = 0
  · subst hx; exact xrBig_any b s a 0 w h.ok hs
  · obtain ⟨a', h'⟩ := XRE.err hx h
    refine (xrBig_any b s a' x w h' hs).mono ?_
    rw [bigR_err hx, bigR_err hx]
    exact fun e w' ⟨h1, h2, h3⟩ => ⟨h1, XRE.weak hx h2, h3⟩
theorem xrText_re (b : Nat) (s : ByteArray) (a x m : Int) (w : World) (h : XRE w b s a x) (hs : s.size ≤ 9223372036854775807) (hm : m ≤ 9223372036854775807) :
    Calls Try.prog 86 #[.pointer (some ⟨b, 0, none⟩), .int .i64 m] w fun e w' => e = .returned (.string (textR s a x m).1) ∧ XRE w' b s (textR s a x m).2.1 (textR s a x m).2.2 ∧ But (Own b) w w' := by
  by_cases hx : x = 0
  · subst hx; exact xrText_any b s a 0 m w h.ok hs hm
  · obtain ⟨a', h'⟩ := XRE.err hx h
    refine (xrText_any b s a' x m w h' hs hm).mono ?_
    rw [textR_err hx, textR_err hx]
    exact fun e w' ⟨h1, h2, h3⟩ => ⟨h1, XRE.weak hx h2, h3⟩
set_option maxRecDepth 100000 in
set_option maxHeartbeats 1600000 in
theorem rFlag_err (b : Nat) (s : ByteArray) (a x : Int) (w : World) (h : Rd w b s a x) (hx : x ≠ 0) :
    Calls Try.prog 117 #[.pointer (some ⟨b, 0, none⟩)] w fun e w' => e = .returned (.bool false) ∧ RE w' b s a x ∧ But (Own b) w w' := by
  have hmf : ∀ (fn : Fn) (first cap : Array Value) (w : World), (Instr.makeFunc fn first cap).run Try.prog w = .ok (.func fn first cap) w := fun _ _ _ _ => rfl
  obtain ⟨W, hW⟩ : ∃ W, W = ((w.alloc (.cells #[.pointer (some ⟨b, 0, none⟩)] 161)).alloc (.cells #[.bool false] 4)) := ⟨_, rfl⟩
  have hl := lay2 w (.pointer (some ⟨b, 0, none⟩)) (.bool false) 161 4
  rw [← hW] at hl
  obtain ⟨l0, l1, l3, l4⟩ := hl
  have H1 := Lib.hid (h.below l0)
  have HB := Lib.hid (But.of_below (S := Own b) l0)
  have hlt := h.lt
  have HW := Lib.hid hW; have M3 := Lib.hid l3
  clear h l0 l1 l3 l4
  go_enter Try.func117, Try.ntmps117
  go_wp2_with fail
  rw [← HW.out]
  refine (take_err b s a x _ _ H1.out hx).mono ?_
  rintro e w1 ⟨rfl, r1⟩
  have c3 := cell_below r1 M3.out
  have R2 : Hid (RE w1 b s a x) := Lib.hid (RE.bad hx (H1.out.below r1))
  have R3 := Lib.hid (HB.out.trans (But.of_below r1))
  clear r1
  go_wp2
  go_ret
  exact ⟨rfl, R2.out, R3.out⟩
set_option maxRecDepth 100000 in
set_option maxHeartbeats 1600000 in
theorem xrFlag_err (b : Nat) (s : ByteArray) (a x : Int) (w : World) (h : XRd w b s a x) (hx : x ≠ 0) :
    Calls Try.prog 87 #[.pointer (some ⟨b, 0, none⟩)] w fun e w' => e = .returned (.bool false) ∧ XRE w' b s a x ∧ But (Own b) w w' := by
  have H := Lib.hid h
  have c2 := h.err
  have hn1 : (x == 0) = false := by simp [hx]
  have hn2 : (x != 0) = true := by simp [hx]
  have HX := Lib.hid hx
  clear h hx
  go_enter Try.func87, Try.ntmps87
  go_wp2_with fail
  go_quiet (fail)
  go_wp2_with fail
  go_quiet (fail)
  go_wp2
  go_ret
  exact ⟨rfl, XRE.bad HX.out (H.out.below (below_draws (Below.refl _ _) _)), (But.refl _ _).draws _⟩
theorem rFlag_re (b : Nat) (s : ByteArray) (a : Nat) (x : Int) (w : World) (h : RE w b s a x) (hs : s.size ≤ 9223372036854775807) (ha : x = 0 → a ≤ s.size) :
    Calls Try.prog 117 #[.pointer (some ⟨b, 0, none⟩)] w fun e w' => e = .returned (.bool (flagR s a x).1) ∧ RE w' b s (flagR s a x).2.1 (flagR s a x).2.2 ∧ But (Own b) w w' := by
  by_cases hx : x = 0
  · subst hx; exact rFlag_any b s a 0 w h.ok hs (ha rfl)
  · obtain ⟨a', h'⟩ := RE.err hx h
    rw [flagR_err hx]
    exact (rFlag_err b s a' x w h' hx).mono fun e w' ⟨h1, h2, h3⟩ => ⟨h1, RE.weak hx h2, h3⟩
theorem xrFlag_re (b : Nat) (s : ByteArray) (a : Nat) (x : Int) (w : World) (h : XRE w b s a x) (hs : s.size ≤ 9223372036854775807) (ha : x = 0 → a ≤ s.size) :
    Calls Try.prog 87 #[.pointer (some ⟨b, 0, none⟩)] w fun e w' => e = .returned (.bool (flagR s a x).1) ∧ XRE w' b s (flagR s a x).2.1 (flagR s a x).2.2 ∧ But (Own b) w w' := by
  by_cases hx : x = 0
  · subst hx; exact xrFlag_any b s a 0 w h.ok hs (ha rfl)
  · obtain ⟨a', h'⟩ := XRE.err hx h
    rw [flagR_err hx]
    exact (xrFlag_err b s a' x w h' hx).mono fun e w' ⟨h1, h2, h3⟩ => ⟨h1, XRE.weak hx h2, h3⟩
def endV (s : ByteArray) (a : Nat) (x : Int) : Int := if x = 0 then (if a < s.size then 4 else 0) else x
theorem err_re (b : Nat) (s : ByteArray) (a x : Int) (w : World) (h : RE w b s a x) :
    Calls Try.prog 114 #[.pointer (some ⟨b, 0, none⟩)] w fun e w' => e = .returned (.int .i64 x) ∧ w = w' := by
  by_cases hx : x = 0
  · subst hx; exact err_made b s a 0 w h.ok
  · obtain ⟨a', h'⟩ := RE.err hx h; exact err_made b s a' x w h'
theorem end_re (b : Nat) (s : ByteArray) (a : Nat) (x : Int) (w : World) (h : RE w b s a x) (hs : s.size ≤ 9223372036854775807) (ha : x = 0 → a ≤ s.size) :
    Calls Try.prog 118 #[.pointer (some ⟨b, 0, none⟩)] w fun e w' => e = .returned (.int .i64 (endV s a x)) ∧ Below w.heap.size w w' := by
  by_cases hx : x = 0
  · subst hx; exact end_ok b s a w h.ok hs (ha rfl)
  · obtain ⟨a', h'⟩ := RE.err hx h
    unfold endV
    rw [if_neg hx]
    exact (end_err b s a' x w h' hx).mono fun e w' ⟨h1, h2⟩ => ⟨h1, h2 ▸ Below.refl _ _⟩
theorem xend_re (b : Nat) (s : ByteArray) (a : Nat) (x : Int) (w : World) (h : XRE w b s a x) (hs : s.size ≤ 9223372036854775807) (ha : x = 0 → a ≤ s.size) :
    Calls Try.prog 88 #[.pointer (some ⟨b, 0, none⟩)] w fun e w' => e = .returned (.int .i64 (endV s a x)) ∧ Below w.heap.size w w' := by
  by_cases hx : x = 0
  · subst hx; exact xrEnd_ok b s a w h.ok hs (ha rfl)
  · obtain ⟨a', h'⟩ := XRE.err hx h
    unfold endV
    rw [if_neg hx]
    exact xrEnd_err b s a' x w h' hx
/-- Where a read leaves the place. -/
theorem getR_at {s : ByteArray} {a : Int} (h : (getR s a).2.2 = 0) : 0 ≤ (getR s a).2.1 ∧ (getR s a).2.1 ≤ s.size := by
  rcases hg : getR s a with ⟨g1, g2, g3⟩
  rw [hg] at h
  simp only at h
  subst h
  exact getR_pos hg
theorem numR_at {s : ByteArray} {a x m : Int} (h : (numR s a x m).2.2 = 0) : 0 ≤ (numR s a x m).2.1 ∧ (numR s a x m).2.1 ≤ s.size := by
  by_cases hx : x = 0
  · subst hx
    have e : numR s a 0 m = ((if (upR s a m 5).2.2 = 0 then (upR s a m 5).1 else 0), (upR s a m 5).2.1, (upR s a m 5).2.2) := by unfold numR; rw [if_neg (by simp)]
    rw [e] at h ⊢
    obtain ⟨n, a2, h1, h2⟩ := upR_good (by decide) h
    rw [h1]; simp only; omega
  · rw [numR_err hx] at h; exact absurd h hx
theorem bigR_at {s : ByteArray} {a x : Int} (h : (bigR s a x).2.2 = 0) : 0 ≤ (bigR s a x).2.1 ∧ (bigR s a x).2.1 ≤ s.size := by
  by_cases hx : x = 0
  · subst hx
    have e : bigR s a 0 = ((if (getR s a).2.2 = 0 then (getR s a).1 else 0), (getR s a).2.1, (getR s a).2.2) := by unfold bigR; rw [if_neg (by simp)]
    rw [e] at h ⊢
    exact getR_at h
  · rw [bigR_err hx] at h; exact absurd h hx
theorem textR_at {s : ByteArray} {a x m : Int} (h : (textR s a x m).2.2 = 0) : 0 ≤ (textR s a x m).2.1 ∧ (textR s a x m).2.1 ≤ s.size := by
  by_cases hx : x = 0
  · subst hx
    unfold textR at h ⊢
    rw [if_neg (by simp)] at h ⊢
    by_cases hu : (upR s a m 3).2.2 = 0
    · rw [if_neg (by simp [hu])] at h ⊢
      obtain ⟨n, a2, h1, h2⟩ := upR_good (by decide) hu
      rw [h1] at h ⊢
      simp only at h ⊢
      split at h
      · simp at h
      · rw [if_neg (by assumption)]; simp only; omega
    · rw [if_pos hu] at h; exact absurd h hu
  · rw [textR_err hx] at h; exact absurd h hx
theorem flagR_at {s : ByteArray} {a : Nat} {x : Int} (ha : x = 0 → a ≤ s.size) (h : (flagR s a x).2.2 = 0) : 0 ≤ (flagR s a x).2.1 ∧ (flagR s a x).2.1 ≤ s.size := by
  by_cases hx : x = 0
  · subst hx
    have := ha rfl
    unfold flagR at h ⊢
    rw [if_neg (by simp)] at h ⊢
    split at h
    · simp at h
    rename_i h1
    rw [if_neg h1]
    split at h
    · simp at h
    rename_i h2
    rw [if_neg h2]
    simp only; omega
  · rw [flagR_err hx] at h; exact absurd h hx
end Go.Proofs.Ytdgboikkgeioeaa

/- Writers and readers that a walk has made: what they hold, what a call on them turns. Conditions: none. -/
namespace Go.Proofs.Ytdgboikkgeioeaa
open Go.RowKit Go.PlainAid
set_option linter.unusedVariables false

section
variable {w x w0 : World} {b N : Nat} {l l' : List UInt8} {m m' : Nat} {e : Int}
theorem but_grown (h : But (Own b) w x) : w.grownBy x (some b) := ⟨h.os, h.tape, h.output, h.size, fun k hk hne => h.block k hk (fun e => hne (by rw [show k = b from e]))⟩
theorem grown_but {row : Option Nat} (h : w.grownBy x row) : But (fun k => row = some k) w x := ⟨h.os, h.tape, h.output, h.size, fun k hk hn => h.block k hk (fun e => hn e.symm)⟩
theorem Wr.lt' {B : Nat} (h : Wr w b B l e) : b < w.heap.size := World.block_lt_of_cell? w _ h.made
theorem Wr.keep {S : Nat → Prop} {B : Nat} (h : Wr w b B l e) (hb : But S w x) (hs : ¬ S b) (hr : ∀ k, rowOf w b = some k → ¬ S k) : Wr x b B l e := by
  have hl := h.lt'
  obtain ⟨v, hc, h1, h2⟩ := h.buf
  have hr' : ∀ k, v.ownBlock = some k → ¬ S k := fun k hk => hr k (by rw [rowOf_cell hc]; exact hk)
  refine ⟨hb.cell hs h.made, hb.cell hs h.err, by rw [hb.frozen hl hs]; exact h.fr1, by rw [hb.frozen hl hs]; exact h.fr2, h.lt, Nat.le_trans h.le hb.size, v, hb.cell hs hc, h1, ?_⟩
  rcases h2 with h2 | ⟨g, cap, cur, hv, hg, hh, r⟩
  · exact Or.inl h2
  · exact Or.inr ⟨g, cap, cur, hv, hg, by rw [hb.block g (Array.getElem?_eq_some_iff.1 hh).1 (hr' g (by rw [hv]; rfl))]; exact hh, r⟩
theorem Wr.row_is {B : Nat} (h : Wr w b B l e) {k : Nat} (hk : rowOf w b = some k) : ∃ cs, w.heap[k]? = some (.cells cs 5 (0, 0)) := by
  obtain ⟨v, hc, h1, h2⟩ := h.buf
  rw [rowOf_cell hc] at hk
  rcases h2 with ⟨hv, _⟩ | ⟨g, cap, cur, hv, hg, hh, r⟩
  · rw [hv] at hk; cases hk
  · rw [hv] at hk
    have : g = k := by simpa [Value.ownBlock] using hk
    subst this; exact ⟨cur, hh⟩
theorem Wr.ne_blk {B : Nat} {T : TypeId} {cs : Array Value} (h : Wr w b B l e) (hk : Blk w N T cs) (hT : T ≠ 5) : rowOf w b ≠ some N := fun e1 => by
  obtain ⟨c, h1⟩ := h.row_is e1
  unfold Blk at hk
  rw [hk] at h1
  injection h1 with h1; injection h1 with h2 h3
  exact hT h3
theorem Wr.ne_row {B B' k sz : Nat} {T : TypeId} {v : Value} {xs : List Value} (h : Wr w b B l e) (hr : w.ownsRow B' T sz v k xs) (hT : T ≠ 5) : ∀ g, v.ownBlock = some g → rowOf w b ≠ some g := fun g hg e1 => by
  obtain ⟨c, h1⟩ := h.row_is e1
  rcases hr.2 with ⟨hv, _⟩ | ⟨g', cap, cur, hv, _, hh, _⟩
  · rw [hv] at hg; cases hg
  · rw [hv] at hg
    have : g' = g := by simpa [Value.ownBlock] using hg
    subst this
    rw [hh] at h1
    injection h1 with h1; injection h1 with h2 h3
    exact hT h3
/-- The program's writer, block b: l, of at most m bytes, and no error. -/
structure OW (b : Nat) (l : List UInt8) (m : Nat) (w : World) : Prop where
  wr : Wr w b (b + 1) l 0
  len : l.length ≤ m
theorem OW.lt (h : OW b l m w) : b < w.heap.size := h.wr.lt'
theorem OW.below (h : OW b l m w) (hb : Below w.heap.size w x) : OW b l m x := ⟨h.wr.below hb, h.len⟩
theorem OW.new (h : OW b l m w) (hg : w.grownBy x none) : OW b l m x := h.below (grown_below hg)
theorem OW.eq (h : OW b l m w) (he : l = l') (hm : m ≤ m') : OW b l' m' w := by subst he; exact ⟨h.wr, Nat.le_trans h.len hm⟩
theorem OW.at {T : TypeId} {cs : Array Value} (h : OW b l m w) (hk : Blk w N T cs) (hT : T ≠ 5) (hne : b ≠ N) (hg : w.grownBy x (some N)) : OW b l m x :=
  ⟨h.wr.keep (grown_but hg) (fun e1 => hne (Option.some.inj e1).symm) (fun k hk' e1 => h.wr.ne_blk hk hT (by rw [hk']; exact e1.symm)), h.len⟩
theorem OW.row {B' k sz : Nat} {T : TypeId} {v : Value} {xs : List Value} (h : OW b l m w) (hr : w.ownsRow B' T sz v k xs) (hT : T ≠ 5) (hne : v.ownBlock ≠ some b) (hg : w.grownBy x v.ownBlock) : OW b l m x :=
  ⟨h.wr.keep (grown_but hg) hne (fun k hk' e1 => h.wr.ne_row hr hT k e1 hk'), h.len⟩
theorem blk_wr {T : TypeId} {cs : Array Value} (hk : Blk w N T cs) (h : OW b l m w) (hT : T ≠ 5) (hne : N ≠ b) (hb : But (Rw w b) w x) : Blk x N T cs := by
  have hl := hk.lt
  unfold Blk at hk ⊢
  rw [hb.block N hl ?_]
  · exact hk
  · rintro (h1 | h1)
    · exact hne h1
    · exact h.wr.ne_blk hk hT h1
theorem row_wr {B' k sz : Nat} {T : TypeId} {v : Value} {xs : List Value} (hr : w.ownsRow B' T sz v k xs) (h : OW b l m w) (hT : T ≠ 5) (hne : v.ownBlock ≠ some b) (hb : But (Rw w b) w x) : x.ownsRow B' T sz v k xs := by
  have hn := h.wr.ne_row hr hT
  obtain ⟨h1, h2⟩ := hr
  refine ⟨h1, ?_⟩
  rcases h2 with h2 | ⟨g, cap, cur, hv, hg, hh, r⟩
  · exact Or.inl h2
  · refine Or.inr ⟨g, cap, cur, hv, hg, ?_, r⟩
    have hvg : v.ownBlock = some g := by rw [hv]; rfl
    rw [hb.block g (Array.getElem?_eq_some_iff.1 hh).1 ?_]
    · exact hh
    · rintro (e1 | e1)
      · exact hne (by rw [hvg, e1])
      · exact hn g hvg e1
theorem hb_wr (h0 : Below w0.heap.size w0 w) (h : OW b l m w) (hlt : w0.heap.size ≤ b) (hb : But (Rw w b) w x) : Below w0.heap.size w0 x :=
  below_but h0 hb h0.size (fun k _ hk => by
    rcases h.wr.only hk with h1 | h1 <;> omega)
theorem sum_le {k q : Nat} (h : l.length ≤ m) (hk : l'.length ≤ k) (hq : q = m + k) : (l ++ l').length ≤ q := by rw [List.length_append]; omega
theorem ow_new (w : World) : Calls Try.prog 69 #[] w fun e w' => ∃ b, e = .returned (.pointer (some ⟨b, 0, none⟩)) ∧ b = w.heap.size ∧ OW b [] 0 w' ∧ Below w.heap.size w w' :=
  (wnew_any w).mono (by
    rintro e x ⟨rfl, hf, hz, hb⟩
    exact ⟨_, rfl, rfl, ⟨hf.wr (Below.refl _ _) (Nat.lt_succ_self _) (by omega), by simp⟩, hb⟩)
theorem ow_num (b : Nat) (l : List UInt8) (m : Nat) (n : Int) (w : World) (h : OW b l m w) (hm : m ≤ 140737488355000) (h0 : 0 ≤ n) (h1 : n ≤ 9223372036854775807) :
    Calls Try.prog 70 #[.pointer (some ⟨b, 0, none⟩), .int .i64 n] w fun e w' => e = .returned (.pointer (some ⟨b, 0, none⟩)) ∧ OW b (l ++ putL n) (m + 9) w' ∧ But (Rw w b) w w' :=
  (wNum_rw b (b + 1) l 0 n w h.wr (Nat.le_trans h.len hm) h1).mono (by
    rintro e x ⟨rfl, hw, hb⟩
    have e1 : wNum n (l, 0) = (l ++ putL n, 0) := by unfold wNum; rw [if_neg (by simp), if_neg (by omega)]
    rw [e1] at hw
    exact ⟨rfl, ⟨hw, sum_le h.len (putL_le n) rfl⟩, hb⟩)
theorem ow_big (b : Nat) (l : List UInt8) (m : Nat) (n : Int) (w : World) (h : OW b l m w) (hm : m ≤ 140737488355000) (h0 : 0 ≤ n) (h1 : n < 18446744073709551616) :
    Calls Try.prog 71 #[.pointer (some ⟨b, 0, none⟩), .int .u64 n] w fun e w' => e = .returned (.pointer (some ⟨b, 0, none⟩)) ∧ OW b (l ++ putL n) (m + 9) w' ∧ But (Rw w b) w w' :=
  (wBig_rw b (b + 1) l 0 n w h.wr (Nat.le_trans h.len hm) h0 h1).mono (by
    rintro e x ⟨rfl, hw, hb⟩
    have e1 : wBig n (l, 0) = (l ++ putL n, 0) := by unfold wBig; rw [if_neg (by simp)]
    rw [e1] at hw
    exact ⟨rfl, ⟨hw, sum_le h.len (putL_le n) rfl⟩, hb⟩)
theorem ow_text (b : Nat) (l : List UInt8) (m : Nat) (s : ByteArray) (w : World) (h : OW b l m w) (hm : m + s.size ≤ 140737488355000) :
    Calls Try.prog 72 #[.pointer (some ⟨b, 0, none⟩), .string s] w fun e w' => e = .returned (.pointer (some ⟨b, 0, none⟩)) ∧ OW b (l ++ (putL (s.size : Int) ++ s.data.toList)) (m + (9 + s.size)) w' ∧ But (Rw w b) w w' :=
  (wText_rw b (b + 1) l 0 s w h.wr (by have := h.len; omega)).mono (by
    rintro e x ⟨rfl, hw, hb⟩
    have e1 : wText s (l, 0) = (l ++ (putL (s.size : Int) ++ s.data.toList), 0) := by unfold wText; rw [if_neg (by simp), List.append_assoc]
    rw [e1] at hw
    exact ⟨rfl, ⟨hw, sum_le h.len (sum_le (putL_le _) (Nat.le_refl _) rfl) (by simp)⟩, hb⟩)
theorem ow_flag (b : Nat) (l : List UInt8) (m : Nat) (f : Bool) (w : World) (h : OW b l m w) (hm : m ≤ 140737488355000) :
    Calls Try.prog 73 #[.pointer (some ⟨b, 0, none⟩), .bool f] w fun e w' => e = .returned (.pointer (some ⟨b, 0, none⟩)) ∧ OW b (l ++ [flagB f]) (m + 1) w' ∧ But (Rw w b) w w' :=
  (wFlag_rw b (b + 1) l 0 f w h.wr (Nat.le_trans h.len hm)).mono (by
    rintro e x ⟨rfl, hw, hb⟩
    have e1 : wFlag f (l, 0) = (l ++ [flagB f], 0) := by unfold wFlag; rw [if_neg (by simp)]
    rw [e1] at hw
    exact ⟨rfl, ⟨hw, sum_le h.len (k := 1) (by simp) rfl⟩, hb⟩)
theorem ow_done (b : Nat) (l : List UInt8) (m : Nat) (w : World) (h : OW b l m w) :
    Calls Try.prog 74 #[.pointer (some ⟨b, 0, none⟩)] w fun e w' => e = .returned (.tuple #[.string ⟨l.toArray⟩, .int .i64 0]) ∧ Below w.heap.size w w' :=
  (wDone_ok b (b + 1) l w h.wr).mono (by rintro e x ⟨rfl, rfl⟩; exact ⟨rfl, Below.refl _ _⟩)
/-- The document's own writer. -/
structure OX (b : Nat) (l : List UInt8) (m : Nat) (w : World) : Prop where
  wr : RWr w b l 0
  len : l.length ≤ m
theorem OX.lt (h : OX b l m w) : b < w.heap.size := h.wr.lt
theorem OX.below (h : OX b l m w) (hb : Below w.heap.size w x) : OX b l m x := ⟨h.wr.below hb, h.len⟩
theorem OX.new (h : OX b l m w) (hg : w.grownBy x none) : OX b l m x := h.below (grown_below hg)
theorem OX.eq (h : OX b l m w) (he : l = l') (hm : m ≤ m') : OX b l' m' w := by subst he; exact ⟨h.wr, Nat.le_trans h.len hm⟩
theorem OX.at (h : OX b l m w) (hne : b ≠ N) (hg : w.grownBy x (some N)) : OX b l m x := ⟨h.wr.but (grown_but hg) (fun e1 => hne (Option.some.inj e1).symm), h.len⟩
theorem OX.row {v : Value} (h : OX b l m w) (hne : v.ownBlock ≠ some b) (hg : w.grownBy x v.ownBlock) : OX b l m x := ⟨h.wr.but (grown_but hg) hne, h.len⟩
end

section
variable {w x : World} {b N : Nat} {s : ByteArray} {a e : Int}
/-- The program's reader: it stands at a (if it has no error), its error is e. -/
structure OR (b : Nat) (s : ByteArray) (a e : Int) (w : World) : Prop where
  re : RE w b s a e
  pos : e = 0 → 0 ≤ a ∧ a ≤ s.size
theorem OR.lt (h : OR b s a e w) : b < w.heap.size := h.re.lt
theorem OR.below (h : OR b s a e w) (hb : Below w.heap.size w x) : OR b s a e x := ⟨h.re.below hb, h.pos⟩
theorem OR.new (h : OR b s a e w) (hg : w.grownBy x none) : OR b s a e x := h.below (grown_below hg)
theorem OR.at (h : OR b s a e w) (hne : b ≠ N) (hg : w.grownBy x (some N)) : OR b s a e x := ⟨h.re.but (grown_but hg) (fun e1 => hne (Option.some.inj e1).symm), h.pos⟩
theorem OR.row {v : Value} (h : OR b s a e w) (hne : v.ownBlock ≠ some b) (hg : w.grownBy x v.ownBlock) : OR b s a e x := ⟨h.re.but (grown_but hg) hne, h.pos⟩
theorem OR.nat (h : OR b s a e w) : RE w b s (a.toNat : Int) e ∧ (e = 0 → a.toNat ≤ s.size) := by
  by_cases he : e = 0
  · have := h.pos he
    have e1 : (a.toNat : Int) = a := by omega
    rw [e1]; exact ⟨h.re, fun _ => by omega⟩
  · exact ⟨h.re.weak he, fun h1 => absurd h1 he⟩
theorem or_open (s : ByteArray) (w : World) : Calls Try.prog 111 #[.string s] w fun e w' => ∃ b, e = .returned (.pointer (some ⟨b, 0, none⟩)) ∧ b = w.heap.size ∧ OR b s 0 0 w' ∧ Below w.heap.size w w' :=
  (open_any s w).mono (by rintro e x ⟨rfl, hr, hb⟩; exact ⟨_, rfl, rfl, ⟨RE.good hr, fun _ => by omega⟩, hb⟩)
theorem upR_le {s : ByteArray} {a m x : Int} (hm : 0 ≤ m) : 0 ≤ (upR s a m x).1 ∧ (upR s a m x).1 ≤ m := by
  have := getR_range s a
  unfold upR
  split
  · exact ⟨Int.le_refl _, hm⟩
  split
  · exact ⟨Int.le_refl _, hm⟩
  · dsimp only; omega
theorem numR_le {s : ByteArray} {a x m : Int} (hm : 0 ≤ m) : 0 ≤ (numR s a x m).1 ∧ (numR s a x m).1 ≤ m := by
  have := upR_le (s := s) (a := a) (x := 5) hm
  unfold numR
  split
  · exact ⟨Int.le_refl _, hm⟩
  · dsimp only; split
    · exact this
    · exact ⟨Int.le_refl _, hm⟩
theorem textR_le {s : ByteArray} {a x m : Int} (hm : 0 ≤ m) : ((textR s a x m).1.size : Int) ≤ m := by
  have := upR_le (s := s) (a := a) (x := 3) hm
  unfold textR
  split
  · exact hm
  split
  · exact hm
  split
  · exact hm
  · dsimp only
    rw [ByteArray.size_extract]; omega
theorem or_num (b : Nat) (s : ByteArray) (a e m : Int) (w : World) (h : OR b s a e w) (hs : s.size ≤ 9223372036854775807) (h0 : 0 ≤ m) (hm : m ≤ 9223372036854775807) :
    Calls Try.prog 113 #[.pointer (some ⟨b, 0, none⟩), .int .i64 m] w fun e1 w' => ∃ n a' e', e1 = .returned (.int .i64 n) ∧ numR s a e m = (n, a', e') ∧ 0 ≤ n ∧ n ≤ m ∧ OR b s a' e' w' ∧ w.grownBy w' (some b) :=
  (rNum_re b s a e m w h.re hs hm).mono (by
    rintro e1 x ⟨rfl, hw, hb⟩
    exact ⟨_, _, _, rfl, rfl, (numR_le h0).1, (numR_le h0).2, ⟨hw, numR_at⟩, but_grown hb⟩)
theorem or_text (b : Nat) (s : ByteArray) (a e m : Int) (w : World) (h : OR b s a e w) (hs : s.size ≤ 9223372036854775807) (h0 : 0 ≤ m) (hm : m ≤ 9223372036854775807) :
    Calls Try.prog 116 #[.pointer (some ⟨b, 0, none⟩), .int .i64 m] w fun e1 w' => ∃ t a' e', e1 = .returned (.string t) ∧ textR s a e m = (t, a', e') ∧ (t.size : Int) ≤ m ∧ OR b s a' e' w' ∧ w.grownBy w' (some b) :=
  (rText_re b s a e m w h.re hs hm).mono (by
    rintro e1 x ⟨rfl, hw, hb⟩
    exact ⟨_, _, _, rfl, rfl, textR_le h0, ⟨hw, textR_at⟩, but_grown hb⟩)
theorem or_flag (b : Nat) (s : ByteArray) (a e : Int) (w : World) (h : OR b s a e w) (hs : s.size ≤ 9223372036854775807) :
    Calls Try.prog 117 #[.pointer (some ⟨b, 0, none⟩)] w fun e1 w' => ∃ f a' e', e1 = .returned (.bool f) ∧ flagR s a.toNat e = (f, a', e') ∧ OR b s a' e' w' ∧ w.grownBy w' (some b) :=
  (rFlag_re b s a.toNat e w h.nat.1 hs h.nat.2).mono (by
    rintro e1 x ⟨rfl, hw, hb⟩
    exact ⟨_, _, _, rfl, rfl, ⟨hw, flagR_at h.nat.2⟩, but_grown hb⟩)
theorem or_end (b : Nat) (s : ByteArray) (a e : Int) (w : World) (h : OR b s a e w) (hs : s.size ≤ 9223372036854775807) :
    Calls Try.prog 118 #[.pointer (some ⟨b, 0, none⟩)] w fun e1 w' => ∃ r, e1 = .returned (.int .i64 r) ∧ endV s a.toNat e = r ∧ Below w.heap.size w w' :=
  (end_re b s a.toNat e w h.nat.1 hs h.nat.2).mono (by
    rintro e1 x ⟨rfl, hb⟩
    exact ⟨_, rfl, rfl, hb⟩)
/-- The document's own reader. -/
structure OXR (b : Nat) (s : ByteArray) (a e : Int) (w : World) : Prop where
  re : XRE w b s a e
  pos : e = 0 → 0 ≤ a ∧ a ≤ s.size
theorem XRE.lt (h : XRE w b s a e) : b < w.heap.size := World.block_lt_of_cell? w _ h.cell
theorem OXR.lt (h : OXR b s a e w) : b < w.heap.size := h.re.lt
theorem OXR.below (h : OXR b s a e w) (hb : Below w.heap.size w x) : OXR b s a e x := ⟨h.re.below hb, h.pos⟩
theorem OXR.new (h : OXR b s a e w) (hg : w.grownBy x none) : OXR b s a e x := h.below (grown_below hg)
theorem OXR.at (h : OXR b s a e w) (hne : b ≠ N) (hg : w.grownBy x (some N)) : OXR b s a e x := ⟨h.re.but (grown_but hg) (fun e1 => hne (Option.some.inj e1).symm), h.pos⟩
theorem OXR.row {v : Value} (h : OXR b s a e w) (hne : v.ownBlock ≠ some b) (hg : w.grownBy x v.ownBlock) : OXR b s a e x := ⟨h.re.but (grown_but hg) hne, h.pos⟩
theorem OXR.nat (h : OXR b s a e w) : XRE w b s (a.toNat : Int) e ∧ (e = 0 → a.toNat ≤ s.size) := by
  by_cases he : e = 0
  · have := h.pos he
    have e1 : (a.toNat : Int) = a := by omega
    rw [e1]; exact ⟨h.re, fun _ => by omega⟩
  · exact ⟨h.re.weak he, fun h1 => absurd h1 he⟩
theorem oxr_of (h : Blk w b 137 #[.string s, .int .i64 0, .int .i64 0]) : OXR b s 0 0 w := ⟨XRE.good ⟨h.cell rfl, h.cell rfl, h.cell rfl, h.frozen _, h.frozen _⟩, fun _ => by omega⟩
theorem oxr_num (b : Nat) (s : ByteArray) (a e m : Int) (w : World) (h : OXR b s a e w) (hs : s.size ≤ 9223372036854775807) (h0 : 0 ≤ m) (hm : m ≤ 9223372036854775807) :
    Calls Try.prog 84 #[.pointer (some ⟨b, 0, none⟩), .int .i64 m] w fun e1 w' => ∃ n a' e', e1 = .returned (.int .i64 n) ∧ numR s a e m = (n, a', e') ∧ 0 ≤ n ∧ n ≤ m ∧ OXR b s a' e' w' ∧ w.grownBy w' (some b) :=
  (xrNum_re b s a e m w h.re hs hm).mono (by
    rintro e1 x ⟨rfl, hw, hb⟩
    exact ⟨_, _, _, rfl, rfl, (numR_le h0).1, (numR_le h0).2, ⟨hw, numR_at⟩, but_grown hb⟩)
theorem oxr_text (b : Nat) (s : ByteArray) (a e m : Int) (w : World) (h : OXR b s a e w) (hs : s.size ≤ 9223372036854775807) (h0 : 0 ≤ m) (hm : m ≤ 9223372036854775807) :
    Calls Try.prog 86 #[.pointer (some ⟨b, 0, none⟩), .int .i64 m] w fun e1 w' => ∃ t a' e', e1 = .returned (.string t) ∧ textR s a e m = (t, a', e') ∧ (t.size : Int) ≤ m ∧ OXR b s a' e' w' ∧ w.grownBy w' (some b) :=
  (xrText_re b s a e m w h.re hs hm).mono (by
    rintro e1 x ⟨rfl, hw, hb⟩
    exact ⟨_, _, _, rfl, rfl, textR_le h0, ⟨hw, textR_at⟩, but_grown hb⟩)
theorem oxr_flag (b : Nat) (s : ByteArray) (a e : Int) (w : World) (h : OXR b s a e w) (hs : s.size ≤ 9223372036854775807) :
    Calls Try.prog 87 #[.pointer (some ⟨b, 0, none⟩)] w fun e1 w' => ∃ f a' e', e1 = .returned (.bool f) ∧ flagR s a.toNat e = (f, a', e') ∧ OXR b s a' e' w' ∧ w.grownBy w' (some b) :=
  (xrFlag_re b s a.toNat e w h.nat.1 hs h.nat.2).mono (by
    rintro e1 x ⟨rfl, hw, hb⟩
    exact ⟨_, _, _, rfl, rfl, ⟨hw, flagR_at h.nat.2⟩, but_grown hb⟩)
theorem oxr_end (b : Nat) (s : ByteArray) (a e : Int) (w : World) (h : OXR b s a e w) (hs : s.size ≤ 9223372036854775807) :
    Calls Try.prog 88 #[.pointer (some ⟨b, 0, none⟩)] w fun e1 w' => ∃ r, e1 = .returned (.int .i64 r) ∧ endV s a.toNat e = r ∧ Below w.heap.size w w' :=
  (xend_re b s a.toNat e w h.nat.1 hs h.nat.2).mono (by
    rintro e1 x ⟨rfl, hb⟩
    exact ⟨_, rfl, rfl, hb⟩)
end
end Go.Proofs.Ytdgboikkgeioeaa

/- Package ops: Check of both. Conditions: none. -/
namespace Go.Proofs.Ytdgboikkgeioeaa
open Go.RowKit Go.PlainAid
set_option linter.unusedVariables false


abbrev OpT := ByteArray × ByteArray × Bool
def opE (o : OpT) : List Value := [.string o.1, .string o.2.1, .bool o.2.2]
theorem opE_len (o : OpT) : (opE o).length = 3 := rfl
theorem opE_one (o : OpT) : ∀ u ∈ opE o, u.oneCell' = true := by intro u hu; simp [opE] at hu; rcases hu with rfl | rfl | rfl <;> rfl
theorem eq_op (a b d e : ByteArray) (c f : Bool) (w : World) : (binOp .eql 66 (.agg #[.string a, .string b, .bool c]) (.agg #[.string d, .string e, .bool f])).run Try.prog w = .ok (.bool (a.toList == d.toList && b.toList == e.toList && c == f)) w := by
  have u := Try.underlying9
  have u' := Try.underlying4
  have hS : Try.prog.underlying 66 = some (.struct (Try.prog.fieldsOf 66)) := by kernel_rfl
  have hp : Try.prog.stoodInHeld 66 = false := by kernel_rfl
  have hf : (Try.prog.fieldsOf 66).toList.map (fun f => (f.offset, f.type)) = [(0, 9), (1, 9), (2, 4)] := by kernel_rfl
  rw [run_eql_struct, show (10000 : Nat) = 9999 + 1 from rfl, run_equalIn_agg w 9999 66 _ _ hS hp]
  simp only [Program.fieldsOf, Try.underlying66]
  go_simp
  by_cases h1 : a.toList = d.toList <;> by_cases h2 : b.toList = e.toList <;> by_cases h3 : c = f <;> simp [h1, h2, h3]
theorem takeO_at {α : Type} {l : List α} {i : Nat} {y : α} (h : l[i]? = some y) : l.take (i + 1) = l.take i ++ [y] := by
  rw [List.take_add_one, h]; rfl
end Go.Proofs.Ytdgboikkgeioeaa

/- Package ops: Same, Put of both. Conditions: none. -/
namespace Go.Proofs.Ytdgboikkgeioeaa
open Go.RowKit Go.PlainAid
set_option linter.unusedVariables false


/-- The bytes of a batch. -/
def putO1 (o : OpT) : List UInt8 := (putL (o.1.size : Int) ++ o.1.data.toList) ++ [flagB o.2.2] ++ (putL (o.2.1.size : Int) ++ o.2.1.data.toList)
def putOs (l : List OpT) : List UInt8 := l.flatMap putO1
end Go.Proofs.Ytdgboikkgeioeaa

/- What is put is read as it was: without the program. Conditions: none. -/
namespace Go.Proofs.Ytdgboikkgeioeaa
open Go.RowKit Go.PlainAid

theorem extract_has {T t : ByteArray} {a : Nat} (h : has T a t.data.toList) (hs : a + t.size ≤ T.size) : T.extract a (a + t.size) = t := by
  apply ByteArray.ext
  apply Array.ext
  · simp; omega
  · intro j h1 h2
    have hj : j < t.data.toList.length := by simpa using h2
    have hb := h j hj
    rw [bt_data] at hb
    have hl : a + j < T.data.toList.length := by
      have : j < t.size := by simpa using h2
      simp only [Array.length_toList, ByteArray.size_data]; omega
    rw [List.getD_eq_getElem?_getD, List.getElem?_eq_getElem hl, Option.getD_some] at hb
    have hb2 : T.data.toList[a + j] = t.data.toList[j] := UInt8.toNat_inj.1 (by omega)
    simp only [ByteArray.data_extract, Array.getElem_extract]
    simpa using hb2
theorem flagR_put {T : ByteArray} {a : Nat} {f : Bool} (h : has T a [flagB f]) (hs : a + 1 ≤ T.size) : flagR T a 0 = (f, ((a + 1 : Nat) : Int), 0) := by
  have hb := h 0 (by simp)
  simp only [Nat.add_zero, List.getElem_cons_zero] at hb
  unfold flagR
  rw [if_neg (by simp), if_neg (by omega), hb]
  cases f <;> simp [flagB]

end Go.Proofs.Ytdgboikkgeioeaa

/- What a reader that has no error has eaten: the bytes that a writer would have put; what was put is read. Conditions: none. -/
namespace Go.Proofs.Ytdgboikkgeioeaa
open Go.RowKit Go.PlainAid

theorem get_ok_at {s : ByteArray} {a : Nat} {y to : Int} (h : getR s a = (y, to, 0)) : (0 ≤ y ∧ y < 18446744073709551616) ∧ (a : Int) < to ∧ to ≤ s.size ∧ putL y = (s.data.toList.drop a).take (to.toNat - a) := by
  unfold getR at h
  split at h
  · simp at h
  split at h
  · simp at h
  rename_i h0 h1
  rw [Int.toNat_natCast] at h
  have hs : a < s.size := by omega
  have hb := bt_nonneg s a
  have hb2 := bt_le s a
  have hal : a < s.data.toList.length := by simpa using hs
  have hd : s.data.toList[a]'hal = UInt8.ofNat (bt s a).toNat := by
    have hd := bt_data s a
    simp only [List.getD, List.getElem?_eq_getElem hal, Option.getD_some] at hd
    rw [hd, Int.toNat_natCast, UInt8.ofNat_toNat]
  have ht : ∀ k, (s.data.toList.drop a).take (k + 1) = UInt8.ofNat (bt s a).toNat :: (s.data.toList.drop (a + 1)).take k := by
    intro k
    rw [← hd, List.drop_eq_getElem_cons hal, List.take_succ_cons]
  split at h
  · rename_i h2
    simp only [Prod.mk.injEq, and_true] at h
    obtain ⟨rfl, rfl⟩ := h
    refine ⟨⟨hb, by omega⟩, by omega, by omega, ?_⟩
    rw [putL_small _ h2, show ((a : Int) + 1).toNat - a = 0 + 1 by omega, ht]; simp
  split at h
  · simp at h
  split at h
  · rename_i h2 h3 h4
    simp only [Prod.mk.injEq, and_true] at h
    obtain ⟨rfl, rfl⟩ := h
    obtain ⟨k, hk⟩ := Int.eq_ofNat_of_zero_le (show 0 ≤ bt s a - 247 by omega)
    rw [hk, Int.toNat_natCast] at h4 ⊢
    have hv0 := val_nonneg s (a + 1) k
    have hv1 := val_lt s (a + 1) k
    have hk8 : k ≤ 8 := by omega
    have hbig : ¬ val s (a + 1) k < 248 := by
      intro hc; rw [lenOf_small _ hc] at h4; omega
    have hw : wd (val s (a + 1) k) = k := by rw [lenOf_big _ hbig] at h4; omega
    have hlt : val s (a + 1) k < 18446744073709551616 := by
      have : (256 : Nat) ^ k ≤ 256 ^ 8 := Nat.pow_le_pow_right (by decide) hk8
      have e : ((256 : Int) ^ k) = ((256 ^ k : Nat) : Int) := by rw [Int.natCast_pow]; rfl
      have : (256 : Nat) ^ 8 = 18446744073709551616 := by decide
      omega
    refine ⟨⟨hv0, hlt⟩, by omega, by omega, ?_⟩
    rw [putL_big _ hbig, hw, Int.toNat_natCast]
    have hn : ((a : Int) + (bt s a - 246)).toNat - a = k + 1 := by omega
    first
      | (rw [hn, ht, be_val _ _ _ (by omega)]; congr 2; omega)
      | (rw [show (_ : Int).toNat - a = k + 1 by omega, ht, be_val _ _ _ (by omega)]; congr 2; omega)
  · simp at h
/-- From a to b stand the bytes l. -/
def eats (s : ByteArray) (a : Nat) (l : List UInt8) (b : Nat) : Prop := a ≤ b ∧ b ≤ s.size ∧ (s.data.toList.drop a).take (b - a) = l
theorem eats.nil {s : ByteArray} {a : Nat} (h : a ≤ s.size) : eats s a [] a := ⟨Nat.le_refl _, h, by simp⟩
theorem eats.app {s : ByteArray} {a b c : Nat} {l m : List UInt8} (h : eats s a l b) (k : eats s b m c) : eats s a (l ++ m) c := by
  obtain ⟨h1, h2, h3⟩ := h
  obtain ⟨k1, k2, k3⟩ := k
  refine ⟨by omega, k2, ?_⟩
  rw [show c - a = (b - a) + (c - b) by omega, List.take_add, h3, List.drop_drop, show a + (b - a) = b by omega, k3]
theorem numR_eats {s : ByteArray} {a : Nat} {x m : Int} (h : (numR s a x m).2.2 = 0) : x = 0 ∧ ∃ b : Nat, (numR s a x m).2.1 = b ∧ eats s a (putL (numR s a x m).1) b := by
  by_cases hx : x = 0
  · subst hx
    refine ⟨rfl, ?_⟩
    have e : numR s a 0 m = ((if (upR s a m 5).2.2 = 0 then (upR s a m 5).1 else 0), (upR s a m 5).2.1, (upR s a m 5).2.2) := by unfold numR; rw [if_neg (by simp)]
    rw [e] at h ⊢
    simp only at h ⊢
    rcases hg : getR s a with ⟨g1, g2, g3⟩
    rw [upR_of hg] at h ⊢
    split at h
    · rename_i h3; exact absurd h h3
    · rename_i h3
      rw [if_neg h3]
      have h3' : g3 = 0 := by omega
      subst h3'
      obtain ⟨_, h5, h6, h7⟩ := get_ok_at hg
      split at h
      · simp at h
      · rename_i h8
        rw [if_neg h8]
        simp only [if_true]
        exact ⟨g2.toNat, by omega, by omega, by omega, by rw [h7]⟩
  · rw [numR_err hx] at h; exact absurd h hx
theorem bigR_eats {s : ByteArray} {a : Nat} {x : Int} (h : (bigR s a x).2.2 = 0) : x = 0 ∧ ∃ b : Nat, (bigR s a x).2.1 = b ∧ eats s a (putL (bigR s a x).1) b := by
  by_cases hx : x = 0
  · subst hx
    refine ⟨rfl, ?_⟩
    have e : bigR s a 0 = ((if (getR s a).2.2 = 0 then (getR s a).1 else 0), (getR s a).2.1, (getR s a).2.2) := by unfold bigR; rw [if_neg (by simp)]
    rw [e] at h ⊢
    simp only at h ⊢
    rcases hg : getR s a with ⟨g1, g2, g3⟩
    rw [hg] at h
    simp only at h
    subst h
    obtain ⟨_, h5, h6, h7⟩ := get_ok_at hg
    simp only [if_true]
    exact ⟨g2.toNat, by omega, by omega, by omega, by rw [h7]⟩
  · rw [bigR_err hx] at h; exact absurd h hx
theorem numR_of {T : ByteArray} {a : Nat} {n m : Int} (h0 : 0 ≤ n) (h1 : n ≤ m) (h2 : m ≤ 9223372036854775807) (h : has T a (putL n)) (hs : a + (putL n).length ≤ T.size) : numR T a 0 m = (n, ((a + (putL n).length : Nat) : Int), 0) := by
  have hg := get_put n h0 (by omega) hs h
  have hl := putL_len n
  have hu := upR_of (m := m) (x := 5) hg
  rw [if_neg (by simp), if_neg (by omega)] at hu
  unfold numR
  rw [if_neg (by simp), hu]
  simp only [if_true]
  congr 2; omega
theorem bigR_of {T : ByteArray} {a : Nat} {m : Int} (h0 : 0 ≤ m) (h1 : m < 18446744073709551616) (h : has T a (putL m)) (hs : a + (putL m).length ≤ T.size) : bigR T a 0 = (m, ((a + (putL m).length : Nat) : Int), 0) := by
  have hg := get_put m h0 (by omega) hs h
  have hl := putL_len m
  unfold bigR
  rw [if_neg (by simp), hg]
  simp only [if_true]
  congr 2; omega
theorem list_of_take {s t : ByteArray} {a n : Nat} (h : t = s.extract a (a + n)) : t.data.toList = (s.data.toList.drop a).take n := by
  subst h
  rw [ByteArray.data_extract, Array.toList_extract]
  simp [List.extract]
theorem textR_eats {s : ByteArray} {a : Nat} {x m : Int} (h : (textR s a x m).2.2 = 0) : x = 0 ∧ ∃ b : Nat, (textR s a x m).2.1 = b ∧ eats s a (putL (((textR s a x m).1.size : Nat) : Int) ++ (textR s a x m).1.data.toList) b := by
  by_cases hx : x = 0
  · subst hx
    refine ⟨rfl, ?_⟩
    rcases hg : getR s a with ⟨g1, g2, g3⟩
    have hu := upR_of (m := m) (x := 3) hg
    unfold textR at h ⊢
    rw [if_neg (by simp)] at h ⊢
    rw [hu] at h ⊢
    by_cases h3 : g3 ≠ 0
    · rw [if_pos h3] at h; simp [h3] at h
    · rw [if_neg h3] at h ⊢
      have h3' : g3 = 0 := by omega
      subst h3'
      obtain ⟨h4, h5, h6, h7⟩ := get_ok_at hg
      by_cases h8 : m < 0 ∨ m < g1
      · rw [if_pos h8] at h; simp at h
      · rw [if_neg h8] at h ⊢
        simp only [ne_eq, not_true_eq_false, if_false] at h ⊢
        by_cases h9 : (s.size : Int) < g2 + g1
        · rw [if_pos h9] at h; simp at h
        · rw [if_neg h9]
          simp only
          have hsz : ((s.extract g2.toNat (g2.toNat + g1.toNat)).size : Int) = g1 := by rw [ByteArray.size_extract]; omega
          have e1 : eats s a (putL g1) g2.toNat := ⟨by omega, by omega, by rw [h7]⟩
          have e2 : eats s g2.toNat (s.extract g2.toNat (g2.toNat + g1.toNat)).data.toList (g2.toNat + g1.toNat) := ⟨by omega, by omega, by rw [list_of_take rfl]; congr 1; omega⟩
          rw [hsz]
          exact ⟨g2.toNat + g1.toNat, by omega, e1.app e2⟩
  · rw [textR_err hx] at h; exact absurd h hx
theorem flagR_eats {s : ByteArray} {a : Nat} {x : Int} (ha : x = 0 → a ≤ s.size) (h : (flagR s a x).2.2 = 0) : x = 0 ∧ ∃ b : Nat, (flagR s a x).2.1 = b ∧ eats s a [flagB (flagR s a x).1] b := by
  by_cases hx : x = 0
  · subst hx
    refine ⟨rfl, ?_⟩
    have ha' := ha rfl
    unfold flagR at h ⊢
    rw [if_neg (by simp)] at h ⊢
    by_cases h1 : a = s.size
    · rw [if_pos h1] at h; simp at h
    · rw [if_neg h1] at h ⊢
      by_cases h2 : 1 < bt s a
      · rw [if_pos h2] at h; simp at h
      · rw [if_neg h2]
        simp only
        have hal : a < s.data.toList.length := by
          have : a < s.size := by omega
          simpa using this
        have hd := bt_data s a
        simp only [List.getD, List.getElem?_eq_getElem hal, Option.getD_some] at hd
        have hb := bt_nonneg s a
        refine ⟨a + 1, by omega, by omega, by omega, ?_⟩
        rw [List.drop_eq_getElem_cons hal, show a + 1 - a = 0 + 1 by omega, List.take_succ_cons, List.take_zero]
        congr 1
        apply UInt8.toNat_inj.1
        show (s.data.toList[a]'hal).toNat = _
        rcases (show bt s a = 0 ∨ bt s a = 1 by omega) with h3 | h3
        · have h4 : (s.data.toList[a]'hal).toNat = 0 := by omega
          rw [h4, h3]; rfl
        · have h4 : (s.data.toList[a]'hal).toNat = 1 := by omega
          rw [h4, h3]; rfl
  · rw [flagR_err hx] at h; exact absurd h hx
theorem endV_eats {s : ByteArray} {a : Nat} {x : Int} (ha : x = 0 → a ≤ s.size) (h : endV s a x = 0) : x = 0 ∧ a = s.size := by
  unfold endV at h
  by_cases hx : x = 0
  · rw [if_pos hx] at h
    have := ha hx
    by_cases h1 : a < s.size
    · rw [if_pos h1] at h; omega
    · exact ⟨hx, by omega⟩
  · rw [if_neg hx] at h; exact absurd h hx
theorem eats.whole {s : ByteArray} {l : List UInt8} (h : eats s 0 l s.size) : (⟨l.toArray⟩ : ByteArray) = s := by
  obtain ⟨_, _, h3⟩ := h
  have : l = s.data.toList := by
    rw [← h3, List.drop_zero, List.take_of_length_le (by simp)]
  subst this; simp
theorem textR_of {T t : ByteArray} {a : Nat} {m : Int} (ht : (t.size : Int) ≤ m) (hm : m ≤ 9223372036854775807) (h : has T a (putL (t.size : Int) ++ t.data.toList)) (hs : a + (putL (t.size : Int) ++ t.data.toList).length ≤ T.size) :
    textR T a 0 m = (t, ((a + (putL (t.size : Int) ++ t.data.toList).length : Nat) : Int), 0) := by
  have hlt : t.data.toList.length = t.size := by simp
  rw [List.length_append, hlt] at hs
  obtain ⟨h1, h2⟩ := has_app h
  have hg := get_put (t.size : Int) (by omega) (by omega) (by omega) h1
  have hl := putL_len (t.size : Int)
  have hu := upR_of (m := m) (x := 3) hg
  rw [if_neg (by simp), if_neg (by omega)] at hu
  have hn : ((a : Int) + lenOf (t.size : Int)).toNat = a + (putL (t.size : Int)).length := by omega
  unfold textR
  rw [if_neg (by simp), hu, if_neg (by simp)]
  simp only
  rw [if_neg (by omega), hn, Int.toNat_natCast, extract_has h2 (by omega), List.length_append, hlt]
  refine Prod.ext rfl (Prod.ext ?_ rfl)
  show (a : Int) + lenOf (t.size : Int) + (t.size : Int) = ((a + ((putL (t.size : Int)).length + t.size) : Nat) : Int)
  omega
end Go.Proofs.Ytdgboikkgeioeaa

/- Package ops: what is put is read, what is read is put; without the program. Conditions: none. -/
namespace Go.Proofs.Ytdgboikkgeioeaa
open Go.RowKit Go.PlainAid
set_option linter.unusedVariables false


theorem putOs_snoc (l : List OpT) (y : OpT) : putOs (l ++ [y]) = putOs l ++ putO1 y := by simp [putOs]
theorem numR_at' {s : ByteArray} {a : Nat} {x m n a1 : Int} (h : numR s a x m = (n, a1, 0)) : x = 0 ∧ ∃ b : Nat, a1 = b ∧ eats s a (putL n) b := by
  have h0 : (numR s a x m).2.2 = 0 := by rw [h]
  have := numR_eats h0
  rw [h] at this; exact this
end Go.Proofs.Ytdgboikkgeioeaa

/- Package script, pure: a step's bytes; steps' bytes. Conditions: none. -/
namespace Go.Proofs.Ytdgboikkgeioeaa
open Go.RowKit Go.PlainAid
set_option linter.unusedVariables false
set_option linter.unusedSimpArgs false

/-- A step: its kind, node, number; what is asked: kind, node, key, end, time, number, operations. -/
structure EvD where
  k : Int
  nd : Int
  n : Int
  ak : Int
  an : Int
  ky : ByteArray
  tt : ByteArray
  at_ : Int
  am : Int
  ops : List OpT
def txB (t : ByteArray) : List UInt8 := putL (t.size : Int) ++ t.data.toList
def askB (e : EvD) : List UInt8 := putL e.ak ++ putL e.an ++ putL e.am ++ putL e.at_ ++ txB e.ky ++ txB e.tt ++ putL ((e.ops.length : Nat) : Int) ++ putOs e.ops
def hedB (e : EvD) : List UInt8 := putL e.k ++ putL e.nd ++ putL e.n
def evB (e : EvD) : List UInt8 := if e.k = 0 then hedB e ++ askB e else hedB e
def mayJ (n : Int) : Prop := 0 ≤ n ∧ n ≤ 1073741824
instance (n : Int) : Decidable (mayJ n) := by unfold mayJ; infer_instance
def rngE (e : EvD) : Prop := (mayJ e.k ∧ mayJ e.nd ∧ mayJ e.n) ∧ (e.k = 0 → mayJ e.ak ∧ mayJ e.an ∧ mayJ e.am)
instance (e : EvD) : Decidable (rngE e) := by unfold rngE; infer_instance
/-- Why a step can't be put; its bytes. -/
def oneE (e : EvD) : Int := if rngE e then (if (evB e).length > 255 then 3 else 0) else 5
def oneB (e : EvD) : ByteArray := if oneE e = 0 then ⟨(evB e).toArray⟩ else ⟨#[]⟩
theorem oneE_5 {e : EvD} (h : ¬ rngE e) : oneE e = 5 ∧ oneB e = ⟨#[]⟩ := by have : oneE e = 5 := if_neg h; exact ⟨this, by unfold oneB; rw [this]; rfl⟩
theorem oneE_3 {e : EvD} (h : rngE e) (h2 : (evB e).length > 255) : oneE e = 3 ∧ oneB e = ⟨#[]⟩ := by
  have : oneE e = 3 := by unfold oneE; rw [if_pos h, if_pos h2]
  exact ⟨this, by unfold oneB; rw [this]; rfl⟩
theorem oneE_0 {e : EvD} (h : rngE e) (h2 : ¬ (evB e).length > 255) : oneE e = 0 ∧ oneB e = ⟨(evB e).toArray⟩ := by
  have : oneE e = 0 := by unfold oneE; rw [if_pos h, if_neg h2]
  exact ⟨this, by unfold oneB; rw [if_pos this]⟩
theorem oneB_len (e : EvD) : (oneB e).size ≤ 255 := by
  by_cases h : rngE e
  · by_cases h2 : (evB e).length > 255
    · rw [(oneE_3 h h2).2]; decide
    · rw [(oneE_0 h h2).2]; show (evB e).toArray.size ≤ 255; simp; omega
  · rw [(oneE_5 h).2]; decide
theorem rng_y {e : EvD} (h : ((0 ≤ e.k ∧ e.k ≤ 1073741824) ∧ (0 ≤ e.nd ∧ e.nd ≤ 1073741824) ∧ (0 ≤ e.n ∧ e.n ≤ 1073741824)) ∧ (¬ e.k = 0 ∨ ((0 ≤ e.ak ∧ e.ak ≤ 1073741824) ∧ (0 ≤ e.an ∧ e.an ≤ 1073741824) ∧ (0 ≤ e.am ∧ e.am ≤ 1073741824)))) : rngE e := by
  unfold rngE mayJ; exact ⟨h.1, fun h0 => by rcases h.2 with q | q; exact absurd h0 q; exact q⟩
theorem dropA_at {α : Type} {l : List α} {i : Nat} {y : α} (h : l[i]? = some y) : l.drop i = y :: l.drop (i + 1) := by
  obtain ⟨hi, rfl⟩ := List.getElem?_eq_some_iff.1 h
  exact List.drop_eq_getElem_cons hi
/-- A step with the list of its operations. -/
structure EvX where
  d : EvD
  ov : Value
def evE (x : EvX) : List Value := [.int .i64 x.d.k, .int .i64 x.d.nd, .int .i64 x.d.n, .int .i64 x.d.ak, .int .i64 x.d.an, .string x.d.ky, .string x.d.tt, .int .u64 x.d.at_, .int .i64 x.d.am, x.ov]
theorem evE_len (x : EvX) : (evE x).length = 10 := rfl
instance : Inhabited EvX := ⟨⟨⟨0, 0, 0, 0, 0, ⟨#[]⟩, ⟨#[]⟩, 0, 0, []⟩, .slice none 0 0⟩⟩
/-- What is known of a step that came in. -/
structure EvS (d : EvD) : Prop where
  ts : 0 ≤ d.at_ ∧ d.at_ < 18446744073709551616
  ky : d.ky.size ≤ 1048576
  tt : d.tt.size ≤ 1048576
  ops : ∀ o ∈ d.ops, o.1.size ≤ 1048576 ∧ o.2.1.size ≤ 1048576
structure EvOk (w : World) (x : EvX) : Prop where
  sl : SliceOf opE 3 w x.ov x.d.ops
  s : EvS x.d
/-- The first error of steps; all their bytes. -/
def allE : List EvD → Int
  | [] => 0
  | e :: r => if oneE e ≠ 0 then oneE e else allE r
def pcB (e : EvD) : List UInt8 := UInt8.ofNat (oneB e).size :: (oneB e).data.toList
def allB (l : List EvD) : List UInt8 := l.flatMap pcB
def putA (l : List EvD) : ByteArray := if allE l = 0 then ⟨(allB l).toArray⟩ else ⟨#[]⟩
theorem allE_bad {l : List EvD} {i : Nat} {y : EvD} {z : Int} (h : allE (l.drop i) = z) (hy : l[i]? = some y) (hc : oneE y ≠ 0) : oneE y = z := by
  rw [dropA_at hy] at h; unfold allE at h; rwa [if_pos hc] at h
theorem allE_step {l : List EvD} {i : Nat} {y : EvD} {z : Int} (h : allE (l.drop i) = z) (hy : l[i]? = some y) (hc : oneE y = 0) : allE (l.drop (i + 1)) = z := by
  rw [dropA_at hy] at h; unfold allE at h; rwa [if_neg (by simp [hc])] at h
theorem allE_end {l : List EvD} {i : Nat} {z : Int} (h : allE (l.drop i) = z) (hi : l.length ≤ i) : 0 = z := by
  rw [List.drop_eq_nil_of_le hi] at h; simpa [allE] using h
end Go.Proofs.Ytdgboikkgeioeaa

/- Steps of a walk over known slots: rows and blocks of other types lie apart; three results, the first one a struct in a cell. Conditions: none. -/
namespace Go.Proofs.Ytdgboikkgeioeaa
open Go.RowKit
section
variable {P : Program} {n : Nat} {m : List (Nat × Value)} {w x : World} {N : Nat} {T : TypeId} {cs : Array Value}
theorem own_neT {B sz k : Nat} {e : TypeId} {v : Value} {xs : List Value} (h : w.ownsRow B e sz v k xs) (hb : Blk w N T cs) (hT : e ≠ T) : v.ownBlock ≠ some N := fun e1 => by
  rcases h.2 with ⟨rfl, _⟩ | ⟨g, c, cur, rfl, hg, hh, _⟩
  · simp [Value.ownBlock] at e1
  · simp only [Value.ownBlock, Option.some.injEq] at e1
    subst e1
    have := hh.symm.trans hb
    simp only [Option.some.injEq, Obj.cells.injEq] at this
    exact hT this.2.1
theorem row_form {B sz k : Nat} {e : TypeId} {v : Value} {xs : List Value} (h : w.ownsRow B e sz v k xs) : ∃ a n c, v = .slice a n c := by
  rcases h.2 with ⟨rfl, _⟩ | ⟨g, c, cur, rfl, _⟩
  · exact ⟨_, _, _, rfl⟩
  · exact ⟨_, _, _, rfl⟩
end
end Go.Proofs.Ytdgboikkgeioeaa

/- Maps that the call makes: a list of keys and values; lookups, stores, deletes, lengths. Conditions: none. -/
namespace Go.Proofs.Ytdgboikkgeioeaa
open Go.RowKit

section
variable {K : Type} [DecidableEq K]
/-- The place and the value of a key. -/
def lookK (a : K) : List (K × Value) → Nat → Option (Nat × Value)
  | [], _ => none
  | p :: r, i => if a = p.1 then some (i, p.2) else lookK a r (i + 1)
def getK (l : List (K × Value)) (a : K) : Option Value := (lookK a l 0).map (·.2)
theorem lookK_shift (a : K) : ∀ (l : List (K × Value)) (i j : Nat), lookK a l (i + j) = (lookK a l j).map fun p => (i + p.1, p.2)
  | [], _, _ => rfl
  | p :: r, i, j => by
    unfold lookK
    split
    · rfl
    · rw [Nat.add_assoc]; exact lookK_shift a r i (j + 1)
theorem getK_cons (p : K × Value) (l : List (K × Value)) (b : K) : getK (p :: l) b = if b = p.1 then some p.2 else getK l b := by
  simp only [getK, lookK]
  split
  · rfl
  · rw [show (0 : Nat) + 1 = 1 + 0 from rfl, lookK_shift]; cases lookK b l 0 <;> rfl
@[simp] theorem getK_nil (b : K) : getK ([] : List (K × Value)) b = none := rfl
end

section
variable {K : Type}
variable {P : Program} {n : Nat} {m : List (Nat × Value)} {w x : World} {o : Oper} {B : Nat} {l : List (K × Value)} {kv : K → Value} {kt e t : TypeId} {q r : Operand} {a : K}
/-- Block B is a map that holds just these entries. -/
def MapB (kv : K → Value) (w : World) (B : Nat) (l : List (K × Value)) : Prop :=
  ∃ es clock, w.heap[B]? = some (.map es clock) ∧ es.toList.map (fun e => (e.key, e.val)) = l.map (fun p => (kv p.1, p.2)) ∧ (l.map (·.1)).Nodup ∧ (es.toList.map (·.born)).Nodup ∧ ∀ e ∈ es.toList, e.born < clock
theorem MapB.lt (h : MapB kv w B l) : B < w.heap.size := by obtain ⟨_, _, h, _⟩ := h; exact (Array.getElem?_eq_some_iff.1 h).1
theorem MapB.keys (h : MapB kv w B l) : (l.map (·.1)).Nodup := by obtain ⟨_, _, _, _, h, _⟩ := h; exact h
theorem MapB.kept {row : Option Nat} (h : MapB kv w B l) (hg : w.grownBy x row) (hne : row ≠ some B) : MapB kv x B l := by
  obtain ⟨es, c, h1, h2⟩ := h
  exact ⟨es, c, by rw [hg.block B (Array.getElem?_eq_some_iff.1 h1).1 (fun e => hne e.symm)]; exact h1, h2⟩
theorem MapB.below (h : MapB kv w B l) (hb : Below w.heap.size w x) : MapB kv x B l := h.kept (below_grown hb) (by simp)
end

section
variable {K : Type} [DecidableEq K]
variable {P : Program} {n : Nat} {m : List (Nat × Value)} {w x : World} {o : Oper} {B : Nat} {l : List (K × Value)} {kv : K → Value} {kt e t : TypeId} {q r : Operand} {a : K}
end
end Go.Proofs.Ytdgboikkgeioeaa

/- Maps that the call makes, told by a function that says what each key has (a default for those that are not there). Conditions: none. -/
namespace Go.Proofs.Ytdgboikkgeioeaa
open Go.RowKit

section
variable {K V : Type} {P : Program} {n : Nat} {m : List (Nat × Value)} {w x : World} {o : Oper} {B : Nat} {kv : K → Value} {kt e t : TypeId} {q r : Operand} {a : K} {enc : V → Value} {z : V} {g : K → V}

/-- Block B is a map; a key a has g a (z, if it is not there). -/
def MapG [DecidableEq K] (kv : K → Value) (enc : V → Value) (z : V) (w : World) (B : Nat) (g : K → V) : Prop := ∃ l, MapB kv w B l ∧ ∀ a, (getK l a).getD (enc z) = enc (g a)
variable [DecidableEq K]
theorem MapG.lt (h : MapG kv enc z w B g) : B < w.heap.size := by obtain ⟨l, h, _⟩ := h; exact h.lt
theorem MapG.kept {row : Option Nat} (h : MapG kv enc z w B g) (hg : w.grownBy x row) (hne : row ≠ some B) : MapG kv enc z x B g := by
  obtain ⟨l, h1, h2⟩ := h; exact ⟨l, h1.kept hg hne, h2⟩
theorem MapG.below (h : MapG kv enc z w B g) (hb : Below w.heap.size w x) : MapG kv enc z x B g := h.kept (below_grown hb) (by simp)
theorem MapG.row {B' : Nat} {T : TypeId} {sz k : Nat} {v : Value} {xs : List Value} (h : MapG kv enc z w B g) (hr : w.ownsRow B' T sz v k xs) : v.ownBlock ≠ some B := by
  intro e1
  obtain ⟨l, ⟨es, c, h1, _⟩, _⟩ := h
  rcases hr.2 with ⟨rfl, _⟩ | ⟨g1, _, _, rfl, _, hg1, _⟩
  · simp [Value.ownBlock] at e1
  · simp [Value.ownBlock] at e1
    subst e1; rw [h1] at hg1; cases hg1
end
end Go.Proofs.Ytdgboikkgeioeaa

/- Ranges over maps that the call made: what is still to come, whichever comes next. Conditions: none. -/
namespace Go.Proofs.Ytdgboikkgeioeaa
open Go.RowKit Go.ChangeMaps

section
variable {K : Type} {P : Program} {n : Nat} {m : List (Nat × Value)} {w x : World} {o : Oper} {B r : Nat} {l left : List (K × Value)} {kv : K → Value} {kt e t : TypeId} {q : Operand}
/-- Block r ranges over the map at B; left is still to come. -/
def IterB (kv : K → Value) (w : World) (r B : Nat) (left : List (K × Value)) : Prop :=
  ∃ es clock since seen c0, w.heap[B]? = some (.map es clock) ∧ w.heap[r]? = some (.mapIter (some B) since seen c0) ∧ since ≤ c0 ∧ c0 = clock ∧ (∀ e ∈ es.toList, e.born < since) ∧ (es.toList.map (·.born)).Nodup ∧
    (es.toList.filter fun e => !seen.contains e.born).map (fun e => (e.key, e.val)) = left.map (fun p => (kv p.1, p.2))
theorem IterB.lt (h : IterB kv w r B left) : r < w.heap.size := by obtain ⟨_, _, _, _, _, _, h, _⟩ := h; exact (Array.getElem?_eq_some_iff.1 h).1
theorem IterB.kept {row : Option Nat} (h : IterB kv w r B left) (hg : w.grownBy x row) (h1 : row ≠ some B) (h2 : row ≠ some r) : IterB kv x r B left := by
  obtain ⟨es, c, s, sn, c0, a1, a2, a3⟩ := h
  exact ⟨es, c, s, sn, c0, by rw [hg.block B (Array.getElem?_eq_some_iff.1 a1).1 (fun e => h1 e.symm)]; exact a1, by rw [hg.block r (Array.getElem?_eq_some_iff.1 a2).1 (fun e => h2 e.symm)]; exact a2, a3⟩
theorem IterB.row {B' : Nat} {T : TypeId} {sz k : Nat} {v : Value} {xs : List Value} (h : IterB kv w r B left) (hr : w.ownsRow B' T sz v k xs) : v.ownBlock ≠ some B ∧ v.ownBlock ≠ some r := by
  obtain ⟨es, c, s, sn, c0, a1, a2, _⟩ := h
  rcases hr.2 with ⟨rfl, _⟩ | ⟨g1, _, _, rfl, _, hg1, _⟩
  · simp [Value.ownBlock]
  · constructor
    · intro e1
      simp [Value.ownBlock] at e1
      subst e1; rw [a1] at hg1; cases hg1
    · intro e1
      simp [Value.ownBlock] at e1
      subst e1; rw [a2] at hg1; cases hg1
end
end Go.Proofs.Ytdgboikkgeioeaa

/- Maps that the call made, told by a function: what a key has, if anything; and ranges over them. Conditions: none. -/
namespace Go.Proofs.Ytdgboikkgeioeaa
open Go.RowKit

section
variable {K V : Type} [DecidableEq K] {P : Program} {n : Nat} {m : List (Nat × Value)} {w x : World} {o : Oper} {B r c : Nat} {kv : K → Value} {enc : V → Value} {g : K → Option V} {kt e t : TypeId} {q s : Operand} {a : K} {v : V} {left : List (K × V)}
/-- Block B is a map of at most c entries; a key a has g a. -/
def MapO (kv : K → Value) (enc : V → Value) (w : World) (B : Nat) (g : K → Option V) (c : Nat) : Prop := ∃ l, MapB kv w B l ∧ (∀ a, getK l a = (g a).map enc) ∧ l.length ≤ c
theorem MapO.lt (h : MapO kv enc w B g c) : B < w.heap.size := by obtain ⟨l, h, _⟩ := h; exact h.lt
theorem MapO.kept {row : Option Nat} (h : MapO kv enc w B g c) (hg : w.grownBy x row) (hne : row ≠ some B) : MapO kv enc x B g c := by
  obtain ⟨l, h1, h2⟩ := h; exact ⟨l, h1.kept hg hne, h2⟩
theorem MapO.below (h : MapO kv enc w B g c) (hb : Below w.heap.size w x) : MapO kv enc x B g c := h.kept (below_grown hb) (by simp)
theorem MapO.row {B' : Nat} {T : TypeId} {sz k : Nat} {u : Value} {xs : List Value} (h : MapO kv enc w B g c) (hr : w.ownsRow B' T sz u k xs) : u.ownBlock ≠ some B := by
  intro e1
  obtain ⟨l, ⟨es, c', h1, _⟩, _⟩ := h
  rcases hr.2 with ⟨rfl, _⟩ | ⟨g1, _, _, rfl, _, hg1, _⟩
  · simp [Value.ownBlock] at e1
  · simp [Value.ownBlock] at e1
    subst e1; rw [h1] at hg1; cases hg1
theorem MapO.eq {g' : K → Option V} {c' : Nat} (h : MapO kv enc w B g c) (hg : g = g') (hc : c ≤ c') : MapO kv enc w B g' c' := by
  subst hg; obtain ⟨l, h1, h2, h3⟩ := h; exact ⟨l, h1, h2, Nat.le_trans h3 hc⟩
/-- lt holds just what g has. -/
def Full (g : K → Option V) (lt : List (K × V)) : Prop := (lt.map (·.1)).Nodup ∧ ∀ a v, g a = some v ↔ (a, v) ∈ lt
theorem getK_mem : ∀ (l : List (K × Value)) (a : K) (u : Value), (l.map (·.1)).Nodup → (getK l a = some u ↔ (a, u) ∈ l)
  | [], a, u, _ => by simp
  | p :: r, a, u, h => by
    rw [List.map_cons, List.nodup_cons] at h
    have ih := getK_mem r a u h.2
    rw [getK_cons]
    by_cases e1 : a = p.1
    · rw [if_pos e1]
      constructor
      · intro h1
        have : p.2 = u := Option.some.inj h1
        exact List.mem_cons.2 (.inl (Prod.ext e1 this.symm))
      · intro h1
        rcases List.mem_cons.1 h1 with h2 | h2
        · rw [← h2]
        · exact absurd (e1 ▸ List.mem_map_of_mem (f := (·.1)) h2) h.1
    · rw [if_neg e1, ih]
      constructor
      · exact fun h1 => List.mem_cons_of_mem _ h1
      · intro h1
        rcases List.mem_cons.1 h1 with h2 | h2
        · exact absurd (by rw [← h2]) e1
        · exact h2
omit [DecidableEq K] in
theorem typed_list (g : K → Option V) (enc : V → Value) : ∀ (l : List (K × Value)), (∀ p ∈ l, (g p.1).map enc = some p.2) → ∃ lt : List (K × V), l = lt.map (fun p => (p.1, enc p.2)) ∧ ∀ p ∈ lt, g p.1 = some p.2
  | [], _ => ⟨[], rfl, by simp⟩
  | p :: r, h => by
    obtain ⟨lt, h1, h2⟩ := typed_list g enc r (fun y hy => h y (List.mem_cons_of_mem _ hy))
    have hp := h p (by simp)
    cases hg : g p.1 with
    | none => rw [hg] at hp; cases hp
    | some v =>
      rw [hg] at hp
      have hv : enc v = p.2 := Option.some.inj hp
      refine ⟨(p.1, v) :: lt, by rw [List.map_cons, ← h1, hv], fun y hy => ?_⟩
      rcases List.mem_cons.1 hy with rfl | hy
      · exact hg
      · exact h2 y hy
theorem MapO.list (h : MapO kv enc w B g c) : ∃ lt : List (K × V), MapB kv w B (lt.map fun p => (p.1, enc p.2)) ∧ Full g lt ∧ lt.length ≤ c := by
  obtain ⟨l, h1, h2, h3⟩ := h
  have hn := h1.keys
  obtain ⟨lt, e1, e2⟩ := typed_list g enc l (fun p hp => by rw [← h2]; exact (getK_mem l p.1 p.2 hn).2 hp)
  subst e1
  have hn' : (lt.map (·.1)).Nodup := by rw [List.map_map] at hn; exact hn
  refine ⟨lt, h1, ⟨hn', fun a v => ⟨fun hg => ?_, fun hm => e2 _ hm⟩⟩, by simpa using h3⟩
  have h4 := h2 a
  rw [hg] at h4
  have h5 := (getK_mem _ a (enc v) hn).1 h4
  obtain ⟨p, hp, hq⟩ := List.mem_map.1 h5
  have e3 : p.1 = a := (Prod.mk.inj hq).1
  have e4 := e2 p hp
  rw [e3, hg] at e4
  have : v = p.2 := Option.some.inj e4
  rw [← e3, this]; exact hp
/-- A range over it, what is still to come told as keys and values. -/
def IterO (kv : K → Value) (enc : V → Value) (w : World) (r B : Nat) (left : List (K × V)) : Prop := IterB kv w r B (left.map fun p => (p.1, enc p.2))
omit [DecidableEq K] in
theorem IterO.lt (h : IterO kv enc w r B left) : r < w.heap.size := IterB.lt h
omit [DecidableEq K] in
theorem IterO.kept {row : Option Nat} (h : IterO kv enc w r B left) (hg : w.grownBy x row) (h1 : row ≠ some B) (h2 : row ≠ some r) : IterO kv enc x r B left := IterB.kept h hg h1 h2
omit [DecidableEq K] in
theorem IterO.row {B' : Nat} {T : TypeId} {sz k : Nat} {u : Value} {xs : List Value} (h : IterO kv enc w r B left) (hr : w.ownsRow B' T sz u k xs) : u.ownBlock ≠ some B ∧ u.ownBlock ≠ some r := IterB.row h hr
end
section
variable {P : Program} {n : Nat} {m : List (Nat × Value)} {w : World} {o : Oper}
end
end Go.Proofs.Ytdgboikkgeioeaa

/- Steps of a walk over an object's own parts: effects upon a set of blocks, appends that tell where the row went, bytes, maps looked up, rows and maps cleared. Conditions: none. -/
namespace Go.Proofs.Ytdgboikkgeioeaa
open Go.RowKit

section
variable {P : Program} {n : Nat} {m : List (Nat × Value)} {w x w0 : World} {o : Oper} {N : Nat} {T : TypeId} {cs : Array Value} {S : Nat → Prop} {v u : Value} {k : Nat}
/-- Where a row lies: in S, or it was made since a world of n blocks. -/
def InS (S : Nat → Prop) (n : Nat) (v : Value) : Prop := ∀ k, v.ownBlock = some k → S k ∨ n ≤ k
/-- The row stayed in its block, or went into a new one. -/
def Went (w : World) (v u : Value) : Prop := u.ownBlock = v.ownBlock ∨ ∀ k, u.ownBlock = some k → w.heap.size ≤ k
theorem InS.went (h : InS S k v) (hf : Went w v u) (hn : k ≤ w.heap.size) : InS S k u := fun i hi => by
  rcases hf with e | e
  · exact h i (e ▸ hi)
  · exact .inr (Nat.le_trans hn (e i hi))
theorem InS.nil : InS S k (.slice none 0 0) := fun i hi => by simp [Value.ownBlock] at hi
theorem InS.of (h : ∀ i, v.ownBlock = some i → S i) : InS S k v := fun i hi => .inl (h i hi)
theorem strOfNums_bytesU (l : List UInt8) : strOfNums (l.map fun b => ((b.toNat : Nat) : Int)) = ⟨l.toArray⟩ := by
  apply ByteArray.ext
  apply Array.toList_inj.1
  rw [strOfNums_data, List.map_map]
  show _ = l
  have : ((fun n : Int => UInt8.ofNat n.toNat) ∘ fun b : UInt8 => ((b.toNat : Nat) : Int)) = id := by
    funext b
    simp
  rw [this, List.map_id]
/-- Bytes. -/
def u8E (b : UInt8) : List Value := [.int .u8 ((b.toNat : Nat) : Int)]
theorem flat_u8 : ∀ l : List UInt8, l.flatMap u8E = l.map fun b => Value.int .u8 ((b.toNat : Nat) : Int)
  | [] => rfl
  | b :: r => by rw [List.flatMap_cons, List.map_cons, flat_u8 r]; rfl
theorem strCells_flat (s : ByteArray) : Lib.strCells s = s.data.toList.flatMap u8E := by rw [flat_u8]; rfl
theorem op_appendStrF {sl q : Operand} {t t' : TypeId} (ho : o.op = .call { callee := .builtin .append, args := #[sl, q], argTypes := #[t, t'] })
    (base : Nat) (e : TypeId) (ht : P.underlying t = some (.slice e)) (hu : P.underlying t' = some .string) (hi : (P.info? e).map (fun i => (i.zero, i.size, i.bytes)) = some (some (.int .u8 0), 1, 1))
    {l : List UInt8} (hs : ev m sl = some v) (hown : w.ownsRow base e 1 v l.length (l.flatMap u8E)) {s : ByteArray} (hx : ev m q = some (.string s))
    (h63 : l.length + s.size ≤ 140737488355328) (hbase : base ≤ w.heap.size) :
    Op1 P n m o w (fun u x => x.ownsRow base e 1 u (l ++ s.data.toList).length ((l ++ s.data.toList).flatMap u8E) ∧ Went w v u ∧ w.grownBy x v.ownBlock) := by
  intro a ha K Q hN
  obtain ⟨i0, hii, hz0, hz1, hz2⟩ := info_parts hi
  obtain ⟨v', w', hr, h2, h3, h4⟩ := run_append_str_fresh (P := P) w base t t' o.type e i0 ht hu hii hz0 hz1 hz2 v l.length (l.flatMap u8E) hown s (by unfold maxLen; omega) h63 hbase
  unfold Oper.wp execOp
  simp only [ho, resolve, invoke, builtin, Sem.run_bind, Sem.run_pure, Result.andThen_ok, List.map_toArray, List.map_cons, List.map_nil, ha.ev hs, ha.ev hx, hr]
  refine hN _ _ ⟨?_, h4, h3⟩
  rw [List.length_append, List.flatMap_append, ← strCells_flat]
  have e1 : s.data.toList.length = s.size := rfl
  rw [e1]; exact h2
theorem rn_addStr {T T' : TypeId} {q r : Operand} {a b : ByteArray} (ho : o.op = .binOp .add T q r T') (hq : ev m q = some (.string a)) (hr : ev m r = some (.string b)) (h : a.size + b.size ≤ 9223372036854775807) : (execOp (lk m) o).run P w = .ok (.value (.string (a ++ b))) w := by
  have h0 := run_string_add_sum (P := P) w a b h
  unfold execOp
  simp only [ho, lk_ev hq, lk_ev hr]
  simp [eqGuard, binOp, h0]
theorem rn_convOwn {src dst e : TypeId} {q : Operand} {l : List UInt8} {base : Nat} (ho : o.op = .convert src dst q) (hq : ev m q = some v) (hs : P.underlying src = some (.slice e)) (he : P.underlying e = some (.int .u8)) (hd : P.underlying dst = some .string)
    (h : w.ownsRow base e 1 v l.length (l.flatMap u8E)) : (execOp (lk m) o).run P w = .ok (.value (.string ⟨l.toArray⟩)) w := by
  have hrun : (convert src dst v).run P w = .ok (.string ⟨l.toArray⟩) w := by
    rcases h.2 with ⟨rfl, h0⟩ | ⟨g, cap, cur, rfl, hbg, hg, hnc, hcm, hcs, htake⟩
    · have := run_convert_bytes_nil (P := P) (w := w) src e hs he 0 0 dst hd
      obtain rfl : l = [] := List.eq_nil_of_length_eq_zero h0
      exact this
    · rw [← strOfNums_bytesU]
      refine run_convert_bytes_arg w src e hs he g 0 l.length cap _ (by simp) (fun i hi => ?_) dst hd
      have hc := h.cells (g := g) rfl i (.int .u8 ((l[i].toNat : Nat) : Int)) (by rw [flat_u8, List.getElem?_map, List.getElem?_eq_getElem hi]; rfl)
      rw [Addr.add_lit] at hc
      rw [hc]; simp [List.getD, hi]
  unfold execOp
  simp only [ho, lk_ev hq, Sem.run_bind, hrun, Result.andThen_ok, Sem.run_pure]
end
section
variable {K V : Type} [DecidableEq K] {P : Program} {n : Nat} {m : List (Nat × Value)} {w x : World} {o : Oper} {B r c : Nat} {kv : K → Value} {enc : V → Value} {g : K → Option V} {kt e t : TypeId} {q s : Operand} {a : K} {v : V}
end
section
variable {P : Program} {n : Nat} {m : List (Nat × Value)} {w : World} {o : Oper} {v : Value} {α : Type} {enc : α → List Value} {l : List α} {sz base : Nat} {T : TypeId}
end
end Go.Proofs.Ytdgboikkgeioeaa

/- Stores into a part of a block; boxes of an opaque value. Conditions: none. -/
namespace Go.Proofs.Ytdgboikkgeioeaa
open Go.RowKit

section
variable {P : Program} {n : Nat} {m : List (Nat × Value)} {w x w0 : World} {o : Oper} {N : Nat} {T : TypeId} {cs : Array Value} {S : Nat → Prop}
theorem op_storePart {t : TypeId} {p q : Operand} {cells cs' : Array Value} {k : Nat} (ho : o.op = .store t p q) (hp : ev m p = some (.pointer (some ⟨N, k, none⟩))) (hq : ev m q = some (.agg cells)) (h1 : cells.all (·.oneCell') = true) (hi : (P.info? t).map (·.size) = some cells.size)
    (hb : Blk w N T cs) (hk : Nat.ble (k + cells.size) cs.size = true) (he : (cs.toList.take k ++ cells.toList ++ cs.toList.drop (k + cells.size)).toArray = cs') : Op1 P n m o w (fun _ x => Blk x N T cs' ∧ x.heap.size = w.heap.size ∧ w.grownBy x (some N)) := by
  intro a ha K Q hN
  have hk' : k + cells.size ≤ cs.size := by simpa using hk
  have hthere : w.there N k cells.size := fun j hj => ⟨by rw [hb.cell (k := k + j) (v := cs[k + j]'(by omega)) (by rw [Array.getElem?_eq_getElem])]; rfl, hb.frozen _⟩
  refine wp_store_mid t p q ho N k cells (ha.ev hp) (ha.ev hq) hthere hi h1 (hN _ _ ⟨?_, ?_, ?_⟩)
  · have := setCells_blk cells.toList w cs k hb (by simpa using hk')
    simp only [Array.length_toList] at this
    rw [he] at this; exact this
  · have hsz : ∀ (vs : List Value) (k : Nat) (w : World), (w.setCells N k vs).heap.size = w.heap.size := by
      intro vs
      induction vs with
      | nil => intro k w; rfl
      | cons v r ih => intro k w; rw [World.setCells, ih]; simp [World.setCell]
    exact hsz _ _ _
  · have hg : ∀ (vs : List Value) (k : Nat) (w : World), w.grownBy (w.setCells N k vs) (some N) := by
      intro vs
      induction vs with
      | nil => intro k w; exact World.grownBy.refl _ _
      | cons v r ih => intro k w; rw [World.setCells]; exact (grown_setCell w N k v).trans (ih _ _)
    exact hg _ _ _
end
end Go.Proofs.Ytdgboikkgeioeaa

/- Package script and the document's own: a step's bytes. Conditions: at most 100 operations, texts of at most 1048576 bytes. -/
namespace Go.Proofs.Ytdgboikkgeioeaa
open Go.RowKit Go.PlainAid
set_option linter.unusedVariables false
set_option linter.unusedSimpArgs false


theorem co_unroll {P : Program} {c : Code} {Q : Exit → Act → World → Prop} {n : Nat} {a : Act} {w : World} (h : c.wp P (Exit.then (Code.rounds P c Q n) Q) a w) : Code.rounds P c Q (n + 1) a w := h
theorem rng_i {e : EvD} (h : rngE e) (hk : e.k = 0) : ((0 ≤ e.k ∧ e.k ≤ 1073741824) ∧ (0 ≤ e.nd ∧ e.nd ≤ 1073741824) ∧ (0 ≤ e.n ∧ e.n ≤ 1073741824)) ∧ (0 ≤ e.ak ∧ e.ak ≤ 1073741824) ∧ (0 ≤ e.an ∧ e.an ≤ 1073741824) ∧ (0 ≤ e.am ∧ e.am ≤ 1073741824) := ⟨h.1, h.2 hk⟩
theorem rng_i2 {e : EvD} (h : rngE e) (hk : ¬ e.k = 0) : (0 ≤ e.k ∧ e.k ≤ 1073741824) ∧ (0 ≤ e.nd ∧ e.nd ≤ 1073741824) ∧ (0 ≤ e.n ∧ e.n ≤ 1073741824) := h.1
theorem rng_o {e : EvD} (h : ¬ rngE e) (hk : e.k = 0) : ¬ (0 ≤ e.k ∧ e.k ≤ 1073741824) ∨ ¬ (0 ≤ e.nd ∧ e.nd ≤ 1073741824) ∨ ¬ (0 ≤ e.n ∧ e.n ≤ 1073741824) ∨ ¬ (0 ≤ e.ak ∧ e.ak ≤ 1073741824) ∨ ¬ (0 ≤ e.an ∧ e.an ≤ 1073741824) ∨ ¬ (0 ≤ e.am ∧ e.am ≤ 1073741824) := by
  apply Classical.byContradiction; intro q; exact h (rng_y ⟨by omega, .inr (by omega)⟩)
theorem rng_o2 {e : EvD} (h : ¬ rngE e) (hk : ¬ e.k = 0) : ¬ (0 ≤ e.k ∧ e.k ≤ 1073741824) ∨ ¬ (0 ≤ e.nd ∧ e.nd ≤ 1073741824) ∨ ¬ (0 ≤ e.n ∧ e.n ≤ 1073741824) := by
  apply Classical.byContradiction; intro q; exact h (rng_y ⟨by omega, .inl hk⟩)
theorem evB_y {e : EvD} (h : e.k = 0) : evB e = hedB e ++ askB e := if_pos h
theorem evB_n {e : EvD} (h : ¬ e.k = 0) : evB e = hedB e := if_neg h
theorem evS_size {e : EvD} {s : ByteArray} (h : s = ⟨(evB e).toArray⟩) : s.size = (evB e).length := by rw [h]; show (evB e).toArray.size = _; simp

set_option maxRecDepth 100000 in
theorem cloneOpS (v : Value) (l : List OpT) (w : World) (hs : SliceOf opE 3 w v l) (hlen : l.length ≤ 100) :
    Calls Try.prog 89 #[v] w fun e w' => ∃ (u : Value), e = .returned (u) ∧ w'.ownsRow w.heap.size 66 3 u l.length (l.flatMap opE) ∧ Below w.heap.size w w' := by
 have hB0 := Below.refl w.heap.size w
 have hl_hs := sl_len hs
 have hs' := hs; obtain ⟨ao, cap, hv, _, _, h3, _⟩ := hs'; subst hv; rcases ao with _ | ad
 · obtain ⟨hl0, hc0⟩ := h3 rfl; obtain rfl : l = [] := List.eq_nil_of_length_eq_zero hl0; subst hc0
   refine co_enter (n := 8) Try.func89 rfl rfl rfl [(0, .slice none 0 0)] rfl (fun a h0 => ?_)
   refine co_seq ?_
   refine co_reg ?_
   refine pk0 (v := .slice none 0 0) h0 rfl fun a1 h1 => ?_; clear h0
   refine pl_nil ?_
   refine co_then ?_
   refine co_seq ?_
   refine co_seq ?_
   refine co_reg ?_
   refine pk0 (v := .slice none 0 0) h1 rfl fun a2 h2 => ?_; clear h1
   refine pk0 (v := .bool true) h2 rfl fun a3 h3 => ?_; clear h2
   refine pl_nil ?_
   refine co_then ?_
   refine co_true h3 rfl ?_
   refine co_seq ?_
   refine co_reg ?_
   refine pk0 (v := .slice none 0 0) h3 rfl fun a4 h4 => ?_; clear h3
   refine pl_nil ?_
   refine co_then ?_
   refine wp_ret ?_
   refine co_thenR ?_
   refine co_ret1 h4 rfl rfl ?_
   exact ⟨_, rfl, (row_nilL _ _ _ _ _), hB0⟩
 · skip
   refine co_enter (n := 8) Try.func89 rfl rfl rfl [(0, .slice (some ad) l.length cap)] rfl (fun a h0 => ?_)
   refine co_seq ?_
   refine co_reg ?_
   refine pk0 (v := .slice none 0 0) h0 rfl fun a5 h5 => ?_; clear h0
   refine pl_nil ?_
   refine co_then ?_
   refine co_seq ?_
   refine co_seq ?_
   refine co_reg ?_
   refine pk0 (v := .slice (some ad) l.length cap) h5 rfl fun a6 h6 => ?_; clear h5
   refine pk0 (v := .bool false) h6 rfl fun a7 h7 => ?_; clear h6
   refine pl_nil ?_
   refine co_then ?_
   refine co_false h7 rfl ?_
   refine wp_skip ?_
   refine co_then ?_
   refine co_seq ?_
   refine co_reg ?_
   refine pw h7 rfl (op_new (v := fun N => .slice (some ⟨N, 0, none⟩) 0 0) (T := 66) (cs := #[]) (by kernel_rfl) (by kernel_rfl) (by kernel_rfl)) ?_; clear h7
   rintro _ w9 a8 ⟨N10, rfl, hN13, hz14, hk12, hg11⟩ h8
   have hz15 := hg11.size
   try dsimp only at h8
   refine pk0 (v := .slice (some ad) l.length cap) h8 rfl fun a16 h16 => ?_; clear h8
   have hr19 := row_of_blkL hk12 (Nat.le_refl _) 3 opE
   have hB24 := hb_new hB0 hg11
   refine pw h16 rfl (op_appendSrc rfl N10 66 (z := .agg #[.string (⟨#[]⟩), .string (⟨#[]⟩), .bool false]) (size := 3) (bytes := 40) Try.underlying24 (by kernel_rfl) rfl rfl rfl hr19 rfl (hs.below hB24) (fun y hy => ⟨opE_len y, opE_one y⟩) (by first | omega | (simp only [List.length_nil, List.length_append, List.length_cons, List.length_take, List.length_drop]; omega)) (by first | omega | (simp only [List.length_nil, List.length_append, List.length_cons, List.length_take, List.length_drop]; omega)) (by omega)) ?_; clear h16
   rintro v20 w18 a17 ⟨hr21, hg22⟩ h17
   have hr21' : w18.ownsRow N10 66 3 v20 l.length (l.flatMap opE) := row_app (l := []) hr21; clear hr21
   have hz25 := hg22.size
   refine pk0 (v := v20) h17 rfl fun a26 h26 => ?_; clear h17
   refine pl_nil ?_
   refine co_then ?_
   refine wp_ret ?_
   refine co_ret1 h26 rfl rfl ?_
   have hB27 := hb_row hB24 hr19 (by omega) hg22
   exact ⟨_, rfl, (row_lows hr21' (by omega)), hB27⟩
set_option maxRecDepth 100000 in
theorem freshAsk_any (d : EvD) (ov : Value) (w : World) (hs : SliceOf opE 3 w ov d.ops) (hlen : d.ops.length ≤ 100) :
    Calls Try.prog 46 #[.agg #[.int .i64 d.ak, .int .i64 d.an, .string d.ky, .string d.tt, .int .u64 d.at_, .int .i64 d.am, ov]] w fun e w' => ∃ (u : Value), e = .returned (.agg #[.int .i64 d.ak, .int .i64 d.an, .string d.ky, .string d.tt, .int .u64 d.at_, .int .i64 d.am, u]) ∧ w'.ownsRow w.heap.size 66 3 u d.ops.length (d.ops.flatMap opE) ∧ Below w.heap.size w w' := by
 have hB0 := Below.refl w.heap.size w
 have hl_hs := sl_len hs
 refine co_enter (n := 8) Try.func46 rfl rfl rfl [(0, .agg #[.int .i64 d.ak, .int .i64 d.an, .string d.ky, .string d.tt, .int .u64 d.at_, .int .i64 d.am, ov])] rfl (fun a h0 => ?_)
 refine co_seq ?_
 refine co_reg ?_
 refine pw h0 rfl (op_new (v := fun N => pt N 0) (T := 35) (cs := #[.int .i64 d.ak, .int .i64 d.an, .string d.ky, .string d.tt, .int .u64 d.at_, .int .i64 d.am, ov]) (by kernel_rfl) (by kernel_rfl) (by kernel_rfl)) ?_; clear h0
 rintro _ w2 a1 ⟨N3, rfl, hN6, hz7, hk5, hg4⟩ h1
 have hz8 := hg4.size
 try dsimp only at h1
 refine pw h1 rfl (op_new (v := fun N => pt N 0) (T := 35) (cs := #[.int .i64 0, .int .i64 0, .string (⟨#[]⟩), .string (⟨#[]⟩), .int .u64 0, .int .i64 0, .slice none 0 0]) (by kernel_rfl) (by kernel_rfl) (by kernel_rfl)) ?_; clear h1
 rintro _ w10 a9 ⟨N11, rfl, hN14, hz15, hk13, hg12⟩ h9
 have hz16 := hg12.size
 try dsimp only at h9
 refine pl_nil ?_
 refine co_then ?_
 refine co_seq ?_
 refine co_reg ?_
 refine pk0 (v := pt N3 6) h9 rfl fun a17 h17 => ?_; clear h9
 have hk18 := hk5.kept hg12 (by simp)
 refine pk (v := ov) h17 rfl (rn_load1 rfl rfl Try.isAgg24 (hk18.cell rfl)) fun a19 h19 => ?_; clear h17
 have hB22 := hb_new hB0 hg4
 have hB23 := hb_new hB22 hg12
 refine pw h19 rfl (op_call (args := #[ov]) (R := fun res xw => ∃ u : Value, res = u ∧ xw.ownsRow w10.heap.size 66 3 u d.ops.length (d.ops.flatMap opE) ∧ Below w10.heap.size w10 xw) rfl rfl rfl (by kernel_rfl) (by kernel_rfl) (Try.call89 _ _) (cloneOpS ov d.ops w10 (hs.below hB23) (by first | omega | (simp; done) | (simp; omega))) (by rintro e x ⟨u, rfl, hq25, hb26⟩; exact ⟨_, rfl, ⟨u, rfl, hq25, hb26⟩⟩)) ?_; clear h19
 rintro u24 w21 a20 ⟨_, rfl, hq25, hb26⟩ h20
 have hz27 := hb26.size
 have hl28 := sl_len (row_sl hq25 opE_len)
 refine pk0 (v := pt N3 6) h20 rfl fun a29 h29 => ?_; clear h20
 have hk35 := hk18.below hb26
 refine pwD h29 rfl (op_store1 rfl rfl rfl (row_one hq25) Try.sizeOf24 hk35 rfl) ?_; clear h29
 rintro _ w31 a30 ⟨hk32, hz33, hg34⟩ h30
 have hk32' : Blk w31 N3 35 #[.int .i64 d.ak, .int .i64 d.an, .string d.ky, .string d.tt, .int .u64 d.at_, .int .i64 d.am, u24] := hk32; clear hk32
 have hz36 := hg34.size
 refine pl_nil ?_
 refine co_then ?_
 refine co_seq ?_
 refine co_reg ?_
 refine pk (v := .agg #[.int .i64 d.ak, .int .i64 d.an, .string d.ky, .string d.tt, .int .u64 d.at_, .int .i64 d.am, u24]) h30 rfl (rn_loadN rfl rfl Try.underlying35 rfl (by kernel_rfl) hk32'.all) fun a37 h37 => ?_; clear h30
 have hr43 := row_kept_at hq25 hg34 (own_neT hq25 hk35 (by decide))
 have hk44 := hk13.below hb26
 have hk45 := hk44.kept hg34 (by simp; omega)
 refine pwD h37 rfl (op_storeN rfl rfl rfl (all_cons rfl (all_cons rfl (all_cons rfl (all_cons rfl (all_cons rfl (all_cons rfl (all_cons (row_one hr43) all_nil))))))) (by kernel_rfl) hk45 rfl) ?_; clear h37
 rintro _ w39 a38 ⟨hk40, hz41, hg42⟩ h38
 have hk40' : Blk w39 N11 35 #[.int .i64 d.ak, .int .i64 d.an, .string d.ky, .string d.tt, .int .u64 d.at_, .int .i64 d.am, u24] := hk40; clear hk40
 have hz46 := hg42.size
 refine pl_nil ?_
 refine co_then ?_
 refine wp_ret ?_
 refine co_retC (Q := fun _ _ _ => True) h38 rfl rfl hk40' Try.underlying35 rfl (by kernel_rfl) ?_
 have hr47 := row_kept_at hr43 hg42 (own_neT hr43 hk45 (by decide))
 have hB48 := hb_call hB23 hb26
 have hB49 := hb_at hB48 hg34 (by omega)
 have hB50 := hb_at hB49 hg42 (by omega)
 exact ⟨_, rfl, (row_lows hr47 (by omega)), hB50⟩
set_option maxRecDepth 100000 in
theorem cloneOpZ  (w : World)  :
    Calls Try.prog 89 #[.slice none 0 0] w fun e w' => ∃ (u : Value), e = .returned (u) ∧ w'.ownsRow w.heap.size 66 3 u ([] : List OpT).length (([] : List OpT).flatMap opE) ∧ Below w.heap.size w w' := by
 have hB0 := Below.refl w.heap.size w
 refine co_enter (n := 8) Try.func89 rfl rfl rfl [(0, .slice none 0 0)] rfl (fun a h0 => ?_)
 refine co_seq ?_
 refine co_reg ?_
 refine pk0 (v := .slice none 0 0) h0 rfl fun a1 h1 => ?_; clear h0
 refine pl_nil ?_
 refine co_then ?_
 refine co_seq ?_
 refine co_seq ?_
 refine co_reg ?_
 refine pk0 (v := .slice none 0 0) h1 rfl fun a2 h2 => ?_; clear h1
 refine pk0 (v := .bool true) h2 rfl fun a3 h3 => ?_; clear h2
 refine pl_nil ?_
 refine co_then ?_
 refine co_true h3 rfl ?_
 refine co_seq ?_
 refine co_reg ?_
 refine pk0 (v := .slice none 0 0) h3 rfl fun a4 h4 => ?_; clear h3
 refine pl_nil ?_
 refine co_then ?_
 refine wp_ret ?_
 refine co_thenR ?_
 refine co_ret1 h4 rfl rfl ?_
 exact ⟨_, rfl, (row_nilL _ _ _ _ _), hB0⟩
set_option maxRecDepth 100000 in
theorem freshAskZ  (w : World)  :
    Calls Try.prog 46 #[.agg #[.int .i64 0, .int .i64 0, .string (⟨#[]⟩), .string (⟨#[]⟩), .int .u64 0, .int .i64 0, .slice none 0 0]] w fun e w' => ∃ (u : Value), e = .returned (.agg #[.int .i64 0, .int .i64 0, .string (⟨#[]⟩), .string (⟨#[]⟩), .int .u64 0, .int .i64 0, u]) ∧ w'.ownsRow w.heap.size 66 3 u ([] : List OpT).length (([] : List OpT).flatMap opE) ∧ Below w.heap.size w w' := by
 have hB0 := Below.refl w.heap.size w
 refine co_enter (n := 8) Try.func46 rfl rfl rfl [(0, .agg #[.int .i64 0, .int .i64 0, .string (⟨#[]⟩), .string (⟨#[]⟩), .int .u64 0, .int .i64 0, .slice none 0 0])] rfl (fun a h0 => ?_)
 refine co_seq ?_
 refine co_reg ?_
 refine pw h0 rfl (op_new (v := fun N => pt N 0) (T := 35) (cs := #[.int .i64 0, .int .i64 0, .string (⟨#[]⟩), .string (⟨#[]⟩), .int .u64 0, .int .i64 0, .slice none 0 0]) (by kernel_rfl) (by kernel_rfl) (by kernel_rfl)) ?_; clear h0
 rintro _ w2 a1 ⟨N3, rfl, hN6, hz7, hk5, hg4⟩ h1
 have hz8 := hg4.size
 try dsimp only at h1
 refine pw h1 rfl (op_new (v := fun N => pt N 0) (T := 35) (cs := #[.int .i64 0, .int .i64 0, .string (⟨#[]⟩), .string (⟨#[]⟩), .int .u64 0, .int .i64 0, .slice none 0 0]) (by kernel_rfl) (by kernel_rfl) (by kernel_rfl)) ?_; clear h1
 rintro _ w10 a9 ⟨N11, rfl, hN14, hz15, hk13, hg12⟩ h9
 have hz16 := hg12.size
 try dsimp only at h9
 refine pl_nil ?_
 refine co_then ?_
 refine co_seq ?_
 refine co_reg ?_
 refine pk0 (v := pt N3 6) h9 rfl fun a17 h17 => ?_; clear h9
 have hk18 := hk5.kept hg12 (by simp)
 refine pk (v := .slice none 0 0) h17 rfl (rn_load1 rfl rfl Try.isAgg24 (hk18.cell rfl)) fun a19 h19 => ?_; clear h17
 refine pw h19 rfl (op_call (args := #[.slice none 0 0]) (R := fun res xw => ∃ u : Value, res = u ∧ xw.ownsRow w10.heap.size 66 3 u ([] : List OpT).length (([] : List OpT).flatMap opE) ∧ Below w10.heap.size w10 xw) rfl rfl rfl (by kernel_rfl) (by kernel_rfl) (Try.call89 _ _) (cloneOpZ  w10 ) (by rintro e x ⟨u, rfl, hq23, hb24⟩; exact ⟨_, rfl, ⟨u, rfl, hq23, hb24⟩⟩)) ?_; clear h19
 rintro u22 w21 a20 ⟨_, rfl, hq23, hb24⟩ h20
 have hz25 := hb24.size
 have hl26 := sl_len (row_sl hq23 opE_len)
 refine pk0 (v := pt N3 6) h20 rfl fun a27 h27 => ?_; clear h20
 have hk33 := hk18.below hb24
 refine pwD h27 rfl (op_store1 rfl rfl rfl (row_one hq23) Try.sizeOf24 hk33 rfl) ?_; clear h27
 rintro _ w29 a28 ⟨hk30, hz31, hg32⟩ h28
 have hk30' : Blk w29 N3 35 #[.int .i64 0, .int .i64 0, .string (⟨#[]⟩), .string (⟨#[]⟩), .int .u64 0, .int .i64 0, u22] := hk30; clear hk30
 have hz34 := hg32.size
 refine pl_nil ?_
 refine co_then ?_
 refine co_seq ?_
 refine co_reg ?_
 refine pk (v := .agg #[.int .i64 0, .int .i64 0, .string (⟨#[]⟩), .string (⟨#[]⟩), .int .u64 0, .int .i64 0, u22]) h28 rfl (rn_loadN rfl rfl Try.underlying35 rfl (by kernel_rfl) hk30'.all) fun a35 h35 => ?_; clear h28
 have hr41 := row_kept_at hq23 hg32 (own_neT hq23 hk33 (by decide))
 have hk42 := hk13.below hb24
 have hk43 := hk42.kept hg32 (by simp; omega)
 refine pwD h35 rfl (op_storeN rfl rfl rfl (all_cons rfl (all_cons rfl (all_cons rfl (all_cons rfl (all_cons rfl (all_cons rfl (all_cons (row_one hr41) all_nil))))))) (by kernel_rfl) hk43 rfl) ?_; clear h35
 rintro _ w37 a36 ⟨hk38, hz39, hg40⟩ h36
 have hk38' : Blk w37 N11 35 #[.int .i64 0, .int .i64 0, .string (⟨#[]⟩), .string (⟨#[]⟩), .int .u64 0, .int .i64 0, u22] := hk38; clear hk38
 have hz44 := hg40.size
 refine pl_nil ?_
 refine co_then ?_
 refine wp_ret ?_
 refine co_retC (Q := fun _ _ _ => True) h36 rfl rfl hk38' Try.underlying35 rfl (by kernel_rfl) ?_
 have hr45 := row_kept_at hr41 hg40 (own_neT hr41 hk43 (by decide))
 have hB46 := hb_new hB0 hg4
 have hB47 := hb_new hB46 hg12
 have hB48 := hb_call hB47 hb24
 have hB49 := hb_at hB48 hg32 (by omega)
 have hB50 := hb_at hB49 hg40 (by omega)
 exact ⟨_, rfl, (row_lows hr45 (by omega)), hB50⟩
set_option maxRecDepth 100000 in
theorem clean_y (d : EvD) (ov : Value) (w : World) (hs : SliceOf opE 3 w ov d.ops) (hlen : d.ops.length ≤ 100) (hk : d.k = 0) :
    Calls Try.prog 23 #[.agg #[.int .i64 d.k, .int .i64 d.nd, .int .i64 d.n, .int .i64 d.ak, .int .i64 d.an, .string d.ky, .string d.tt, .int .u64 d.at_, .int .i64 d.am, ov]] w fun e w' => ∃ (u : Value), e = .returned (.agg #[.int .i64 d.k, .int .i64 d.nd, .int .i64 d.n, .int .i64 d.ak, .int .i64 d.an, .string d.ky, .string d.tt, .int .u64 d.at_, .int .i64 d.am, u]) ∧ w'.ownsRow w.heap.size 66 3 u d.ops.length (d.ops.flatMap opE) ∧ Below w.heap.size w w' := by
 have hB0 := Below.refl w.heap.size w
 have hl_hs := sl_len hs
 refine co_enter (n := 13) Try.func23 rfl rfl rfl [(0, .agg #[.int .i64 d.k, .int .i64 d.nd, .int .i64 d.n, .int .i64 d.ak, .int .i64 d.an, .string d.ky, .string d.tt, .int .u64 d.at_, .int .i64 d.am, ov])] rfl (fun a h0 => ?_)
 refine co_seq ?_
 refine co_reg ?_
 refine pw h0 rfl (op_new (v := fun N => pt N 0) (T := 60) (cs := #[.int .i64 d.k, .int .i64 d.nd, .int .i64 d.n, .int .i64 d.ak, .int .i64 d.an, .string d.ky, .string d.tt, .int .u64 d.at_, .int .i64 d.am, ov]) (by kernel_rfl) (by kernel_rfl) (by kernel_rfl)) ?_; clear h0
 rintro _ w2 a1 ⟨N3, rfl, hN6, hz7, hk5, hg4⟩ h1
 have hz8 := hg4.size
 try dsimp only at h1
 refine pw h1 rfl (op_new (v := fun N => pt N 0) (T := 60) (cs := #[.int .i64 0, .int .i64 0, .int .i64 0, .int .i64 0, .int .i64 0, .string (⟨#[]⟩), .string (⟨#[]⟩), .int .u64 0, .int .i64 0, .slice none 0 0]) (by kernel_rfl) (by kernel_rfl) (by kernel_rfl)) ?_; clear h1
 rintro _ w10 a9 ⟨N11, rfl, hN14, hz15, hk13, hg12⟩ h9
 have hz16 := hg12.size
 try dsimp only at h9
 refine pl_nil ?_
 refine co_then ?_
 refine co_seq ?_
 refine co_seq ?_
 refine co_reg ?_
 refine pk0 (v := pt N3 0) h9 rfl fun a17 h17 => ?_; clear h9
 have hk18 := hk5.kept hg12 (by simp)
 refine pk (v := .int .i64 d.k) h17 rfl (rn_load1 rfl rfl Try.isAgg3 (hk18.cell rfl)) fun a19 h19 => ?_; clear h17
 refine pk0 (v := .bool (d.k != 0)) h19 rfl fun a20 h20 => ?_; clear h19
 refine pl_nil ?_
 refine co_then ?_
 have hc21 : (d.k != 0) = false := by first | (simp; done) | (simp; omega) | exact beq_false_of_ne (by omega) | exact beq_iff_eq.2 (by omega)
 rw [hc21] at h20; clear hc21
 refine co_false h20 rfl ?_
 refine wp_skip ?_
 refine co_then ?_
 refine co_seq ?_
 refine co_reg ?_
 refine pk0 (v := pt N3 3) h20 rfl fun a22 h22 => ?_; clear h20
 refine pk (v := .agg #[.int .i64 d.ak, .int .i64 d.an, .string d.ky, .string d.tt, .int .u64 d.at_, .int .i64 d.am, ov]) h22 rfl (rn_loadN rfl rfl Try.underlying35 rfl (by kernel_rfl) (blk_part hk18 3 (by rfl))) fun a23 h23 => ?_; clear h22
 have hB26 := hb_new hB0 hg4
 have hB27 := hb_new hB26 hg12
 refine pw h23 rfl (op_call (args := #[.agg #[.int .i64 d.ak, .int .i64 d.an, .string d.ky, .string d.tt, .int .u64 d.at_, .int .i64 d.am, ov]]) (R := fun res xw => ∃ u : Value, res = .agg #[.int .i64 d.ak, .int .i64 d.an, .string d.ky, .string d.tt, .int .u64 d.at_, .int .i64 d.am, u] ∧ xw.ownsRow w10.heap.size 66 3 u d.ops.length (d.ops.flatMap opE) ∧ Below w10.heap.size w10 xw) rfl rfl rfl (by kernel_rfl) (by kernel_rfl) (Try.call46 _ _) (freshAsk_any _ ov w10 (hs.below hB27) (by first | omega | (simp; done) | (simp; omega))) (by rintro e x ⟨u, rfl, hq29, hb30⟩; exact ⟨_, rfl, ⟨u, rfl, hq29, hb30⟩⟩)) ?_; clear h23
 rintro _ w25 a24 ⟨u28, rfl, hq29, hb30⟩ h24
 have hz31 := hb30.size
 have hl32 := sl_len (row_sl hq29 opE_len)
 refine pk0 (v := pt N3 3) h24 rfl fun a33 h33 => ?_; clear h24
 have hk39 := hk18.below hb30
 refine pwD h33 rfl (op_storePart (k := 3) (cs' := #[.int .i64 d.k, .int .i64 d.nd, .int .i64 d.n, .int .i64 d.ak, .int .i64 d.an, .string d.ky, .string d.tt, .int .u64 d.at_, .int .i64 d.am, u28]) rfl rfl rfl (all_cons rfl (all_cons rfl (all_cons rfl (all_cons rfl (all_cons rfl (all_cons rfl (all_cons (row_one hq29) all_nil))))))) (by kernel_rfl) hk39 rfl rfl) ?_; clear h33
 rintro _ w35 a34 ⟨hk36, hz37, hg38⟩ h34
 have hk36' : Blk w35 N3 60 #[.int .i64 d.k, .int .i64 d.nd, .int .i64 d.n, .int .i64 d.ak, .int .i64 d.an, .string d.ky, .string d.tt, .int .u64 d.at_, .int .i64 d.am, u28] := hk36; clear hk36
 have hz40 := hg38.size
 refine pl_nil ?_
 refine co_then ?_
 refine co_seq ?_
 refine co_reg ?_
 refine pk (v := .agg #[.int .i64 d.k, .int .i64 d.nd, .int .i64 d.n, .int .i64 d.ak, .int .i64 d.an, .string d.ky, .string d.tt, .int .u64 d.at_, .int .i64 d.am, u28]) h34 rfl (rn_loadN rfl rfl Try.underlying60 rfl (by kernel_rfl) hk36'.all) fun a41 h41 => ?_; clear h34
 have hr47 := row_kept_at hq29 hg38 (own_neT hq29 hk39 (by decide))
 have hk48 := hk13.below hb30
 have hk49 := hk48.kept hg38 (by simp; omega)
 refine pwD h41 rfl (op_storeN rfl rfl rfl (all_cons rfl (all_cons rfl (all_cons rfl (all_cons rfl (all_cons rfl (all_cons rfl (all_cons rfl (all_cons rfl (all_cons rfl (all_cons (row_one hr47) all_nil)))))))))) (by kernel_rfl) hk49 rfl) ?_; clear h41
 rintro _ w43 a42 ⟨hk44, hz45, hg46⟩ h42
 have hk44' : Blk w43 N11 60 #[.int .i64 d.k, .int .i64 d.nd, .int .i64 d.n, .int .i64 d.ak, .int .i64 d.an, .string d.ky, .string d.tt, .int .u64 d.at_, .int .i64 d.am, u28] := hk44; clear hk44
 have hz50 := hg46.size
 refine pl_nil ?_
 refine co_then ?_
 refine wp_ret ?_
 refine co_retC (Q := fun _ _ _ => True) h42 rfl rfl hk44' Try.underlying60 rfl (by kernel_rfl) ?_
 have hr51 := row_kept_at hr47 hg46 (own_neT hr47 hk49 (by decide))
 have hB52 := hb_call hB27 hb30
 have hB53 := hb_at hB52 hg38 (by omega)
 have hB54 := hb_at hB53 hg46 (by omega)
 exact ⟨_, rfl, (row_lows hr51 (by omega)), hB54⟩
set_option maxRecDepth 100000 in
theorem clean_n (d : EvD) (ov : Value) (w : World) (hs : SliceOf opE 3 w ov d.ops) (hk : ¬ d.k = 0) :
    Calls Try.prog 23 #[.agg #[.int .i64 d.k, .int .i64 d.nd, .int .i64 d.n, .int .i64 d.ak, .int .i64 d.an, .string d.ky, .string d.tt, .int .u64 d.at_, .int .i64 d.am, ov]] w fun e w' => ∃ (u : Value), e = .returned (.agg #[.int .i64 d.k, .int .i64 d.nd, .int .i64 d.n, .int .i64 0, .int .i64 0, .string (⟨#[]⟩), .string (⟨#[]⟩), .int .u64 0, .int .i64 0, u]) ∧ w'.ownsRow w.heap.size 66 3 u ([] : List OpT).length (([] : List OpT).flatMap opE) ∧ Below w.heap.size w w' := by
 have hB0 := Below.refl w.heap.size w
 have hl_hs := sl_len hs
 refine co_enter (n := 13) Try.func23 rfl rfl rfl [(0, .agg #[.int .i64 d.k, .int .i64 d.nd, .int .i64 d.n, .int .i64 d.ak, .int .i64 d.an, .string d.ky, .string d.tt, .int .u64 d.at_, .int .i64 d.am, ov])] rfl (fun a h0 => ?_)
 refine co_seq ?_
 refine co_reg ?_
 refine pw h0 rfl (op_new (v := fun N => pt N 0) (T := 60) (cs := #[.int .i64 d.k, .int .i64 d.nd, .int .i64 d.n, .int .i64 d.ak, .int .i64 d.an, .string d.ky, .string d.tt, .int .u64 d.at_, .int .i64 d.am, ov]) (by kernel_rfl) (by kernel_rfl) (by kernel_rfl)) ?_; clear h0
 rintro _ w2 a1 ⟨N3, rfl, hN6, hz7, hk5, hg4⟩ h1
 have hz8 := hg4.size
 try dsimp only at h1
 refine pw h1 rfl (op_new (v := fun N => pt N 0) (T := 60) (cs := #[.int .i64 0, .int .i64 0, .int .i64 0, .int .i64 0, .int .i64 0, .string (⟨#[]⟩), .string (⟨#[]⟩), .int .u64 0, .int .i64 0, .slice none 0 0]) (by kernel_rfl) (by kernel_rfl) (by kernel_rfl)) ?_; clear h1
 rintro _ w10 a9 ⟨N11, rfl, hN14, hz15, hk13, hg12⟩ h9
 have hz16 := hg12.size
 try dsimp only at h9
 refine pl_nil ?_
 refine co_then ?_
 refine co_seq ?_
 refine co_seq ?_
 refine co_reg ?_
 refine pk0 (v := pt N3 0) h9 rfl fun a17 h17 => ?_; clear h9
 have hk18 := hk5.kept hg12 (by simp)
 refine pk (v := .int .i64 d.k) h17 rfl (rn_load1 rfl rfl Try.isAgg3 (hk18.cell rfl)) fun a19 h19 => ?_; clear h17
 refine pk0 (v := .bool (d.k != 0)) h19 rfl fun a20 h20 => ?_; clear h19
 refine pl_nil ?_
 refine co_then ?_
 have hc21 : (d.k != 0) = true := by first | (simp; done) | (simp; omega) | exact beq_false_of_ne (by omega) | exact beq_iff_eq.2 (by omega)
 rw [hc21] at h20; clear hc21
 refine co_true h20 rfl ?_
 refine co_reg ?_
 refine pk0 (v := .agg #[.int .i64 0, .int .i64 0, .string (⟨#[]⟩), .string (⟨#[]⟩), .int .u64 0, .int .i64 0, .slice none 0 0]) h20 rfl fun a22 h22 => ?_; clear h20
 refine pk0 (v := pt N3 3) h22 rfl fun a23 h23 => ?_; clear h22
 refine pwD h23 rfl (op_storePart (k := 3) (cs' := #[.int .i64 d.k, .int .i64 d.nd, .int .i64 d.n, .int .i64 0, .int .i64 0, .string (⟨#[]⟩), .string (⟨#[]⟩), .int .u64 0, .int .i64 0, .slice none 0 0]) rfl rfl rfl (all_cons rfl (all_cons rfl (all_cons rfl (all_cons rfl (all_cons rfl (all_cons rfl (all_cons rfl all_nil))))))) (by kernel_rfl) hk18 rfl rfl) ?_; clear h23
 rintro _ w25 a24 ⟨hk26, hz27, hg28⟩ h24
 have hk26' : Blk w25 N3 60 #[.int .i64 d.k, .int .i64 d.nd, .int .i64 d.n, .int .i64 0, .int .i64 0, .string (⟨#[]⟩), .string (⟨#[]⟩), .int .u64 0, .int .i64 0, .slice none 0 0] := hk26; clear hk26
 have hz29 := hg28.size
 refine pl_nil ?_
 refine co_then ?_
 refine co_seq ?_
 refine co_reg ?_
 refine pk0 (v := pt N3 3) h24 rfl fun a30 h30 => ?_; clear h24
 refine pk (v := .agg #[.int .i64 0, .int .i64 0, .string (⟨#[]⟩), .string (⟨#[]⟩), .int .u64 0, .int .i64 0, .slice none 0 0]) h30 rfl (rn_loadN rfl rfl Try.underlying35 rfl (by kernel_rfl) (blk_part hk26' 3 (by rfl))) fun a31 h31 => ?_; clear h30
 refine pw h31 rfl (op_call (args := #[.agg #[.int .i64 0, .int .i64 0, .string (⟨#[]⟩), .string (⟨#[]⟩), .int .u64 0, .int .i64 0, .slice none 0 0]]) (R := fun res xw => ∃ u : Value, res = .agg #[.int .i64 0, .int .i64 0, .string (⟨#[]⟩), .string (⟨#[]⟩), .int .u64 0, .int .i64 0, u] ∧ xw.ownsRow w25.heap.size 66 3 u ([] : List OpT).length (([] : List OpT).flatMap opE) ∧ Below w25.heap.size w25 xw) rfl rfl rfl (by kernel_rfl) (by kernel_rfl) (Try.call46 _ _) (freshAskZ  w25 ) (by rintro e x ⟨u, rfl, hq35, hb36⟩; exact ⟨_, rfl, ⟨u, rfl, hq35, hb36⟩⟩)) ?_; clear h31
 rintro _ w33 a32 ⟨u34, rfl, hq35, hb36⟩ h32
 have hz37 := hb36.size
 have hl38 := sl_len (row_sl hq35 opE_len)
 refine pk0 (v := pt N3 3) h32 rfl fun a39 h39 => ?_; clear h32
 have hk45 := hk26'.below hb36
 refine pwD h39 rfl (op_storePart (k := 3) (cs' := #[.int .i64 d.k, .int .i64 d.nd, .int .i64 d.n, .int .i64 0, .int .i64 0, .string (⟨#[]⟩), .string (⟨#[]⟩), .int .u64 0, .int .i64 0, u34]) rfl rfl rfl (all_cons rfl (all_cons rfl (all_cons rfl (all_cons rfl (all_cons rfl (all_cons rfl (all_cons (row_one hq35) all_nil))))))) (by kernel_rfl) hk45 rfl rfl) ?_; clear h39
 rintro _ w41 a40 ⟨hk42, hz43, hg44⟩ h40
 have hk42' : Blk w41 N3 60 #[.int .i64 d.k, .int .i64 d.nd, .int .i64 d.n, .int .i64 0, .int .i64 0, .string (⟨#[]⟩), .string (⟨#[]⟩), .int .u64 0, .int .i64 0, u34] := hk42; clear hk42
 have hz46 := hg44.size
 refine pl_nil ?_
 refine co_then ?_
 refine co_seq ?_
 refine co_reg ?_
 refine pk (v := .agg #[.int .i64 d.k, .int .i64 d.nd, .int .i64 d.n, .int .i64 0, .int .i64 0, .string (⟨#[]⟩), .string (⟨#[]⟩), .int .u64 0, .int .i64 0, u34]) h40 rfl (rn_loadN rfl rfl Try.underlying60 rfl (by kernel_rfl) hk42'.all) fun a47 h47 => ?_; clear h40
 have hr53 := row_kept_at hq35 hg44 (own_neT hq35 hk45 (by decide))
 have hk54 := hk13.kept hg28 (by simp; omega)
 have hk55 := hk54.below hb36
 have hk56 := hk55.kept hg44 (by simp; omega)
 refine pwD h47 rfl (op_storeN rfl rfl rfl (all_cons rfl (all_cons rfl (all_cons rfl (all_cons rfl (all_cons rfl (all_cons rfl (all_cons rfl (all_cons rfl (all_cons rfl (all_cons (row_one hr53) all_nil)))))))))) (by kernel_rfl) hk56 rfl) ?_; clear h47
 rintro _ w49 a48 ⟨hk50, hz51, hg52⟩ h48
 have hk50' : Blk w49 N11 60 #[.int .i64 d.k, .int .i64 d.nd, .int .i64 d.n, .int .i64 0, .int .i64 0, .string (⟨#[]⟩), .string (⟨#[]⟩), .int .u64 0, .int .i64 0, u34] := hk50; clear hk50
 have hz57 := hg52.size
 refine pl_nil ?_
 refine co_then ?_
 refine wp_ret ?_
 refine co_retC (Q := fun _ _ _ => True) h48 rfl rfl hk50' Try.underlying60 rfl (by kernel_rfl) ?_
 have hr58 := row_kept_at hr53 hg52 (own_neT hr53 hk56 (by decide))
 have hB59 := hb_new hB0 hg4
 have hB60 := hb_new hB59 hg12
 have hB61 := hb_at hB60 hg28 (by omega)
 have hB62 := hb_call hB61 hb36
 have hB63 := hb_at hB62 hg44 (by omega)
 have hB64 := hb_at hB63 hg52 (by omega)
 exact ⟨_, rfl, (row_lows hr58 (by omega)), hB64⟩
set_option maxRecDepth 100000 in
theorem within_y (N : Nat) (z1 : Int) (z2 : Int) (z3 : Int) (z4 : Int) (z5 : Int) (z6 : Int) (w : World) (hN : Blk w N 3 #[.int .i64 z1, .int .i64 z2, .int .i64 z3, .int .i64 z4, .int .i64 z5, .int .i64 z6]) (hq : (0 ≤ z1 ∧ z1 ≤ 1073741824) ∧ (0 ≤ z2 ∧ z2 ≤ 1073741824) ∧ (0 ≤ z3 ∧ z3 ≤ 1073741824) ∧ (0 ≤ z4 ∧ z4 ≤ 1073741824) ∧ (0 ≤ z5 ∧ z5 ≤ 1073741824) ∧ (0 ≤ z6 ∧ z6 ≤ 1073741824)) :
    Calls Try.prog 68 #[.slice (some ⟨N, 0, none⟩) 6 6] w fun e w' => e = .returned (.bool true) ∧ Below w.heap.size w w' := by
 have hB0 := Below.refl w.heap.size w
 have hl_hN := hN.lt
 refine co_enter (n := 18) Try.func68 rfl rfl rfl [(0, .slice (some ⟨N, 0, none⟩) 6 6)] rfl (fun a h0 => ?_)
 refine co_seq ?_
 refine co_reg ?_
 refine pk0 (v := .bool false) h0 rfl fun a1 h1 => ?_; clear h0
 refine pl_nil ?_
 refine co_then ?_
 refine co_seq ?_
 refine co_seq ?_
 refine co_reg ?_
 refine pk0 (v := .slice (some ⟨N, 0, none⟩) 6 6) h1 rfl fun a2 h2 => ?_; clear h1
 refine pk0 (v := .int .i64 6) h2 rfl fun a3 h3 => ?_; clear h2
 refine pk0 (v := .int .i64 0) h3 rfl fun a4 h4 => ?_; clear h3
 refine pl_nil ?_
 refine co_then ?_
 refine wp_block ?_
 refine wp_loop_rounds 7 ?_
 refine co_unroll (n := 6) ?_
 refine co_seq ?_
 refine co_reg ?_
 refine pk0 (v := .bool (decide (0 < 6))) h4 rfl fun a5 h5 => ?_; clear h4
 refine pl_nil ?_
 refine co_then ?_
 refine co_seq ?_
 have hc6 : (decide (0 < 6)) = true := decide_eq_true (by omega)
 rw [hc6] at h5; clear hc6
 refine co_true h5 rfl ?_
 refine wp_skip ?_
 refine co_then ?_
 refine co_seq ?_
 refine wp_block ?_
 refine co_seq ?_
 refine co_reg ?_
 refine pk0 (v := pt N 0) h5 rfl fun a7 h7 => ?_; clear h5
 refine pk (v := .int .i64 z1) h7 rfl (rn_load1 rfl rfl Try.isAgg3 (hN.cell rfl)) fun a8 h8 => ?_; clear h7
 refine pk0 (v := .int .i64 z1) h8 rfl fun a9 h9 => ?_; clear h8
 refine pl_nil ?_
 refine co_then ?_
 refine co_seq ?_
 refine co_reg ?_
 refine pk0 (v := .int .i64 z1) h9 rfl fun a10 h10 => ?_; clear h9
 refine pk0 (v := .bool (decide (z1 < 0))) h10 rfl fun a11 h11 => ?_; clear h10
 refine pk0 (v := .bool (decide (z1 < 0))) h11 rfl fun a12 h12 => ?_; clear h11
 have hc13 : (decide (z1 < 0)) = false := decide_eq_false (by omega)
 rw [hc13] at h12; clear hc13
 refine pk0 (v := .int .i64 z1) h12 rfl fun a14 h14 => ?_; clear h12
 refine pk0 (v := .bool (decide (z1 > 1073741824))) h14 rfl fun a15 h15 => ?_; clear h14
 refine pk0 (v := .bool (decide (z1 > 1073741824))) h15 rfl fun a16 h16 => ?_; clear h15
 refine pl_nil ?_
 refine co_then ?_
 have hc17 : (decide (z1 > 1073741824)) = false := decide_eq_false (by omega)
 rw [hc17] at h16; clear hc17
 refine co_false h16 rfl ?_
 refine wp_skip ?_
 refine co_blockN ?_
 refine co_then ?_
 refine co_reg ?_
 refine pk0 (v := .int .i64 1) h16 rfl fun a18 h18 => ?_; clear h16
 refine pk0 (v := .int .i64 1) h18 rfl fun a19 h19 => ?_; clear h18
 refine pl_nil ?_
 refine co_then ?_
 refine co_unroll (n := 5) ?_
 refine co_seq ?_
 refine co_reg ?_
 refine pk0 (v := .bool (decide (1 < 6))) h19 rfl fun a20 h20 => ?_; clear h19
 refine pl_nil ?_
 refine co_then ?_
 refine co_seq ?_
 have hc21 : (decide (1 < 6)) = true := decide_eq_true (by omega)
 rw [hc21] at h20; clear hc21
 refine co_true h20 rfl ?_
 refine wp_skip ?_
 refine co_then ?_
 refine co_seq ?_
 refine wp_block ?_
 refine co_seq ?_
 refine co_reg ?_
 refine pk0 (v := pt N 1) h20 rfl fun a22 h22 => ?_; clear h20
 refine pk (v := .int .i64 z2) h22 rfl (rn_load1 rfl rfl Try.isAgg3 (hN.cell rfl)) fun a23 h23 => ?_; clear h22
 refine pk0 (v := .int .i64 z2) h23 rfl fun a24 h24 => ?_; clear h23
 refine pl_nil ?_
 refine co_then ?_
 refine co_seq ?_
 refine co_reg ?_
 refine pk0 (v := .int .i64 z2) h24 rfl fun a25 h25 => ?_; clear h24
 refine pk0 (v := .bool (decide (z2 < 0))) h25 rfl fun a26 h26 => ?_; clear h25
 refine pk0 (v := .bool (decide (z2 < 0))) h26 rfl fun a27 h27 => ?_; clear h26
 have hc28 : (decide (z2 < 0)) = false := decide_eq_false (by omega)
 rw [hc28] at h27; clear hc28
 refine pk0 (v := .int .i64 z2) h27 rfl fun a29 h29 => ?_; clear h27
 refine pk0 (v := .bool (decide (z2 > 1073741824))) h29 rfl fun a30 h30 => ?_; clear h29
 refine pk0 (v := .bool (decide (z2 > 1073741824))) h30 rfl fun a31 h31 => ?_; clear h30
 refine pl_nil ?_
 refine co_then ?_
 have hc32 : (decide (z2 > 1073741824)) = false := decide_eq_false (by omega)
 rw [hc32] at h31; clear hc32
 refine co_false h31 rfl ?_
 refine wp_skip ?_
 refine co_blockN ?_
 refine co_then ?_
 refine co_reg ?_
 refine pk0 (v := .int .i64 2) h31 rfl fun a33 h33 => ?_; clear h31
 refine pk0 (v := .int .i64 2) h33 rfl fun a34 h34 => ?_; clear h33
 refine pl_nil ?_
 refine co_then ?_
 refine co_unroll (n := 4) ?_
 refine co_seq ?_
 refine co_reg ?_
 refine pk0 (v := .bool (decide (2 < 6))) h34 rfl fun a35 h35 => ?_; clear h34
 refine pl_nil ?_
 refine co_then ?_
 refine co_seq ?_
 have hc36 : (decide (2 < 6)) = true := decide_eq_true (by omega)
 rw [hc36] at h35; clear hc36
 refine co_true h35 rfl ?_
 refine wp_skip ?_
 refine co_then ?_
 refine co_seq ?_
 refine wp_block ?_
 refine co_seq ?_
 refine co_reg ?_
 refine pk0 (v := pt N 2) h35 rfl fun a37 h37 => ?_; clear h35
 refine pk (v := .int .i64 z3) h37 rfl (rn_load1 rfl rfl Try.isAgg3 (hN.cell rfl)) fun a38 h38 => ?_; clear h37
 refine pk0 (v := .int .i64 z3) h38 rfl fun a39 h39 => ?_; clear h38
 refine pl_nil ?_
 refine co_then ?_
 refine co_seq ?_
 refine co_reg ?_
 refine pk0 (v := .int .i64 z3) h39 rfl fun a40 h40 => ?_; clear h39
 refine pk0 (v := .bool (decide (z3 < 0))) h40 rfl fun a41 h41 => ?_; clear h40
 refine pk0 (v := .bool (decide (z3 < 0))) h41 rfl fun a42 h42 => ?_; clear h41
 have hc43 : (decide (z3 < 0)) = false := decide_eq_false (by omega)
 rw [hc43] at h42; clear hc43
 refine pk0 (v := .int .i64 z3) h42 rfl fun a44 h44 => ?_; clear h42
 refine pk0 (v := .bool (decide (z3 > 1073741824))) h44 rfl fun a45 h45 => ?_; clear h44
 refine pk0 (v := .bool (decide (z3 > 1073741824))) h45 rfl fun a46 h46 => ?_; clear h45
 refine pl_nil ?_
 refine co_then ?_
 have hc47 : (decide (z3 > 1073741824)) = false := decide_eq_false (by omega)
 rw [hc47] at h46; clear hc47
 refine co_false h46 rfl ?_
 refine wp_skip ?_
 refine co_blockN ?_
 refine co_then ?_
 refine co_reg ?_
 refine pk0 (v := .int .i64 3) h46 rfl fun a48 h48 => ?_; clear h46
 refine pk0 (v := .int .i64 3) h48 rfl fun a49 h49 => ?_; clear h48
 refine pl_nil ?_
 refine co_then ?_
 refine co_unroll (n := 3) ?_
 refine co_seq ?_
 refine co_reg ?_
 refine pk0 (v := .bool (decide (3 < 6))) h49 rfl fun a50 h50 => ?_; clear h49
 refine pl_nil ?_
 refine co_then ?_
 refine co_seq ?_
 have hc51 : (decide (3 < 6)) = true := decide_eq_true (by omega)
 rw [hc51] at h50; clear hc51
 refine co_true h50 rfl ?_
 refine wp_skip ?_
 refine co_then ?_
 refine co_seq ?_
 refine wp_block ?_
 refine co_seq ?_
 refine co_reg ?_
 refine pk0 (v := pt N 3) h50 rfl fun a52 h52 => ?_; clear h50
 refine pk (v := .int .i64 z4) h52 rfl (rn_load1 rfl rfl Try.isAgg3 (hN.cell rfl)) fun a53 h53 => ?_; clear h52
 refine pk0 (v := .int .i64 z4) h53 rfl fun a54 h54 => ?_; clear h53
 refine pl_nil ?_
 refine co_then ?_
 refine co_seq ?_
 refine co_reg ?_
 refine pk0 (v := .int .i64 z4) h54 rfl fun a55 h55 => ?_; clear h54
 refine pk0 (v := .bool (decide (z4 < 0))) h55 rfl fun a56 h56 => ?_; clear h55
 refine pk0 (v := .bool (decide (z4 < 0))) h56 rfl fun a57 h57 => ?_; clear h56
 have hc58 : (decide (z4 < 0)) = false := decide_eq_false (by omega)
 rw [hc58] at h57; clear hc58
 refine pk0 (v := .int .i64 z4) h57 rfl fun a59 h59 => ?_; clear h57
 refine pk0 (v := .bool (decide (z4 > 1073741824))) h59 rfl fun a60 h60 => ?_; clear h59
 refine pk0 (v := .bool (decide (z4 > 1073741824))) h60 rfl fun a61 h61 => ?_; clear h60
 refine pl_nil ?_
 refine co_then ?_
 have hc62 : (decide (z4 > 1073741824)) = false := decide_eq_false (by omega)
 rw [hc62] at h61; clear hc62
 refine co_false h61 rfl ?_
 refine wp_skip ?_
 refine co_blockN ?_
 refine co_then ?_
 refine co_reg ?_
 refine pk0 (v := .int .i64 4) h61 rfl fun a63 h63 => ?_; clear h61
 refine pk0 (v := .int .i64 4) h63 rfl fun a64 h64 => ?_; clear h63
 refine pl_nil ?_
 refine co_then ?_
 refine co_unroll (n := 2) ?_
 refine co_seq ?_
 refine co_reg ?_
 refine pk0 (v := .bool (decide (4 < 6))) h64 rfl fun a65 h65 => ?_; clear h64
 refine pl_nil ?_
 refine co_then ?_
 refine co_seq ?_
 have hc66 : (decide (4 < 6)) = true := decide_eq_true (by omega)
 rw [hc66] at h65; clear hc66
 refine co_true h65 rfl ?_
 refine wp_skip ?_
 refine co_then ?_
 refine co_seq ?_
 refine wp_block ?_
 refine co_seq ?_
 refine co_reg ?_
 refine pk0 (v := pt N 4) h65 rfl fun a67 h67 => ?_; clear h65
 refine pk (v := .int .i64 z5) h67 rfl (rn_load1 rfl rfl Try.isAgg3 (hN.cell rfl)) fun a68 h68 => ?_; clear h67
 refine pk0 (v := .int .i64 z5) h68 rfl fun a69 h69 => ?_; clear h68
 refine pl_nil ?_
 refine co_then ?_
 refine co_seq ?_
 refine co_reg ?_
 refine pk0 (v := .int .i64 z5) h69 rfl fun a70 h70 => ?_; clear h69
 refine pk0 (v := .bool (decide (z5 < 0))) h70 rfl fun a71 h71 => ?_; clear h70
 refine pk0 (v := .bool (decide (z5 < 0))) h71 rfl fun a72 h72 => ?_; clear h71
 have hc73 : (decide (z5 < 0)) = false := decide_eq_false (by omega)
 rw [hc73] at h72; clear hc73
 refine pk0 (v := .int .i64 z5) h72 rfl fun a74 h74 => ?_; clear h72
 refine pk0 (v := .bool (decide (z5 > 1073741824))) h74 rfl fun a75 h75 => ?_; clear h74
 refine pk0 (v := .bool (decide (z5 > 1073741824))) h75 rfl fun a76 h76 => ?_; clear h75
 refine pl_nil ?_
 refine co_then ?_
 have hc77 : (decide (z5 > 1073741824)) = false := decide_eq_false (by omega)
 rw [hc77] at h76; clear hc77
 refine co_false h76 rfl ?_
 refine wp_skip ?_
 refine co_blockN ?_
 refine co_then ?_
 refine co_reg ?_
 refine pk0 (v := .int .i64 5) h76 rfl fun a78 h78 => ?_; clear h76
 refine pk0 (v := .int .i64 5) h78 rfl fun a79 h79 => ?_; clear h78
 refine pl_nil ?_
 refine co_then ?_
 refine co_unroll (n := 1) ?_
 refine co_seq ?_
 refine co_reg ?_
 refine pk0 (v := .bool (decide (5 < 6))) h79 rfl fun a80 h80 => ?_; clear h79
 refine pl_nil ?_
 refine co_then ?_
 refine co_seq ?_
 have hc81 : (decide (5 < 6)) = true := decide_eq_true (by omega)
 rw [hc81] at h80; clear hc81
 refine co_true h80 rfl ?_
 refine wp_skip ?_
 refine co_then ?_
 refine co_seq ?_
 refine wp_block ?_
 refine co_seq ?_
 refine co_reg ?_
 refine pk0 (v := pt N 5) h80 rfl fun a82 h82 => ?_; clear h80
 refine pk (v := .int .i64 z6) h82 rfl (rn_load1 rfl rfl Try.isAgg3 (hN.cell rfl)) fun a83 h83 => ?_; clear h82
 refine pk0 (v := .int .i64 z6) h83 rfl fun a84 h84 => ?_; clear h83
 refine pl_nil ?_
 refine co_then ?_
 refine co_seq ?_
 refine co_reg ?_
 refine pk0 (v := .int .i64 z6) h84 rfl fun a85 h85 => ?_; clear h84
 refine pk0 (v := .bool (decide (z6 < 0))) h85 rfl fun a86 h86 => ?_; clear h85
 refine pk0 (v := .bool (decide (z6 < 0))) h86 rfl fun a87 h87 => ?_; clear h86
 have hc88 : (decide (z6 < 0)) = false := decide_eq_false (by omega)
 rw [hc88] at h87; clear hc88
 refine pk0 (v := .int .i64 z6) h87 rfl fun a89 h89 => ?_; clear h87
 refine pk0 (v := .bool (decide (z6 > 1073741824))) h89 rfl fun a90 h90 => ?_; clear h89
 refine pk0 (v := .bool (decide (z6 > 1073741824))) h90 rfl fun a91 h91 => ?_; clear h90
 refine pl_nil ?_
 refine co_then ?_
 have hc92 : (decide (z6 > 1073741824)) = false := decide_eq_false (by omega)
 rw [hc92] at h91; clear hc92
 refine co_false h91 rfl ?_
 refine wp_skip ?_
 refine co_blockN ?_
 refine co_then ?_
 refine co_reg ?_
 refine pk0 (v := .int .i64 6) h91 rfl fun a93 h93 => ?_; clear h91
 refine pk0 (v := .int .i64 6) h93 rfl fun a94 h94 => ?_; clear h93
 refine pl_nil ?_
 refine co_then ?_
 refine co_unroll (n := 0) ?_
 refine co_seq ?_
 refine co_reg ?_
 refine pk0 (v := .bool (decide (6 < 6))) h94 rfl fun a95 h95 => ?_; clear h94
 refine pl_nil ?_
 refine co_then ?_
 refine co_seq ?_
 have hc96 : (decide (6 < 6)) = false := decide_eq_false (by omega)
 rw [hc96] at h95; clear hc96
 refine co_false h95 rfl ?_
 refine wp_exit ?_
 refine co_thenX ?_
 refine co_thenX ?_
 refine co_blockX ?_
 refine co_then ?_
 refine co_seq ?_
 refine co_reg ?_
 refine pk0 (v := .bool true) h95 rfl fun a97 h97 => ?_; clear h95
 refine pl_nil ?_
 refine co_then ?_
 refine wp_ret ?_
 refine co_ret1 h97 rfl rfl ?_
 exact ⟨rfl, hB0⟩
set_option maxRecDepth 100000 in
theorem within_n (N : Nat) (z1 : Int) (z2 : Int) (z3 : Int) (z4 : Int) (z5 : Int) (z6 : Int) (w : World) (hN : Blk w N 3 #[.int .i64 z1, .int .i64 z2, .int .i64 z3, .int .i64 z4, .int .i64 z5, .int .i64 z6]) (hq : ¬ (0 ≤ z1 ∧ z1 ≤ 1073741824) ∨ ¬ (0 ≤ z2 ∧ z2 ≤ 1073741824) ∨ ¬ (0 ≤ z3 ∧ z3 ≤ 1073741824) ∨ ¬ (0 ≤ z4 ∧ z4 ≤ 1073741824) ∨ ¬ (0 ≤ z5 ∧ z5 ≤ 1073741824) ∨ ¬ (0 ≤ z6 ∧ z6 ≤ 1073741824)) :
    Calls Try.prog 68 #[.slice (some ⟨N, 0, none⟩) 6 6] w fun e w' => e = .returned (.bool false) ∧ Below w.heap.size w w' := by
 have hB0 := Below.refl w.heap.size w
 have hl_hN := hN.lt
 refine co_enter (n := 18) Try.func68 rfl rfl rfl [(0, .slice (some ⟨N, 0, none⟩) 6 6)] rfl (fun a h0 => ?_)
 refine co_seq ?_
 refine co_reg ?_
 refine pk0 (v := .bool false) h0 rfl fun a1 h1 => ?_; clear h0
 refine pl_nil ?_
 refine co_then ?_
 refine co_seq ?_
 refine co_seq ?_
 refine co_reg ?_
 refine pk0 (v := .slice (some ⟨N, 0, none⟩) 6 6) h1 rfl fun a2 h2 => ?_; clear h1
 refine pk0 (v := .int .i64 6) h2 rfl fun a3 h3 => ?_; clear h2
 refine pk0 (v := .int .i64 0) h3 rfl fun a4 h4 => ?_; clear h3
 refine pl_nil ?_
 refine co_then ?_
 refine wp_block ?_
 refine wp_loop_rounds 7 ?_
 refine co_unroll (n := 6) ?_
 refine co_seq ?_
 refine co_reg ?_
 refine pk0 (v := .bool (decide (0 < 6))) h4 rfl fun a5 h5 => ?_; clear h4
 refine pl_nil ?_
 refine co_then ?_
 refine co_seq ?_
 have hc6 : (decide (0 < 6)) = true := decide_eq_true (by omega)
 rw [hc6] at h5; clear hc6
 refine co_true h5 rfl ?_
 refine wp_skip ?_
 refine co_then ?_
 refine co_seq ?_
 refine wp_block ?_
 refine co_seq ?_
 refine co_reg ?_
 refine pk0 (v := pt N 0) h5 rfl fun a7 h7 => ?_; clear h5
 refine pk (v := .int .i64 z1) h7 rfl (rn_load1 rfl rfl Try.isAgg3 (hN.cell rfl)) fun a8 h8 => ?_; clear h7
 refine pk0 (v := .int .i64 z1) h8 rfl fun a9 h9 => ?_; clear h8
 refine pl_nil ?_
 refine co_then ?_
 refine co_seq ?_
 refine co_reg ?_
 refine pk0 (v := .int .i64 z1) h9 rfl fun a10 h10 => ?_; clear h9
 refine pk0 (v := .bool (decide (z1 < 0))) h10 rfl fun a11 h11 => ?_; clear h10
 refine pk0 (v := .bool (decide (z1 < 0))) h11 rfl fun a12 h12 => ?_; clear h11
 cases hc13 : (decide (z1 < 0))
 ·
  rw [hc13] at h12
  have hp14 : ¬ (z1 < 0) := of_decide_eq_false hc13
  clear hc13
  refine pk0 (v := .int .i64 z1) h12 rfl fun a15 h15 => ?_; clear h12
  refine pk0 (v := .bool (decide (z1 > 1073741824))) h15 rfl fun a16 h16 => ?_; clear h15
  refine pk0 (v := .bool (decide (z1 > 1073741824))) h16 rfl fun a17 h17 => ?_; clear h16
  refine pl_nil ?_
  refine co_then ?_
  cases hc18 : (decide (z1 > 1073741824))
  ·
   rw [hc18] at h17
   have hp19 : ¬ (z1 > 1073741824) := of_decide_eq_false hc18
   clear hc18
   refine co_false h17 rfl ?_
   refine wp_skip ?_
   refine co_blockN ?_
   refine co_then ?_
   refine co_reg ?_
   refine pk0 (v := .int .i64 1) h17 rfl fun a20 h20 => ?_; clear h17
   refine pk0 (v := .int .i64 1) h20 rfl fun a21 h21 => ?_; clear h20
   refine pl_nil ?_
   refine co_then ?_
   refine co_unroll (n := 5) ?_
   refine co_seq ?_
   refine co_reg ?_
   refine pk0 (v := .bool (decide (1 < 6))) h21 rfl fun a22 h22 => ?_; clear h21
   refine pl_nil ?_
   refine co_then ?_
   refine co_seq ?_
   have hc23 : (decide (1 < 6)) = true := decide_eq_true (by omega)
   rw [hc23] at h22; clear hc23
   refine co_true h22 rfl ?_
   refine wp_skip ?_
   refine co_then ?_
   refine co_seq ?_
   refine wp_block ?_
   refine co_seq ?_
   refine co_reg ?_
   refine pk0 (v := pt N 1) h22 rfl fun a24 h24 => ?_; clear h22
   refine pk (v := .int .i64 z2) h24 rfl (rn_load1 rfl rfl Try.isAgg3 (hN.cell rfl)) fun a25 h25 => ?_; clear h24
   refine pk0 (v := .int .i64 z2) h25 rfl fun a26 h26 => ?_; clear h25
   refine pl_nil ?_
   refine co_then ?_
   refine co_seq ?_
   refine co_reg ?_
   refine pk0 (v := .int .i64 z2) h26 rfl fun a27 h27 => ?_; clear h26
   refine pk0 (v := .bool (decide (z2 < 0))) h27 rfl fun a28 h28 => ?_; clear h27
   refine pk0 (v := .bool (decide (z2 < 0))) h28 rfl fun a29 h29 => ?_; clear h28
   cases hc30 : (decide (z2 < 0))
   ·
    rw [hc30] at h29
    have hp31 : ¬ (z2 < 0) := of_decide_eq_false hc30
    clear hc30
    refine pk0 (v := .int .i64 z2) h29 rfl fun a32 h32 => ?_; clear h29
    refine pk0 (v := .bool (decide (z2 > 1073741824))) h32 rfl fun a33 h33 => ?_; clear h32
    refine pk0 (v := .bool (decide (z2 > 1073741824))) h33 rfl fun a34 h34 => ?_; clear h33
    refine pl_nil ?_
    refine co_then ?_
    cases hc35 : (decide (z2 > 1073741824))
    ·
     rw [hc35] at h34
     have hp36 : ¬ (z2 > 1073741824) := of_decide_eq_false hc35
     clear hc35
     refine co_false h34 rfl ?_
     refine wp_skip ?_
     refine co_blockN ?_
     refine co_then ?_
     refine co_reg ?_
     refine pk0 (v := .int .i64 2) h34 rfl fun a37 h37 => ?_; clear h34
     refine pk0 (v := .int .i64 2) h37 rfl fun a38 h38 => ?_; clear h37
     refine pl_nil ?_
     refine co_then ?_
     refine co_unroll (n := 4) ?_
     refine co_seq ?_
     refine co_reg ?_
     refine pk0 (v := .bool (decide (2 < 6))) h38 rfl fun a39 h39 => ?_; clear h38
     refine pl_nil ?_
     refine co_then ?_
     refine co_seq ?_
     have hc40 : (decide (2 < 6)) = true := decide_eq_true (by omega)
     rw [hc40] at h39; clear hc40
     refine co_true h39 rfl ?_
     refine wp_skip ?_
     refine co_then ?_
     refine co_seq ?_
     refine wp_block ?_
     refine co_seq ?_
     refine co_reg ?_
     refine pk0 (v := pt N 2) h39 rfl fun a41 h41 => ?_; clear h39
     refine pk (v := .int .i64 z3) h41 rfl (rn_load1 rfl rfl Try.isAgg3 (hN.cell rfl)) fun a42 h42 => ?_; clear h41
     refine pk0 (v := .int .i64 z3) h42 rfl fun a43 h43 => ?_; clear h42
     refine pl_nil ?_
     refine co_then ?_
     refine co_seq ?_
     refine co_reg ?_
     refine pk0 (v := .int .i64 z3) h43 rfl fun a44 h44 => ?_; clear h43
     refine pk0 (v := .bool (decide (z3 < 0))) h44 rfl fun a45 h45 => ?_; clear h44
     refine pk0 (v := .bool (decide (z3 < 0))) h45 rfl fun a46 h46 => ?_; clear h45
     cases hc47 : (decide (z3 < 0))
     ·
      rw [hc47] at h46
      have hp48 : ¬ (z3 < 0) := of_decide_eq_false hc47
      clear hc47
      refine pk0 (v := .int .i64 z3) h46 rfl fun a49 h49 => ?_; clear h46
      refine pk0 (v := .bool (decide (z3 > 1073741824))) h49 rfl fun a50 h50 => ?_; clear h49
      refine pk0 (v := .bool (decide (z3 > 1073741824))) h50 rfl fun a51 h51 => ?_; clear h50
      refine pl_nil ?_
      refine co_then ?_
      cases hc52 : (decide (z3 > 1073741824))
      ·
       rw [hc52] at h51
       have hp53 : ¬ (z3 > 1073741824) := of_decide_eq_false hc52
       clear hc52
       refine co_false h51 rfl ?_
       refine wp_skip ?_
       refine co_blockN ?_
       refine co_then ?_
       refine co_reg ?_
       refine pk0 (v := .int .i64 3) h51 rfl fun a54 h54 => ?_; clear h51
       refine pk0 (v := .int .i64 3) h54 rfl fun a55 h55 => ?_; clear h54
       refine pl_nil ?_
       refine co_then ?_
       refine co_unroll (n := 3) ?_
       refine co_seq ?_
       refine co_reg ?_
       refine pk0 (v := .bool (decide (3 < 6))) h55 rfl fun a56 h56 => ?_; clear h55
       refine pl_nil ?_
       refine co_then ?_
       refine co_seq ?_
       have hc57 : (decide (3 < 6)) = true := decide_eq_true (by omega)
       rw [hc57] at h56; clear hc57
       refine co_true h56 rfl ?_
       refine wp_skip ?_
       refine co_then ?_
       refine co_seq ?_
       refine wp_block ?_
       refine co_seq ?_
       refine co_reg ?_
       refine pk0 (v := pt N 3) h56 rfl fun a58 h58 => ?_; clear h56
       refine pk (v := .int .i64 z4) h58 rfl (rn_load1 rfl rfl Try.isAgg3 (hN.cell rfl)) fun a59 h59 => ?_; clear h58
       refine pk0 (v := .int .i64 z4) h59 rfl fun a60 h60 => ?_; clear h59
       refine pl_nil ?_
       refine co_then ?_
       refine co_seq ?_
       refine co_reg ?_
       refine pk0 (v := .int .i64 z4) h60 rfl fun a61 h61 => ?_; clear h60
       refine pk0 (v := .bool (decide (z4 < 0))) h61 rfl fun a62 h62 => ?_; clear h61
       refine pk0 (v := .bool (decide (z4 < 0))) h62 rfl fun a63 h63 => ?_; clear h62
       cases hc64 : (decide (z4 < 0))
       ·
        rw [hc64] at h63
        have hp65 : ¬ (z4 < 0) := of_decide_eq_false hc64
        clear hc64
        refine pk0 (v := .int .i64 z4) h63 rfl fun a66 h66 => ?_; clear h63
        refine pk0 (v := .bool (decide (z4 > 1073741824))) h66 rfl fun a67 h67 => ?_; clear h66
        refine pk0 (v := .bool (decide (z4 > 1073741824))) h67 rfl fun a68 h68 => ?_; clear h67
        refine pl_nil ?_
        refine co_then ?_
        cases hc69 : (decide (z4 > 1073741824))
        ·
         rw [hc69] at h68
         have hp70 : ¬ (z4 > 1073741824) := of_decide_eq_false hc69
         clear hc69
         refine co_false h68 rfl ?_
         refine wp_skip ?_
         refine co_blockN ?_
         refine co_then ?_
         refine co_reg ?_
         refine pk0 (v := .int .i64 4) h68 rfl fun a71 h71 => ?_; clear h68
         refine pk0 (v := .int .i64 4) h71 rfl fun a72 h72 => ?_; clear h71
         refine pl_nil ?_
         refine co_then ?_
         refine co_unroll (n := 2) ?_
         refine co_seq ?_
         refine co_reg ?_
         refine pk0 (v := .bool (decide (4 < 6))) h72 rfl fun a73 h73 => ?_; clear h72
         refine pl_nil ?_
         refine co_then ?_
         refine co_seq ?_
         have hc74 : (decide (4 < 6)) = true := decide_eq_true (by omega)
         rw [hc74] at h73; clear hc74
         refine co_true h73 rfl ?_
         refine wp_skip ?_
         refine co_then ?_
         refine co_seq ?_
         refine wp_block ?_
         refine co_seq ?_
         refine co_reg ?_
         refine pk0 (v := pt N 4) h73 rfl fun a75 h75 => ?_; clear h73
         refine pk (v := .int .i64 z5) h75 rfl (rn_load1 rfl rfl Try.isAgg3 (hN.cell rfl)) fun a76 h76 => ?_; clear h75
         refine pk0 (v := .int .i64 z5) h76 rfl fun a77 h77 => ?_; clear h76
         refine pl_nil ?_
         refine co_then ?_
         refine co_seq ?_
         refine co_reg ?_
         refine pk0 (v := .int .i64 z5) h77 rfl fun a78 h78 => ?_; clear h77
         refine pk0 (v := .bool (decide (z5 < 0))) h78 rfl fun a79 h79 => ?_; clear h78
         refine pk0 (v := .bool (decide (z5 < 0))) h79 rfl fun a80 h80 => ?_; clear h79
         cases hc81 : (decide (z5 < 0))
         ·
          rw [hc81] at h80
          have hp82 : ¬ (z5 < 0) := of_decide_eq_false hc81
          clear hc81
          refine pk0 (v := .int .i64 z5) h80 rfl fun a83 h83 => ?_; clear h80
          refine pk0 (v := .bool (decide (z5 > 1073741824))) h83 rfl fun a84 h84 => ?_; clear h83
          refine pk0 (v := .bool (decide (z5 > 1073741824))) h84 rfl fun a85 h85 => ?_; clear h84
          refine pl_nil ?_
          refine co_then ?_
          cases hc86 : (decide (z5 > 1073741824))
          ·
           rw [hc86] at h85
           have hp87 : ¬ (z5 > 1073741824) := of_decide_eq_false hc86
           clear hc86
           refine co_false h85 rfl ?_
           refine wp_skip ?_
           refine co_blockN ?_
           refine co_then ?_
           refine co_reg ?_
           refine pk0 (v := .int .i64 5) h85 rfl fun a88 h88 => ?_; clear h85
           refine pk0 (v := .int .i64 5) h88 rfl fun a89 h89 => ?_; clear h88
           refine pl_nil ?_
           refine co_then ?_
           refine co_unroll (n := 1) ?_
           refine co_seq ?_
           refine co_reg ?_
           refine pk0 (v := .bool (decide (5 < 6))) h89 rfl fun a90 h90 => ?_; clear h89
           refine pl_nil ?_
           refine co_then ?_
           refine co_seq ?_
           have hc91 : (decide (5 < 6)) = true := decide_eq_true (by omega)
           rw [hc91] at h90; clear hc91
           refine co_true h90 rfl ?_
           refine wp_skip ?_
           refine co_then ?_
           refine co_seq ?_
           refine wp_block ?_
           refine co_seq ?_
           refine co_reg ?_
           refine pk0 (v := pt N 5) h90 rfl fun a92 h92 => ?_; clear h90
           refine pk (v := .int .i64 z6) h92 rfl (rn_load1 rfl rfl Try.isAgg3 (hN.cell rfl)) fun a93 h93 => ?_; clear h92
           refine pk0 (v := .int .i64 z6) h93 rfl fun a94 h94 => ?_; clear h93
           refine pl_nil ?_
           refine co_then ?_
           refine co_seq ?_
           refine co_reg ?_
           refine pk0 (v := .int .i64 z6) h94 rfl fun a95 h95 => ?_; clear h94
           refine pk0 (v := .bool (decide (z6 < 0))) h95 rfl fun a96 h96 => ?_; clear h95
           refine pk0 (v := .bool (decide (z6 < 0))) h96 rfl fun a97 h97 => ?_; clear h96
           cases hc98 : (decide (z6 < 0))
           ·
            rw [hc98] at h97
            have hp99 : ¬ (z6 < 0) := of_decide_eq_false hc98
            clear hc98
            refine pk0 (v := .int .i64 z6) h97 rfl fun a100 h100 => ?_; clear h97
            refine pk0 (v := .bool (decide (z6 > 1073741824))) h100 rfl fun a101 h101 => ?_; clear h100
            refine pk0 (v := .bool (decide (z6 > 1073741824))) h101 rfl fun a102 h102 => ?_; clear h101
            refine pl_nil ?_
            refine co_then ?_
            have hc103 : (decide (z6 > 1073741824)) = true := decide_eq_true (by omega)
            rw [hc103] at h102; clear hc103
            refine co_true h102 rfl ?_
            refine co_seq ?_
            refine co_reg ?_
            refine pk0 (v := .bool false) h102 rfl fun a104 h104 => ?_; clear h102
            refine pl_nil ?_
            refine co_then ?_
            refine wp_ret ?_
            refine co_blockR ?_
            refine co_thenR ?_
            refine co_thenR ?_
            refine co_blockR ?_
            refine co_thenR ?_
            refine co_ret1 h104 rfl rfl ?_
            exact ⟨rfl, hB0⟩
           ·
            rw [hc98] at h97
            have hp105 : z6 < 0 := of_decide_eq_true hc98
            clear hc98
            refine psk h97 rfl fun a106 h106 => ?_; clear h97
            refine psk h106 rfl fun a107 h107 => ?_; clear h106
            refine pk0 (v := .bool true) h107 rfl fun a108 h108 => ?_; clear h107
            refine pl_nil ?_
            refine co_then ?_
            refine co_true h108 rfl ?_
            refine co_seq ?_
            refine co_reg ?_
            refine pk0 (v := .bool false) h108 rfl fun a109 h109 => ?_; clear h108
            refine pl_nil ?_
            refine co_then ?_
            refine wp_ret ?_
            refine co_blockR ?_
            refine co_thenR ?_
            refine co_thenR ?_
            refine co_blockR ?_
            refine co_thenR ?_
            refine co_ret1 h109 rfl rfl ?_
            exact ⟨rfl, hB0⟩
          ·
           rw [hc86] at h85
           have hp110 : z5 > 1073741824 := of_decide_eq_true hc86
           clear hc86
           refine co_true h85 rfl ?_
           refine co_seq ?_
           refine co_reg ?_
           refine pk0 (v := .bool false) h85 rfl fun a111 h111 => ?_; clear h85
           refine pl_nil ?_
           refine co_then ?_
           refine wp_ret ?_
           refine co_blockR ?_
           refine co_thenR ?_
           refine co_thenR ?_
           refine co_blockR ?_
           refine co_thenR ?_
           refine co_ret1 h111 rfl rfl ?_
           exact ⟨rfl, hB0⟩
         ·
          rw [hc81] at h80
          have hp112 : z5 < 0 := of_decide_eq_true hc81
          clear hc81
          refine psk h80 rfl fun a113 h113 => ?_; clear h80
          refine psk h113 rfl fun a114 h114 => ?_; clear h113
          refine pk0 (v := .bool true) h114 rfl fun a115 h115 => ?_; clear h114
          refine pl_nil ?_
          refine co_then ?_
          refine co_true h115 rfl ?_
          refine co_seq ?_
          refine co_reg ?_
          refine pk0 (v := .bool false) h115 rfl fun a116 h116 => ?_; clear h115
          refine pl_nil ?_
          refine co_then ?_
          refine wp_ret ?_
          refine co_blockR ?_
          refine co_thenR ?_
          refine co_thenR ?_
          refine co_blockR ?_
          refine co_thenR ?_
          refine co_ret1 h116 rfl rfl ?_
          exact ⟨rfl, hB0⟩
        ·
         rw [hc69] at h68
         have hp117 : z4 > 1073741824 := of_decide_eq_true hc69
         clear hc69
         refine co_true h68 rfl ?_
         refine co_seq ?_
         refine co_reg ?_
         refine pk0 (v := .bool false) h68 rfl fun a118 h118 => ?_; clear h68
         refine pl_nil ?_
         refine co_then ?_
         refine wp_ret ?_
         refine co_blockR ?_
         refine co_thenR ?_
         refine co_thenR ?_
         refine co_blockR ?_
         refine co_thenR ?_
         refine co_ret1 h118 rfl rfl ?_
         exact ⟨rfl, hB0⟩
       ·
        rw [hc64] at h63
        have hp119 : z4 < 0 := of_decide_eq_true hc64
        clear hc64
        refine psk h63 rfl fun a120 h120 => ?_; clear h63
        refine psk h120 rfl fun a121 h121 => ?_; clear h120
        refine pk0 (v := .bool true) h121 rfl fun a122 h122 => ?_; clear h121
        refine pl_nil ?_
        refine co_then ?_
        refine co_true h122 rfl ?_
        refine co_seq ?_
        refine co_reg ?_
        refine pk0 (v := .bool false) h122 rfl fun a123 h123 => ?_; clear h122
        refine pl_nil ?_
        refine co_then ?_
        refine wp_ret ?_
        refine co_blockR ?_
        refine co_thenR ?_
        refine co_thenR ?_
        refine co_blockR ?_
        refine co_thenR ?_
        refine co_ret1 h123 rfl rfl ?_
        exact ⟨rfl, hB0⟩
      ·
       rw [hc52] at h51
       have hp124 : z3 > 1073741824 := of_decide_eq_true hc52
       clear hc52
       refine co_true h51 rfl ?_
       refine co_seq ?_
       refine co_reg ?_
       refine pk0 (v := .bool false) h51 rfl fun a125 h125 => ?_; clear h51
       refine pl_nil ?_
       refine co_then ?_
       refine wp_ret ?_
       refine co_blockR ?_
       refine co_thenR ?_
       refine co_thenR ?_
       refine co_blockR ?_
       refine co_thenR ?_
       refine co_ret1 h125 rfl rfl ?_
       exact ⟨rfl, hB0⟩
     ·
      rw [hc47] at h46
      have hp126 : z3 < 0 := of_decide_eq_true hc47
      clear hc47
      refine psk h46 rfl fun a127 h127 => ?_; clear h46
      refine psk h127 rfl fun a128 h128 => ?_; clear h127
      refine pk0 (v := .bool true) h128 rfl fun a129 h129 => ?_; clear h128
      refine pl_nil ?_
      refine co_then ?_
      refine co_true h129 rfl ?_
      refine co_seq ?_
      refine co_reg ?_
      refine pk0 (v := .bool false) h129 rfl fun a130 h130 => ?_; clear h129
      refine pl_nil ?_
      refine co_then ?_
      refine wp_ret ?_
      refine co_blockR ?_
      refine co_thenR ?_
      refine co_thenR ?_
      refine co_blockR ?_
      refine co_thenR ?_
      refine co_ret1 h130 rfl rfl ?_
      exact ⟨rfl, hB0⟩
    ·
     rw [hc35] at h34
     have hp131 : z2 > 1073741824 := of_decide_eq_true hc35
     clear hc35
     refine co_true h34 rfl ?_
     refine co_seq ?_
     refine co_reg ?_
     refine pk0 (v := .bool false) h34 rfl fun a132 h132 => ?_; clear h34
     refine pl_nil ?_
     refine co_then ?_
     refine wp_ret ?_
     refine co_blockR ?_
     refine co_thenR ?_
     refine co_thenR ?_
     refine co_blockR ?_
     refine co_thenR ?_
     refine co_ret1 h132 rfl rfl ?_
     exact ⟨rfl, hB0⟩
   ·
    rw [hc30] at h29
    have hp133 : z2 < 0 := of_decide_eq_true hc30
    clear hc30
    refine psk h29 rfl fun a134 h134 => ?_; clear h29
    refine psk h134 rfl fun a135 h135 => ?_; clear h134
    refine pk0 (v := .bool true) h135 rfl fun a136 h136 => ?_; clear h135
    refine pl_nil ?_
    refine co_then ?_
    refine co_true h136 rfl ?_
    refine co_seq ?_
    refine co_reg ?_
    refine pk0 (v := .bool false) h136 rfl fun a137 h137 => ?_; clear h136
    refine pl_nil ?_
    refine co_then ?_
    refine wp_ret ?_
    refine co_blockR ?_
    refine co_thenR ?_
    refine co_thenR ?_
    refine co_blockR ?_
    refine co_thenR ?_
    refine co_ret1 h137 rfl rfl ?_
    exact ⟨rfl, hB0⟩
  ·
   rw [hc18] at h17
   have hp138 : z1 > 1073741824 := of_decide_eq_true hc18
   clear hc18
   refine co_true h17 rfl ?_
   refine co_seq ?_
   refine co_reg ?_
   refine pk0 (v := .bool false) h17 rfl fun a139 h139 => ?_; clear h17
   refine pl_nil ?_
   refine co_then ?_
   refine wp_ret ?_
   refine co_blockR ?_
   refine co_thenR ?_
   refine co_thenR ?_
   refine co_blockR ?_
   refine co_thenR ?_
   refine co_ret1 h139 rfl rfl ?_
   exact ⟨rfl, hB0⟩
 ·
  rw [hc13] at h12
  have hp140 : z1 < 0 := of_decide_eq_true hc13
  clear hc13
  refine psk h12 rfl fun a141 h141 => ?_; clear h12
  refine psk h141 rfl fun a142 h142 => ?_; clear h141
  refine pk0 (v := .bool true) h142 rfl fun a143 h143 => ?_; clear h142
  refine pl_nil ?_
  refine co_then ?_
  refine co_true h143 rfl ?_
  refine co_seq ?_
  refine co_reg ?_
  refine pk0 (v := .bool false) h143 rfl fun a144 h144 => ?_; clear h143
  refine pl_nil ?_
  refine co_then ?_
  refine wp_ret ?_
  refine co_blockR ?_
  refine co_thenR ?_
  refine co_thenR ?_
  refine co_blockR ?_
  refine co_thenR ?_
  refine co_ret1 h144 rfl rfl ?_
  exact ⟨rfl, hB0⟩
set_option maxRecDepth 100000 in
set_option maxHeartbeats 3200000 in
theorem scPut1_any (d : EvD) (ov : Value) (w : World) (hs : SliceOf opE 3 w ov d.ops) (hS : EvS d) (hln : d.ops.length ≤ 100) :
    Calls Try.prog 41 #[.agg #[.int .i64 d.k, .int .i64 d.nd, .int .i64 d.n, .int .i64 d.ak, .int .i64 d.an, .string d.ky, .string d.tt, .int .u64 d.at_, .int .i64 d.am, ov]] w fun e w' => e = .returned (.tuple #[.string (oneB d), .int .i64 (oneE d)]) ∧ Below w.heap.size w w' := by
 have hSt := hS.ts
 have hSk := hS.ky; have hSu := hS.tt
 have hB0 := Below.refl w.heap.size w
 have hl_hs := sl_len hs
 by_cases hk0 : d.k = 0 <;> by_cases hr : rngE d
 · skip
   have hrr := rng_i hr hk0
   refine co_enter (n := 95) Try.func41 rfl rfl rfl [(0, .agg #[.int .i64 d.k, .int .i64 d.nd, .int .i64 d.n, .int .i64 d.ak, .int .i64 d.an, .string d.ky, .string d.tt, .int .u64 d.at_, .int .i64 d.am, ov])] rfl (fun a h0 => ?_)
   refine co_seq ?_
   refine co_reg ?_
   refine pw h0 rfl (op_new (v := fun N => pt N 0) (T := 60) (cs := #[.int .i64 d.k, .int .i64 d.nd, .int .i64 d.n, .int .i64 d.ak, .int .i64 d.an, .string d.ky, .string d.tt, .int .u64 d.at_, .int .i64 d.am, ov]) (by kernel_rfl) (by kernel_rfl) (by kernel_rfl)) ?_; clear h0
   rintro _ w2 a1 ⟨N3, rfl, hN6, hz7, hk5, hg4⟩ h1
   have hz8 := hg4.size
   try dsimp only at h1
   refine pk0 (v := .string (⟨#[]⟩)) h1 rfl fun a9 h9 => ?_; clear h1
   refine pk0 (v := .int .i64 0) h9 rfl fun a10 h10 => ?_; clear h9
   refine pl_nil ?_
   refine co_then ?_
   refine co_seq ?_
   refine co_reg ?_
   refine pk (v := .agg #[.int .i64 d.k, .int .i64 d.nd, .int .i64 d.n, .int .i64 d.ak, .int .i64 d.an, .string d.ky, .string d.tt, .int .u64 d.at_, .int .i64 d.am, ov]) h10 rfl (rn_loadN rfl rfl Try.underlying60 rfl (by kernel_rfl) hk5.all) fun a11 h11 => ?_; clear h10
   have hB14 := hb_new hB0 hg4
   refine pw h11 rfl (op_call (args := #[.agg #[.int .i64 d.k, .int .i64 d.nd, .int .i64 d.n, .int .i64 d.ak, .int .i64 d.an, .string d.ky, .string d.tt, .int .u64 d.at_, .int .i64 d.am, ov]]) (R := fun res xw => ∃ u : Value, res = .agg #[.int .i64 d.k, .int .i64 d.nd, .int .i64 d.n, .int .i64 d.ak, .int .i64 d.an, .string d.ky, .string d.tt, .int .u64 d.at_, .int .i64 d.am, u] ∧ xw.ownsRow w2.heap.size 66 3 u d.ops.length (d.ops.flatMap opE) ∧ Below w2.heap.size w2 xw) rfl rfl rfl (by kernel_rfl) (by kernel_rfl) (Try.call23 _ _) (clean_y _ ov w2 (hs.below hB14) hln hk0) (by rintro e x ⟨u, rfl, hq16, hb17⟩; exact ⟨_, rfl, ⟨u, rfl, hq16, hb17⟩⟩)) ?_; clear h11
   rintro _ w13 a12 ⟨u15, rfl, hq16, hb17⟩ h12
   have hz18 := hb17.size
   have hl19 := sl_len (row_sl hq16 opE_len)
   have hk25 := hk5.below hb17
   refine pwD h12 rfl (op_storeN rfl rfl rfl (all_cons rfl (all_cons rfl (all_cons rfl (all_cons rfl (all_cons rfl (all_cons rfl (all_cons rfl (all_cons rfl (all_cons rfl (all_cons (row_one hq16) all_nil)))))))))) (by kernel_rfl) hk25 rfl) ?_; clear h12
   rintro _ w21 a20 ⟨hk22, hz23, hg24⟩ h20
   have hk22' : Blk w21 N3 60 #[.int .i64 d.k, .int .i64 d.nd, .int .i64 d.n, .int .i64 d.ak, .int .i64 d.an, .string d.ky, .string d.tt, .int .u64 d.at_, .int .i64 d.am, u15] := hk22; clear hk22
   have hz26 := hg24.size
   refine pl_nil ?_
   refine co_then ?_
   refine co_seq ?_
   refine co_reg ?_
   refine pk0 (v := pt N3 3) h20 rfl fun a27 h27 => ?_; clear h20
   refine pk (v := .agg #[.int .i64 d.ak, .int .i64 d.an, .string d.ky, .string d.tt, .int .u64 d.at_, .int .i64 d.am, u15]) h27 rfl (rn_loadN rfl rfl Try.underlying35 rfl (by kernel_rfl) (blk_part hk22' 3 (by rfl))) fun a28 h28 => ?_; clear h27
   refine pw h28 rfl (op_new (v := fun N => pt N 0) (T := 35) (cs := #[.int .i64 0, .int .i64 0, .string (⟨#[]⟩), .string (⟨#[]⟩), .int .u64 0, .int .i64 0, .slice none 0 0]) (by kernel_rfl) (by kernel_rfl) (by kernel_rfl)) ?_; clear h28
   rintro _ w30 a29 ⟨N31, rfl, hN34, hz35, hk33, hg32⟩ h29
   have hr37 := row_kept_at hq16 hg24 (own_neT hq16 hk25 (by decide))
   have ha36 := row_fresh hr37 hN34
   have hz38 := hg32.size
   try dsimp only at h29
   have hr44 := row_kept_new hr37 hg32
   refine pwD h29 rfl (op_storeN rfl rfl rfl (all_cons rfl (all_cons rfl (all_cons rfl (all_cons rfl (all_cons rfl (all_cons rfl (all_cons (row_one hr44) all_nil))))))) (by kernel_rfl) hk33 rfl) ?_; clear h29
   rintro _ w40 a39 ⟨hk41, hz42, hg43⟩ h39
   have hk41' : Blk w40 N31 35 #[.int .i64 d.ak, .int .i64 d.an, .string d.ky, .string d.tt, .int .u64 d.at_, .int .i64 d.am, u15] := hk41; clear hk41
   have hz45 := hg43.size
   refine pl_nil ?_
   refine co_then ?_
   refine co_seq ?_
   refine co_seq ?_
   refine co_reg ?_
   refine pk0 (v := pt N3 0) h39 rfl fun a46 h46 => ?_; clear h39
   have hk47 := hk22'.kept hg32 (by simp)
   have hk48 := hk47.kept hg43 (by simp; omega)
   refine pk (v := .int .i64 d.k) h46 rfl (rn_load1 rfl rfl Try.isAgg3 (hk48.cell rfl)) fun a49 h49 => ?_; clear h46
   refine pk0 (v := pt N3 1) h49 rfl fun a50 h50 => ?_; clear h49
   refine pk (v := .int .i64 d.nd) h50 rfl (rn_load1 rfl rfl Try.isAgg3 (hk48.cell rfl)) fun a51 h51 => ?_; clear h50
   refine pk0 (v := pt N3 2) h51 rfl fun a52 h52 => ?_; clear h51
   refine pk (v := .int .i64 d.n) h52 rfl (rn_load1 rfl rfl Try.isAgg3 (hk48.cell rfl)) fun a53 h53 => ?_; clear h52
   refine pk0 (v := pt N31 0) h53 rfl fun a54 h54 => ?_; clear h53
   refine pk (v := .int .i64 d.ak) h54 rfl (rn_load1 rfl rfl Try.isAgg3 (hk41'.cell rfl)) fun a55 h55 => ?_; clear h54
   refine pk0 (v := pt N31 1) h55 rfl fun a56 h56 => ?_; clear h55
   refine pk (v := .int .i64 d.an) h56 rfl (rn_load1 rfl rfl Try.isAgg3 (hk41'.cell rfl)) fun a57 h57 => ?_; clear h56
   refine pk0 (v := pt N31 5) h57 rfl fun a58 h58 => ?_; clear h57
   refine pk (v := .int .i64 d.am) h58 rfl (rn_load1 rfl rfl Try.isAgg3 (hk41'.cell rfl)) fun a59 h59 => ?_; clear h58
   refine pw h59 rfl (op_new (v := fun N => .slice (some ⟨N, 0, none⟩) 6 6) (T := 3) (cs := #[.int .i64 d.k, .int .i64 d.nd, .int .i64 d.n, .int .i64 d.ak, .int .i64 d.an, .int .i64 d.am]) (by kernel_rfl) (by kernel_rfl) (by kernel_rfl)) ?_; clear h59
   rintro _ w61 a60 ⟨N62, rfl, hN65, hz66, hk64, hg63⟩ h60
   have hr68 := row_kept_at hr44 hg43 (ha36)
   have ha67 := row_fresh hr68 hN65
   have hz69 := hg63.size
   try dsimp only at h60
   refine pw h60 rfl (op_call (args := #[.slice (some ⟨N62, 0, none⟩) 6 6]) (R := fun res xw => res = .bool true ∧ Below w61.heap.size w61 xw) rfl rfl rfl (by kernel_rfl) (by kernel_rfl) (Try.call68 _ _) (within_y N62 d.k d.nd d.n d.ak d.an d.am w61 hk64 (by omega)) (by rintro e x ⟨rfl, hb72⟩; exact ⟨_, rfl, ⟨rfl, hb72⟩⟩)) ?_; clear h60
   rintro _ w71 a70 ⟨rfl, hb72⟩ h70
   have hz73 := hb72.size
   refine pk0 (v := .bool false) h70 rfl fun a74 h74 => ?_; clear h70
   refine pl_nil ?_
   refine co_then ?_
   refine co_false h74 rfl ?_
   refine wp_skip ?_
   refine co_then ?_
   refine co_seq ?_
   refine dr_gen (fun x => Below w.heap.size w x ∧ Blk x N3 60 #[.int .i64 d.k, .int .i64 d.nd, .int .i64 d.n, .int .i64 d.ak, .int .i64 d.an, .string d.ky, .string d.tt, .int .u64 d.at_, .int .i64 d.am, u15]) (by kernel_rfl) (fun w75 hg76 => ?_) (fun w75 hg76 => ?_)
   ·
    have hz77 := hg76.size
    have hB78 := hb_call hB14 hb17
    have hB79 := hb_at hB78 hg24 (by omega)
    have hB80 := hb_new hB79 hg32
    have hB81 := hb_at hB80 hg43 (by omega)
    have hB82 := hb_new hB81 hg63
    have hB83 := hb_call hB82 hb72
    have hB84 := hb_new hB83 hg76
    have hk85 := hk48.kept hg63 (by simp)
    have hk86 := hk85.below hb72
    have hk87 := hk86.kept hg76 (by simp)
    exact ⟨hB84, hk87⟩
   have hz88 := hg76.size
   have hB89 := hb_call hB14 hb17
   have hB90 := hb_at hB89 hg24 (by omega)
   have hB91 := hb_new hB90 hg32
   have hB92 := hb_at hB91 hg43 (by omega)
   have hB93 := hb_new hB92 hg63
   have hB94 := hb_call hB93 hb72
   have hB95 := hb_new hB94 hg76
   have hk96 := hk48.kept hg63 (by simp)
   have hk97 := hk96.below hb72
   have hk98 := hk97.kept hg76 (by simp)
   refine dk0 1 (v := pt N3 0) h74 rfl rfl ⟨hB95, hk98⟩ fun a99 h99 => ?_; clear h74
   refine dk 2 (v := .int .i64 d.k) h99 rfl rfl ⟨hB95, hk98⟩ (fun x hx => (rn_load1 rfl rfl Try.isAgg3 (hx.2.cell rfl))) fun a100 h100 => ?_; clear h99
   refine dk0 4 (v := pt N3 1) h100 rfl rfl ⟨hB95, hk98⟩ fun a101 h101 => ?_; clear h100
   refine dk 5 (v := .int .i64 d.nd) h101 rfl rfl ⟨hB95, hk98⟩ (fun x hx => (rn_load1 rfl rfl Try.isAgg3 (hx.2.cell rfl))) fun a102 h102 => ?_; clear h101
   refine dk0 7 (v := pt N3 2) h102 rfl rfl ⟨hB95, hk98⟩ fun a103 h103 => ?_; clear h102
   refine dk 8 (v := .int .i64 d.n) h103 rfl rfl ⟨hB95, hk98⟩ (fun x hx => (rn_load1 rfl rfl Try.isAgg3 (hx.2.cell rfl))) fun a104 h104 => ?_; clear h103
   refine d1 0 h104 rfl rfl (op_call (args := #[]) (R := fun res xw => ∃ b : Nat, res = pt b 0 ∧ b = w75.heap.size ∧ OW b [] 0 xw ∧ Below w75.heap.size w75 xw) rfl rfl rfl (by kernel_rfl) (by kernel_rfl) (Try.call69 _ _) (ow_new w75) (by rintro e x ⟨b, rfl, h0, h1, h2⟩; exact ⟨_, rfl, b, rfl, h0, h1, h2⟩)) ?_ ?_; clear h104
   ·
    rintro _ w106 ⟨b107, rfl, hN108, ho109, hb110⟩
    have hr112 := row_kept_new hr68 hg63
    have hr113 := row_kept_new hr112 (below_grown hb72)
    have hr114 := row_kept_new hr113 hg76
    have ha111 := row_fresh hr114 hN108
    have hz115 := hb110.size
    have hl116 := ho109.lt
    have hB117 := hb_call hB95 hb110
    have hk118 := hk98.below hb110
    exact ⟨hB117, hk118⟩
   rintro _ w106 a105 ⟨b107, rfl, hN108, ho109, hb110⟩ h105
   have hr112 := row_kept_new hr68 hg63
   have hr113 := row_kept_new hr112 (below_grown hb72)
   have hr114 := row_kept_new hr113 hg76
   have ha111 := row_fresh hr114 hN108
   have hz115 := hb110.size
   have hl116 := ho109.lt
   have hB117 := hb_call hB95 hb110
   have hk118 := hk98.below hb110
   refine d1 3 h105 rfl rfl (op_call (args := #[pt b107 0, .int .i64 d.k]) (R := fun res xw => res = pt b107 0 ∧ OW b107 (([] : List UInt8) ++ putL d.k) (0 + 9) xw ∧ But (Rw w106 b107) w106 xw) rfl rfl rfl (by kernel_rfl) (by kernel_rfl) (Try.call70 _ _) (ow_num b107 ([]) 0 d.k w106 ho109 (by omega) (by omega) (by omega)) (by rintro e x ⟨rfl, h1, h2⟩; exact ⟨_, rfl, rfl, h1, h2⟩)) ?_ ?_; clear h105
   ·
    rintro _ w120 ⟨rfl, ho121, hx122⟩
    have hz123 := hx122.size
    have hl124 := ho121.lt
    have hB125 := hb_wr hB117 ho109 (by omega) hx122
    have hk126 := blk_wr hk118 ho109 (by decide) (by omega) hx122
    exact ⟨hB125, hk126⟩
   rintro _ w120 a119 ⟨rfl, ho121, hx122⟩ h119
   have hz123 := hx122.size
   have hl124 := ho121.lt
   have hB125 := hb_wr hB117 ho109 (by omega) hx122
   have hk126 := blk_wr hk118 ho109 (by decide) (by omega) hx122
   refine d1 6 h119 rfl rfl (op_call (args := #[pt b107 0, .int .i64 d.nd]) (R := fun res xw => res = pt b107 0 ∧ OW b107 ((([] : List UInt8) ++ putL d.k) ++ putL d.nd) (0 + 9 + 9) xw ∧ But (Rw w120 b107) w120 xw) rfl rfl rfl (by kernel_rfl) (by kernel_rfl) (Try.call70 _ _) (ow_num b107 (([] : List UInt8) ++ putL d.k) (0 + 9) d.nd w120 ho121 (by omega) (by omega) (by omega)) (by rintro e x ⟨rfl, h1, h2⟩; exact ⟨_, rfl, rfl, h1, h2⟩)) ?_ ?_; clear h119
   ·
    rintro _ w128 ⟨rfl, ho129, hx130⟩
    have hz131 := hx130.size
    have hl132 := ho129.lt
    have hB133 := hb_wr hB125 ho121 (by omega) hx130
    have hk134 := blk_wr hk126 ho121 (by decide) (by omega) hx130
    exact ⟨hB133, hk134⟩
   rintro _ w128 a127 ⟨rfl, ho129, hx130⟩ h127
   have hz131 := hx130.size
   have hl132 := ho129.lt
   have hB133 := hb_wr hB125 ho121 (by omega) hx130
   have hk134 := blk_wr hk126 ho121 (by decide) (by omega) hx130
   refine d1 9 h127 rfl rfl (op_call (args := #[pt b107 0, .int .i64 d.n]) (R := fun res xw => res = pt b107 0 ∧ OW b107 (((([] : List UInt8) ++ putL d.k) ++ putL d.nd) ++ putL d.n) (0 + 9 + 9 + 9) xw ∧ But (Rw w128 b107) w128 xw) rfl rfl rfl (by kernel_rfl) (by kernel_rfl) (Try.call70 _ _) (ow_num b107 ((([] : List UInt8) ++ putL d.k) ++ putL d.nd) (0 + 9 + 9) d.n w128 ho129 (by omega) (by omega) (by omega)) (by rintro e x ⟨rfl, h1, h2⟩; exact ⟨_, rfl, rfl, h1, h2⟩)) ?_ ?_; clear h127
   ·
    rintro _ w136 ⟨rfl, ho137, hx138⟩
    have hz139 := hx138.size
    have hl140 := ho137.lt
    have hB141 := hb_wr hB133 ho129 (by omega) hx138
    have hk142 := blk_wr hk134 ho129 (by decide) (by omega) hx138
    exact ⟨hB141, hk142⟩
   rintro _ w136 a135 ⟨rfl, ho137, hx138⟩ h135
   have hz139 := hx138.size
   have hl140 := ho137.lt
   have hB141 := hb_wr hB133 ho129 (by omega) hx138
   have hk142 := blk_wr hk134 ho129 (by decide) (by omega) hx138
   refine dk0 10 (v := pt b107 0) h135 rfl rfl ⟨hB141, hk142⟩ fun a143 h143 => ?_; clear h135
   refine dr_done (by kernel_rfl) ?_
   refine co_then ?_
   refine co_seq ?_
   refine co_seq ?_
   refine co_reg ?_
   refine pk0 (v := pt N3 0) h143 rfl fun a144 h144 => ?_; clear h143
   refine pk (v := .int .i64 d.k) h144 rfl (rn_load1 rfl rfl Try.isAgg3 (hk142.cell rfl)) fun a145 h145 => ?_; clear h144
   refine pk0 (v := .bool (d.k == 0)) h145 rfl fun a146 h146 => ?_; clear h145
   refine pl_nil ?_
   refine co_then ?_
   have hc147 : (d.k == 0) = true := by first | (simp; done) | (simp; omega) | exact beq_false_of_ne (by omega) | exact beq_iff_eq.2 (by omega)
   rw [hc147] at h146; clear hc147
   refine co_true h146 rfl ?_
   refine co_seq ?_
   refine dr_gen (fun x => Below w.heap.size w x ∧ x.ownsRow w2.heap.size 66 3 u15 d.ops.length (d.ops.flatMap opE) ∧ Blk x N31 35 #[.int .i64 d.ak, .int .i64 d.an, .string d.ky, .string d.tt, .int .u64 d.at_, .int .i64 d.am, u15]) (by kernel_rfl) (fun w148 hg149 => ?_) (fun w148 hg149 => ?_)
   ·
    have hz150 := hg149.size
    have hB151 := hb_new hB141 hg149
    have hr152 := row_kept_new hr114 (below_grown hb110)
    have hr153 := row_wr hr152 ho109 (by decide) (ha111) hx122
    have hr154 := row_wr hr153 ho121 (by decide) (ha111) hx130
    have hr155 := row_wr hr154 ho129 (by decide) (ha111) hx138
    have hr156 := row_kept_new hr155 hg149
    have hk157 := hk41'.kept hg63 (by simp)
    have hk158 := hk157.below hb72
    have hk159 := hk158.kept hg76 (by simp)
    have hk160 := hk159.below hb110
    have hk161 := blk_wr hk160 ho109 (by decide) (by omega) hx122
    have hk162 := blk_wr hk161 ho121 (by decide) (by omega) hx130
    have hk163 := blk_wr hk162 ho129 (by decide) (by omega) hx138
    have hk164 := hk163.kept hg149 (by simp)
    exact ⟨hB151, hr156, hk164⟩
   have hz165 := hg149.size
   have hB166 := hb_new hB141 hg149
   have hr167 := row_kept_new hr114 (below_grown hb110)
   have hr168 := row_wr hr167 ho109 (by decide) (ha111) hx122
   have hr169 := row_wr hr168 ho121 (by decide) (ha111) hx130
   have hr170 := row_wr hr169 ho129 (by decide) (ha111) hx138
   have hr171 := row_kept_new hr170 hg149
   have hk172 := hk41'.kept hg63 (by simp)
   have hk173 := hk172.below hb72
   have hk174 := hk173.kept hg76 (by simp)
   have hk175 := hk174.below hb110
   have hk176 := blk_wr hk175 ho109 (by decide) (by omega) hx122
   have hk177 := blk_wr hk176 ho121 (by decide) (by omega) hx130
   have hk178 := blk_wr hk177 ho129 (by decide) (by omega) hx138
   have hk179 := hk178.kept hg149 (by simp)
   refine dk0 0 (v := pt b107 0) h146 rfl rfl ⟨hB166, hr171, hk179⟩ fun a180 h180 => ?_; clear h146
   refine dk0 1 (v := pt N31 0) h180 rfl rfl ⟨hB166, hr171, hk179⟩ fun a181 h181 => ?_; clear h180
   refine dk 2 (v := .int .i64 d.ak) h181 rfl rfl ⟨hB166, hr171, hk179⟩ (fun x hx => (rn_load1 rfl rfl Try.isAgg3 (hx.2.2.cell rfl))) fun a182 h182 => ?_; clear h181
   refine dk0 4 (v := pt N31 1) h182 rfl rfl ⟨hB166, hr171, hk179⟩ fun a183 h183 => ?_; clear h182
   refine dk 5 (v := .int .i64 d.an) h183 rfl rfl ⟨hB166, hr171, hk179⟩ (fun x hx => (rn_load1 rfl rfl Try.isAgg3 (hx.2.2.cell rfl))) fun a184 h184 => ?_; clear h183
   refine dk0 7 (v := pt N31 5) h184 rfl rfl ⟨hB166, hr171, hk179⟩ fun a185 h185 => ?_; clear h184
   refine dk 8 (v := .int .i64 d.am) h185 rfl rfl ⟨hB166, hr171, hk179⟩ (fun x hx => (rn_load1 rfl rfl Try.isAgg3 (hx.2.2.cell rfl))) fun a186 h186 => ?_; clear h185
   refine dk0 10 (v := pt N31 4) h186 rfl rfl ⟨hB166, hr171, hk179⟩ fun a187 h187 => ?_; clear h186
   refine dk 11 (v := .int .u64 d.at_) h187 rfl rfl ⟨hB166, hr171, hk179⟩ (fun x hx => (rn_load1 rfl rfl Try.isAgg23 (hx.2.2.cell rfl))) fun a188 h188 => ?_; clear h187
   refine dk0 13 (v := pt N31 2) h188 rfl rfl ⟨hB166, hr171, hk179⟩ fun a189 h189 => ?_; clear h188
   refine dk 14 (v := .string d.ky) h189 rfl rfl ⟨hB166, hr171, hk179⟩ (fun x hx => (rn_load1 rfl rfl Try.isAgg9 (hx.2.2.cell rfl))) fun a190 h190 => ?_; clear h189
   refine dk0 16 (v := pt N31 3) h190 rfl rfl ⟨hB166, hr171, hk179⟩ fun a191 h191 => ?_; clear h190
   refine dk 17 (v := .string d.tt) h191 rfl rfl ⟨hB166, hr171, hk179⟩ (fun x hx => (rn_load1 rfl rfl Try.isAgg9 (hx.2.2.cell rfl))) fun a192 h192 => ?_; clear h191
   refine dk0 19 (v := pt N31 6) h192 rfl rfl ⟨hB166, hr171, hk179⟩ fun a193 h193 => ?_; clear h192
   refine dk 20 (v := u15) h193 rfl rfl ⟨hB166, hr171, hk179⟩ (fun x hx => (rn_load1 rfl rfl Try.isAgg24 (hx.2.2.cell rfl))) fun a194 h194 => ?_; clear h193
   refine dk 21 (v := .int .i64 ((d.ops.length : Nat) : Int)) h194 rfl rfl ⟨hB166, hr171, hk179⟩ (fun x hx => (rn_lenOwn rfl rfl Try.underlying24 hx.2.1)) fun a195 h195 => ?_; clear h194
   have ho200 := ho137.new hg149
   refine d1 3 h195 rfl rfl (op_call (args := #[pt b107 0, .int .i64 d.ak]) (R := fun res xw => res = pt b107 0 ∧ OW b107 ((((([] : List UInt8) ++ putL d.k) ++ putL d.nd) ++ putL d.n) ++ putL d.ak) (0 + 9 + 9 + 9 + 9) xw ∧ But (Rw w148 b107) w148 xw) rfl rfl rfl (by kernel_rfl) (by kernel_rfl) (Try.call70 _ _) (ow_num b107 (((([] : List UInt8) ++ putL d.k) ++ putL d.nd) ++ putL d.n) (0 + 9 + 9 + 9) d.ak w148 ho200 (by omega) (by omega) (by omega)) (by rintro e x ⟨rfl, h1, h2⟩; exact ⟨_, rfl, rfl, h1, h2⟩)) ?_ ?_; clear h195
   ·
    rintro _ w197 ⟨rfl, ho198, hx199⟩
    have hz201 := hx199.size
    have hl202 := ho198.lt
    have hB203 := hb_wr hB166 ho200 (by omega) hx199
    have hr204 := row_wr hr171 ho200 (by decide) (ha111) hx199
    have hk205 := blk_wr hk179 ho200 (by decide) (by omega) hx199
    exact ⟨hB203, hr204, hk205⟩
   rintro _ w197 a196 ⟨rfl, ho198, hx199⟩ h196
   have hz201 := hx199.size
   have hl202 := ho198.lt
   have hB203 := hb_wr hB166 ho200 (by omega) hx199
   have hr204 := row_wr hr171 ho200 (by decide) (ha111) hx199
   have hk205 := blk_wr hk179 ho200 (by decide) (by omega) hx199
   refine d1 6 h196 rfl rfl (op_call (args := #[pt b107 0, .int .i64 d.an]) (R := fun res xw => res = pt b107 0 ∧ OW b107 (((((([] : List UInt8) ++ putL d.k) ++ putL d.nd) ++ putL d.n) ++ putL d.ak) ++ putL d.an) (0 + 9 + 9 + 9 + 9 + 9) xw ∧ But (Rw w197 b107) w197 xw) rfl rfl rfl (by kernel_rfl) (by kernel_rfl) (Try.call70 _ _) (ow_num b107 ((((([] : List UInt8) ++ putL d.k) ++ putL d.nd) ++ putL d.n) ++ putL d.ak) (0 + 9 + 9 + 9 + 9) d.an w197 ho198 (by omega) (by omega) (by omega)) (by rintro e x ⟨rfl, h1, h2⟩; exact ⟨_, rfl, rfl, h1, h2⟩)) ?_ ?_; clear h196
   ·
    rintro _ w207 ⟨rfl, ho208, hx209⟩
    have hz210 := hx209.size
    have hl211 := ho208.lt
    have hB212 := hb_wr hB203 ho198 (by omega) hx209
    have hr213 := row_wr hr204 ho198 (by decide) (ha111) hx209
    have hk214 := blk_wr hk205 ho198 (by decide) (by omega) hx209
    exact ⟨hB212, hr213, hk214⟩
   rintro _ w207 a206 ⟨rfl, ho208, hx209⟩ h206
   have hz210 := hx209.size
   have hl211 := ho208.lt
   have hB212 := hb_wr hB203 ho198 (by omega) hx209
   have hr213 := row_wr hr204 ho198 (by decide) (ha111) hx209
   have hk214 := blk_wr hk205 ho198 (by decide) (by omega) hx209
   refine d1 9 h206 rfl rfl (op_call (args := #[pt b107 0, .int .i64 d.am]) (R := fun res xw => res = pt b107 0 ∧ OW b107 ((((((([] : List UInt8) ++ putL d.k) ++ putL d.nd) ++ putL d.n) ++ putL d.ak) ++ putL d.an) ++ putL d.am) (0 + 9 + 9 + 9 + 9 + 9 + 9) xw ∧ But (Rw w207 b107) w207 xw) rfl rfl rfl (by kernel_rfl) (by kernel_rfl) (Try.call70 _ _) (ow_num b107 (((((([] : List UInt8) ++ putL d.k) ++ putL d.nd) ++ putL d.n) ++ putL d.ak) ++ putL d.an) (0 + 9 + 9 + 9 + 9 + 9) d.am w207 ho208 (by omega) (by omega) (by omega)) (by rintro e x ⟨rfl, h1, h2⟩; exact ⟨_, rfl, rfl, h1, h2⟩)) ?_ ?_; clear h206
   ·
    rintro _ w216 ⟨rfl, ho217, hx218⟩
    have hz219 := hx218.size
    have hl220 := ho217.lt
    have hB221 := hb_wr hB212 ho208 (by omega) hx218
    have hr222 := row_wr hr213 ho208 (by decide) (ha111) hx218
    have hk223 := blk_wr hk214 ho208 (by decide) (by omega) hx218
    exact ⟨hB221, hr222, hk223⟩
   rintro _ w216 a215 ⟨rfl, ho217, hx218⟩ h215
   have hz219 := hx218.size
   have hl220 := ho217.lt
   have hB221 := hb_wr hB212 ho208 (by omega) hx218
   have hr222 := row_wr hr213 ho208 (by decide) (ha111) hx218
   have hk223 := blk_wr hk214 ho208 (by decide) (by omega) hx218
   refine d1 12 h215 rfl rfl (op_call (args := #[pt b107 0, .int .u64 d.at_]) (R := fun res xw => res = pt b107 0 ∧ OW b107 (((((((([] : List UInt8) ++ putL d.k) ++ putL d.nd) ++ putL d.n) ++ putL d.ak) ++ putL d.an) ++ putL d.am) ++ putL d.at_) (0 + 9 + 9 + 9 + 9 + 9 + 9 + 9) xw ∧ But (Rw w216 b107) w216 xw) rfl rfl rfl (by kernel_rfl) (by kernel_rfl) (Try.call71 _ _) (ow_big b107 ((((((([] : List UInt8) ++ putL d.k) ++ putL d.nd) ++ putL d.n) ++ putL d.ak) ++ putL d.an) ++ putL d.am) (0 + 9 + 9 + 9 + 9 + 9 + 9) d.at_ w216 ho217 (by omega) (by omega) (by omega)) (by rintro e x ⟨rfl, h1, h2⟩; exact ⟨_, rfl, rfl, h1, h2⟩)) ?_ ?_; clear h215
   ·
    rintro _ w225 ⟨rfl, ho226, hx227⟩
    have hz228 := hx227.size
    have hl229 := ho226.lt
    have hB230 := hb_wr hB221 ho217 (by omega) hx227
    have hr231 := row_wr hr222 ho217 (by decide) (ha111) hx227
    have hk232 := blk_wr hk223 ho217 (by decide) (by omega) hx227
    exact ⟨hB230, hr231, hk232⟩
   rintro _ w225 a224 ⟨rfl, ho226, hx227⟩ h224
   have hz228 := hx227.size
   have hl229 := ho226.lt
   have hB230 := hb_wr hB221 ho217 (by omega) hx227
   have hr231 := row_wr hr222 ho217 (by decide) (ha111) hx227
   have hk232 := blk_wr hk223 ho217 (by decide) (by omega) hx227
   refine d1 15 h224 rfl rfl (op_call (args := #[pt b107 0, .string d.ky]) (R := fun res xw => res = pt b107 0 ∧ OW b107 ((((((((([] : List UInt8) ++ putL d.k) ++ putL d.nd) ++ putL d.n) ++ putL d.ak) ++ putL d.an) ++ putL d.am) ++ putL d.at_) ++ (putL (d.ky.size : Int) ++ d.ky.data.toList)) (0 + 9 + 9 + 9 + 9 + 9 + 9 + 9 + (9 + d.ky.size)) xw ∧ But (Rw w225 b107) w225 xw) rfl rfl rfl (by kernel_rfl) (by kernel_rfl) (Try.call72 _ _) (ow_text b107 (((((((([] : List UInt8) ++ putL d.k) ++ putL d.nd) ++ putL d.n) ++ putL d.ak) ++ putL d.an) ++ putL d.am) ++ putL d.at_) (0 + 9 + 9 + 9 + 9 + 9 + 9 + 9) d.ky w225 ho226 (by first | omega | (simp; done) | (simp; omega))) (by rintro e x ⟨rfl, h1, h2⟩; exact ⟨_, rfl, rfl, h1, h2⟩)) ?_ ?_; clear h224
   ·
    rintro _ w234 ⟨rfl, ho235, hx236⟩
    have hz237 := hx236.size
    have hl238 := ho235.lt
    have hB239 := hb_wr hB230 ho226 (by omega) hx236
    have hr240 := row_wr hr231 ho226 (by decide) (ha111) hx236
    have hk241 := blk_wr hk232 ho226 (by decide) (by omega) hx236
    exact ⟨hB239, hr240, hk241⟩
   rintro _ w234 a233 ⟨rfl, ho235, hx236⟩ h233
   have hz237 := hx236.size
   have hl238 := ho235.lt
   have hB239 := hb_wr hB230 ho226 (by omega) hx236
   have hr240 := row_wr hr231 ho226 (by decide) (ha111) hx236
   have hk241 := blk_wr hk232 ho226 (by decide) (by omega) hx236
   refine d1 18 h233 rfl rfl (op_call (args := #[pt b107 0, .string d.tt]) (R := fun res xw => res = pt b107 0 ∧ OW b107 (((((((((([] : List UInt8) ++ putL d.k) ++ putL d.nd) ++ putL d.n) ++ putL d.ak) ++ putL d.an) ++ putL d.am) ++ putL d.at_) ++ (putL (d.ky.size : Int) ++ d.ky.data.toList)) ++ (putL (d.tt.size : Int) ++ d.tt.data.toList)) (0 + 9 + 9 + 9 + 9 + 9 + 9 + 9 + (9 + d.ky.size) + (9 + d.tt.size)) xw ∧ But (Rw w234 b107) w234 xw) rfl rfl rfl (by kernel_rfl) (by kernel_rfl) (Try.call72 _ _) (ow_text b107 ((((((((([] : List UInt8) ++ putL d.k) ++ putL d.nd) ++ putL d.n) ++ putL d.ak) ++ putL d.an) ++ putL d.am) ++ putL d.at_) ++ (putL (d.ky.size : Int) ++ d.ky.data.toList)) (0 + 9 + 9 + 9 + 9 + 9 + 9 + 9 + (9 + d.ky.size)) d.tt w234 ho235 (by first | omega | (simp; done) | (simp; omega))) (by rintro e x ⟨rfl, h1, h2⟩; exact ⟨_, rfl, rfl, h1, h2⟩)) ?_ ?_; clear h233
   ·
    rintro _ w243 ⟨rfl, ho244, hx245⟩
    have hz246 := hx245.size
    have hl247 := ho244.lt
    have hB248 := hb_wr hB239 ho235 (by omega) hx245
    have hr249 := row_wr hr240 ho235 (by decide) (ha111) hx245
    have hk250 := blk_wr hk241 ho235 (by decide) (by omega) hx245
    exact ⟨hB248, hr249, hk250⟩
   rintro _ w243 a242 ⟨rfl, ho244, hx245⟩ h242
   have hz246 := hx245.size
   have hl247 := ho244.lt
   have hB248 := hb_wr hB239 ho235 (by omega) hx245
   have hr249 := row_wr hr240 ho235 (by decide) (ha111) hx245
   have hk250 := blk_wr hk241 ho235 (by decide) (by omega) hx245
   refine d1 22 h242 rfl rfl (op_call (args := #[pt b107 0, .int .i64 ((d.ops.length : Nat) : Int)]) (R := fun res xw => res = pt b107 0 ∧ OW b107 ((((((((((([] : List UInt8) ++ putL d.k) ++ putL d.nd) ++ putL d.n) ++ putL d.ak) ++ putL d.an) ++ putL d.am) ++ putL d.at_) ++ (putL (d.ky.size : Int) ++ d.ky.data.toList)) ++ (putL (d.tt.size : Int) ++ d.tt.data.toList)) ++ putL ((d.ops.length : Nat) : Int)) (0 + 9 + 9 + 9 + 9 + 9 + 9 + 9 + (9 + d.ky.size) + (9 + d.tt.size) + 9) xw ∧ But (Rw w243 b107) w243 xw) rfl rfl rfl (by kernel_rfl) (by kernel_rfl) (Try.call70 _ _) (ow_num b107 (((((((((([] : List UInt8) ++ putL d.k) ++ putL d.nd) ++ putL d.n) ++ putL d.ak) ++ putL d.an) ++ putL d.am) ++ putL d.at_) ++ (putL (d.ky.size : Int) ++ d.ky.data.toList)) ++ (putL (d.tt.size : Int) ++ d.tt.data.toList)) (0 + 9 + 9 + 9 + 9 + 9 + 9 + 9 + (9 + d.ky.size) + (9 + d.tt.size)) ((d.ops.length : Nat) : Int) w243 ho244 (by omega) (by omega) (by omega)) (by rintro e x ⟨rfl, h1, h2⟩; exact ⟨_, rfl, rfl, h1, h2⟩)) ?_ ?_; clear h242
   ·
    rintro _ w252 ⟨rfl, ho253, hx254⟩
    have hz255 := hx254.size
    have hl256 := ho253.lt
    have hB257 := hb_wr hB248 ho244 (by omega) hx254
    have hr258 := row_wr hr249 ho244 (by decide) (ha111) hx254
    have hk259 := blk_wr hk250 ho244 (by decide) (by omega) hx254
    exact ⟨hB257, hr258, hk259⟩
   rintro _ w252 a251 ⟨rfl, ho253, hx254⟩ h251
   have hz255 := hx254.size
   have hl256 := ho253.lt
   refine dr_done (by kernel_rfl) ?_
   refine co_then ?_
   refine co_seq ?_
   refine co_reg ?_
   refine pk0 (v := pt N31 6) h251 rfl fun a257 h257 => ?_; clear h251
   have hk258 := blk_wr hk250 ho244 (by decide) (by omega) hx254
   refine pk (v := u15) h257 rfl (rn_load1 rfl rfl Try.isAgg24 (hk258.cell rfl)) fun a259 h259 => ?_; clear h257
   have hr260 := row_wr hr249 ho244 (by decide) (ha111) hx254
   refine pk (v := .int .i64 ((d.ops.length : Nat) : Int)) h259 rfl (rn_lenOwn rfl rfl Try.underlying24 hr260) fun a261 h261 => ?_; clear h259
   refine pk0 (v := .int .i64 0) h261 rfl fun a262 h262 => ?_; clear h261
   refine pl_nil ?_
   refine co_then ?_
   refine wp_block ?_
   have h263 : Slots 95 [(1, pt N3 0), (4, pt N31 0), (5, pt b107 0), (66, u15), (67, .int .i64 ((d.ops.length : Nat) : Int)), (68, .int .i64 0)] _ := h262.sub ⟨rfl, rfl, rfl, rfl, rfl, rfl, trivial⟩; clear h262
   refine co_loop (fun mm a x => ∃ (i : Nat), Slots 95 [(1, pt N3 0), (4, pt N31 0), (5, pt b107 0), (66, u15), (67, .int .i64 ((d.ops.length : Nat) : Int)), (68, .int .i64 ((i : Nat) : Int))] a ∧ mm = d.ops.length - i ∧ (i ≤ d.ops.length) ∧ x.ownsRow w2.heap.size 66 3 u15 d.ops.length (d.ops.flatMap opE) ∧ OW b107 (hedB d ++ (putL d.ak ++ putL d.an ++ putL d.am ++ putL d.at_ ++ txB d.ky ++ txB d.tt ++ putL ((d.ops.length : Nat) : Int)) ++ putOs (d.ops.take i)) (10000000 + i * 3000000) x ∧ Below w.heap.size w x ∧ Blk x N3 60 #[.int .i64 d.k, .int .i64 d.nd, .int .i64 d.n, .int .i64 d.ak, .int .i64 d.an, .string d.ky, .string d.tt, .int .u64 d.at_, .int .i64 d.am, u15] ∧ Blk x N31 35 #[.int .i64 d.ak, .int .i64 d.an, .string d.ky, .string d.tt, .int .u64 d.at_, .int .i64 d.am, u15] ∧ Blk x N62 3 #[.int .i64 d.k, .int .i64 d.nd, .int .i64 d.n, .int .i64 d.ak, .int .i64 d.an, .int .i64 d.am]) (d.ops.length - 0) ?_ ?_
   have hB264 := hb_wr hB248 ho244 (by omega) hx254
   have hk265 := hk142.kept hg149 (by simp)
   have hk266 := blk_wr hk265 ho200 (by decide) (by omega) hx199
   have hk267 := blk_wr hk266 ho198 (by decide) (by omega) hx209
   have hk268 := blk_wr hk267 ho208 (by decide) (by omega) hx218
   have hk269 := blk_wr hk268 ho217 (by decide) (by omega) hx227
   have hk270 := blk_wr hk269 ho226 (by decide) (by omega) hx236
   have hk271 := blk_wr hk270 ho235 (by decide) (by omega) hx245
   have hk272 := blk_wr hk271 ho244 (by decide) (by omega) hx254
   have hk273 := hk64.below hb72
   have hk274 := hk273.kept hg76 (by simp)
   have hk275 := hk274.below hb110
   have hk276 := blk_wr hk275 ho109 (by decide) (by omega) hx122
   have hk277 := blk_wr hk276 ho121 (by decide) (by omega) hx130
   have hk278 := blk_wr hk277 ho129 (by decide) (by omega) hx138
   have hk279 := hk278.kept hg149 (by simp)
   have hk280 := blk_wr hk279 ho200 (by decide) (by omega) hx199
   have hk281 := blk_wr hk280 ho198 (by decide) (by omega) hx209
   have hk282 := blk_wr hk281 ho208 (by decide) (by omega) hx218
   have hk283 := blk_wr hk282 ho217 (by decide) (by omega) hx227
   have hk284 := blk_wr hk283 ho226 (by decide) (by omega) hx236
   have hk285 := blk_wr hk284 ho235 (by decide) (by omega) hx245
   have hk286 := blk_wr hk285 ho244 (by decide) (by omega) hx254
   · exact ⟨0, h263.sub ⟨rfl, rfl, rfl, rfl, rfl, (slot_eq rfl (congrArg (Value.int .i64) (by first | rfl | omega))), trivial⟩, rfl, by omega, hr260, (ho253.eq (by first | (simp [putOs, hedB, txB]; done) | (rw [takeO_at (by assumption)]; simp [putOs, putO1])) (by first | omega | (simp; done) | (simp; omega))), hB264, hk272, hk258, hk286⟩
   · rintro k287 a288 w289 ⟨i, h288, rfl, hi290, hf291, hf292, hB293, hk294, hk295, hk296⟩
     have hz297 := hB293.size
     have hl298 := hk294.lt
     have hl299 := hk295.lt
     have hl300 := hk296.lt
     have hl301 := hf292.lt
     refine co_seq ?_
     refine co_reg ?_
     refine pk0 (v := .bool (decide (((i : Nat) : Int) < ((d.ops.length : Nat) : Int)))) h288 rfl fun a302 h302 => ?_; clear h288
     refine pl_nil ?_
     refine co_then ?_
     refine co_seq ?_
     cases hc303 : (decide (((i : Nat) : Int) < ((d.ops.length : Nat) : Int)))
     ·
      rw [hc303] at h302
      have hp304 : ¬ (((i : Nat) : Int) < ((d.ops.length : Nat) : Int)) := of_decide_eq_false hc303
      clear hc303
      refine co_false h302 rfl ?_
      refine wp_exit ?_
      refine co_thenX ?_
      refine co_thenX ?_
      refine co_blockX ?_
      refine co_then ?_
      refine co_seq ?_
      refine co_reg ?_
      refine pk0 (v := pt b107 0) h302 rfl fun a305 h305 => ?_; clear h302
      have hW310 := OW.eq (l' := evB d) hf292 (by rw [evB_y hk0]; simp [hedB, askB, txB, List.take_of_length_le (show d.ops.length ≤ i by omega)]) (Nat.le_refl _)
      obtain ⟨sv309, hsv⟩ : ∃ s : ByteArray, s = ⟨(evB d).toArray⟩ := ⟨_, rfl⟩
      have hsz := evS_size hsv
      refine pw h305 rfl (op_call (args := #[pt b107 0]) (R := fun res xw => res = .tuple #[.string sv309, .int .i64 0] ∧ Below w289.heap.size w289 xw) rfl rfl rfl (by kernel_rfl) (by kernel_rfl) (Try.call74 _ _) (ow_done b107 _ _ w289 hW310) (by rintro q x ⟨h1, h2⟩; rw [← hsv] at h1; exact ⟨_, h1, rfl, h2⟩)) ?_; clear h305
      rintro _ w307 a306 ⟨rfl, hb308⟩ h306
      have hz311 := hb308.size
      refine pk0 (v := .tuple #[.string sv309, .int .i64 0]) h306 rfl fun a312 h312 => ?_; clear h306
      refine pk0 (v := .string sv309) h312 rfl fun a313 h313 => ?_; clear h312
      refine pk0 (v := .int .i64 0) h313 rfl fun a314 h314 => ?_; clear h313
      refine pk0 (v := .string sv309) h314 rfl fun a315 h315 => ?_; clear h314
      refine pk0 (v := .int .i64 0) h315 rfl fun a316 h316 => ?_; clear h315
      refine pl_nil ?_
      refine co_then ?_
      refine co_seq ?_
      refine co_seq ?_
      refine co_reg ?_
      refine pk0 (v := .int .i64 0) h316 rfl fun a317 h317 => ?_; clear h316
      refine pk0 (v := .bool ((0 : Int) != 0)) h317 rfl fun a318 h318 => ?_; clear h317
      refine pl_nil ?_
      refine co_then ?_
      have hc319 : ((0 : Int) != 0) = false := by first | (simp; done) | (simp; omega) | exact beq_false_of_ne (by omega) | exact beq_iff_eq.2 (by omega)
      rw [hc319] at h318; clear hc319
      refine co_false h318 rfl ?_
      refine wp_skip ?_
      refine co_then ?_
      refine co_seq ?_
      refine co_seq ?_
      refine co_reg ?_
      refine pk0 (v := .string sv309) h318 rfl fun a320 h320 => ?_; clear h318
      refine pk (v := .int .i64 ((sv309.size : Nat) : Int)) h320 rfl (rn_lenStr rfl rfl Try.underlying9) fun a321 h321 => ?_; clear h320
      refine pk0 (v := .bool (decide (((sv309.size : Nat) : Int) > 255))) h321 rfl fun a322 h322 => ?_; clear h321
      refine pl_nil ?_
      refine co_then ?_
      have hB324 := hb_call hB293 hb308
      cases hc323 : (decide (((sv309.size : Nat) : Int) > 255))
      ·
       rw [hc323] at h322
       have hp325 : ¬ (((sv309.size : Nat) : Int) > 255) := of_decide_eq_false hc323
       clear hc323
       refine co_false h322 rfl ?_
       refine wp_skip ?_
       refine co_then ?_
       refine co_seq ?_
       refine co_reg ?_
       refine pk0 (v := .string sv309) h322 rfl fun a326 h326 => ?_; clear h322
       refine pk0 (v := .string sv309) h326 rfl fun a327 h327 => ?_; clear h326
       refine pk0 (v := .int .i64 0) h327 rfl fun a328 h328 => ?_; clear h327
       refine pl_nil ?_
       refine co_then ?_
       refine wp_ret ?_
       refine co_ret2 h328 rfl rfl rfl ?_
       exact ⟨by rw [(oneE_0 hr (by omega)).1, (oneE_0 hr (by omega)).2, hsv], hB324⟩
      ·
       rw [hc323] at h322
       have hp329 : ((sv309.size : Nat) : Int) > 255 := of_decide_eq_true hc323
       clear hc323
       refine co_true h322 rfl ?_
       refine co_seq ?_
       refine co_reg ?_
       refine pk0 (v := .string (⟨#[]⟩)) h322 rfl fun a330 h330 => ?_; clear h322
       refine pk0 (v := .int .i64 3) h330 rfl fun a331 h331 => ?_; clear h330
       refine pl_nil ?_
       refine co_then ?_
       refine wp_ret ?_
       refine co_thenR ?_
       refine co_ret2 h331 rfl rfl rfl ?_
       exact ⟨by rw [(oneE_3 hr (by omega)).1, (oneE_3 hr (by omega)).2], hB324⟩
     ·
      rw [hc303] at h302
      have hp332 : ((i : Nat) : Int) < ((d.ops.length : Nat) : Int) := of_decide_eq_true hc303
      clear hc303
      refine co_true h302 rfl ?_
      refine wp_skip ?_
      refine co_then ?_
      refine co_seq ?_
      refine wp_block ?_
      refine co_seq ?_
      refine co_reg ?_
      obtain ⟨y333, hy333⟩ : ∃ z, d.ops[i]? = some z := ⟨_, List.getElem?_eq_getElem (by first | omega | (simp; done) | (simp; omega))⟩
      have hqy333 := hS.ops _ (List.mem_of_getElem? hy333)
      refine pk (v := pt (blkOf u15) (offOf u15 + i * 3)) h302 rfl (rn_index rfl rfl rfl Try.underlying24 Try.sizeOf66 (row_sl hf291 opE_len) (by omega) (by first | omega | (simp; done) | (simp; omega))) fun a334 h334 => ?_; clear h302
      refine pk (v := .agg #[.string y333.1, .string y333.2.1, .bool y333.2.2]) h334 rfl (rn_loadN rfl rfl Try.underlying66 rfl (by kernel_rfl) (sl_at (row_sl hf291 opE_len) hy333)) fun a335 h335 => ?_; clear h334
      refine pw h335 rfl (op_new (v := fun N => pt N 0) (T := 66) (cs := #[.string (⟨#[]⟩), .string (⟨#[]⟩), .bool false]) (by kernel_rfl) (by kernel_rfl) (by kernel_rfl)) ?_; clear h335
      rintro _ w337 a336 ⟨N338, rfl, hN341, hz342, hk340, hg339⟩ h336
      have ha343 := row_fresh hf291 hN341
      have hz344 := hg339.size
      try dsimp only at h336
      refine pwD h336 rfl (op_storeN rfl rfl rfl (by kernel_rfl) (by kernel_rfl) hk340 rfl) ?_; clear h336
      rintro _ w346 a345 ⟨hk347, hz348, hg349⟩ h345
      have hk347' : Blk w346 N338 66 #[.string y333.1, .string y333.2.1, .bool y333.2.2] := hk347; clear hk347
      have hz350 := hg349.size
      refine pl_nil ?_
      refine co_then ?_
      refine dr_gen (fun x => Below w.heap.size w x ∧ Blk x N338 66 #[.string y333.1, .string y333.2.1, .bool y333.2.2]) (by kernel_rfl) (fun w351 hg352 => ?_) (fun w351 hg352 => ?_)
      ·
       have hz353 := hg352.size
       have hB354 := hb_new hB293 hg339
       have hB355 := hb_at hB354 hg349 (by omega)
       have hB356 := hb_new hB355 hg352
       have hk357 := hk347'.kept hg352 (by simp)
       exact ⟨hB356, hk357⟩
      have hz358 := hg352.size
      have hB359 := hb_new hB293 hg339
      have hB360 := hb_at hB359 hg349 (by omega)
      have hB361 := hb_new hB360 hg352
      have hk362 := hk347'.kept hg352 (by simp)
      refine dk0 0 (v := pt b107 0) h345 rfl rfl ⟨hB361, hk362⟩ fun a363 h363 => ?_; clear h345
      refine dk0 1 (v := pt N338 0) h363 rfl rfl ⟨hB361, hk362⟩ fun a364 h364 => ?_; clear h363
      refine dk 2 (v := .string y333.1) h364 rfl rfl ⟨hB361, hk362⟩ (fun x hx => (rn_load1 rfl rfl Try.isAgg9 (hx.2.cell rfl))) fun a365 h365 => ?_; clear h364
      refine dk0 4 (v := pt N338 2) h365 rfl rfl ⟨hB361, hk362⟩ fun a366 h366 => ?_; clear h365
      refine dk 5 (v := .bool y333.2.2) h366 rfl rfl ⟨hB361, hk362⟩ (fun x hx => (rn_load1 rfl rfl Try.isAgg4 (hx.2.cell rfl))) fun a367 h367 => ?_; clear h366
      refine dk0 7 (v := pt N338 1) h367 rfl rfl ⟨hB361, hk362⟩ fun a368 h368 => ?_; clear h367
      refine dk 8 (v := .string y333.2.1) h368 rfl rfl ⟨hB361, hk362⟩ (fun x hx => (rn_load1 rfl rfl Try.isAgg9 (hx.2.cell rfl))) fun a369 h369 => ?_; clear h368
      have ho374 := hf292.new hg339
      have ho375 := ho374.at hk340 (by decide) (by omega) hg349
      have ho376 := ho375.new hg352
      refine d1 3 h369 rfl rfl (op_call (args := #[pt b107 0, .string y333.1]) (R := fun res xw => res = pt b107 0 ∧ OW b107 ((hedB d ++ (putL d.ak ++ putL d.an ++ putL d.am ++ putL d.at_ ++ txB d.ky ++ txB d.tt ++ putL ((d.ops.length : Nat) : Int)) ++ putOs (d.ops.take i)) ++ (putL (y333.1.size : Int) ++ y333.1.data.toList)) (10000000 + i * 3000000 + (9 + y333.1.size)) xw ∧ But (Rw w351 b107) w351 xw) rfl rfl rfl (by kernel_rfl) (by kernel_rfl) (Try.call72 _ _) (ow_text b107 (hedB d ++ (putL d.ak ++ putL d.an ++ putL d.am ++ putL d.at_ ++ txB d.ky ++ txB d.tt ++ putL ((d.ops.length : Nat) : Int)) ++ putOs (d.ops.take i)) (10000000 + i * 3000000) y333.1 w351 ho376 (by first | omega | (simp; done) | (simp; omega))) (by rintro e x ⟨rfl, h1, h2⟩; exact ⟨_, rfl, rfl, h1, h2⟩)) ?_ ?_; clear h369
      ·
       rintro _ w371 ⟨rfl, ho372, hx373⟩
       have hz377 := hx373.size
       have hl378 := ho372.lt
       have hB379 := hb_wr hB361 ho376 (by omega) hx373
       have hk380 := blk_wr hk362 ho376 (by decide) (by omega) hx373
       exact ⟨hB379, hk380⟩
      rintro _ w371 a370 ⟨rfl, ho372, hx373⟩ h370
      have hz377 := hx373.size
      have hl378 := ho372.lt
      have hB379 := hb_wr hB361 ho376 (by omega) hx373
      have hk380 := blk_wr hk362 ho376 (by decide) (by omega) hx373
      refine d1 6 h370 rfl rfl (op_call (args := #[pt b107 0, .bool y333.2.2]) (R := fun res xw => res = pt b107 0 ∧ OW b107 (((hedB d ++ (putL d.ak ++ putL d.an ++ putL d.am ++ putL d.at_ ++ txB d.ky ++ txB d.tt ++ putL ((d.ops.length : Nat) : Int)) ++ putOs (d.ops.take i)) ++ (putL (y333.1.size : Int) ++ y333.1.data.toList)) ++ [flagB y333.2.2]) (10000000 + i * 3000000 + (9 + y333.1.size) + 1) xw ∧ But (Rw w371 b107) w371 xw) rfl rfl rfl (by kernel_rfl) (by kernel_rfl) (Try.call73 _ _) (ow_flag b107 ((hedB d ++ (putL d.ak ++ putL d.an ++ putL d.am ++ putL d.at_ ++ txB d.ky ++ txB d.tt ++ putL ((d.ops.length : Nat) : Int)) ++ putOs (d.ops.take i)) ++ (putL (y333.1.size : Int) ++ y333.1.data.toList)) (10000000 + i * 3000000 + (9 + y333.1.size)) y333.2.2 w371 ho372 (by omega)) (by rintro e x ⟨rfl, h1, h2⟩; exact ⟨_, rfl, rfl, h1, h2⟩)) ?_ ?_; clear h370
      ·
       rintro _ w382 ⟨rfl, ho383, hx384⟩
       have hz385 := hx384.size
       have hl386 := ho383.lt
       have hB387 := hb_wr hB379 ho372 (by omega) hx384
       have hk388 := blk_wr hk380 ho372 (by decide) (by omega) hx384
       exact ⟨hB387, hk388⟩
      rintro _ w382 a381 ⟨rfl, ho383, hx384⟩ h381
      have hz385 := hx384.size
      have hl386 := ho383.lt
      have hB387 := hb_wr hB379 ho372 (by omega) hx384
      have hk388 := blk_wr hk380 ho372 (by decide) (by omega) hx384
      refine d1 9 h381 rfl rfl (op_call (args := #[pt b107 0, .string y333.2.1]) (R := fun res xw => res = pt b107 0 ∧ OW b107 ((((hedB d ++ (putL d.ak ++ putL d.an ++ putL d.am ++ putL d.at_ ++ txB d.ky ++ txB d.tt ++ putL ((d.ops.length : Nat) : Int)) ++ putOs (d.ops.take i)) ++ (putL (y333.1.size : Int) ++ y333.1.data.toList)) ++ [flagB y333.2.2]) ++ (putL (y333.2.1.size : Int) ++ y333.2.1.data.toList)) (10000000 + i * 3000000 + (9 + y333.1.size) + 1 + (9 + y333.2.1.size)) xw ∧ But (Rw w382 b107) w382 xw) rfl rfl rfl (by kernel_rfl) (by kernel_rfl) (Try.call72 _ _) (ow_text b107 (((hedB d ++ (putL d.ak ++ putL d.an ++ putL d.am ++ putL d.at_ ++ txB d.ky ++ txB d.tt ++ putL ((d.ops.length : Nat) : Int)) ++ putOs (d.ops.take i)) ++ (putL (y333.1.size : Int) ++ y333.1.data.toList)) ++ [flagB y333.2.2]) (10000000 + i * 3000000 + (9 + y333.1.size) + 1) y333.2.1 w382 ho383 (by first | omega | (simp; done) | (simp; omega))) (by rintro e x ⟨rfl, h1, h2⟩; exact ⟨_, rfl, rfl, h1, h2⟩)) ?_ ?_; clear h381
      ·
       rintro _ w390 ⟨rfl, ho391, hx392⟩
       have hz393 := hx392.size
       have hl394 := ho391.lt
       have hB395 := hb_wr hB387 ho383 (by omega) hx392
       have hk396 := blk_wr hk388 ho383 (by decide) (by omega) hx392
       exact ⟨hB395, hk396⟩
      rintro _ w390 a389 ⟨rfl, ho391, hx392⟩ h389
      have hz393 := hx392.size
      have hl394 := ho391.lt
      refine dr_done (by kernel_rfl) ?_
      refine co_blockN ?_
      refine co_then ?_
      refine co_reg ?_
      refine pk (v := .int .i64 ((i + 1 : Nat) : Int)) h389 rfl (rn_arith' rfl rfl rfl rfl rfl rfl (IntWalk.i64_in _ (by omega)) (by omega)) fun a395 h395 => ?_; clear h389
      refine pk0 (v := .int .i64 ((i + 1 : Nat) : Int)) h395 rfl fun a396 h396 => ?_; clear h395
      refine pl_nil ?_
      refine co_then ?_
      refine ⟨(d.ops.length - (i + 1)), by omega, ?_⟩
      have hr397 := row_kept_new hf291 hg339
      have hr398 := row_kept_at hr397 hg349 (ha343)
      have hr399 := row_kept_new hr398 hg352
      have hr400 := row_wr hr399 ho376 (by decide) (ha111) hx373
      have hr401 := row_wr hr400 ho372 (by decide) (ha111) hx384
      have hr402 := row_wr hr401 ho383 (by decide) (ha111) hx392
      have hB403 := hb_wr hB387 ho383 (by omega) hx392
      have hk404 := hk294.kept hg339 (by simp)
      have hk405 := hk404.kept hg349 (by simp; omega)
      have hk406 := hk405.kept hg352 (by simp)
      have hk407 := blk_wr hk406 ho376 (by decide) (by omega) hx373
      have hk408 := blk_wr hk407 ho372 (by decide) (by omega) hx384
      have hk409 := blk_wr hk408 ho383 (by decide) (by omega) hx392
      have hk410 := hk295.kept hg339 (by simp)
      have hk411 := hk410.kept hg349 (by simp; omega)
      have hk412 := hk411.kept hg352 (by simp)
      have hk413 := blk_wr hk412 ho376 (by decide) (by omega) hx373
      have hk414 := blk_wr hk413 ho372 (by decide) (by omega) hx384
      have hk415 := blk_wr hk414 ho383 (by decide) (by omega) hx392
      have hk416 := hk296.kept hg339 (by simp)
      have hk417 := hk416.kept hg349 (by simp; omega)
      have hk418 := hk417.kept hg352 (by simp)
      have hk419 := blk_wr hk418 ho376 (by decide) (by omega) hx373
      have hk420 := blk_wr hk419 ho372 (by decide) (by omega) hx384
      have hk421 := blk_wr hk420 ho383 (by decide) (by omega) hx392
      exact ⟨i + 1, h396.sub ⟨rfl, rfl, rfl, rfl, rfl, rfl, trivial⟩, rfl, by omega, hr402, (ho391.eq (by first | (simp [putOs, hedB, txB]; done) | (rw [takeO_at (by assumption)]; simp [putOs, putO1])) (by first | omega | (simp; done) | (simp; omega))), hB403, hk409, hk415, hk421⟩
 · skip
   have hrr := rng_o hr hk0
   refine co_enter (n := 95) Try.func41 rfl rfl rfl [(0, .agg #[.int .i64 d.k, .int .i64 d.nd, .int .i64 d.n, .int .i64 d.ak, .int .i64 d.an, .string d.ky, .string d.tt, .int .u64 d.at_, .int .i64 d.am, ov])] rfl (fun a h0 => ?_)
   refine co_seq ?_
   refine co_reg ?_
   refine pw h0 rfl (op_new (v := fun N => pt N 0) (T := 60) (cs := #[.int .i64 d.k, .int .i64 d.nd, .int .i64 d.n, .int .i64 d.ak, .int .i64 d.an, .string d.ky, .string d.tt, .int .u64 d.at_, .int .i64 d.am, ov]) (by kernel_rfl) (by kernel_rfl) (by kernel_rfl)) ?_; clear h0
   rintro _ w423 a422 ⟨N424, rfl, hN427, hz428, hk426, hg425⟩ h422
   have hz429 := hg425.size
   try dsimp only at h422
   refine pk0 (v := .string (⟨#[]⟩)) h422 rfl fun a430 h430 => ?_; clear h422
   refine pk0 (v := .int .i64 0) h430 rfl fun a431 h431 => ?_; clear h430
   refine pl_nil ?_
   refine co_then ?_
   refine co_seq ?_
   refine co_reg ?_
   refine pk (v := .agg #[.int .i64 d.k, .int .i64 d.nd, .int .i64 d.n, .int .i64 d.ak, .int .i64 d.an, .string d.ky, .string d.tt, .int .u64 d.at_, .int .i64 d.am, ov]) h431 rfl (rn_loadN rfl rfl Try.underlying60 rfl (by kernel_rfl) hk426.all) fun a432 h432 => ?_; clear h431
   have hB435 := hb_new hB0 hg425
   refine pw h432 rfl (op_call (args := #[.agg #[.int .i64 d.k, .int .i64 d.nd, .int .i64 d.n, .int .i64 d.ak, .int .i64 d.an, .string d.ky, .string d.tt, .int .u64 d.at_, .int .i64 d.am, ov]]) (R := fun res xw => ∃ u : Value, res = .agg #[.int .i64 d.k, .int .i64 d.nd, .int .i64 d.n, .int .i64 d.ak, .int .i64 d.an, .string d.ky, .string d.tt, .int .u64 d.at_, .int .i64 d.am, u] ∧ xw.ownsRow w423.heap.size 66 3 u d.ops.length (d.ops.flatMap opE) ∧ Below w423.heap.size w423 xw) rfl rfl rfl (by kernel_rfl) (by kernel_rfl) (Try.call23 _ _) (clean_y _ ov w423 (hs.below hB435) hln hk0) (by rintro e x ⟨u, rfl, hq437, hb438⟩; exact ⟨_, rfl, ⟨u, rfl, hq437, hb438⟩⟩)) ?_; clear h432
   rintro _ w434 a433 ⟨u436, rfl, hq437, hb438⟩ h433
   have hz439 := hb438.size
   have hl440 := sl_len (row_sl hq437 opE_len)
   have hk446 := hk426.below hb438
   refine pwD h433 rfl (op_storeN rfl rfl rfl (all_cons rfl (all_cons rfl (all_cons rfl (all_cons rfl (all_cons rfl (all_cons rfl (all_cons rfl (all_cons rfl (all_cons rfl (all_cons (row_one hq437) all_nil)))))))))) (by kernel_rfl) hk446 rfl) ?_; clear h433
   rintro _ w442 a441 ⟨hk443, hz444, hg445⟩ h441
   have hk443' : Blk w442 N424 60 #[.int .i64 d.k, .int .i64 d.nd, .int .i64 d.n, .int .i64 d.ak, .int .i64 d.an, .string d.ky, .string d.tt, .int .u64 d.at_, .int .i64 d.am, u436] := hk443; clear hk443
   have hz447 := hg445.size
   refine pl_nil ?_
   refine co_then ?_
   refine co_seq ?_
   refine co_reg ?_
   refine pk0 (v := pt N424 3) h441 rfl fun a448 h448 => ?_; clear h441
   refine pk (v := .agg #[.int .i64 d.ak, .int .i64 d.an, .string d.ky, .string d.tt, .int .u64 d.at_, .int .i64 d.am, u436]) h448 rfl (rn_loadN rfl rfl Try.underlying35 rfl (by kernel_rfl) (blk_part hk443' 3 (by rfl))) fun a449 h449 => ?_; clear h448
   refine pw h449 rfl (op_new (v := fun N => pt N 0) (T := 35) (cs := #[.int .i64 0, .int .i64 0, .string (⟨#[]⟩), .string (⟨#[]⟩), .int .u64 0, .int .i64 0, .slice none 0 0]) (by kernel_rfl) (by kernel_rfl) (by kernel_rfl)) ?_; clear h449
   rintro _ w451 a450 ⟨N452, rfl, hN455, hz456, hk454, hg453⟩ h450
   have hr458 := row_kept_at hq437 hg445 (own_neT hq437 hk446 (by decide))
   have ha457 := row_fresh hr458 hN455
   have hz459 := hg453.size
   try dsimp only at h450
   have hr465 := row_kept_new hr458 hg453
   refine pwD h450 rfl (op_storeN rfl rfl rfl (all_cons rfl (all_cons rfl (all_cons rfl (all_cons rfl (all_cons rfl (all_cons rfl (all_cons (row_one hr465) all_nil))))))) (by kernel_rfl) hk454 rfl) ?_; clear h450
   rintro _ w461 a460 ⟨hk462, hz463, hg464⟩ h460
   have hk462' : Blk w461 N452 35 #[.int .i64 d.ak, .int .i64 d.an, .string d.ky, .string d.tt, .int .u64 d.at_, .int .i64 d.am, u436] := hk462; clear hk462
   have hz466 := hg464.size
   refine pl_nil ?_
   refine co_then ?_
   refine co_seq ?_
   refine co_seq ?_
   refine co_reg ?_
   refine pk0 (v := pt N424 0) h460 rfl fun a467 h467 => ?_; clear h460
   have hk468 := hk443'.kept hg453 (by simp)
   have hk469 := hk468.kept hg464 (by simp; omega)
   refine pk (v := .int .i64 d.k) h467 rfl (rn_load1 rfl rfl Try.isAgg3 (hk469.cell rfl)) fun a470 h470 => ?_; clear h467
   refine pk0 (v := pt N424 1) h470 rfl fun a471 h471 => ?_; clear h470
   refine pk (v := .int .i64 d.nd) h471 rfl (rn_load1 rfl rfl Try.isAgg3 (hk469.cell rfl)) fun a472 h472 => ?_; clear h471
   refine pk0 (v := pt N424 2) h472 rfl fun a473 h473 => ?_; clear h472
   refine pk (v := .int .i64 d.n) h473 rfl (rn_load1 rfl rfl Try.isAgg3 (hk469.cell rfl)) fun a474 h474 => ?_; clear h473
   refine pk0 (v := pt N452 0) h474 rfl fun a475 h475 => ?_; clear h474
   refine pk (v := .int .i64 d.ak) h475 rfl (rn_load1 rfl rfl Try.isAgg3 (hk462'.cell rfl)) fun a476 h476 => ?_; clear h475
   refine pk0 (v := pt N452 1) h476 rfl fun a477 h477 => ?_; clear h476
   refine pk (v := .int .i64 d.an) h477 rfl (rn_load1 rfl rfl Try.isAgg3 (hk462'.cell rfl)) fun a478 h478 => ?_; clear h477
   refine pk0 (v := pt N452 5) h478 rfl fun a479 h479 => ?_; clear h478
   refine pk (v := .int .i64 d.am) h479 rfl (rn_load1 rfl rfl Try.isAgg3 (hk462'.cell rfl)) fun a480 h480 => ?_; clear h479
   refine pw h480 rfl (op_new (v := fun N => .slice (some ⟨N, 0, none⟩) 6 6) (T := 3) (cs := #[.int .i64 d.k, .int .i64 d.nd, .int .i64 d.n, .int .i64 d.ak, .int .i64 d.an, .int .i64 d.am]) (by kernel_rfl) (by kernel_rfl) (by kernel_rfl)) ?_; clear h480
   rintro _ w482 a481 ⟨N483, rfl, hN486, hz487, hk485, hg484⟩ h481
   have hr489 := row_kept_at hr465 hg464 (ha457)
   have ha488 := row_fresh hr489 hN486
   have hz490 := hg484.size
   try dsimp only at h481
   refine pw h481 rfl (op_call (args := #[.slice (some ⟨N483, 0, none⟩) 6 6]) (R := fun res xw => res = .bool false ∧ Below w482.heap.size w482 xw) rfl rfl rfl (by kernel_rfl) (by kernel_rfl) (Try.call68 _ _) (within_n N483 d.k d.nd d.n d.ak d.an d.am w482 hk485 (by omega)) (by rintro e x ⟨rfl, hb493⟩; exact ⟨_, rfl, ⟨rfl, hb493⟩⟩)) ?_; clear h481
   rintro _ w492 a491 ⟨rfl, hb493⟩ h491
   have hz494 := hb493.size
   refine pk0 (v := .bool true) h491 rfl fun a495 h495 => ?_; clear h491
   refine pl_nil ?_
   refine co_then ?_
   refine co_true h495 rfl ?_
   refine co_seq ?_
   refine co_reg ?_
   refine pk0 (v := .string (⟨#[]⟩)) h495 rfl fun a496 h496 => ?_; clear h495
   refine pk0 (v := .int .i64 5) h496 rfl fun a497 h497 => ?_; clear h496
   refine pl_nil ?_
   refine co_then ?_
   refine wp_ret ?_
   refine co_thenR ?_
   refine co_ret2 h497 rfl rfl rfl ?_
   have hB498 := hb_call hB435 hb438
   have hB499 := hb_at hB498 hg445 (by omega)
   have hB500 := hb_new hB499 hg453
   have hB501 := hb_at hB500 hg464 (by omega)
   have hB502 := hb_new hB501 hg484
   have hB503 := hb_call hB502 hb493
   exact ⟨by rw [(oneE_5 hr).1, (oneE_5 hr).2], hB503⟩
 · skip
   have hrr := rng_i2 hr hk0
   refine co_enter (n := 95) Try.func41 rfl rfl rfl [(0, .agg #[.int .i64 d.k, .int .i64 d.nd, .int .i64 d.n, .int .i64 d.ak, .int .i64 d.an, .string d.ky, .string d.tt, .int .u64 d.at_, .int .i64 d.am, ov])] rfl (fun a h0 => ?_)
   refine co_seq ?_
   refine co_reg ?_
   refine pw h0 rfl (op_new (v := fun N => pt N 0) (T := 60) (cs := #[.int .i64 d.k, .int .i64 d.nd, .int .i64 d.n, .int .i64 d.ak, .int .i64 d.an, .string d.ky, .string d.tt, .int .u64 d.at_, .int .i64 d.am, ov]) (by kernel_rfl) (by kernel_rfl) (by kernel_rfl)) ?_; clear h0
   rintro _ w505 a504 ⟨N506, rfl, hN509, hz510, hk508, hg507⟩ h504
   have hz511 := hg507.size
   try dsimp only at h504
   refine pk0 (v := .string (⟨#[]⟩)) h504 rfl fun a512 h512 => ?_; clear h504
   refine pk0 (v := .int .i64 0) h512 rfl fun a513 h513 => ?_; clear h512
   refine pl_nil ?_
   refine co_then ?_
   refine co_seq ?_
   refine co_reg ?_
   refine pk (v := .agg #[.int .i64 d.k, .int .i64 d.nd, .int .i64 d.n, .int .i64 d.ak, .int .i64 d.an, .string d.ky, .string d.tt, .int .u64 d.at_, .int .i64 d.am, ov]) h513 rfl (rn_loadN rfl rfl Try.underlying60 rfl (by kernel_rfl) hk508.all) fun a514 h514 => ?_; clear h513
   have hB517 := hb_new hB0 hg507
   refine pw h514 rfl (op_call (args := #[.agg #[.int .i64 d.k, .int .i64 d.nd, .int .i64 d.n, .int .i64 d.ak, .int .i64 d.an, .string d.ky, .string d.tt, .int .u64 d.at_, .int .i64 d.am, ov]]) (R := fun res xw => ∃ u : Value, res = .agg #[.int .i64 d.k, .int .i64 d.nd, .int .i64 d.n, .int .i64 0, .int .i64 0, .string (⟨#[]⟩), .string (⟨#[]⟩), .int .u64 0, .int .i64 0, u] ∧ xw.ownsRow w505.heap.size 66 3 u ([] : List OpT).length (([] : List OpT).flatMap opE) ∧ Below w505.heap.size w505 xw) rfl rfl rfl (by kernel_rfl) (by kernel_rfl) (Try.call23 _ _) (clean_n _ ov w505 (hs.below hB517) hk0) (by rintro e x ⟨u, rfl, hq519, hb520⟩; exact ⟨_, rfl, ⟨u, rfl, hq519, hb520⟩⟩)) ?_; clear h514
   rintro _ w516 a515 ⟨u518, rfl, hq519, hb520⟩ h515
   have hz521 := hb520.size
   have hl522 := sl_len (row_sl hq519 opE_len)
   have hk528 := hk508.below hb520
   refine pwD h515 rfl (op_storeN rfl rfl rfl (all_cons rfl (all_cons rfl (all_cons rfl (all_cons rfl (all_cons rfl (all_cons rfl (all_cons rfl (all_cons rfl (all_cons rfl (all_cons (row_one hq519) all_nil)))))))))) (by kernel_rfl) hk528 rfl) ?_; clear h515
   rintro _ w524 a523 ⟨hk525, hz526, hg527⟩ h523
   have hk525' : Blk w524 N506 60 #[.int .i64 d.k, .int .i64 d.nd, .int .i64 d.n, .int .i64 0, .int .i64 0, .string (⟨#[]⟩), .string (⟨#[]⟩), .int .u64 0, .int .i64 0, u518] := hk525; clear hk525
   have hz529 := hg527.size
   refine pl_nil ?_
   refine co_then ?_
   refine co_seq ?_
   refine co_reg ?_
   refine pk0 (v := pt N506 3) h523 rfl fun a530 h530 => ?_; clear h523
   refine pk (v := .agg #[.int .i64 0, .int .i64 0, .string (⟨#[]⟩), .string (⟨#[]⟩), .int .u64 0, .int .i64 0, u518]) h530 rfl (rn_loadN rfl rfl Try.underlying35 rfl (by kernel_rfl) (blk_part hk525' 3 (by rfl))) fun a531 h531 => ?_; clear h530
   refine pw h531 rfl (op_new (v := fun N => pt N 0) (T := 35) (cs := #[.int .i64 0, .int .i64 0, .string (⟨#[]⟩), .string (⟨#[]⟩), .int .u64 0, .int .i64 0, .slice none 0 0]) (by kernel_rfl) (by kernel_rfl) (by kernel_rfl)) ?_; clear h531
   rintro _ w533 a532 ⟨N534, rfl, hN537, hz538, hk536, hg535⟩ h532
   have hr540 := row_kept_at hq519 hg527 (own_neT hq519 hk528 (by decide))
   have ha539 := row_fresh hr540 hN537
   have hz541 := hg535.size
   try dsimp only at h532
   have hr547 := row_kept_new hr540 hg535
   refine pwD h532 rfl (op_storeN rfl rfl rfl (all_cons rfl (all_cons rfl (all_cons rfl (all_cons rfl (all_cons rfl (all_cons rfl (all_cons (row_one hr547) all_nil))))))) (by kernel_rfl) hk536 rfl) ?_; clear h532
   rintro _ w543 a542 ⟨hk544, hz545, hg546⟩ h542
   have hk544' : Blk w543 N534 35 #[.int .i64 0, .int .i64 0, .string (⟨#[]⟩), .string (⟨#[]⟩), .int .u64 0, .int .i64 0, u518] := hk544; clear hk544
   have hz548 := hg546.size
   refine pl_nil ?_
   refine co_then ?_
   refine co_seq ?_
   refine co_seq ?_
   refine co_reg ?_
   refine pk0 (v := pt N506 0) h542 rfl fun a549 h549 => ?_; clear h542
   have hk550 := hk525'.kept hg535 (by simp)
   have hk551 := hk550.kept hg546 (by simp; omega)
   refine pk (v := .int .i64 d.k) h549 rfl (rn_load1 rfl rfl Try.isAgg3 (hk551.cell rfl)) fun a552 h552 => ?_; clear h549
   refine pk0 (v := pt N506 1) h552 rfl fun a553 h553 => ?_; clear h552
   refine pk (v := .int .i64 d.nd) h553 rfl (rn_load1 rfl rfl Try.isAgg3 (hk551.cell rfl)) fun a554 h554 => ?_; clear h553
   refine pk0 (v := pt N506 2) h554 rfl fun a555 h555 => ?_; clear h554
   refine pk (v := .int .i64 d.n) h555 rfl (rn_load1 rfl rfl Try.isAgg3 (hk551.cell rfl)) fun a556 h556 => ?_; clear h555
   refine pk0 (v := pt N534 0) h556 rfl fun a557 h557 => ?_; clear h556
   refine pk (v := .int .i64 0) h557 rfl (rn_load1 rfl rfl Try.isAgg3 (hk544'.cell rfl)) fun a558 h558 => ?_; clear h557
   refine pk0 (v := pt N534 1) h558 rfl fun a559 h559 => ?_; clear h558
   refine pk (v := .int .i64 0) h559 rfl (rn_load1 rfl rfl Try.isAgg3 (hk544'.cell rfl)) fun a560 h560 => ?_; clear h559
   refine pk0 (v := pt N534 5) h560 rfl fun a561 h561 => ?_; clear h560
   refine pk (v := .int .i64 0) h561 rfl (rn_load1 rfl rfl Try.isAgg3 (hk544'.cell rfl)) fun a562 h562 => ?_; clear h561
   refine pw h562 rfl (op_new (v := fun N => .slice (some ⟨N, 0, none⟩) 6 6) (T := 3) (cs := #[.int .i64 d.k, .int .i64 d.nd, .int .i64 d.n, .int .i64 0, .int .i64 0, .int .i64 0]) (by kernel_rfl) (by kernel_rfl) (by kernel_rfl)) ?_; clear h562
   rintro _ w564 a563 ⟨N565, rfl, hN568, hz569, hk567, hg566⟩ h563
   have hr571 := row_kept_at hr547 hg546 (ha539)
   have ha570 := row_fresh hr571 hN568
   have hz572 := hg566.size
   try dsimp only at h563
   refine pw h563 rfl (op_call (args := #[.slice (some ⟨N565, 0, none⟩) 6 6]) (R := fun res xw => res = .bool true ∧ Below w564.heap.size w564 xw) rfl rfl rfl (by kernel_rfl) (by kernel_rfl) (Try.call68 _ _) (within_y N565 d.k d.nd d.n 0 0 0 w564 hk567 (by omega)) (by rintro e x ⟨rfl, hb575⟩; exact ⟨_, rfl, ⟨rfl, hb575⟩⟩)) ?_; clear h563
   rintro _ w574 a573 ⟨rfl, hb575⟩ h573
   have hz576 := hb575.size
   refine pk0 (v := .bool false) h573 rfl fun a577 h577 => ?_; clear h573
   refine pl_nil ?_
   refine co_then ?_
   refine co_false h577 rfl ?_
   refine wp_skip ?_
   refine co_then ?_
   refine co_seq ?_
   refine dr_gen (fun x => Below w.heap.size w x ∧ Blk x N506 60 #[.int .i64 d.k, .int .i64 d.nd, .int .i64 d.n, .int .i64 0, .int .i64 0, .string (⟨#[]⟩), .string (⟨#[]⟩), .int .u64 0, .int .i64 0, u518]) (by kernel_rfl) (fun w578 hg579 => ?_) (fun w578 hg579 => ?_)
   ·
    have hz580 := hg579.size
    have hB581 := hb_call hB517 hb520
    have hB582 := hb_at hB581 hg527 (by omega)
    have hB583 := hb_new hB582 hg535
    have hB584 := hb_at hB583 hg546 (by omega)
    have hB585 := hb_new hB584 hg566
    have hB586 := hb_call hB585 hb575
    have hB587 := hb_new hB586 hg579
    have hk588 := hk551.kept hg566 (by simp)
    have hk589 := hk588.below hb575
    have hk590 := hk589.kept hg579 (by simp)
    exact ⟨hB587, hk590⟩
   have hz591 := hg579.size
   have hB592 := hb_call hB517 hb520
   have hB593 := hb_at hB592 hg527 (by omega)
   have hB594 := hb_new hB593 hg535
   have hB595 := hb_at hB594 hg546 (by omega)
   have hB596 := hb_new hB595 hg566
   have hB597 := hb_call hB596 hb575
   have hB598 := hb_new hB597 hg579
   have hk599 := hk551.kept hg566 (by simp)
   have hk600 := hk599.below hb575
   have hk601 := hk600.kept hg579 (by simp)
   refine dk0 1 (v := pt N506 0) h577 rfl rfl ⟨hB598, hk601⟩ fun a602 h602 => ?_; clear h577
   refine dk 2 (v := .int .i64 d.k) h602 rfl rfl ⟨hB598, hk601⟩ (fun x hx => (rn_load1 rfl rfl Try.isAgg3 (hx.2.cell rfl))) fun a603 h603 => ?_; clear h602
   refine dk0 4 (v := pt N506 1) h603 rfl rfl ⟨hB598, hk601⟩ fun a604 h604 => ?_; clear h603
   refine dk 5 (v := .int .i64 d.nd) h604 rfl rfl ⟨hB598, hk601⟩ (fun x hx => (rn_load1 rfl rfl Try.isAgg3 (hx.2.cell rfl))) fun a605 h605 => ?_; clear h604
   refine dk0 7 (v := pt N506 2) h605 rfl rfl ⟨hB598, hk601⟩ fun a606 h606 => ?_; clear h605
   refine dk 8 (v := .int .i64 d.n) h606 rfl rfl ⟨hB598, hk601⟩ (fun x hx => (rn_load1 rfl rfl Try.isAgg3 (hx.2.cell rfl))) fun a607 h607 => ?_; clear h606
   refine d1 0 h607 rfl rfl (op_call (args := #[]) (R := fun res xw => ∃ b : Nat, res = pt b 0 ∧ b = w578.heap.size ∧ OW b [] 0 xw ∧ Below w578.heap.size w578 xw) rfl rfl rfl (by kernel_rfl) (by kernel_rfl) (Try.call69 _ _) (ow_new w578) (by rintro e x ⟨b, rfl, h0, h1, h2⟩; exact ⟨_, rfl, b, rfl, h0, h1, h2⟩)) ?_ ?_; clear h607
   ·
    rintro _ w609 ⟨b610, rfl, hN611, ho612, hb613⟩
    have hr615 := row_kept_new hr571 hg566
    have hr616 := row_kept_new hr615 (below_grown hb575)
    have hr617 := row_kept_new hr616 hg579
    have ha614 := row_fresh hr617 hN611
    have hz618 := hb613.size
    have hl619 := ho612.lt
    have hB620 := hb_call hB598 hb613
    have hk621 := hk601.below hb613
    exact ⟨hB620, hk621⟩
   rintro _ w609 a608 ⟨b610, rfl, hN611, ho612, hb613⟩ h608
   have hr615 := row_kept_new hr571 hg566
   have hr616 := row_kept_new hr615 (below_grown hb575)
   have hr617 := row_kept_new hr616 hg579
   have ha614 := row_fresh hr617 hN611
   have hz618 := hb613.size
   have hl619 := ho612.lt
   have hB620 := hb_call hB598 hb613
   have hk621 := hk601.below hb613
   refine d1 3 h608 rfl rfl (op_call (args := #[pt b610 0, .int .i64 d.k]) (R := fun res xw => res = pt b610 0 ∧ OW b610 (([] : List UInt8) ++ putL d.k) (0 + 9) xw ∧ But (Rw w609 b610) w609 xw) rfl rfl rfl (by kernel_rfl) (by kernel_rfl) (Try.call70 _ _) (ow_num b610 ([]) 0 d.k w609 ho612 (by omega) (by omega) (by omega)) (by rintro e x ⟨rfl, h1, h2⟩; exact ⟨_, rfl, rfl, h1, h2⟩)) ?_ ?_; clear h608
   ·
    rintro _ w623 ⟨rfl, ho624, hx625⟩
    have hz626 := hx625.size
    have hl627 := ho624.lt
    have hB628 := hb_wr hB620 ho612 (by omega) hx625
    have hk629 := blk_wr hk621 ho612 (by decide) (by omega) hx625
    exact ⟨hB628, hk629⟩
   rintro _ w623 a622 ⟨rfl, ho624, hx625⟩ h622
   have hz626 := hx625.size
   have hl627 := ho624.lt
   have hB628 := hb_wr hB620 ho612 (by omega) hx625
   have hk629 := blk_wr hk621 ho612 (by decide) (by omega) hx625
   refine d1 6 h622 rfl rfl (op_call (args := #[pt b610 0, .int .i64 d.nd]) (R := fun res xw => res = pt b610 0 ∧ OW b610 ((([] : List UInt8) ++ putL d.k) ++ putL d.nd) (0 + 9 + 9) xw ∧ But (Rw w623 b610) w623 xw) rfl rfl rfl (by kernel_rfl) (by kernel_rfl) (Try.call70 _ _) (ow_num b610 (([] : List UInt8) ++ putL d.k) (0 + 9) d.nd w623 ho624 (by omega) (by omega) (by omega)) (by rintro e x ⟨rfl, h1, h2⟩; exact ⟨_, rfl, rfl, h1, h2⟩)) ?_ ?_; clear h622
   ·
    rintro _ w631 ⟨rfl, ho632, hx633⟩
    have hz634 := hx633.size
    have hl635 := ho632.lt
    have hB636 := hb_wr hB628 ho624 (by omega) hx633
    have hk637 := blk_wr hk629 ho624 (by decide) (by omega) hx633
    exact ⟨hB636, hk637⟩
   rintro _ w631 a630 ⟨rfl, ho632, hx633⟩ h630
   have hz634 := hx633.size
   have hl635 := ho632.lt
   have hB636 := hb_wr hB628 ho624 (by omega) hx633
   have hk637 := blk_wr hk629 ho624 (by decide) (by omega) hx633
   refine d1 9 h630 rfl rfl (op_call (args := #[pt b610 0, .int .i64 d.n]) (R := fun res xw => res = pt b610 0 ∧ OW b610 (((([] : List UInt8) ++ putL d.k) ++ putL d.nd) ++ putL d.n) (0 + 9 + 9 + 9) xw ∧ But (Rw w631 b610) w631 xw) rfl rfl rfl (by kernel_rfl) (by kernel_rfl) (Try.call70 _ _) (ow_num b610 ((([] : List UInt8) ++ putL d.k) ++ putL d.nd) (0 + 9 + 9) d.n w631 ho632 (by omega) (by omega) (by omega)) (by rintro e x ⟨rfl, h1, h2⟩; exact ⟨_, rfl, rfl, h1, h2⟩)) ?_ ?_; clear h630
   ·
    rintro _ w639 ⟨rfl, ho640, hx641⟩
    have hz642 := hx641.size
    have hl643 := ho640.lt
    have hB644 := hb_wr hB636 ho632 (by omega) hx641
    have hk645 := blk_wr hk637 ho632 (by decide) (by omega) hx641
    exact ⟨hB644, hk645⟩
   rintro _ w639 a638 ⟨rfl, ho640, hx641⟩ h638
   have hz642 := hx641.size
   have hl643 := ho640.lt
   have hB644 := hb_wr hB636 ho632 (by omega) hx641
   have hk645 := blk_wr hk637 ho632 (by decide) (by omega) hx641
   refine dk0 10 (v := pt b610 0) h638 rfl rfl ⟨hB644, hk645⟩ fun a646 h646 => ?_; clear h638
   refine dr_done (by kernel_rfl) ?_
   refine co_then ?_
   refine co_seq ?_
   refine co_seq ?_
   refine co_reg ?_
   refine pk0 (v := pt N506 0) h646 rfl fun a647 h647 => ?_; clear h646
   refine pk (v := .int .i64 d.k) h647 rfl (rn_load1 rfl rfl Try.isAgg3 (hk645.cell rfl)) fun a648 h648 => ?_; clear h647
   refine pk0 (v := .bool (d.k == 0)) h648 rfl fun a649 h649 => ?_; clear h648
   refine pl_nil ?_
   refine co_then ?_
   have hc650 : (d.k == 0) = false := by first | (simp; done) | (simp; omega) | exact beq_false_of_ne (by omega) | exact beq_iff_eq.2 (by omega)
   rw [hc650] at h649; clear hc650
   refine co_false h649 rfl ?_
   refine wp_skip ?_
   refine co_then ?_
   refine co_seq ?_
   refine co_reg ?_
   refine pk0 (v := pt b610 0) h649 rfl fun a651 h651 => ?_; clear h649
   have hr657 := row_kept_new hr617 (below_grown hb613)
   have hr658 := row_wr hr657 ho612 (by decide) (ha614) hx625
   have hr659 := row_wr hr658 ho624 (by decide) (ha614) hx633
   have hr660 := row_wr hr659 ho632 (by decide) (ha614) hx641
   have hk661 := hk544'.kept hg566 (by simp)
   have hk662 := hk661.below hb575
   have hk663 := hk662.kept hg579 (by simp)
   have hk664 := hk663.below hb613
   have hk665 := blk_wr hk664 ho612 (by decide) (by omega) hx625
   have hk666 := blk_wr hk665 ho624 (by decide) (by omega) hx633
   have hk667 := blk_wr hk666 ho632 (by decide) (by omega) hx641
   have hk668 := hk567.below hb575
   have hk669 := hk668.kept hg579 (by simp)
   have hk670 := hk669.below hb613
   have hk671 := blk_wr hk670 ho612 (by decide) (by omega) hx625
   have hk672 := blk_wr hk671 ho624 (by decide) (by omega) hx633
   have hk673 := blk_wr hk672 ho632 (by decide) (by omega) hx641
   have hW656 := OW.eq (l' := evB d) ho640 (by rw [evB_n hk0]; simp [hedB]) (Nat.le_refl _)
   obtain ⟨sv655, hsv⟩ : ∃ s : ByteArray, s = ⟨(evB d).toArray⟩ := ⟨_, rfl⟩
   have hsz := evS_size hsv
   refine pw h651 rfl (op_call (args := #[pt b610 0]) (R := fun res xw => res = .tuple #[.string sv655, .int .i64 0] ∧ Below w639.heap.size w639 xw) rfl rfl rfl (by kernel_rfl) (by kernel_rfl) (Try.call74 _ _) (ow_done b610 _ _ w639 hW656) (by rintro q x ⟨h1, h2⟩; rw [← hsv] at h1; exact ⟨_, h1, rfl, h2⟩)) ?_; clear h651
   rintro _ w653 a652 ⟨rfl, hb654⟩ h652
   have hz674 := hb654.size
   refine pk0 (v := .tuple #[.string sv655, .int .i64 0]) h652 rfl fun a675 h675 => ?_; clear h652
   refine pk0 (v := .string sv655) h675 rfl fun a676 h676 => ?_; clear h675
   refine pk0 (v := .int .i64 0) h676 rfl fun a677 h677 => ?_; clear h676
   refine pk0 (v := .string sv655) h677 rfl fun a678 h678 => ?_; clear h677
   refine pk0 (v := .int .i64 0) h678 rfl fun a679 h679 => ?_; clear h678
   refine pl_nil ?_
   refine co_then ?_
   refine co_seq ?_
   refine co_seq ?_
   refine co_reg ?_
   refine pk0 (v := .int .i64 0) h679 rfl fun a680 h680 => ?_; clear h679
   refine pk0 (v := .bool ((0 : Int) != 0)) h680 rfl fun a681 h681 => ?_; clear h680
   refine pl_nil ?_
   refine co_then ?_
   have hc682 : ((0 : Int) != 0) = false := by first | (simp; done) | (simp; omega) | exact beq_false_of_ne (by omega) | exact beq_iff_eq.2 (by omega)
   rw [hc682] at h681; clear hc682
   refine co_false h681 rfl ?_
   refine wp_skip ?_
   refine co_then ?_
   refine co_seq ?_
   refine co_seq ?_
   refine co_reg ?_
   refine pk0 (v := .string sv655) h681 rfl fun a683 h683 => ?_; clear h681
   refine pk (v := .int .i64 ((sv655.size : Nat) : Int)) h683 rfl (rn_lenStr rfl rfl Try.underlying9) fun a684 h684 => ?_; clear h683
   refine pk0 (v := .bool (decide (((sv655.size : Nat) : Int) > 255))) h684 rfl fun a685 h685 => ?_; clear h684
   refine pl_nil ?_
   refine co_then ?_
   have hB687 := hb_call hB644 hb654
   cases hc686 : (decide (((sv655.size : Nat) : Int) > 255))
   ·
    rw [hc686] at h685
    have hp688 : ¬ (((sv655.size : Nat) : Int) > 255) := of_decide_eq_false hc686
    clear hc686
    refine co_false h685 rfl ?_
    refine wp_skip ?_
    refine co_then ?_
    refine co_seq ?_
    refine co_reg ?_
    refine pk0 (v := .string sv655) h685 rfl fun a689 h689 => ?_; clear h685
    refine pk0 (v := .string sv655) h689 rfl fun a690 h690 => ?_; clear h689
    refine pk0 (v := .int .i64 0) h690 rfl fun a691 h691 => ?_; clear h690
    refine pl_nil ?_
    refine co_then ?_
    refine wp_ret ?_
    refine co_ret2 h691 rfl rfl rfl ?_
    exact ⟨by rw [(oneE_0 hr (by omega)).1, (oneE_0 hr (by omega)).2, hsv], hB687⟩
   ·
    rw [hc686] at h685
    have hp692 : ((sv655.size : Nat) : Int) > 255 := of_decide_eq_true hc686
    clear hc686
    refine co_true h685 rfl ?_
    refine co_seq ?_
    refine co_reg ?_
    refine pk0 (v := .string (⟨#[]⟩)) h685 rfl fun a693 h693 => ?_; clear h685
    refine pk0 (v := .int .i64 3) h693 rfl fun a694 h694 => ?_; clear h693
    refine pl_nil ?_
    refine co_then ?_
    refine wp_ret ?_
    refine co_thenR ?_
    refine co_ret2 h694 rfl rfl rfl ?_
    exact ⟨by rw [(oneE_3 hr (by omega)).1, (oneE_3 hr (by omega)).2], hB687⟩
 · skip
   have hrr := rng_o2 hr hk0
   refine co_enter (n := 95) Try.func41 rfl rfl rfl [(0, .agg #[.int .i64 d.k, .int .i64 d.nd, .int .i64 d.n, .int .i64 d.ak, .int .i64 d.an, .string d.ky, .string d.tt, .int .u64 d.at_, .int .i64 d.am, ov])] rfl (fun a h0 => ?_)
   refine co_seq ?_
   refine co_reg ?_
   refine pw h0 rfl (op_new (v := fun N => pt N 0) (T := 60) (cs := #[.int .i64 d.k, .int .i64 d.nd, .int .i64 d.n, .int .i64 d.ak, .int .i64 d.an, .string d.ky, .string d.tt, .int .u64 d.at_, .int .i64 d.am, ov]) (by kernel_rfl) (by kernel_rfl) (by kernel_rfl)) ?_; clear h0
   rintro _ w696 a695 ⟨N697, rfl, hN700, hz701, hk699, hg698⟩ h695
   have hz702 := hg698.size
   try dsimp only at h695
   refine pk0 (v := .string (⟨#[]⟩)) h695 rfl fun a703 h703 => ?_; clear h695
   refine pk0 (v := .int .i64 0) h703 rfl fun a704 h704 => ?_; clear h703
   refine pl_nil ?_
   refine co_then ?_
   refine co_seq ?_
   refine co_reg ?_
   refine pk (v := .agg #[.int .i64 d.k, .int .i64 d.nd, .int .i64 d.n, .int .i64 d.ak, .int .i64 d.an, .string d.ky, .string d.tt, .int .u64 d.at_, .int .i64 d.am, ov]) h704 rfl (rn_loadN rfl rfl Try.underlying60 rfl (by kernel_rfl) hk699.all) fun a705 h705 => ?_; clear h704
   have hB708 := hb_new hB0 hg698
   refine pw h705 rfl (op_call (args := #[.agg #[.int .i64 d.k, .int .i64 d.nd, .int .i64 d.n, .int .i64 d.ak, .int .i64 d.an, .string d.ky, .string d.tt, .int .u64 d.at_, .int .i64 d.am, ov]]) (R := fun res xw => ∃ u : Value, res = .agg #[.int .i64 d.k, .int .i64 d.nd, .int .i64 d.n, .int .i64 0, .int .i64 0, .string (⟨#[]⟩), .string (⟨#[]⟩), .int .u64 0, .int .i64 0, u] ∧ xw.ownsRow w696.heap.size 66 3 u ([] : List OpT).length (([] : List OpT).flatMap opE) ∧ Below w696.heap.size w696 xw) rfl rfl rfl (by kernel_rfl) (by kernel_rfl) (Try.call23 _ _) (clean_n _ ov w696 (hs.below hB708) hk0) (by rintro e x ⟨u, rfl, hq710, hb711⟩; exact ⟨_, rfl, ⟨u, rfl, hq710, hb711⟩⟩)) ?_; clear h705
   rintro _ w707 a706 ⟨u709, rfl, hq710, hb711⟩ h706
   have hz712 := hb711.size
   have hl713 := sl_len (row_sl hq710 opE_len)
   have hk719 := hk699.below hb711
   refine pwD h706 rfl (op_storeN rfl rfl rfl (all_cons rfl (all_cons rfl (all_cons rfl (all_cons rfl (all_cons rfl (all_cons rfl (all_cons rfl (all_cons rfl (all_cons rfl (all_cons (row_one hq710) all_nil)))))))))) (by kernel_rfl) hk719 rfl) ?_; clear h706
   rintro _ w715 a714 ⟨hk716, hz717, hg718⟩ h714
   have hk716' : Blk w715 N697 60 #[.int .i64 d.k, .int .i64 d.nd, .int .i64 d.n, .int .i64 0, .int .i64 0, .string (⟨#[]⟩), .string (⟨#[]⟩), .int .u64 0, .int .i64 0, u709] := hk716; clear hk716
   have hz720 := hg718.size
   refine pl_nil ?_
   refine co_then ?_
   refine co_seq ?_
   refine co_reg ?_
   refine pk0 (v := pt N697 3) h714 rfl fun a721 h721 => ?_; clear h714
   refine pk (v := .agg #[.int .i64 0, .int .i64 0, .string (⟨#[]⟩), .string (⟨#[]⟩), .int .u64 0, .int .i64 0, u709]) h721 rfl (rn_loadN rfl rfl Try.underlying35 rfl (by kernel_rfl) (blk_part hk716' 3 (by rfl))) fun a722 h722 => ?_; clear h721
   refine pw h722 rfl (op_new (v := fun N => pt N 0) (T := 35) (cs := #[.int .i64 0, .int .i64 0, .string (⟨#[]⟩), .string (⟨#[]⟩), .int .u64 0, .int .i64 0, .slice none 0 0]) (by kernel_rfl) (by kernel_rfl) (by kernel_rfl)) ?_; clear h722
   rintro _ w724 a723 ⟨N725, rfl, hN728, hz729, hk727, hg726⟩ h723
   have hr731 := row_kept_at hq710 hg718 (own_neT hq710 hk719 (by decide))
   have ha730 := row_fresh hr731 hN728
   have hz732 := hg726.size
   try dsimp only at h723
   have hr738 := row_kept_new hr731 hg726
   refine pwD h723 rfl (op_storeN rfl rfl rfl (all_cons rfl (all_cons rfl (all_cons rfl (all_cons rfl (all_cons rfl (all_cons rfl (all_cons (row_one hr738) all_nil))))))) (by kernel_rfl) hk727 rfl) ?_; clear h723
   rintro _ w734 a733 ⟨hk735, hz736, hg737⟩ h733
   have hk735' : Blk w734 N725 35 #[.int .i64 0, .int .i64 0, .string (⟨#[]⟩), .string (⟨#[]⟩), .int .u64 0, .int .i64 0, u709] := hk735; clear hk735
   have hz739 := hg737.size
   refine pl_nil ?_
   refine co_then ?_
   refine co_seq ?_
   refine co_seq ?_
   refine co_reg ?_
   refine pk0 (v := pt N697 0) h733 rfl fun a740 h740 => ?_; clear h733
   have hk741 := hk716'.kept hg726 (by simp)
   have hk742 := hk741.kept hg737 (by simp; omega)
   refine pk (v := .int .i64 d.k) h740 rfl (rn_load1 rfl rfl Try.isAgg3 (hk742.cell rfl)) fun a743 h743 => ?_; clear h740
   refine pk0 (v := pt N697 1) h743 rfl fun a744 h744 => ?_; clear h743
   refine pk (v := .int .i64 d.nd) h744 rfl (rn_load1 rfl rfl Try.isAgg3 (hk742.cell rfl)) fun a745 h745 => ?_; clear h744
   refine pk0 (v := pt N697 2) h745 rfl fun a746 h746 => ?_; clear h745
   refine pk (v := .int .i64 d.n) h746 rfl (rn_load1 rfl rfl Try.isAgg3 (hk742.cell rfl)) fun a747 h747 => ?_; clear h746
   refine pk0 (v := pt N725 0) h747 rfl fun a748 h748 => ?_; clear h747
   refine pk (v := .int .i64 0) h748 rfl (rn_load1 rfl rfl Try.isAgg3 (hk735'.cell rfl)) fun a749 h749 => ?_; clear h748
   refine pk0 (v := pt N725 1) h749 rfl fun a750 h750 => ?_; clear h749
   refine pk (v := .int .i64 0) h750 rfl (rn_load1 rfl rfl Try.isAgg3 (hk735'.cell rfl)) fun a751 h751 => ?_; clear h750
   refine pk0 (v := pt N725 5) h751 rfl fun a752 h752 => ?_; clear h751
   refine pk (v := .int .i64 0) h752 rfl (rn_load1 rfl rfl Try.isAgg3 (hk735'.cell rfl)) fun a753 h753 => ?_; clear h752
   refine pw h753 rfl (op_new (v := fun N => .slice (some ⟨N, 0, none⟩) 6 6) (T := 3) (cs := #[.int .i64 d.k, .int .i64 d.nd, .int .i64 d.n, .int .i64 0, .int .i64 0, .int .i64 0]) (by kernel_rfl) (by kernel_rfl) (by kernel_rfl)) ?_; clear h753
   rintro _ w755 a754 ⟨N756, rfl, hN759, hz760, hk758, hg757⟩ h754
   have hr762 := row_kept_at hr738 hg737 (ha730)
   have ha761 := row_fresh hr762 hN759
   have hz763 := hg757.size
   try dsimp only at h754
   refine pw h754 rfl (op_call (args := #[.slice (some ⟨N756, 0, none⟩) 6 6]) (R := fun res xw => res = .bool false ∧ Below w755.heap.size w755 xw) rfl rfl rfl (by kernel_rfl) (by kernel_rfl) (Try.call68 _ _) (within_n N756 d.k d.nd d.n 0 0 0 w755 hk758 (by omega)) (by rintro e x ⟨rfl, hb766⟩; exact ⟨_, rfl, ⟨rfl, hb766⟩⟩)) ?_; clear h754
   rintro _ w765 a764 ⟨rfl, hb766⟩ h764
   have hz767 := hb766.size
   refine pk0 (v := .bool true) h764 rfl fun a768 h768 => ?_; clear h764
   refine pl_nil ?_
   refine co_then ?_
   refine co_true h768 rfl ?_
   refine co_seq ?_
   refine co_reg ?_
   refine pk0 (v := .string (⟨#[]⟩)) h768 rfl fun a769 h769 => ?_; clear h768
   refine pk0 (v := .int .i64 5) h769 rfl fun a770 h770 => ?_; clear h769
   refine pl_nil ?_
   refine co_then ?_
   refine wp_ret ?_
   refine co_thenR ?_
   refine co_ret2 h770 rfl rfl rfl ?_
   have hB771 := hb_call hB708 hb711
   have hB772 := hb_at hB771 hg718 (by omega)
   have hB773 := hb_new hB772 hg726
   have hB774 := hb_at hB773 hg737 (by omega)
   have hB775 := hb_new hB774 hg757
   have hB776 := hb_call hB775 hb766
   exact ⟨by rw [(oneE_5 hr).1, (oneE_5 hr).2], hB776⟩
end Go.Proofs.Ytdgboikkgeioeaa

/- Package script and the document's own: Put. Conditions: at most 1000 steps of at most 100 operations each. -/
namespace Go.Proofs.Ytdgboikkgeioeaa
open Go.RowKit Go.PlainAid
set_option linter.unusedVariables false
set_option linter.unusedSimpArgs false


theorem u8_push {n : Nat} (h : n ≤ 255) : u8E (UInt8.ofNat n) = [.int .u8 ((n : Nat) : Int)] := by
  unfold u8E; rw [UInt8.toNat_ofNat_of_lt' (by show n < 256; omega)]
theorem row_byte {w : World} {N n : Nat} {T : TypeId} (h : Blk w N T #[.int .u8 ((n : Nat) : Int)]) (hn : n ≤ 255) : w.ownsRow N T 1 (.slice (some ⟨N, 0, none⟩) 1 1) [UInt8.ofNat n].length ([UInt8.ofNat n].flatMap u8E) := by
  refine ⟨by simp [u8E], .inr ⟨N, 1, _, rfl, Nat.le_refl _, h, Nat.le_refl _, by unfold maxLen; omega, rfl, ?_⟩⟩
  simp only [List.flatMap_cons, List.flatMap_nil, u8_push hn]; rfl
theorem takeX_at {l : List EvX} {i : Nat} {y : EvX} (h : l[i]? = some y) : (l.take (i + 1)).map EvX.d = (l.take i).map EvX.d ++ [y.d] := by rw [List.take_add_one, h]; simp
theorem allB_at {l : List EvX} {i : Nat} {y : EvX} (h : l[i]? = some y) : allB ((l.take (i + 1)).map EvX.d) = (allB ((l.take i).map EvX.d) ++ [UInt8.ofNat (oneB y.d).size]) ++ (oneB y.d).data.toList := by
  rw [takeX_at h]; simp [allB, pcB]
theorem allB_len : ∀ l : List EvX, (allB (l.map EvX.d)).length ≤ 256 * l.length
  | [] => by simp [allB]
  | x :: r => by
    have h1 := allB_len r; have h2 := oneB_len x.d; have h3 : (oneB x.d).data.toList.length = (oneB x.d).size := by simp
    simp only [allB, pcB, List.map_cons, List.flatMap_cons, List.length_append, List.length_cons] at h1 ⊢; omega
theorem allE_badX {l : List EvX} {i : Nat} {y : EvX} {z : Int} (h : allE ((l.map EvX.d).drop i) = z) (hy : l[i]? = some y) (hc : oneE y.d ≠ 0) : oneE y.d = z := allE_bad h (by rw [List.getElem?_map, hy]; rfl) hc
theorem allE_stepX {l : List EvX} {i : Nat} {y : EvX} {z : Int} (h : allE ((l.map EvX.d).drop i) = z) (hy : l[i]? = some y) (hc : oneE y.d = 0) : allE ((l.map EvX.d).drop (i + 1)) = z := allE_step h (by rw [List.getElem?_map, hy]; rfl) hc
theorem allE_endX {l : List EvX} {i : Nat} {z : Int} (h : allE ((l.map EvX.d).drop i) = z) (hi : l.length ≤ i) : 0 = z := allE_end h (by simpa using hi)
theorem putA_0 {l : List EvD} (h : allE l = 0) : putA l = ⟨(allB l).toArray⟩ := if_pos h
theorem putA_n {l : List EvD} (h : ¬ allE l = 0) : putA l = ⟨#[]⟩ := if_neg h

set_option maxRecDepth 100000 in
set_option maxHeartbeats 1600000 in
theorem scPut_any (v : Value) (l : List EvX) (w : World) (hs : SliceOf evE 10 w v l) (hok : ∀ z ∈ l, EvOk w z) (h100 : ∀ z ∈ l, z.d.ops.length ≤ 100) (hlen : l.length ≤ 1000) :
    Calls Try.prog 18 #[v] w fun e w' => e = .returned (.tuple #[.string (putA (l.map EvX.d)), .int .i64 (allE (l.map EvX.d))]) ∧ Below w.heap.size w w' := by
 have hB0 := Below.refl w.heap.size w
 have hl_hs := sl_len hs
 refine co_enter (n := 35) Try.func18 rfl rfl rfl [(0, v)] rfl (fun a h0 => ?_)
 refine co_seq ?_
 refine co_reg ?_
 refine pk0 (v := .string (⟨#[]⟩)) h0 rfl fun a1 h1 => ?_; clear h0
 refine pk0 (v := .int .i64 0) h1 rfl fun a2 h2 => ?_; clear h1
 refine pl_nil ?_
 refine co_then ?_
 refine co_seq ?_
 refine co_reg ?_
 refine pk0 (v := .slice none 0 0) h2 rfl fun a3 h3 => ?_; clear h2
 refine pl_nil ?_
 refine co_then ?_
 refine co_seq ?_
 refine co_seq ?_
 refine co_reg ?_
 refine pk0 (v := v) h3 rfl fun a4 h4 => ?_; clear h3
 refine pk (v := .int .i64 ((l.length : Nat) : Int)) h4 rfl (rn_len rfl rfl Try.underlying50 hs) fun a5 h5 => ?_; clear h4
 refine pk0 (v := .int .i64 0) h5 rfl fun a6 h6 => ?_; clear h5
 refine pl_nil ?_
 refine co_then ?_
 refine wp_block ?_
 have h7 : Slots 35 [(0, v), (4, .slice none 0 0), (9, v), (10, .int .i64 ((l.length : Nat) : Int)), (11, .int .i64 0)] _ := h6.sub ⟨rfl, rfl, rfl, rfl, rfl, trivial⟩; clear h6
 refine co_loop (fun mm a x => ∃ (i : Nat) (u : Value), Slots 35 [(0, v), (4, u), (9, v), (10, .int .i64 ((l.length : Nat) : Int)), (11, .int .i64 ((i : Nat) : Int))] a ∧ mm = l.length - i ∧ (i ≤ l.length) ∧ (allE ((l.map EvX.d).drop i) = allE (l.map EvX.d)) ∧ x.ownsRow w.heap.size 5 1 u (allB ((l.take i).map EvX.d)).length ((allB ((l.take i).map EvX.d)).flatMap u8E) ∧ Below w.heap.size w x) (l.length - 0) ?_ ?_
 · exact ⟨0, (.slice none 0 0), h7.sub ⟨rfl, rfl, rfl, rfl, (slot_eq rfl (congrArg (Value.int .i64) (by first | rfl | omega))), trivial⟩, rfl, by omega, by first | rfl | exact hinv', (row_nilL _ _ _ _ _), hB0⟩
 · rintro k8 a9 w10 ⟨i, u, h9, rfl, hi11, hi12, hf13, hB14⟩
   have hz15 := hB14.size
   have hae : allE ((l.map EvX.d).drop i) = allE (l.map EvX.d) := by assumption
   have hal := allB_len (l.take i)
   have hal2 := List.length_take_le i l
   have hal3 : (allB ((l.take i).map EvX.d)).length ≤ 256000 := by omega
   refine co_seq ?_
   refine co_reg ?_
   refine pk0 (v := .bool (decide (((i : Nat) : Int) < ((l.length : Nat) : Int)))) h9 rfl fun a16 h16 => ?_; clear h9
   refine pl_nil ?_
   refine co_then ?_
   refine co_seq ?_
   cases hc17 : (decide (((i : Nat) : Int) < ((l.length : Nat) : Int)))
   ·
    rw [hc17] at h16
    have hp18 : ¬ (((i : Nat) : Int) < ((l.length : Nat) : Int)) := of_decide_eq_false hc17
    clear hc17
    refine co_false h16 rfl ?_
    refine wp_exit ?_
    refine co_thenX ?_
    refine co_thenX ?_
    refine co_blockX ?_
    refine co_then ?_
    refine co_seq ?_
    refine co_reg ?_
    refine pk0 (v := u) h16 rfl fun a19 h19 => ?_; clear h16
    refine pk (v := .string (⟨(allB ((l.take i).map EvX.d)).toArray⟩)) h19 rfl (rn_convOwn rfl rfl Try.underlying63 Try.underlying5 Try.underlying9 hf13) fun a20 h20 => ?_; clear h19
    refine pk0 (v := .string (⟨(allB ((l.take i).map EvX.d)).toArray⟩)) h20 rfl fun a21 h21 => ?_; clear h20
    refine pk0 (v := .int .i64 0) h21 rfl fun a22 h22 => ?_; clear h21
    refine pl_nil ?_
    refine co_then ?_
    refine wp_ret ?_
    refine co_ret2 h22 rfl rfl rfl ?_
    have hz := allE_endX hae (by omega)
    exact ⟨by rw [← hz, putA_0 hz.symm, List.take_of_length_le (by omega)] <;> rfl, hB14⟩
   ·
    rw [hc17] at h16
    have hp23 : ((i : Nat) : Int) < ((l.length : Nat) : Int) := of_decide_eq_true hc17
    clear hc17
    refine co_true h16 rfl ?_
    refine wp_skip ?_
    refine co_then ?_
    refine co_seq ?_
    refine wp_block ?_
    refine co_seq ?_
    refine co_reg ?_
    obtain ⟨y24, hy24⟩ : ∃ z, l[i]? = some z := ⟨_, List.getElem?_eq_getElem (by first | omega | (simp; done) | (simp; omega))⟩
    have oky24 := hok _ (List.mem_of_getElem? hy24)
    have h100y24 := h100 y24 (List.mem_of_getElem? hy24)
    refine pk (v := pt (blkOf v) (offOf v + i * 10)) h16 rfl (rn_index rfl rfl rfl Try.underlying50 Try.sizeOf60 (hs.below hB14) (by omega) (by first | omega | (simp; done) | (simp; omega))) fun a25 h25 => ?_; clear h16
    refine pk (v := .agg #[.int .i64 y24.d.k, .int .i64 y24.d.nd, .int .i64 y24.d.n, .int .i64 y24.d.ak, .int .i64 y24.d.an, .string y24.d.ky, .string y24.d.tt, .int .u64 y24.d.at_, .int .i64 y24.d.am, y24.ov]) h25 rfl (rn_loadN rfl rfl Try.underlying60 rfl (by kernel_rfl) (sl_at (hs.below hB14) hy24)) fun a26 h26 => ?_; clear h25
    refine pw h26 rfl (op_new (v := fun N => pt N 0) (T := 60) (cs := #[.int .i64 0, .int .i64 0, .int .i64 0, .int .i64 0, .int .i64 0, .string (⟨#[]⟩), .string (⟨#[]⟩), .int .u64 0, .int .i64 0, .slice none 0 0]) (by kernel_rfl) (by kernel_rfl) (by kernel_rfl)) ?_; clear h26
    rintro _ w28 a27 ⟨N29, rfl, hN32, hz33, hk31, hg30⟩ h27
    have ha34 := row_fresh hf13 hN32
    have hz35 := hg30.size
    try dsimp only at h27
    have hB41 := hb_new hB14 hg30
    refine pwD h27 rfl (op_storeN rfl rfl rfl (all_cons rfl (all_cons rfl (all_cons rfl (all_cons rfl (all_cons rfl (all_cons rfl (all_cons rfl (all_cons rfl (all_cons rfl (all_cons (sl_one (oky24.sl.below hB41)) all_nil)))))))))) (by kernel_rfl) hk31 rfl) ?_; clear h27
    rintro _ w37 a36 ⟨hk38, hz39, hg40⟩ h36
    have hk38' : Blk w37 N29 60 #[.int .i64 y24.d.k, .int .i64 y24.d.nd, .int .i64 y24.d.n, .int .i64 y24.d.ak, .int .i64 y24.d.an, .string y24.d.ky, .string y24.d.tt, .int .u64 y24.d.at_, .int .i64 y24.d.am, y24.ov] := hk38; clear hk38
    have hz42 := hg40.size
    refine pl_nil ?_
    refine co_then ?_
    refine co_seq ?_
    refine co_reg ?_
    refine pk (v := .agg #[.int .i64 y24.d.k, .int .i64 y24.d.nd, .int .i64 y24.d.n, .int .i64 y24.d.ak, .int .i64 y24.d.an, .string y24.d.ky, .string y24.d.tt, .int .u64 y24.d.at_, .int .i64 y24.d.am, y24.ov]) h36 rfl (rn_loadN rfl rfl Try.underlying60 rfl (by kernel_rfl) hk38'.all) fun a43 h43 => ?_; clear h36
    have hB46 := hb_at hB41 hg40 (by omega)
    refine pw h43 rfl (op_call (args := #[.agg #[.int .i64 y24.d.k, .int .i64 y24.d.nd, .int .i64 y24.d.n, .int .i64 y24.d.ak, .int .i64 y24.d.an, .string y24.d.ky, .string y24.d.tt, .int .u64 y24.d.at_, .int .i64 y24.d.am, y24.ov]]) (R := fun res xw => res = .tuple #[.string (oneB y24.d), .int .i64 (oneE y24.d)] ∧ Below w37.heap.size w37 xw) rfl rfl rfl (by kernel_rfl) (by kernel_rfl) (Try.call41 _ _) (scPut1_any y24.d y24.ov w37 (oky24.sl.below hB46) oky24.s (by omega)) (by rintro e x ⟨rfl, hb47⟩; exact ⟨_, rfl, ⟨rfl, hb47⟩⟩)) ?_; clear h43
    rintro _ w45 a44 ⟨rfl, hb47⟩ h44
    have hz48 := hb47.size
    have hoby24 := oneB_len y24.d
    refine pk0 (v := .tuple #[.string (oneB y24.d), .int .i64 (oneE y24.d)]) h44 rfl fun a49 h49 => ?_; clear h44
    refine pk0 (v := .string (oneB y24.d)) h49 rfl fun a50 h50 => ?_; clear h49
    refine pk0 (v := .int .i64 (oneE y24.d)) h50 rfl fun a51 h51 => ?_; clear h50
    refine pk0 (v := .string (oneB y24.d)) h51 rfl fun a52 h52 => ?_; clear h51
    refine pk0 (v := .int .i64 (oneE y24.d)) h52 rfl fun a53 h53 => ?_; clear h52
    refine pl_nil ?_
    refine co_then ?_
    refine co_seq ?_
    refine co_seq ?_
    refine co_reg ?_
    refine pk0 (v := .int .i64 (oneE y24.d)) h53 rfl fun a54 h54 => ?_; clear h53
    refine pk0 (v := .bool (oneE y24.d != 0)) h54 rfl fun a55 h55 => ?_; clear h54
    refine pl_nil ?_
    refine co_then ?_
    have hB57 := hb_call hB46 hb47
    have hr58 := row_kept_new hf13 hg30
    have hr59 := row_kept_at hr58 hg40 (ha34)
    have hr60 := row_kept_new hr59 (below_grown hb47)
    cases hc56 : (oneE y24.d != 0)
    ·
     rw [hc56] at h55
     have hp61 : ¬ (oneE y24.d ≠ 0) := by first | simpa using hc56 | simpa [and_assoc] using hc56
     clear hc56
     refine co_false h55 rfl ?_
     refine wp_skip ?_
     refine co_then ?_
     refine co_seq ?_
     refine co_reg ?_
     refine pk0 (v := u) h55 rfl fun a62 h62 => ?_; clear h55
     refine pk0 (v := .string (oneB y24.d)) h62 rfl fun a63 h63 => ?_; clear h62
     refine pk (v := .int .i64 (((oneB y24.d : ByteArray).size : Nat) : Int)) h63 rfl (rn_lenStr rfl rfl Try.underlying9) fun a64 h64 => ?_; clear h63
     refine pk (v := .int .u8 (((oneB y24.d : ByteArray).size : Nat) : Int)) h64 rfl (rn_conv rfl rfl Try.underlying3 Try.underlying5 (IntWalk.u8_in _ (by omega))) fun a65 h65 => ?_; clear h64
     refine pw h65 rfl (op_new (v := fun N => .slice (some ⟨N, 0, none⟩) 1 1) (T := 5) (cs := #[.int .u8 (((oneB y24.d : ByteArray).size : Nat) : Int)]) (by kernel_rfl) (by kernel_rfl) (by kernel_rfl)) ?_; clear h65
     rintro _ w67 a66 ⟨N68, rfl, hN71, hz72, hk70, hg69⟩ h66
     have ha73 := row_fresh hr60 hN71
     have hz74 := hg69.size
     try dsimp only at h66
     have hr81 := row_kept_new hr60 hg69
     refine pw h66 rfl (op_append rfl w.heap.size 5 (z := .int .u8 0) (size := 1) (bytes := 1) Try.underlying63 (by kernel_rfl) rfl rfl rfl hr81 rfl hk70 rfl (by kernel_rfl) (by first | omega | (simp only [List.length_nil, List.length_append, List.length_cons, List.length_take, List.length_drop]; omega)) (by first | omega | (simp only [List.length_nil, List.length_append, List.length_cons, List.length_take, List.length_drop]; omega)) (by omega)) ?_; clear h66
     rintro v77 w76 a75 ⟨hr78, hg79⟩ h75
     have hr78' : w76.ownsRow w.heap.size 5 1 v77 ((allB ((l.take i).map EvX.d) ++ [UInt8.ofNat ((oneB y24.d : ByteArray).size)]).length) ((allB ((l.take i).map EvX.d) ++ [UInt8.ofNat ((oneB y24.d : ByteArray).size)]).flatMap u8E) := row_push (y := UInt8.ofNat ((oneB y24.d : ByteArray).size)) hr78 rfl (u8_push (by omega)); clear hr78
     have hz82 := hg79.size
     refine pk0 (v := v77) h75 rfl fun a83 h83 => ?_; clear h75
     refine pl_nil ?_
     refine co_then ?_
     refine co_reg ?_
     refine pk0 (v := v77) h83 rfl fun a84 h84 => ?_; clear h83
     refine pk0 (v := .string (oneB y24.d)) h84 rfl fun a85 h85 => ?_; clear h84
     refine pw h85 rfl (op_appendStrF rfl w.heap.size 5 Try.underlying63 Try.underlying9 (by kernel_rfl) rfl hr78' rfl (by first | omega | (simp only [List.length_append, List.length_cons, List.length_nil]; omega)) (by omega)) ?_; clear h85
     rintro v88 w87 a86 ⟨hr89, hwt91, hg90⟩ h86
     have hz92 := hg90.size
     refine pk0 (v := v88) h86 rfl fun a93 h93 => ?_; clear h86
     refine pl_nil ?_
     refine co_blockN ?_
     refine co_then ?_
     refine co_reg ?_
     refine pk (v := .int .i64 ((i + 1 : Nat) : Int)) h93 rfl (rn_arith' rfl rfl rfl rfl rfl rfl (IntWalk.i64_in _ (by omega)) (by omega)) fun a94 h94 => ?_; clear h93
     refine pk0 (v := .int .i64 ((i + 1 : Nat) : Int)) h94 rfl fun a95 h95 => ?_; clear h94
     refine pl_nil ?_
     refine co_then ?_
     refine ⟨(l.length - (i + 1)), by omega, ?_⟩
     have hinv' := allE_stepX hae hy24 (by first | omega | assumption)
     have hB96 := hb_new hB57 hg69
     have hB97 := hb_row hB96 hr81 (by omega) hg79
     have hB98 := hb_row hB97 hr78' (by omega) hg90
     exact ⟨i + 1, v88, h95.sub ⟨rfl, rfl, rfl, rfl, rfl, trivial⟩, rfl, by omega, by first | rfl | exact hinv', (row_eq hr89 ((allB_at hy24).symm)), hB98⟩
    ·
     rw [hc56] at h55
     have hp99 : oneE y24.d ≠ 0 := by first | simpa using hc56 | simpa [and_assoc] using hc56
     clear hc56
     refine co_true h55 rfl ?_
     refine co_seq ?_
     refine co_reg ?_
     refine pk0 (v := .int .i64 (oneE y24.d)) h55 rfl fun a100 h100 => ?_; clear h55
     refine pk0 (v := .string (⟨#[]⟩)) h100 rfl fun a101 h101 => ?_; clear h100
     refine pk0 (v := .int .i64 (oneE y24.d)) h101 rfl fun a102 h102 => ?_; clear h101
     refine pl_nil ?_
     refine co_then ?_
     refine wp_ret ?_
     refine co_thenR ?_
     refine co_blockR ?_
     refine co_thenR ?_
     refine co_thenR ?_
     refine co_blockR ?_
     refine co_thenR ?_
     refine co_ret2 h102 rfl rfl rfl ?_
     have hz := allE_badX hae hy24 (by first | assumption | omega)
     exact ⟨by rw [putA_n (by rw [← hz]; first | assumption | omega), ← hz], hB57⟩
end Go.Proofs.Ytdgboikkgeioeaa

/- Steps of a walk in which calls may panic. Conditions: none. -/
namespace Go.Proofs.Ytdgboikkgeioeaa
open Go.RowKit
section
variable {P : Program} {n : Nat} {m : List (Nat × Value)} {w : World} {o : Oper} {ops : Array Oper} {rest : List Oper} {Q : Exit → Act → World → Prop} {R : Value → World → Prop} {md : Region.Mode} {S : World → Prop} {fuel i d : Nat} {listed : Array Bool} {a : Act} {X : List PanicEntry → World → Prop} {v : Value}
/-- Behind a panic X. -/
def PP (X : List PanicEntry → World → Prop) (Q : Exit → Act → World → Prop) : Exit → Act → World → Prop
  | .panic l, a, w => X l w ∧ a.defers = []
  | e, a, w => Q e a w
theorem PP.put {v : Value} {dst : Option Tmp} (c : List PanicEntry) (a : Act) (w : World) (h : PP X Q (.panic c) (a.put dst v) w) : PP X Q (.panic c) a w := ⟨h.1, by have h2 := h.2; cases dst <;> exact h2⟩
theorem PP.normal (h : Q .normal a w) : PP X Q .normal a w := h
theorem PP.imp (hX : ∀ l a w, X l w → a.defers = [] → Q (.panic l) a w) : ∀ (e : Exit) (a : Act) (w : World), PP X Q e a w → Q e a w := fun e a w h => by
  cases e <;> first | exact h | exact hX _ _ _ h.1 h.2
theorem body_pan {fn : Func} {E : Ending → World → Prop} {l : List PanicEntry} (hd : a.defers = []) (h : E (.panicked l) w) : bodyPost P fn E (.panic l) a w := ⟨hd, h⟩
theorem p_dr_start {id : Nat} {l : List Oper} (hX : ∀ l a w, X l w → a.defers = [] → Q (.panic l) a w) (hm : P.follows .mixedOrders = true) (hS : S w.drew) (h : wpAnyH P .any l.toArray (PP X Q) S l.length (Array.replicate l.length false) a w.drew) : (Code.region id l.toArray true).wp P Q a w :=
  Code.wp_mono (PP.imp hX) (wp_region_held_drew (S := S) hm hS fun _ => by simpa using h)
theorem p_dr_gen {id : Nat} {l : List Oper} (S : World → Prop) (hX : ∀ l a w, X l w → a.defers = [] → Q (.panic l) a w) (hm : P.follows .mixedOrders = true) (hS : ∀ wd, w.grownBy wd none → S wd) (h : ∀ wd, w.grownBy wd none → wpAnyH P .any l.toArray (PP X Q) S l.length (Array.replicate l.length false) a wd) : (Code.region id l.toArray true).wp P Q a w :=
  p_dr_start hX hm (hS _ (drew_grown w)) (h _ (drew_grown w))
/-- An operation that may panic. -/
def OpX (P : Program) (n : Nat) (m : List (Nat × Value)) (o : Oper) (w : World) (R : Value → World → Prop) (X : List PanicEntry → World → Prop) : Prop :=
  ∀ a, Slots n m a → ∀ (N : Act → World → Prop) (Q : Exit → Act → World → Prop), (∀ l w', X l w' → Q (.panic l) a w') → (∀ v w', R v w' → N (a.put o.dst v) w') → o.wp P a w N Q
theorem p_dr_take {v : Value} (hs : Slots n m a) (ho : ops[i]? = some o) (hsel : Region.noSelect ops = true) (hf : Region.free md ops listed i = true) (hr : (Region.ready md ops listed).contains i = true)
    (hw : wantB m ops o = some true) (hd : o.dst = some d) (hdn : Nat.blt d n = true) (hS : S w) (hok : okOps m o.op = true) (hrun : ∀ w, S w → (execOp (lk m) o).run P w = .ok (.value v) w)
    (h : ∀ a', Slots n ((d, v) :: m) a' → wpAnyH P md ops (PP X Q) S fuel (listed.setIfInBounds i true) a' w) : wpAnyH P md ops (PP X Q) S (fuel + 1) listed a w := by
  have he : execOp a.eval o = execOp (lk m) o := execOp_congr o (fun cs b e => Region.noSelect_spec hsel i o cs b ho e) (fun x hx => hs.lk (Array.all_eq_true_iff_forall_mem.1 hok x hx))
  refine wpAnyH_take ho hsel hf hr PP.put (Or.inl ⟨hs.wants hw, fun w' hw' => by rw [he]; exact hrun w' hw'⟩) hS ?_
  exact h _ (by rw [hd]; exact hs.put (by simpa using hdn))
/-- Number i alone may come up. -/
theorem p_dr_one (hs : Slots n m a) (ho : ops[i]? = some o) (hr : Region.ready md ops listed = [i]) (hw : wantB m ops o = some true) (hd : o.dst = some d) (hdn : Nat.blt d n = true) (h1 : Op1 P n m o w R) (hS : ∀ v w', R v w' → S w')
    (h : ∀ v w' a', R v w' → Slots n ((d, v) :: m) a' → wpAnyH P md ops (PP X Q) S fuel (listed.setIfInBounds i true) a' w') : wpAnyH P md ops (PP X Q) S (fuel + 1) listed a w := by
  refine wpAnyH_all hr (by simp) fun j hj => ?_
  simp only [List.mem_singleton] at hj
  subst hj
  unfold wpOp
  simp only [ho, hs.wants hw, if_true]
  exact .inl (h1 a hs _ _ fun v w' hv => ⟨hS v w' hv, h v w' _ hv (by rw [hd]; exact hs.put (by simpa using hdn))⟩)
theorem p_dr_oneDo (hs : Slots n m a) (ho : ops[i]? = some o) (hr : Region.ready md ops listed = [i]) (hw : wantB m ops o = some true) (hd : o.dst = none) (h1 : Op1 P n m o w R) (hS : ∀ v w', R v w' → S w')
    (h : ∀ v w' a', R v w' → Slots n m a' → wpAnyH P md ops (PP X Q) S fuel (listed.setIfInBounds i true) a' w') : wpAnyH P md ops (PP X Q) S (fuel + 1) listed a w := by
  refine wpAnyH_all hr (by simp) fun j hj => ?_
  simp only [List.mem_singleton] at hj
  subst hj
  unfold wpOp
  simp only [ho, hs.wants hw, if_true]
  exact .inl (h1 a hs _ _ fun v w' hv => ⟨hS v w' hv, h v w' _ hv (hs.none hd)⟩)
theorem p_dr_done (hr : Region.ready md ops listed = []) (h : Q .normal a w) : wpAnyH P md ops (PP X Q) S fuel listed a w := wpAnyH_done hr (PP.normal h) fuel

/-! ### Code -/
def PAllW (P : Program) (md : Region.Mode) (ops : Array Oper) (X : List PanicEntry → World → Prop) (Q : Exit → Act → World → Prop) (S : World → Prop) (fuel : Nat) (listed : Array Bool) (a : Act) (w : World) : List Nat → Prop
  | [] => True
  | i :: r => wpOp P ops (PP X Q) i (fun a' w' => S w' ∧ wpAnyH P md ops (PP X Q) S fuel (listed.setIfInBounds i true) a' w') a w ∧ PAllW P md ops X Q S fuel listed a w r
theorem PAllW.all : ∀ (rs : List Nat), PAllW P md ops X Q S fuel listed a w rs → ∀ i ∈ rs, wpOp P ops (PP X Q) i (fun a' w' => S w' ∧ wpAnyH P md ops (PP X Q) S fuel (listed.setIfInBounds i true) a' w') a w
  | [], _, _, h => by cases h
  | i :: r, h, j, hj => by
    rcases List.mem_cons.1 hj with rfl | hj
    · exact h.1
    · exact PAllW.all r h.2 j hj
/-- Several may come up. -/
theorem p_dr_many (rs : List Nat) (hr : Region.ready md ops listed = rs) (hne : rs ≠ []) (h : PAllW P md ops X Q S fuel listed a w rs) : wpAnyH P md ops (PP X Q) S (fuel + 1) listed a w := wpAnyH_all hr hne (PAllW.all rs h)
theorem p_dr_op (hs : Slots n m a) (ho : ops[i]? = some o) (hw : wantB m ops o = some true) (hd : o.dst = some d) (hdn : Nat.blt d n = true) (h1 : Op1 P n m o w R) (hS : ∀ v w', R v w' → S w')
    (h : ∀ v w' a', R v w' → Slots n ((d, v) :: m) a' → wpAnyH P md ops (PP X Q) S fuel (listed.setIfInBounds i true) a' w') : wpOp P ops (PP X Q) i (fun a' w' => S w' ∧ wpAnyH P md ops (PP X Q) S fuel (listed.setIfInBounds i true) a' w') a w := by
  unfold wpOp
  simp only [ho, hs.wants hw, if_true]
  exact .inl (h1 a hs _ _ fun v w' hv => ⟨hS v w' hv, h v w' _ hv (by rw [hd]; exact hs.put (by simpa using hdn))⟩)
/-- One that yields v and leaves the world as it is. -/
theorem p_dr_opVal {v : Value} (hs : Slots n m a) (ho : ops[i]? = some o) (hw : wantB m ops o = some true) (hd : o.dst = some d) (hdn : Nat.blt d n = true) (hok : okOps m o.op = true) (hsel : (match o.op with | .select .. => true | _ => false) = false) (hrun : (execOp (lk m) o).run P w = .ok (.value v) w) (hS : S w)
    (h : ∀ a', Slots n ((d, v) :: m) a' → wpAnyH P md ops (PP X Q) S fuel (listed.setIfInBounds i true) a' w) : wpOp P ops (PP X Q) i (fun a' w' => S w' ∧ wpAnyH P md ops (PP X Q) S fuel (listed.setIfInBounds i true) a' w') a w :=
  p_dr_op hs ho hw hd hdn (op_run hok hsel hrun) (fun _ _ ⟨_, h2⟩ => by subst h2; exact hS) (fun _ _ a' ⟨h1, h2⟩ hs' => by subst h1 h2; exact h a' hs')
theorem p_dk (i : Nat) (hs : Slots n m a) (ho : ops[i]? = some o) (hd : o.dst = some d) (hS : S w) (hrun : ∀ w, S w → (execOp (lk m) o).run P w = .ok (.value v) w) (h : ∀ a', Slots n ((d, v) :: m) a' → wpAnyH P md ops (PP X Q) S fuel (listed.setIfInBounds i true) a' w)
    (hsel : Region.noSelect ops = true := by kernel_rfl) (hf : Region.free md ops listed i = true := by kernel_rfl) (hr : (Region.ready md ops listed).contains i = true := by kernel_rfl) (hw : wantB m ops o = some true := by rfl) (hdn : Nat.blt d n = true := by rfl) (hok : okOps m o.op = true := by kernel_rfl) : wpAnyH P md ops (PP X Q) S (fuel + 1) listed a w := p_dr_take hs ho hsel hf hr hw hd hdn hS hok hrun h
theorem p_dk0 (i : Nat) (hs : Slots n m a) (ho : ops[i]? = some o) (hd : o.dst = some d) (hS : S w) (h : ∀ a', Slots n ((d, v) :: m) a' → wpAnyH P md ops (PP X Q) S fuel (listed.setIfInBounds i true) a' w)
    (hsel : Region.noSelect ops = true := by kernel_rfl) (hf : Region.free md ops listed i = true := by kernel_rfl) (hr : (Region.ready md ops listed).contains i = true := by kernel_rfl) (hw : wantB m ops o = some true := by rfl) (hdn : Nat.blt d n = true := by rfl) (hok : okOps m o.op = true := by kernel_rfl) (hrun : ∀ w, S w → (execOp (lk m) o).run P w = .ok (.value v) w := by intro _ _; kernel_rfl) : wpAnyH P md ops (PP X Q) S (fuel + 1) listed a w := p_dr_take hs ho hsel hf hr hw hd hdn hS hok hrun h
theorem p_d1 (i : Nat) (hs : Slots n m a) (ho : ops[i]? = some o) (hd : o.dst = some d) (h1 : Op1 P n m o w R) (hS : ∀ v w', R v w' → S w') (h : ∀ v w' a', R v w' → Slots n ((d, v) :: m) a' → wpAnyH P md ops (PP X Q) S fuel (listed.setIfInBounds i true) a' w')
    (hr : Region.ready md ops listed = [i] := by kernel_rfl) (hw : wantB m ops o = some true := by rfl) (hdn : Nat.blt d n = true := by rfl) : wpAnyH P md ops (PP X Q) S (fuel + 1) listed a w := p_dr_one hs ho hr hw hd hdn h1 hS h
theorem p_d1D (i : Nat) (hs : Slots n m a) (ho : ops[i]? = some o) (hd : o.dst = none) (h1 : Op1 P n m o w R) (hS : ∀ v w', R v w' → S w') (h : ∀ v w' a', R v w' → Slots n m a' → wpAnyH P md ops (PP X Q) S fuel (listed.setIfInBounds i true) a' w')
    (hr : Region.ready md ops listed = [i] := by kernel_rfl) (hw : wantB m ops o = some true := by rfl) : wpAnyH P md ops (PP X Q) S (fuel + 1) listed a w := p_dr_oneDo hs ho hr hw hd h1 hS h
theorem px_dr_one (hs : Slots n m a) (ho : ops[i]? = some o) (hr : Region.ready md ops listed = [i]) (hw : wantB m ops o = some true) (hd : o.dst = some d) (hdn : Nat.blt d n = true) (h1 : OpX P n m o w R X) (hS : ∀ v w', R v w' → S w')
    (h : ∀ v w' a', R v w' → Slots n ((d, v) :: m) a' → wpAnyH P md ops (PP X Q) S fuel (listed.setIfInBounds i true) a' w') : wpAnyH P md ops (PP X Q) S (fuel + 1) listed a w := by
  refine wpAnyH_all hr (by simp) fun j hj => ?_
  simp only [List.mem_singleton] at hj
  subst hj
  unfold wpOp
  simp only [ho, hs.wants hw, if_true]
  exact .inl (h1 a hs _ _ (fun l w' hl => ⟨hl, hs.defers⟩) fun v w' hv => ⟨hS v w' hv, h v w' _ hv (by rw [hd]; exact hs.put (by simpa using hdn))⟩)
/-- One that yields v and leaves the world as it is. -/
theorem px_d1 (i : Nat) (hs : Slots n m a) (ho : ops[i]? = some o) (hd : o.dst = some d) (h1 : OpX P n m o w R X) (hS : ∀ v w', R v w' → S w') (h : ∀ v w' a', R v w' → Slots n ((d, v) :: m) a' → wpAnyH P md ops (PP X Q) S fuel (listed.setIfInBounds i true) a' w')
    (hr : Region.ready md ops listed = [i] := by kernel_rfl) (hw : wantB m ops o = some true := by rfl) (hdn : Nat.blt d n = true := by rfl) : wpAnyH P md ops (PP X Q) S (fuel + 1) listed a w := px_dr_one hs ho hr hw hd hdn h1 hS h
theorem co_thenP {K : Act → World → Prop} {l : List PanicEntry} (h : Q (.panic l) a w) : Exit.then K Q (.panic l) a w := h
theorem co_blockP {i : Nat} {l : List PanicEntry} (h : Q (.panic l) a w) : Exit.inBlock i Q (.panic l) a w := h
theorem pwX (hs : Slots n m a) (hd : o.dst = some d) (hX : ∀ l a w', X l w' → a.defers = [] → Q (.panic l) a w') (h1 : OpX P n m o w R X) (h : ∀ v w' a', R v w' → Slots n ((d, v) :: m) a' → wpList P ops Q rest a' w') (hg : wantB m ops o = some true := by rfl) (hdn : Nat.blt d n = true := by rfl) : wpList P ops Q (o :: rest) a w :=
  wpList_step fun K hK => by
    rw [if_pos (hs.wants hg)]
    exact h1 a hs K Q (fun l w' hl => hX l a w' hl hs.defers) fun v w' hv => hK _ _ (h v w' _ hv (by rw [hd]; exact hs.put (by simpa using hdn)))
theorem pl_panic {x : Operand} {t : TypeId} {u : Value} (hs : Slots n m a) (ho : o.op = .panic x) (hx : ev m x = some (.iface t u)) (h : a.defers = [] → Q (.panic [{ v := .iface t u, recovered := false }]) a w) (hok : okOps m o.op = true := by kernel_rfl) (hg : wantB m ops o = some true := by rfl) : wpList P ops Q (o :: rest) a w :=
  wpList_step fun K hK => by
    rw [if_pos (hs.wants hg)]
    have he : execOp a.eval o = execOp (lk m) o := execOp_congr o (fun cs b e => by simp [e] at ho) (fun x hx => hs.lk (Array.all_eq_true_iff_forall_mem.1 hok x hx))
    have hr : (execOp (lk m) o).run P w = .halt (.panic (.iface t u)) w := by
      unfold execOp; rw [ho]; simp only [lk_ev hx, Instr.panic]; rfl
    unfold Oper.wp
    rw [he, hr, Oper.upon_panic]
    exact h hs.defers
theorem op_callVX {c : Call} {q : Operand} {f : FuncId} {args caps : Array Value} {E : Ending → World → Prop} (ho : o.op = .call c) (hc : c.callee = .value q) (hf : ev m q = some (.func (.func f) #[] caps))
    (hok : okOps m o.op = true) (hargs : c.args.map (lk m) ++ caps = args) (hcall : (callFunc f args).run P w = .ok (.enter f args) w) (h : Calls P f args w E) (hE : ∀ e w', E e w' → (∃ v, e = .returned v ∧ R v w') ∨ ∃ l, e = .panicked l ∧ X l w') : OpX P n m o w R X := by
  intro a ha N Q hX hN
  have he : execOp a.eval o = execOp (lk m) o := execOp_congr o (fun cs b e => by simp [e] at ho) (fun x hx => ha.lk (Array.all_eq_true_iff_forall_mem.1 hok x hx))
  unfold Oper.wp
  rw [he]
  have hfx : lk m q = .func (.func f) #[] caps := by simp [lk, hf]
  have : (execOp (lk m) o).run P w = .ok (.enter f args) w := by
    simp only [execOp, ho, resolve, hc, hfx, Deferred.ofValue, Sem.run_bind, Sem.run_pure, Result.andThen_ok, invoke]
    simp only [Array.empty_append, hargs]
    exact hcall
  rw [this, Oper.upon_enter]
  refine h.mono fun e w' he => ?_
  rcases hE e w' he with ⟨v, rfl, hv⟩ | ⟨l, rfl, hl⟩
  · exact hN v w' hv
  · exact hX l w' hl
end
end Go.Proofs.Ytdgboikkgeioeaa

/- Readers: big numbers, the error so far. Conditions: none. -/
namespace Go.Proofs.Ytdgboikkgeioeaa
open Go.RowKit Go.PlainAid
set_option linter.unusedVariables false
section
variable {w x : World} {b N : Nat} {s : ByteArray} {a e : Int}
theorem getR_lt (s : ByteArray) (a : Int) : (getR s a).1 < 18446744073709551616 := by
  unfold getR
  have hb2 := bt_le s a.toNat
  split
  · decide
  split
  · decide
  split
  · show bt s a.toNat < _; omega
  split
  · decide
  split
  · show val s (a.toNat + 1) (bt s a.toNat - 247).toNat < _
    have h1 := val_lt s (a.toNat + 1) (bt s a.toNat - 247).toNat
    have hk : (bt s a.toNat - 247).toNat ≤ 8 := by omega
    have h2 : (256 : Nat) ^ (bt s a.toNat - 247).toNat ≤ 256 ^ 8 := Nat.pow_le_pow_right (by decide) hk
    have h3 : ((256 : Int) ^ (bt s a.toNat - 247).toNat) = ((256 ^ (bt s a.toNat - 247).toNat : Nat) : Int) := by rw [Int.natCast_pow]; rfl
    have h4 : (256 : Nat) ^ 8 = 18446744073709551616 := by decide
    omega
  · decide
theorem bigR_le {s : ByteArray} {a x : Int} : 0 ≤ (bigR s a x).1 ∧ (bigR s a x).1 < 18446744073709551616 := by
  have h1 := getR_range s a
  have h2 := getR_lt s a
  unfold bigR
  split
  · exact ⟨Int.le_refl _, by show (0 : Int) < _; decide⟩
  · dsimp only
    split
    · exact ⟨h1, h2⟩
    · exact ⟨Int.le_refl _, by decide⟩
theorem or_big (b : Nat) (s : ByteArray) (a e : Int) (w : World) (h : OR b s a e w) (hs : s.size ≤ 9223372036854775807) :
    Calls Try.prog 115 #[.pointer (some ⟨b, 0, none⟩)] w fun e1 w' => ∃ n a' e', e1 = .returned (.int .u64 n) ∧ bigR s a e = (n, a', e') ∧ 0 ≤ n ∧ n < 18446744073709551616 ∧ OR b s a' e' w' ∧ w.grownBy w' (some b) :=
  (rBig_re b s a e w h.re hs).mono (by
    rintro e1 x ⟨rfl, hw, hb⟩
    exact ⟨_, _, _, rfl, rfl, bigR_le.1, bigR_le.2, ⟨hw, bigR_at⟩, but_grown hb⟩)
theorem oxr_big (b : Nat) (s : ByteArray) (a e : Int) (w : World) (h : OXR b s a e w) (hs : s.size ≤ 9223372036854775807) :
    Calls Try.prog 85 #[.pointer (some ⟨b, 0, none⟩)] w fun e1 w' => ∃ n a' e', e1 = .returned (.int .u64 n) ∧ bigR s a e = (n, a', e') ∧ 0 ≤ n ∧ n < 18446744073709551616 ∧ OXR b s a' e' w' ∧ w.grownBy w' (some b) :=
  (xrBig_re b s a e w h.re hs).mono (by
    rintro e1 x ⟨rfl, hw, hb⟩
    exact ⟨_, _, _, rfl, rfl, bigR_le.1, bigR_le.2, ⟨hw, bigR_at⟩, but_grown hb⟩)
theorem or_err (b : Nat) (s : ByteArray) (a e : Int) (w : World) (h : OR b s a e w) :
    Calls Try.prog 114 #[.pointer (some ⟨b, 0, none⟩)] w fun e1 w' => e1 = .returned (.int .i64 e) ∧ w = w' := err_re b s a e w h.re
end
end Go.Proofs.Ytdgboikkgeioeaa
