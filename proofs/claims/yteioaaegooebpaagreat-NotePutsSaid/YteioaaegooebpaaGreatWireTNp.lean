/- Package wire and the document's Reader: every call, behind an error or not. Conditions: texts of at most 2^63-1 bytes. -/
import Derived.Test.YteioaaegooebpaaGreatNp7
namespace Go.Proofs.YteioaaegooebpaaGreat
open Go.RowKit Go.PlainAid

theorem RE.err {w : World} {b : Nat} {s : ByteArray} {a x : Int} (hx : x ≠ 0) (h : RE w b s a x) : ∃ a', Rd w b s a' x := by unfold RE at h; rw [if_neg hx] at h; exact h
theorem RE.below {w w' : World} {b : Nat} {s : ByteArray} {a x : Int} (h : RE w b s a x) (hb : Below w.heap.size w w') : RE w' b s a x := by
  by_cases hx : x = 0
  · subst hx; exact RE.good (h.ok.below hb)
  · obtain ⟨a', h'⟩ := RE.err hx h; exact RE.bad hx (h'.below hb)
theorem RE.but {S : Nat → Prop} {w w' : World} {b : Nat} {s : ByteArray} {a x : Int} (h : RE w b s a x) (hb : But S w w') (hs : ¬ S b) : RE w' b s a x := by
  by_cases hx : x = 0
  · subst hx; exact RE.good (h.ok.but hb hs)
  · obtain ⟨a', h'⟩ := RE.err hx h; exact RE.bad hx (h'.but hb hs)
theorem RE.weak {w : World} {b : Nat} {s : ByteArray} {a a2 x : Int} (hx : x ≠ 0) (h : RE w b s a x) : RE w b s a2 x := by
  obtain ⟨a', h'⟩ := RE.err hx h; exact RE.bad hx h'
theorem RE.lt {w : World} {b : Nat} {s : ByteArray} {a x : Int} (h : RE w b s a x) : b < w.heap.size := by
  by_cases hx : x = 0
  · subst hx; exact h.ok.lt
  · obtain ⟨a', h'⟩ := RE.err hx h; exact h'.lt
theorem XRE.below {w w' : World} {b : Nat} {s : ByteArray} {a x : Int} (h : XRE w b s a x) (hb : Below w.heap.size w w') : XRE w' b s a x := by
  by_cases hx : x = 0
  · subst hx; exact XRE.good (h.ok.below hb)
  · obtain ⟨a', h'⟩ := XRE.err hx h; exact XRE.bad hx (h'.below hb)
theorem XRE.but {S : Nat → Prop} {w w' : World} {b : Nat} {s : ByteArray} {a x : Int} (h : XRE w b s a x) (hb : But S w w') (hs : ¬ S b) : XRE w' b s a x := by
  by_cases hx : x = 0
  · subst hx; exact XRE.good (h.ok.but hb hs)
  · obtain ⟨a', h'⟩ := XRE.err hx h; exact XRE.bad hx (h'.but hb hs)
theorem XRE.weak {w : World} {b : Nat} {s : ByteArray} {a a2 x : Int} (hx : x ≠ 0) (h : XRE w b s a x) : XRE w b s a2 x := by
  obtain ⟨a', h'⟩ := XRE.err hx h; exact XRE.bad hx h'
theorem XRE.cell {w : World} {b : Nat} {s : ByteArray} {a x : Int} (h : XRE w b s a x) : w.cell? ⟨b, 2, none⟩ = some (.int .i64 x) := by
  by_cases hx : x = 0
  · subst hx; exact h.ok.err
  · obtain ⟨a', h'⟩ := XRE.err hx h; exact h'.err
theorem numR_err {s : ByteArray} {a x m : Int} (hx : x ≠ 0) : numR s a x m = (0, a, x) := by unfold numR; rw [if_pos hx]
theorem bigR_err {s : ByteArray} {a x : Int} (hx : x ≠ 0) : bigR s a x = (0, a, x) := by unfold bigR; rw [if_pos hx]
theorem textR_err {s : ByteArray} {a x m : Int} (hx : x ≠ 0) : textR s a x m = (⟨#[]⟩, a, x) := by unfold textR; rw [if_pos hx]
theorem flagR_err {s : ByteArray} {a : Nat} {x : Int} (hx : x ≠ 0) : flagR s a x = (false, (a : Int), x) := by unfold flagR; rw [if_pos hx]

theorem rNum_re (b : Nat) (s : ByteArray) (a x m : Int) (w : World) (h : RE w b s a x) (hs : s.size ≤ 9223372036854775807) (hm : m ≤ 9223372036854775807) :
    Calls Tryz.prog 58 #[.pointer (some ⟨b, 0, none⟩), .int .i64 m] w fun e w' => e = .returned (.int .i64 (numR s a x m).1) ∧ RE w' b s (numR s a x m).2.1 (numR s a x m).2.2 ∧ But (Own b) w w' := by
  by_cases hx : x = 0
  · subst hx; exact rNum_any b s a 0 m w h.ok hs hm
  · obtain ⟨a', h'⟩ := RE.err hx h
    refine (rNum_any b s a' x m w h' hs hm).mono ?_
    rw [numR_err hx, numR_err hx]
    exact fun e w' ⟨h1, h2, h3⟩ => ⟨h1, RE.weak hx h2, h3⟩
theorem rBig_re (b : Nat) (s : ByteArray) (a x : Int) (w : World) (h : RE w b s a x) (hs : s.size ≤ 9223372036854775807) :
    Calls Tryz.prog 120 #[.pointer (some ⟨b, 0, none⟩)] w fun e w' => e = .returned (.int .u64 (bigR s a x).1) ∧ RE w' b s (bigR s a x).2.1 (bigR s a x).2.2 ∧ But (Own b) w w' := by
  by_cases hx : x = 0
  · subst hx; exact rBig_any b s a 0 w h.ok hs
  · obtain ⟨a', h'⟩ := RE.err hx h
    refine (rBig_any b s a' x w h' hs).mono ?_
    rw [bigR_err hx, bigR_err hx]
    exact fun e w' ⟨h1, h2, h3⟩ => ⟨h1, RE.weak hx h2, h3⟩
theorem rText_re (b : Nat) (s : ByteArray) (a x m : Int) (w : World) (h : RE w b s a x) (hs : s.size ≤ 9223372036854775807) (hm : m ≤ 9223372036854775807) :
    Calls Tryz.prog 121 #[.pointer (some ⟨b, 0, none⟩), .int .i64 m] w fun e w' => e = .returned (.string (textR s a x m).1) ∧ RE w' b s (textR s a x m).2.1 (textR s a x m).2.2 ∧ But (Own b) w w' := by
  by_cases hx : x = 0
  · subst hx; exact rText_any b s a 0 m w h.ok hs hm
  · obtain ⟨a', h'⟩ := RE.err hx h
    refine (rText_any b s a' x m w h' hs hm).mono ?_
    rw [textR_err hx, textR_err hx]
    exact fun e w' ⟨h1, h2, h3⟩ => ⟨h1, RE.weak hx h2, h3⟩
theorem xrNum_re (b : Nat) (s : ByteArray) (a x m : Int) (w : World) (h : XRE w b s a x) (hs : s.size ≤ 9223372036854775807) (hm : m ≤ 9223372036854775807) :
    Calls Tryz.prog 62 #[.pointer (some ⟨b, 0, none⟩), .int .i64 m] w fun e w' => e = .returned (.int .i64 (numR s a x m).1) ∧ XRE w' b s (numR s a x m).2.1 (numR s a x m).2.2 ∧ But (Own b) w w' := by
  by_cases hx : x = 0
  · subst hx; exact xrNum_any b s a 0 m w h.ok hs hm
  · obtain ⟨a', h'⟩ := XRE.err hx h
    refine (xrNum_any b s a' x m w h' hs hm).mono ?_
    rw [numR_err hx, numR_err hx]
    exact fun e w' ⟨h1, h2, h3⟩ => ⟨h1, XRE.weak hx h2, h3⟩
theorem xrBig_re (b : Nat) (s : ByteArray) (a x : Int) (w : World) (h : XRE w b s a x) (hs : s.size ≤ 9223372036854775807) :
    Calls Tryz.prog 128 #[.pointer (some ⟨b, 0, none⟩)] w fun e w' => e = .returned (.int .u64 (bigR s a x).1) ∧ XRE w' b s (bigR s a x).2.1 (bigR s a x).2.2 ∧ But (Own b) w w' := by
  by_cases hx : x = 0
  · subst hx; exact xrBig_any b s a 0 w h.ok hs
  · obtain ⟨a', h'⟩ := XRE.err hx h
    refine (xrBig_any b s a' x w h' hs).mono ?_
    rw [bigR_err hx, bigR_err hx]
    exact fun e w' ⟨h1, h2, h3⟩ => ⟨h1, XRE.weak hx h2, h3⟩
theorem xrText_re (b : Nat) (s : ByteArray) (a x m : Int) (w : World) (h : XRE w b s a x) (hs : s.size ≤ 9223372036854775807) (hm : m ≤ 9223372036854775807) :
    Calls Tryz.prog 130 #[.pointer (some ⟨b, 0, none⟩), .int .i64 m] w fun e w' => e = .returned (.string (textR s a x m).1) ∧ XRE w' b s (textR s a x m).2.1 (textR s a x m).2.2 ∧ But (Own b) w w' := by
  by_cases hx : x = 0
  · subst hx; exact xrText_any b s a 0 m w h.ok hs hm
  · obtain ⟨a', h'⟩ := XRE.err hx h
    refine (xrText_any b s a' x m w h' hs hm).mono ?_
    rw [textR_err hx, textR_err hx]
    exact fun e w' ⟨h1, h2, h3⟩ => ⟨h1, XRE.weak hx h2, h3⟩
set_option maxRecDepth 100000 in
set_option maxHeartbeats 1600000 in
theorem rFlag_err (b : Nat) (s : ByteArray) (a x : Int) (w : World) (h : Rd w b s a x) (hx : x ≠ 0) :
    Calls Tryz.prog 119 #[.pointer (some ⟨b, 0, none⟩)] w fun e w' => e = .returned (.bool false) ∧ RE w' b s a x ∧ But (Own b) w w' := by
  have hmf : ∀ (fn : Fn) (first cap : Array Value) (w : World), (Instr.makeFunc fn first cap).run Tryz.prog w = .ok (.func fn first cap) w := fun _ _ _ _ => rfl
  obtain ⟨W, hW⟩ : ∃ W, W = ((w.alloc (.cells #[.pointer (some ⟨b, 0, none⟩)] 103)).alloc (.cells #[.bool false] 4)) := ⟨_, rfl⟩
  have hl := lay2 w (.pointer (some ⟨b, 0, none⟩)) (.bool false) 103 4
  rw [← hW] at hl
  obtain ⟨l0, l1, l3, l4⟩ := hl
  have H1 := Lib.hid (h.below l0)
  have HB := Lib.hid (But.of_below (S := Own b) l0)
  have hlt := h.lt
  have HW := Lib.hid hW; have M3 := Lib.hid l3
  clear h l0 l1 l3 l4
  go_enter Tryz.func119, Tryz.ntmps119
  go_wp2_with fail
  rw [← HW.out]
  refine (take_err b s a x _ _ H1.out hx).mono ?_
  rintro e w1 ⟨rfl, r1⟩
  have c3 := cell_below r1 M3.out
  have R2 : Hid (RE w1 b s a x) := Lib.hid (RE.bad hx (H1.out.below r1))
  have R3 := Lib.hid (HB.out.trans (But.of_below r1))
  clear r1
  go_wp2
  go_ret
  exact ⟨rfl, R2.out, R3.out⟩
set_option maxRecDepth 100000 in
set_option maxHeartbeats 1600000 in
theorem xrFlag_err (b : Nat) (s : ByteArray) (a x : Int) (w : World) (h : XRd w b s a x) (hx : x ≠ 0) :
    Calls Tryz.prog 129 #[.pointer (some ⟨b, 0, none⟩)] w fun e w' => e = .returned (.bool false) ∧ XRE w' b s a x ∧ But (Own b) w w' := by
  have H := Lib.hid h
  have c2 := h.err
  have hn1 : (x == 0) = false := by simp [hx]
  have hn2 : (x != 0) = true := by simp [hx]
  have HX := Lib.hid hx
  clear h hx
  go_enter Tryz.func129, Tryz.ntmps129
  go_wp2_with fail
  go_quiet (fail)
  go_wp2_with fail
  go_quiet (fail)
  go_wp2
  go_ret
  exact ⟨rfl, XRE.bad HX.out (H.out.below (below_draws (Below.refl _ _) _)), (But.refl _ _).draws _⟩
theorem rFlag_re (b : Nat) (s : ByteArray) (a : Nat) (x : Int) (w : World) (h : RE w b s a x) (hs : s.size ≤ 9223372036854775807) (ha : x = 0 → a ≤ s.size) :
    Calls Tryz.prog 119 #[.pointer (some ⟨b, 0, none⟩)] w fun e w' => e = .returned (.bool (flagR s a x).1) ∧ RE w' b s (flagR s a x).2.1 (flagR s a x).2.2 ∧ But (Own b) w w' := by
  by_cases hx : x = 0
  · subst hx; exact rFlag_any b s a 0 w h.ok hs (ha rfl)
  · obtain ⟨a', h'⟩ := RE.err hx h
    rw [flagR_err hx]
    exact (rFlag_err b s a' x w h' hx).mono fun e w' ⟨h1, h2, h3⟩ => ⟨h1, RE.weak hx h2, h3⟩
theorem xrFlag_re (b : Nat) (s : ByteArray) (a : Nat) (x : Int) (w : World) (h : XRE w b s a x) (hs : s.size ≤ 9223372036854775807) (ha : x = 0 → a ≤ s.size) :
    Calls Tryz.prog 129 #[.pointer (some ⟨b, 0, none⟩)] w fun e w' => e = .returned (.bool (flagR s a x).1) ∧ XRE w' b s (flagR s a x).2.1 (flagR s a x).2.2 ∧ But (Own b) w w' := by
  by_cases hx : x = 0
  · subst hx; exact xrFlag_any b s a 0 w h.ok hs (ha rfl)
  · obtain ⟨a', h'⟩ := XRE.err hx h
    rw [flagR_err hx]
    exact (xrFlag_err b s a' x w h' hx).mono fun e w' ⟨h1, h2, h3⟩ => ⟨h1, XRE.weak hx h2, h3⟩
/-- What is left; what the end says. -/
def leftV (s : ByteArray) (a : Nat) (x : Int) : Int := if x = 0 then (s.size : Int) - a else 0
def endV (s : ByteArray) (a : Nat) (x : Int) : Int := if x = 0 then (if a < s.size then 4 else 0) else x
theorem err_re (b : Nat) (s : ByteArray) (a x : Int) (w : World) (h : RE w b s a x) :
    Calls Tryz.prog 59 #[.pointer (some ⟨b, 0, none⟩)] w fun e w' => e = .returned (.int .i64 x) ∧ w = w' := by
  by_cases hx : x = 0
  · subst hx; exact err_made b s a 0 w h.ok
  · obtain ⟨a', h'⟩ := RE.err hx h; exact err_made b s a' x w h'
theorem left_re (b : Nat) (s : ByteArray) (a : Nat) (x : Int) (w : World) (h : RE w b s a x) (hs : s.size ≤ 9223372036854775807) (ha : x = 0 → a ≤ s.size) :
    Calls Tryz.prog 127 #[.pointer (some ⟨b, 0, none⟩)] w fun e w' => e = .returned (.int .i64 (leftV s a x)) ∧ Below w.heap.size w w' := by
  by_cases hx : x = 0
  · subst hx; exact left_ok b s a w h.ok hs (ha rfl)
  · obtain ⟨a', h'⟩ := RE.err hx h
    unfold leftV
    rw [if_neg hx]
    exact (left_err b s a' x w h' hx).mono fun e w' ⟨h1, h2⟩ => ⟨h1, h2 ▸ Below.refl _ _⟩
theorem end_re (b : Nat) (s : ByteArray) (a : Nat) (x : Int) (w : World) (h : RE w b s a x) (hs : s.size ≤ 9223372036854775807) (ha : x = 0 → a ≤ s.size) :
    Calls Tryz.prog 61 #[.pointer (some ⟨b, 0, none⟩)] w fun e w' => e = .returned (.int .i64 (endV s a x)) ∧ Below w.heap.size w w' := by
  by_cases hx : x = 0
  · subst hx; exact end_ok b s a w h.ok hs (ha rfl)
  · obtain ⟨a', h'⟩ := RE.err hx h
    unfold endV
    rw [if_neg hx]
    exact (end_err b s a' x w h' hx).mono fun e w' ⟨h1, h2⟩ => ⟨h1, h2 ▸ Below.refl _ _⟩
theorem xend_re (b : Nat) (s : ByteArray) (a : Nat) (x : Int) (w : World) (h : XRE w b s a x) (hs : s.size ≤ 9223372036854775807) (ha : x = 0 → a ≤ s.size) :
    Calls Tryz.prog 64 #[.pointer (some ⟨b, 0, none⟩)] w fun e w' => e = .returned (.int .i64 (endV s a x)) ∧ Below w.heap.size w w' := by
  by_cases hx : x = 0
  · subst hx; exact xrEnd_ok b s a w h.ok hs (ha rfl)
  · obtain ⟨a', h'⟩ := XRE.err hx h
    unfold endV
    rw [if_neg hx]
    exact xrEnd_err b s a' x w h' hx
/-- Where a read leaves the place. -/
theorem getR_at {s : ByteArray} {a : Int} (h : (getR s a).2.2 = 0) : 0 ≤ (getR s a).2.1 ∧ (getR s a).2.1 ≤ s.size := by
  rcases hg : getR s a with ⟨g1, g2, g3⟩
  rw [hg] at h
  simp only at h
  subst h
  exact getR_pos hg
theorem numR_at {s : ByteArray} {a x m : Int} (h : (numR s a x m).2.2 = 0) : 0 ≤ (numR s a x m).2.1 ∧ (numR s a x m).2.1 ≤ s.size := by
  by_cases hx : x = 0
  · subst hx
    have e : numR s a 0 m = ((if (upR s a m 5).2.2 = 0 then (upR s a m 5).1 else 0), (upR s a m 5).2.1, (upR s a m 5).2.2) := by unfold numR; rw [if_neg (by simp)]
    rw [e] at h ⊢
    obtain ⟨n, a2, h1, h2⟩ := upR_good (by decide) h
    rw [h1]; simp only; omega
  · rw [numR_err hx] at h; exact absurd h hx
theorem bigR_at {s : ByteArray} {a x : Int} (h : (bigR s a x).2.2 = 0) : 0 ≤ (bigR s a x).2.1 ∧ (bigR s a x).2.1 ≤ s.size := by
  by_cases hx : x = 0
  · subst hx
    have e : bigR s a 0 = ((if (getR s a).2.2 = 0 then (getR s a).1 else 0), (getR s a).2.1, (getR s a).2.2) := by unfold bigR; rw [if_neg (by simp)]
    rw [e] at h ⊢
    exact getR_at h
  · rw [bigR_err hx] at h; exact absurd h hx
theorem textR_at {s : ByteArray} {a x m : Int} (h : (textR s a x m).2.2 = 0) : 0 ≤ (textR s a x m).2.1 ∧ (textR s a x m).2.1 ≤ s.size := by
  by_cases hx : x = 0
  · subst hx
    unfold textR at h ⊢
    rw [if_neg (by simp)] at h ⊢
    by_cases hu : (upR s a m 3).2.2 = 0
    · rw [if_neg (by simp [hu])] at h ⊢
      obtain ⟨n, a2, h1, h2⟩ := upR_good (by decide) hu
      rw [h1] at h ⊢
      simp only at h ⊢
      split at h
      · simp at h
      · rw [if_neg (by assumption)]; simp only; omega
    · rw [if_pos hu] at h; exact absurd h hu
  · rw [textR_err hx] at h; exact absurd h hx
theorem flagR_at {s : ByteArray} {a : Nat} {x : Int} (ha : x = 0 → a ≤ s.size) (h : (flagR s a x).2.2 = 0) : 0 ≤ (flagR s a x).2.1 ∧ (flagR s a x).2.1 ≤ s.size := by
  by_cases hx : x = 0
  · subst hx
    have := ha rfl
    unfold flagR at h ⊢
    rw [if_neg (by simp)] at h ⊢
    split at h
    · simp at h
    rename_i h1
    rw [if_neg h1]
    split at h
    · simp at h
    rename_i h2
    rw [if_neg h2]
    simp only; omega
  · rw [flagR_err hx] at h; exact absurd h hx
end Go.Proofs.YteioaaegooebpaaGreat
