/- Put together: WireT, Obj, OpsA, OpsB, SortK, Map, MapB, MapC. Conditions: as each says. -/
import Derived.Test.YtciilfkjecmdiaaBo4
import Derived.Test.YtciilfkjecmdiaaBo1
import Derived.PlainAid
import Derived.Laws.StructEq
import Derived.Shelf.SlSortCmp.WholeK
import Derived.StringKeys
/- Package wire and the document's Reader: every call, behind an error or not. Conditions: texts of at most 2^63-1 bytes. -/
namespace Go.Proofs.Ytciilfkjecmdiaa
open Go.RowKit Go.PlainAid

theorem RE.err {w : World} {b : Nat} {s : ByteArray} {a x : Int} (hx : x ≠ 0) (h : RE w b s a x) : ∃ a', Rd w b s a' x := by unfold RE at h; rw [if_neg hx] at h; exact h
theorem RE.below {w w' : World} {b : Nat} {s : ByteArray} {a x : Int} (h : RE w b s a x) (hb : Below w.heap.size w w') : RE w' b s a x := by
  by_cases hx : x = 0
  · subst hx; exact RE.good (h.ok.below hb)
  · obtain ⟨a', h'⟩ := RE.err hx h; exact RE.bad hx (h'.below hb)
theorem RE.but {S : Nat → Prop} {w w' : World} {b : Nat} {s : ByteArray} {a x : Int} (h : RE w b s a x) (hb : But S w w') (hs : ¬ S b) : RE w' b s a x := by
  by_cases hx : x = 0
  · subst hx; exact RE.good (h.ok.but hb hs)
  · obtain ⟨a', h'⟩ := RE.err hx h; exact RE.bad hx (h'.but hb hs)
theorem RE.weak {w : World} {b : Nat} {s : ByteArray} {a a2 x : Int} (hx : x ≠ 0) (h : RE w b s a x) : RE w b s a2 x := by
  obtain ⟨a', h'⟩ := RE.err hx h; exact RE.bad hx h'
theorem RE.lt {w : World} {b : Nat} {s : ByteArray} {a x : Int} (h : RE w b s a x) : b < w.heap.size := by
  by_cases hx : x = 0
  · subst hx; exact h.ok.lt
  · obtain ⟨a', h'⟩ := RE.err hx h; exact h'.lt
theorem XRE.below {w w' : World} {b : Nat} {s : ByteArray} {a x : Int} (h : XRE w b s a x) (hb : Below w.heap.size w w') : XRE w' b s a x := by
  by_cases hx : x = 0
  · subst hx; exact XRE.good (h.ok.below hb)
  · obtain ⟨a', h'⟩ := XRE.err hx h; exact XRE.bad hx (h'.below hb)
theorem XRE.but {S : Nat → Prop} {w w' : World} {b : Nat} {s : ByteArray} {a x : Int} (h : XRE w b s a x) (hb : But S w w') (hs : ¬ S b) : XRE w' b s a x := by
  by_cases hx : x = 0
  · subst hx; exact XRE.good (h.ok.but hb hs)
  · obtain ⟨a', h'⟩ := XRE.err hx h; exact XRE.bad hx (h'.but hb hs)
theorem XRE.weak {w : World} {b : Nat} {s : ByteArray} {a a2 x : Int} (hx : x ≠ 0) (h : XRE w b s a x) : XRE w b s a2 x := by
  obtain ⟨a', h'⟩ := XRE.err hx h; exact XRE.bad hx h'
theorem XRE.cell {w : World} {b : Nat} {s : ByteArray} {a x : Int} (h : XRE w b s a x) : w.cell? ⟨b, 2, none⟩ = some (.int .i64 x) := by
  by_cases hx : x = 0
  · subst hx; exact h.ok.err
  · obtain ⟨a', h'⟩ := XRE.err hx h; exact h'.err
theorem numR_err {s : ByteArray} {a x m : Int} (hx : x ≠ 0) : numR s a x m = (0, a, x) := by unfold numR; rw [if_pos hx]
theorem bigR_err {s : ByteArray} {a x : Int} (hx : x ≠ 0) : bigR s a x = (0, a, x) := by unfold bigR; rw [if_pos hx]
theorem textR_err {s : ByteArray} {a x m : Int} (hx : x ≠ 0) : textR s a x m = (⟨#[]⟩, a, x) := by unfold textR; rw [if_pos hx]
theorem flagR_err {s : ByteArray} {a : Nat} {x : Int} (hx : x ≠ 0) : flagR s a x = (false, (a : Int), x) := by unfold flagR; rw [if_pos hx]

theorem rNum_re (b : Nat) (s : ByteArray) (a x m : Int) (w : World) (h : RE w b s a x) (hs : s.size ≤ 9223372036854775807) (hm : m ≤ 9223372036854775807) :
    Calls Try.prog 68 #[.pointer (some ⟨b, 0, none⟩), .int .i64 m] w fun e w' => e = .returned (.int .i64 (numR s a x m).1) ∧ RE w' b s (numR s a x m).2.1 (numR s a x m).2.2 ∧ But (Own b) w w' := by
  by_cases hx : x = 0
  · subst hx; exact rNum_any b s a 0 m w h.ok hs hm
  · obtain ⟨a', h'⟩ := RE.err hx h
    refine (rNum_any b s a' x m w h' hs hm).mono ?_
    rw [numR_err hx, numR_err hx]
    exact fun e w' ⟨h1, h2, h3⟩ => ⟨h1, RE.weak hx h2, h3⟩
theorem rBig_re (b : Nat) (s : ByteArray) (a x : Int) (w : World) (h : RE w b s a x) (hs : s.size ≤ 9223372036854775807) :
    Calls Try.prog 84 #[.pointer (some ⟨b, 0, none⟩)] w fun e w' => e = .returned (.int .u64 (bigR s a x).1) ∧ RE w' b s (bigR s a x).2.1 (bigR s a x).2.2 ∧ But (Own b) w w' := by
  by_cases hx : x = 0
  · subst hx; exact rBig_any b s a 0 w h.ok hs
  · obtain ⟨a', h'⟩ := RE.err hx h
    refine (rBig_any b s a' x w h' hs).mono ?_
    rw [bigR_err hx, bigR_err hx]
    exact fun e w' ⟨h1, h2, h3⟩ => ⟨h1, RE.weak hx h2, h3⟩
theorem rText_re (b : Nat) (s : ByteArray) (a x m : Int) (w : World) (h : RE w b s a x) (hs : s.size ≤ 9223372036854775807) (hm : m ≤ 9223372036854775807) :
    Calls Try.prog 69 #[.pointer (some ⟨b, 0, none⟩), .int .i64 m] w fun e w' => e = .returned (.string (textR s a x m).1) ∧ RE w' b s (textR s a x m).2.1 (textR s a x m).2.2 ∧ But (Own b) w w' := by
  by_cases hx : x = 0
  · subst hx; exact rText_any b s a 0 m w h.ok hs hm
  · obtain ⟨a', h'⟩ := RE.err hx h
    refine (rText_any b s a' x m w h' hs hm).mono ?_
    rw [textR_err hx, textR_err hx]
    exact fun e w' ⟨h1, h2, h3⟩ => ⟨h1, RE.weak hx h2, h3⟩
theorem xrNum_re (b : Nat) (s : ByteArray) (a x m : Int) (w : World) (h : XRE w b s a x) (hs : s.size ≤ 9223372036854775807) (hm : m ≤ 9223372036854775807) :
    Calls Try.prog 72 #[.pointer (some ⟨b, 0, none⟩), .int .i64 m] w fun e w' => e = .returned (.int .i64 (numR s a x m).1) ∧ XRE w' b s (numR s a x m).2.1 (numR s a x m).2.2 ∧ But (Own b) w w' := by
  by_cases hx : x = 0
  · subst hx; exact xrNum_any b s a 0 m w h.ok hs hm
  · obtain ⟨a', h'⟩ := XRE.err hx h
    refine (xrNum_any b s a' x m w h' hs hm).mono ?_
    rw [numR_err hx, numR_err hx]
    exact fun e w' ⟨h1, h2, h3⟩ => ⟨h1, XRE.weak hx h2, h3⟩
theorem xrBig_re (b : Nat) (s : ByteArray) (a x : Int) (w : World) (h : XRE w b s a x) (hs : s.size ≤ 9223372036854775807) :
    Calls Try.prog 85 #[.pointer (some ⟨b, 0, none⟩)] w fun e w' => e = .returned (.int .u64 (bigR s a x).1) ∧ XRE w' b s (bigR s a x).2.1 (bigR s a x).2.2 ∧ But (Own b) w w' := by
  by_cases hx : x = 0
  · subst hx; exact xrBig_any b s a 0 w h.ok hs
  · obtain ⟨a', h'⟩ := XRE.err hx h
    refine (xrBig_any b s a' x w h' hs).mono ?_
    rw [bigR_err hx, bigR_err hx]
    exact fun e w' ⟨h1, h2, h3⟩ => ⟨h1, XRE.weak hx h2, h3⟩
theorem xrText_re (b : Nat) (s : ByteArray) (a x m : Int) (w : World) (h : XRE w b s a x) (hs : s.size ≤ 9223372036854775807) (hm : m ≤ 9223372036854775807) :
    Calls Try.prog 73 #[.pointer (some ⟨b, 0, none⟩), .int .i64 m] w fun e w' => e = .returned (.string (textR s a x m).1) ∧ XRE w' b s (textR s a x m).2.1 (textR s a x m).2.2 ∧ But (Own b) w w' := by
  by_cases hx : x = 0
  · subst hx; exact xrText_any b s a 0 m w h.ok hs hm
  · obtain ⟨a', h'⟩ := XRE.err hx h
    refine (xrText_any b s a' x m w h' hs hm).mono ?_
    rw [textR_err hx, textR_err hx]
    exact fun e w' ⟨h1, h2, h3⟩ => ⟨h1, XRE.weak hx h2, h3⟩
set_option maxRecDepth 100000 in
set_option maxHeartbeats 1600000 in
theorem rFlag_err (b : Nat) (s : ByteArray) (a x : Int) (w : World) (h : Rd w b s a x) (hx : x ≠ 0) :
    Calls Try.prog 70 #[.pointer (some ⟨b, 0, none⟩)] w fun e w' => e = .returned (.bool false) ∧ RE w' b s a x ∧ But (Own b) w w' := by
  have hmf : ∀ (fn : Fn) (first cap : Array Value) (w : World), (Instr.makeFunc fn first cap).run Try.prog w = .ok (.func fn first cap) w := fun _ _ _ _ => rfl
  obtain ⟨W, hW⟩ : ∃ W, W = ((w.alloc (.cells #[.pointer (some ⟨b, 0, none⟩)] 101)).alloc (.cells #[.bool false] 4)) := ⟨_, rfl⟩
  have hl := lay2 w (.pointer (some ⟨b, 0, none⟩)) (.bool false) 101 4
  rw [← hW] at hl
  obtain ⟨l0, l1, l3, l4⟩ := hl
  have H1 := Lib.hid (h.below l0)
  have HB := Lib.hid (But.of_below (S := Own b) l0)
  have hlt := h.lt
  have HW := Lib.hid hW; have M3 := Lib.hid l3
  clear h l0 l1 l3 l4
  go_enter Try.func70, Try.ntmps70
  go_wp2_with fail
  rw [← HW.out]
  refine (take_err b s a x _ _ H1.out hx).mono ?_
  rintro e w1 ⟨rfl, r1⟩
  have c3 := cell_below r1 M3.out
  have R2 : Hid (RE w1 b s a x) := Lib.hid (RE.bad hx (H1.out.below r1))
  have R3 := Lib.hid (HB.out.trans (But.of_below r1))
  clear r1
  go_wp2
  go_ret
  exact ⟨rfl, R2.out, R3.out⟩
set_option maxRecDepth 100000 in
set_option maxHeartbeats 1600000 in
theorem xrFlag_err (b : Nat) (s : ByteArray) (a x : Int) (w : World) (h : XRd w b s a x) (hx : x ≠ 0) :
    Calls Try.prog 74 #[.pointer (some ⟨b, 0, none⟩)] w fun e w' => e = .returned (.bool false) ∧ XRE w' b s a x ∧ But (Own b) w w' := by
  have H := Lib.hid h
  have c2 := h.err
  have hn1 : (x == 0) = false := by simp [hx]
  have hn2 : (x != 0) = true := by simp [hx]
  have HX := Lib.hid hx
  clear h hx
  go_enter Try.func74, Try.ntmps74
  go_wp2_with fail
  go_quiet (fail)
  go_wp2_with fail
  go_quiet (fail)
  go_wp2
  go_ret
  exact ⟨rfl, XRE.bad HX.out (H.out.below (below_draws (Below.refl _ _) _)), (But.refl _ _).draws _⟩
theorem rFlag_re (b : Nat) (s : ByteArray) (a : Nat) (x : Int) (w : World) (h : RE w b s a x) (hs : s.size ≤ 9223372036854775807) (ha : x = 0 → a ≤ s.size) :
    Calls Try.prog 70 #[.pointer (some ⟨b, 0, none⟩)] w fun e w' => e = .returned (.bool (flagR s a x).1) ∧ RE w' b s (flagR s a x).2.1 (flagR s a x).2.2 ∧ But (Own b) w w' := by
  by_cases hx : x = 0
  · subst hx; exact rFlag_any b s a 0 w h.ok hs (ha rfl)
  · obtain ⟨a', h'⟩ := RE.err hx h
    rw [flagR_err hx]
    exact (rFlag_err b s a' x w h' hx).mono fun e w' ⟨h1, h2, h3⟩ => ⟨h1, RE.weak hx h2, h3⟩
theorem xrFlag_re (b : Nat) (s : ByteArray) (a : Nat) (x : Int) (w : World) (h : XRE w b s a x) (hs : s.size ≤ 9223372036854775807) (ha : x = 0 → a ≤ s.size) :
    Calls Try.prog 74 #[.pointer (some ⟨b, 0, none⟩)] w fun e w' => e = .returned (.bool (flagR s a x).1) ∧ XRE w' b s (flagR s a x).2.1 (flagR s a x).2.2 ∧ But (Own b) w w' := by
  by_cases hx : x = 0
  · subst hx; exact xrFlag_any b s a 0 w h.ok hs (ha rfl)
  · obtain ⟨a', h'⟩ := XRE.err hx h
    rw [flagR_err hx]
    exact (xrFlag_err b s a' x w h' hx).mono fun e w' ⟨h1, h2, h3⟩ => ⟨h1, XRE.weak hx h2, h3⟩
/-- What is left; what the end says. -/
def leftV (s : ByteArray) (a : Nat) (x : Int) : Int := if x = 0 then (s.size : Int) - a else 0
def endV (s : ByteArray) (a : Nat) (x : Int) : Int := if x = 0 then (if a < s.size then 4 else 0) else x
theorem err_re (b : Nat) (s : ByteArray) (a x : Int) (w : World) (h : RE w b s a x) :
    Calls Try.prog 105 #[.pointer (some ⟨b, 0, none⟩)] w fun e w' => e = .returned (.int .i64 x) ∧ w = w' := by
  by_cases hx : x = 0
  · subst hx; exact err_made b s a 0 w h.ok
  · obtain ⟨a', h'⟩ := RE.err hx h; exact err_made b s a' x w h'
theorem left_re (b : Nat) (s : ByteArray) (a : Nat) (x : Int) (w : World) (h : RE w b s a x) (hs : s.size ≤ 9223372036854775807) (ha : x = 0 → a ≤ s.size) :
    Calls Try.prog 104 #[.pointer (some ⟨b, 0, none⟩)] w fun e w' => e = .returned (.int .i64 (leftV s a x)) ∧ Below w.heap.size w w' := by
  by_cases hx : x = 0
  · subst hx; exact left_ok b s a w h.ok hs (ha rfl)
  · obtain ⟨a', h'⟩ := RE.err hx h
    unfold leftV
    rw [if_neg hx]
    exact (left_err b s a' x w h' hx).mono fun e w' ⟨h1, h2⟩ => ⟨h1, h2 ▸ Below.refl _ _⟩
theorem end_re (b : Nat) (s : ByteArray) (a : Nat) (x : Int) (w : World) (h : RE w b s a x) (hs : s.size ≤ 9223372036854775807) (ha : x = 0 → a ≤ s.size) :
    Calls Try.prog 71 #[.pointer (some ⟨b, 0, none⟩)] w fun e w' => e = .returned (.int .i64 (endV s a x)) ∧ Below w.heap.size w w' := by
  by_cases hx : x = 0
  · subst hx; exact end_ok b s a w h.ok hs (ha rfl)
  · obtain ⟨a', h'⟩ := RE.err hx h
    unfold endV
    rw [if_neg hx]
    exact (end_err b s a' x w h' hx).mono fun e w' ⟨h1, h2⟩ => ⟨h1, h2 ▸ Below.refl _ _⟩
theorem xend_re (b : Nat) (s : ByteArray) (a : Nat) (x : Int) (w : World) (h : XRE w b s a x) (hs : s.size ≤ 9223372036854775807) (ha : x = 0 → a ≤ s.size) :
    Calls Try.prog 75 #[.pointer (some ⟨b, 0, none⟩)] w fun e w' => e = .returned (.int .i64 (endV s a x)) ∧ Below w.heap.size w w' := by
  by_cases hx : x = 0
  · subst hx; exact xrEnd_ok b s a w h.ok hs (ha rfl)
  · obtain ⟨a', h'⟩ := XRE.err hx h
    unfold endV
    rw [if_neg hx]
    exact xrEnd_err b s a' x w h' hx
/-- Where a read leaves the place. -/
theorem getR_at {s : ByteArray} {a : Int} (h : (getR s a).2.2 = 0) : 0 ≤ (getR s a).2.1 ∧ (getR s a).2.1 ≤ s.size := by
  rcases hg : getR s a with ⟨g1, g2, g3⟩
  rw [hg] at h
  simp only at h
  subst h
  exact getR_pos hg
theorem numR_at {s : ByteArray} {a x m : Int} (h : (numR s a x m).2.2 = 0) : 0 ≤ (numR s a x m).2.1 ∧ (numR s a x m).2.1 ≤ s.size := by
  by_cases hx : x = 0
  · subst hx
    have e : numR s a 0 m = ((if (upR s a m 5).2.2 = 0 then (upR s a m 5).1 else 0), (upR s a m 5).2.1, (upR s a m 5).2.2) := by unfold numR; rw [if_neg (by simp)]
    rw [e] at h ⊢
    obtain ⟨n, a2, h1, h2⟩ := upR_good (by decide) h
    rw [h1]; simp only; omega
  · rw [numR_err hx] at h; exact absurd h hx
theorem bigR_at {s : ByteArray} {a x : Int} (h : (bigR s a x).2.2 = 0) : 0 ≤ (bigR s a x).2.1 ∧ (bigR s a x).2.1 ≤ s.size := by
  by_cases hx : x = 0
  · subst hx
    have e : bigR s a 0 = ((if (getR s a).2.2 = 0 then (getR s a).1 else 0), (getR s a).2.1, (getR s a).2.2) := by unfold bigR; rw [if_neg (by simp)]
    rw [e] at h ⊢
    exact getR_at h
  · rw [bigR_err hx] at h; exact absurd h hx
theorem textR_at {s : ByteArray} {a x m : Int} (h : (textR s a x m).2.2 = 0) : 0 ≤ (textR s a x m).2.1 ∧ (textR s a x m).2.1 ≤ s.size := by
  by_cases hx : x = 0
  · subst hx
    unfold textR at h ⊢
    rw [if_neg (by simp)] at h ⊢
    by_cases hu : (upR s a m 3).2.2 = 0
    · rw [if_neg (by simp [hu])] at h ⊢
      obtain ⟨n, a2, h1, h2⟩ := upR_good (by decide) hu
      rw [h1] at h ⊢
      simp only at h ⊢
      split at h
      · simp at h
      · rw [if_neg (by assumption)]; simp only; omega
    · rw [if_pos hu] at h; exact absurd h hu
  · rw [textR_err hx] at h; exact absurd h hx
theorem flagR_at {s : ByteArray} {a : Nat} {x : Int} (ha : x = 0 → a ≤ s.size) (h : (flagR s a x).2.2 = 0) : 0 ≤ (flagR s a x).2.1 ∧ (flagR s a x).2.1 ≤ s.size := by
  by_cases hx : x = 0
  · subst hx
    have := ha rfl
    unfold flagR at h ⊢
    rw [if_neg (by simp)] at h ⊢
    split at h
    · simp at h
    rename_i h1
    rw [if_neg h1]
    split at h
    · simp at h
    rename_i h2
    rw [if_neg h2]
    simp only; omega
  · rw [flagR_err hx] at h; exact absurd h hx
end Go.Proofs.Ytciilfkjecmdiaa

/- Writers and readers that a walk has made: what they hold, what a call on them turns. Conditions: none. -/
namespace Go.Proofs.Ytciilfkjecmdiaa
open Go.RowKit Go.PlainAid
set_option linter.unusedVariables false

section
variable {w x w0 : World} {b N : Nat} {l l' : List UInt8} {m m' : Nat} {e : Int}
theorem but_grown (h : But (Own b) w x) : w.grownBy x (some b) := ⟨h.os, h.tape, h.output, h.size, fun k hk hne => h.block k hk (fun e => hne (by rw [show k = b from e]))⟩
theorem grown_but {row : Option Nat} (h : w.grownBy x row) : But (fun k => row = some k) w x := ⟨h.os, h.tape, h.output, h.size, fun k hk hn => h.block k hk (fun e => hn e.symm)⟩
theorem Wr.lt' {B : Nat} (h : Wr w b B l e) : b < w.heap.size := World.block_lt_of_cell? w _ h.made
theorem Wr.keep {S : Nat → Prop} {B : Nat} (h : Wr w b B l e) (hb : But S w x) (hs : ¬ S b) (hr : ∀ k, rowOf w b = some k → ¬ S k) : Wr x b B l e := by
  have hl := h.lt'
  obtain ⟨v, hc, h1, h2⟩ := h.buf
  have hr' : ∀ k, v.ownBlock = some k → ¬ S k := fun k hk => hr k (by rw [rowOf_cell hc]; exact hk)
  refine ⟨hb.cell hs h.made, hb.cell hs h.err, by rw [hb.frozen hl hs]; exact h.fr1, by rw [hb.frozen hl hs]; exact h.fr2, h.lt, Nat.le_trans h.le hb.size, v, hb.cell hs hc, h1, ?_⟩
  rcases h2 with h2 | ⟨g, cap, cur, hv, hg, hh, r⟩
  · exact Or.inl h2
  · exact Or.inr ⟨g, cap, cur, hv, hg, by rw [hb.block g (Array.getElem?_eq_some_iff.1 hh).1 (hr' g (by rw [hv]; rfl))]; exact hh, r⟩
theorem Wr.row_is {B : Nat} (h : Wr w b B l e) {k : Nat} (hk : rowOf w b = some k) : ∃ cs, w.heap[k]? = some (.cells cs 5 (0, 0)) := by
  obtain ⟨v, hc, h1, h2⟩ := h.buf
  rw [rowOf_cell hc] at hk
  rcases h2 with ⟨hv, _⟩ | ⟨g, cap, cur, hv, hg, hh, r⟩
  · rw [hv] at hk; cases hk
  · rw [hv] at hk
    have : g = k := by simpa [Value.ownBlock] using hk
    subst this; exact ⟨cur, hh⟩
theorem Wr.ne_blk {B : Nat} {T : TypeId} {cs : Array Value} (h : Wr w b B l e) (hk : Blk w N T cs) (hT : T ≠ 5) : rowOf w b ≠ some N := fun e1 => by
  obtain ⟨c, h1⟩ := h.row_is e1
  unfold Blk at hk
  rw [hk] at h1
  injection h1 with h1; injection h1 with h2 h3
  exact hT h3
theorem Wr.ne_row {B B' k sz : Nat} {T : TypeId} {v : Value} {xs : List Value} (h : Wr w b B l e) (hr : w.ownsRow B' T sz v k xs) (hT : T ≠ 5) : ∀ g, v.ownBlock = some g → rowOf w b ≠ some g := fun g hg e1 => by
  obtain ⟨c, h1⟩ := h.row_is e1
  rcases hr.2 with ⟨hv, _⟩ | ⟨g', cap, cur, hv, _, hh, _⟩
  · rw [hv] at hg; cases hg
  · rw [hv] at hg
    have : g' = g := by simpa [Value.ownBlock] using hg
    subst this
    rw [hh] at h1
    injection h1 with h1; injection h1 with h2 h3
    exact hT h3
/-- The program's writer, block b: l, of at most m bytes, and no error. -/
structure OW (b : Nat) (l : List UInt8) (m : Nat) (w : World) : Prop where
  wr : Wr w b (b + 1) l 0
  len : l.length ≤ m
theorem OW.lt (h : OW b l m w) : b < w.heap.size := h.wr.lt'
theorem OW.below (h : OW b l m w) (hb : Below w.heap.size w x) : OW b l m x := ⟨h.wr.below hb, h.len⟩
theorem OW.new (h : OW b l m w) (hg : w.grownBy x none) : OW b l m x := h.below (grown_below hg)
theorem OW.eq (h : OW b l m w) (he : l = l') (hm : m ≤ m') : OW b l' m' w := by subst he; exact ⟨h.wr, Nat.le_trans h.len hm⟩
theorem OW.at {T : TypeId} {cs : Array Value} (h : OW b l m w) (hk : Blk w N T cs) (hT : T ≠ 5) (hne : b ≠ N) (hg : w.grownBy x (some N)) : OW b l m x :=
  ⟨h.wr.keep (grown_but hg) (fun e1 => hne (Option.some.inj e1).symm) (fun k hk' e1 => h.wr.ne_blk hk hT (by rw [hk']; exact e1.symm)), h.len⟩
theorem OW.row {B' k sz : Nat} {T : TypeId} {v : Value} {xs : List Value} (h : OW b l m w) (hr : w.ownsRow B' T sz v k xs) (hT : T ≠ 5) (hne : v.ownBlock ≠ some b) (hg : w.grownBy x v.ownBlock) : OW b l m x :=
  ⟨h.wr.keep (grown_but hg) hne (fun k hk' e1 => h.wr.ne_row hr hT k e1 hk'), h.len⟩
theorem blk_wr {T : TypeId} {cs : Array Value} (hk : Blk w N T cs) (h : OW b l m w) (hT : T ≠ 5) (hne : N ≠ b) (hb : But (Rw w b) w x) : Blk x N T cs := by
  have hl := hk.lt
  unfold Blk at hk ⊢
  rw [hb.block N hl ?_]
  · exact hk
  · rintro (h1 | h1)
    · exact hne h1
    · exact h.wr.ne_blk hk hT h1
theorem row_wr {B' k sz : Nat} {T : TypeId} {v : Value} {xs : List Value} (hr : w.ownsRow B' T sz v k xs) (h : OW b l m w) (hT : T ≠ 5) (hne : v.ownBlock ≠ some b) (hb : But (Rw w b) w x) : x.ownsRow B' T sz v k xs := by
  have hn := h.wr.ne_row hr hT
  obtain ⟨h1, h2⟩ := hr
  refine ⟨h1, ?_⟩
  rcases h2 with h2 | ⟨g, cap, cur, hv, hg, hh, r⟩
  · exact Or.inl h2
  · refine Or.inr ⟨g, cap, cur, hv, hg, ?_, r⟩
    have hvg : v.ownBlock = some g := by rw [hv]; rfl
    rw [hb.block g (Array.getElem?_eq_some_iff.1 hh).1 ?_]
    · exact hh
    · rintro (e1 | e1)
      · exact hne (by rw [hvg, e1])
      · exact hn g hvg e1
theorem hb_wr (h0 : Below w0.heap.size w0 w) (h : OW b l m w) (hlt : w0.heap.size ≤ b) (hb : But (Rw w b) w x) : Below w0.heap.size w0 x :=
  below_but h0 hb h0.size (fun k _ hk => by
    rcases h.wr.only hk with h1 | h1 <;> omega)
theorem sum_le {k q : Nat} (h : l.length ≤ m) (hk : l'.length ≤ k) (hq : q = m + k) : (l ++ l').length ≤ q := by rw [List.length_append]; omega
theorem ow_new (w : World) : Calls Try.prog 55 #[] w fun e w' => ∃ b, e = .returned (.pointer (some ⟨b, 0, none⟩)) ∧ b = w.heap.size ∧ OW b [] 0 w' ∧ Below w.heap.size w w' :=
  (wnew_any w).mono (by
    rintro e x ⟨rfl, hf, hz, hb⟩
    exact ⟨_, rfl, rfl, ⟨hf.wr (Below.refl _ _) (Nat.lt_succ_self _) (by omega), by simp⟩, hb⟩)
theorem ow_num (b : Nat) (l : List UInt8) (m : Nat) (n : Int) (w : World) (h : OW b l m w) (hm : m ≤ 140737488355000) (h0 : 0 ≤ n) (h1 : n ≤ 9223372036854775807) :
    Calls Try.prog 56 #[.pointer (some ⟨b, 0, none⟩), .int .i64 n] w fun e w' => e = .returned (.pointer (some ⟨b, 0, none⟩)) ∧ OW b (l ++ putL n) (m + 9) w' ∧ But (Rw w b) w w' :=
  (wNum_rw b (b + 1) l 0 n w h.wr (Nat.le_trans h.len hm) h1).mono (by
    rintro e x ⟨rfl, hw, hb⟩
    have e1 : wNum n (l, 0) = (l ++ putL n, 0) := by unfold wNum; rw [if_neg (by simp), if_neg (by omega)]
    rw [e1] at hw
    exact ⟨rfl, ⟨hw, sum_le h.len (putL_le n) rfl⟩, hb⟩)
theorem ow_big (b : Nat) (l : List UInt8) (m : Nat) (n : Int) (w : World) (h : OW b l m w) (hm : m ≤ 140737488355000) (h0 : 0 ≤ n) (h1 : n < 18446744073709551616) :
    Calls Try.prog 81 #[.pointer (some ⟨b, 0, none⟩), .int .u64 n] w fun e w' => e = .returned (.pointer (some ⟨b, 0, none⟩)) ∧ OW b (l ++ putL n) (m + 9) w' ∧ But (Rw w b) w w' :=
  (wBig_rw b (b + 1) l 0 n w h.wr (Nat.le_trans h.len hm) h0 h1).mono (by
    rintro e x ⟨rfl, hw, hb⟩
    have e1 : wBig n (l, 0) = (l ++ putL n, 0) := by unfold wBig; rw [if_neg (by simp)]
    rw [e1] at hw
    exact ⟨rfl, ⟨hw, sum_le h.len (putL_le n) rfl⟩, hb⟩)
theorem ow_text (b : Nat) (l : List UInt8) (m : Nat) (s : ByteArray) (w : World) (h : OW b l m w) (hm : m + s.size ≤ 140737488355000) :
    Calls Try.prog 57 #[.pointer (some ⟨b, 0, none⟩), .string s] w fun e w' => e = .returned (.pointer (some ⟨b, 0, none⟩)) ∧ OW b (l ++ (putL (s.size : Int) ++ s.data.toList)) (m + (9 + s.size)) w' ∧ But (Rw w b) w w' :=
  (wText_rw b (b + 1) l 0 s w h.wr (by have := h.len; omega)).mono (by
    rintro e x ⟨rfl, hw, hb⟩
    have e1 : wText s (l, 0) = (l ++ (putL (s.size : Int) ++ s.data.toList), 0) := by unfold wText; rw [if_neg (by simp), List.append_assoc]
    rw [e1] at hw
    exact ⟨rfl, ⟨hw, sum_le h.len (sum_le (putL_le _) (Nat.le_refl _) rfl) (by simp)⟩, hb⟩)
theorem ow_flag (b : Nat) (l : List UInt8) (m : Nat) (f : Bool) (w : World) (h : OW b l m w) (hm : m ≤ 140737488355000) :
    Calls Try.prog 58 #[.pointer (some ⟨b, 0, none⟩), .bool f] w fun e w' => e = .returned (.pointer (some ⟨b, 0, none⟩)) ∧ OW b (l ++ [flagB f]) (m + 1) w' ∧ But (Rw w b) w w' :=
  (wFlag_rw b (b + 1) l 0 f w h.wr (Nat.le_trans h.len hm)).mono (by
    rintro e x ⟨rfl, hw, hb⟩
    have e1 : wFlag f (l, 0) = (l ++ [flagB f], 0) := by unfold wFlag; rw [if_neg (by simp)]
    rw [e1] at hw
    exact ⟨rfl, ⟨hw, sum_le h.len (k := 1) (by simp) rfl⟩, hb⟩)
theorem ow_done (b : Nat) (l : List UInt8) (m : Nat) (w : World) (h : OW b l m w) :
    Calls Try.prog 59 #[.pointer (some ⟨b, 0, none⟩)] w fun e w' => e = .returned (.tuple #[.string ⟨l.toArray⟩, .int .i64 0]) ∧ Below w.heap.size w w' :=
  (wDone_ok b (b + 1) l w h.wr).mono (by rintro e x ⟨rfl, rfl⟩; exact ⟨rfl, Below.refl _ _⟩)
/-- The document's own writer. -/
structure OX (b : Nat) (l : List UInt8) (m : Nat) (w : World) : Prop where
  wr : RWr w b l 0
  len : l.length ≤ m
theorem OX.lt (h : OX b l m w) : b < w.heap.size := h.wr.lt
theorem OX.below (h : OX b l m w) (hb : Below w.heap.size w x) : OX b l m x := ⟨h.wr.below hb, h.len⟩
theorem OX.new (h : OX b l m w) (hg : w.grownBy x none) : OX b l m x := h.below (grown_below hg)
theorem OX.eq (h : OX b l m w) (he : l = l') (hm : m ≤ m') : OX b l' m' w := by subst he; exact ⟨h.wr, Nat.le_trans h.len hm⟩
theorem OX.at (h : OX b l m w) (hne : b ≠ N) (hg : w.grownBy x (some N)) : OX b l m x := ⟨h.wr.but (grown_but hg) (fun e1 => hne (Option.some.inj e1).symm), h.len⟩
theorem OX.row {v : Value} (h : OX b l m w) (hne : v.ownBlock ≠ some b) (hg : w.grownBy x v.ownBlock) : OX b l m x := ⟨h.wr.but (grown_but hg) hne, h.len⟩
theorem ox_of (h : Blk w b 94 #[.string ⟨#[]⟩, .int .i64 0]) : OX b [] 0 w := ⟨⟨h.cell rfl, h.cell rfl, h.frozen _, h.frozen _⟩, by simp⟩
theorem ox_num (b : Nat) (l : List UInt8) (m : Nat) (n : Int) (w : World) (h : OX b l m w) (hm : m ≤ 140737488355000) (h0 : 0 ≤ n) (h1 : n ≤ 9223372036854775807) :
    Calls Try.prog 60 #[.pointer (some ⟨b, 0, none⟩), .int .i64 n] w fun e w' => e = .returned (.tuple #[]) ∧ OX b (l ++ putL n) (m + 9) w' ∧ w.grownBy w' (some b) :=
  (xNum_any b l 0 n w h.wr (Nat.le_trans h.len hm) h1).mono (by
    rintro e x ⟨rfl, hw, hb⟩
    have e1 : wNum n (l, 0) = (l ++ putL n, 0) := by unfold wNum; rw [if_neg (by simp), if_neg (by omega)]
    rw [e1] at hw
    exact ⟨rfl, ⟨hw, sum_le h.len (putL_le n) rfl⟩, but_grown hb⟩)
theorem ox_big (b : Nat) (l : List UInt8) (m : Nat) (n : Int) (w : World) (h : OX b l m w) (hm : m ≤ 140737488355000) (h0 : 0 ≤ n) (h1 : n < 18446744073709551616) :
    Calls Try.prog 82 #[.pointer (some ⟨b, 0, none⟩), .int .u64 n] w fun e w' => e = .returned (.tuple #[]) ∧ OX b (l ++ putL n) (m + 9) w' ∧ w.grownBy w' (some b) :=
  (xBig_any b l 0 n w h.wr (Nat.le_trans h.len hm) h0 h1).mono (by
    rintro e x ⟨rfl, hw, hb⟩
    have e1 : wBig n (l, 0) = (l ++ putL n, 0) := by unfold wBig; rw [if_neg (by simp)]
    rw [e1] at hw
    exact ⟨rfl, ⟨hw, sum_le h.len (putL_le n) rfl⟩, but_grown hb⟩)
theorem ox_text (b : Nat) (l : List UInt8) (m : Nat) (s : ByteArray) (w : World) (h : OX b l m w) (hm : m + s.size ≤ 140737488355000) :
    Calls Try.prog 61 #[.pointer (some ⟨b, 0, none⟩), .string s] w fun e w' => e = .returned (.tuple #[]) ∧ OX b (l ++ (putL (s.size : Int) ++ s.data.toList)) (m + (9 + s.size)) w' ∧ w.grownBy w' (some b) :=
  (xText_any b l 0 s w h.wr (by have := h.len; omega)).mono (by
    rintro e x ⟨rfl, hw, hb⟩
    have e1 : wText s (l, 0) = (l ++ (putL (s.size : Int) ++ s.data.toList), 0) := by unfold wText; rw [if_neg (by simp), List.append_assoc]
    rw [e1] at hw
    exact ⟨rfl, ⟨hw, sum_le h.len (sum_le (putL_le _) (Nat.le_refl _) rfl) (by simp)⟩, but_grown hb⟩)
theorem ox_flag (b : Nat) (l : List UInt8) (m : Nat) (f : Bool) (w : World) (h : OX b l m w) (hm : m ≤ 140737488355000) :
    Calls Try.prog 62 #[.pointer (some ⟨b, 0, none⟩), .bool f] w fun e w' => e = .returned (.tuple #[]) ∧ OX b (l ++ [flagB f]) (m + 1) w' ∧ w.grownBy w' (some b) :=
  (xFlag_any b l 0 f w h.wr (Nat.le_trans h.len hm)).mono (by
    rintro e x ⟨rfl, hw, hb⟩
    have e1 : wFlag f (l, 0) = (l ++ [flagB f], 0) := by unfold wFlag; rw [if_neg (by simp)]
    rw [e1] at hw
    exact ⟨rfl, ⟨hw, sum_le h.len (k := 1) (by simp) rfl⟩, but_grown hb⟩)
theorem ox_done (b : Nat) (l : List UInt8) (m : Nat) (w : World) (h : OX b l m w) :
    Calls Try.prog 63 #[.pointer (some ⟨b, 0, none⟩)] w fun e w' => e = .returned (.tuple #[.string ⟨l.toArray⟩, .int .i64 0]) ∧ Below w.heap.size w w' :=
  (xDone_any b l 0 w h.wr).mono (by rintro e x ⟨rfl, hb⟩; exact ⟨by rw [if_pos rfl], hb⟩)
end

section
variable {w x : World} {b N : Nat} {s : ByteArray} {a e : Int}
/-- The program's reader: it stands at a (if it has no error), its error is e. -/
structure OR (b : Nat) (s : ByteArray) (a e : Int) (w : World) : Prop where
  re : RE w b s a e
  pos : e = 0 → 0 ≤ a ∧ a ≤ s.size
theorem OR.lt (h : OR b s a e w) : b < w.heap.size := h.re.lt
theorem OR.below (h : OR b s a e w) (hb : Below w.heap.size w x) : OR b s a e x := ⟨h.re.below hb, h.pos⟩
theorem OR.new (h : OR b s a e w) (hg : w.grownBy x none) : OR b s a e x := h.below (grown_below hg)
theorem OR.at (h : OR b s a e w) (hne : b ≠ N) (hg : w.grownBy x (some N)) : OR b s a e x := ⟨h.re.but (grown_but hg) (fun e1 => hne (Option.some.inj e1).symm), h.pos⟩
theorem OR.row {v : Value} (h : OR b s a e w) (hne : v.ownBlock ≠ some b) (hg : w.grownBy x v.ownBlock) : OR b s a e x := ⟨h.re.but (grown_but hg) hne, h.pos⟩
theorem OR.nat (h : OR b s a e w) : RE w b s (a.toNat : Int) e ∧ (e = 0 → a.toNat ≤ s.size) := by
  by_cases he : e = 0
  · have := h.pos he
    have e1 : (a.toNat : Int) = a := by omega
    rw [e1]; exact ⟨h.re, fun _ => by omega⟩
  · exact ⟨h.re.weak he, fun h1 => absurd h1 he⟩
theorem or_open (s : ByteArray) (w : World) : Calls Try.prog 67 #[.string s] w fun e w' => ∃ b, e = .returned (.pointer (some ⟨b, 0, none⟩)) ∧ b = w.heap.size ∧ OR b s 0 0 w' ∧ Below w.heap.size w w' :=
  (open_any s w).mono (by rintro e x ⟨rfl, hr, hb⟩; exact ⟨_, rfl, rfl, ⟨RE.good hr, fun _ => by omega⟩, hb⟩)
theorem upR_le {s : ByteArray} {a m x : Int} (hm : 0 ≤ m) : 0 ≤ (upR s a m x).1 ∧ (upR s a m x).1 ≤ m := by
  have := getR_range s a
  unfold upR
  split
  · exact ⟨Int.le_refl _, hm⟩
  split
  · exact ⟨Int.le_refl _, hm⟩
  · dsimp only; omega
theorem numR_le {s : ByteArray} {a x m : Int} (hm : 0 ≤ m) : 0 ≤ (numR s a x m).1 ∧ (numR s a x m).1 ≤ m := by
  have := upR_le (s := s) (a := a) (x := 5) hm
  unfold numR
  split
  · exact ⟨Int.le_refl _, hm⟩
  · dsimp only; split
    · exact this
    · exact ⟨Int.le_refl _, hm⟩
theorem textR_le {s : ByteArray} {a x m : Int} (hm : 0 ≤ m) : ((textR s a x m).1.size : Int) ≤ m := by
  have := upR_le (s := s) (a := a) (x := 3) hm
  unfold textR
  split
  · exact hm
  split
  · exact hm
  split
  · exact hm
  · dsimp only
    rw [ByteArray.size_extract]; omega
theorem or_num (b : Nat) (s : ByteArray) (a e m : Int) (w : World) (h : OR b s a e w) (hs : s.size ≤ 9223372036854775807) (h0 : 0 ≤ m) (hm : m ≤ 9223372036854775807) :
    Calls Try.prog 68 #[.pointer (some ⟨b, 0, none⟩), .int .i64 m] w fun e1 w' => ∃ n a' e', e1 = .returned (.int .i64 n) ∧ numR s a e m = (n, a', e') ∧ 0 ≤ n ∧ n ≤ m ∧ OR b s a' e' w' ∧ w.grownBy w' (some b) :=
  (rNum_re b s a e m w h.re hs hm).mono (by
    rintro e1 x ⟨rfl, hw, hb⟩
    exact ⟨_, _, _, rfl, rfl, (numR_le h0).1, (numR_le h0).2, ⟨hw, numR_at⟩, but_grown hb⟩)
theorem or_text (b : Nat) (s : ByteArray) (a e m : Int) (w : World) (h : OR b s a e w) (hs : s.size ≤ 9223372036854775807) (h0 : 0 ≤ m) (hm : m ≤ 9223372036854775807) :
    Calls Try.prog 69 #[.pointer (some ⟨b, 0, none⟩), .int .i64 m] w fun e1 w' => ∃ t a' e', e1 = .returned (.string t) ∧ textR s a e m = (t, a', e') ∧ (t.size : Int) ≤ m ∧ OR b s a' e' w' ∧ w.grownBy w' (some b) :=
  (rText_re b s a e m w h.re hs hm).mono (by
    rintro e1 x ⟨rfl, hw, hb⟩
    exact ⟨_, _, _, rfl, rfl, textR_le h0, ⟨hw, textR_at⟩, but_grown hb⟩)
theorem or_flag (b : Nat) (s : ByteArray) (a e : Int) (w : World) (h : OR b s a e w) (hs : s.size ≤ 9223372036854775807) :
    Calls Try.prog 70 #[.pointer (some ⟨b, 0, none⟩)] w fun e1 w' => ∃ f a' e', e1 = .returned (.bool f) ∧ flagR s a.toNat e = (f, a', e') ∧ OR b s a' e' w' ∧ w.grownBy w' (some b) :=
  (rFlag_re b s a.toNat e w h.nat.1 hs h.nat.2).mono (by
    rintro e1 x ⟨rfl, hw, hb⟩
    exact ⟨_, _, _, rfl, rfl, ⟨hw, flagR_at h.nat.2⟩, but_grown hb⟩)
theorem or_end (b : Nat) (s : ByteArray) (a e : Int) (w : World) (h : OR b s a e w) (hs : s.size ≤ 9223372036854775807) :
    Calls Try.prog 71 #[.pointer (some ⟨b, 0, none⟩)] w fun e1 w' => ∃ r, e1 = .returned (.int .i64 r) ∧ endV s a.toNat e = r ∧ Below w.heap.size w w' :=
  (end_re b s a.toNat e w h.nat.1 hs h.nat.2).mono (by
    rintro e1 x ⟨rfl, hb⟩
    exact ⟨_, rfl, rfl, hb⟩)
/-- The document's own reader. -/
structure OXR (b : Nat) (s : ByteArray) (a e : Int) (w : World) : Prop where
  re : XRE w b s a e
  pos : e = 0 → 0 ≤ a ∧ a ≤ s.size
theorem XRE.lt (h : XRE w b s a e) : b < w.heap.size := World.block_lt_of_cell? w _ h.cell
theorem OXR.lt (h : OXR b s a e w) : b < w.heap.size := h.re.lt
theorem OXR.below (h : OXR b s a e w) (hb : Below w.heap.size w x) : OXR b s a e x := ⟨h.re.below hb, h.pos⟩
theorem OXR.new (h : OXR b s a e w) (hg : w.grownBy x none) : OXR b s a e x := h.below (grown_below hg)
theorem OXR.at (h : OXR b s a e w) (hne : b ≠ N) (hg : w.grownBy x (some N)) : OXR b s a e x := ⟨h.re.but (grown_but hg) (fun e1 => hne (Option.some.inj e1).symm), h.pos⟩
theorem OXR.row {v : Value} (h : OXR b s a e w) (hne : v.ownBlock ≠ some b) (hg : w.grownBy x v.ownBlock) : OXR b s a e x := ⟨h.re.but (grown_but hg) hne, h.pos⟩
theorem OXR.nat (h : OXR b s a e w) : XRE w b s (a.toNat : Int) e ∧ (e = 0 → a.toNat ≤ s.size) := by
  by_cases he : e = 0
  · have := h.pos he
    have e1 : (a.toNat : Int) = a := by omega
    rw [e1]; exact ⟨h.re, fun _ => by omega⟩
  · exact ⟨h.re.weak he, fun h1 => absurd h1 he⟩
theorem oxr_of (h : Blk w b 108 #[.string s, .int .i64 0, .int .i64 0]) : OXR b s 0 0 w := ⟨XRE.good ⟨h.cell rfl, h.cell rfl, h.cell rfl, h.frozen _, h.frozen _⟩, fun _ => by omega⟩
theorem oxr_num (b : Nat) (s : ByteArray) (a e m : Int) (w : World) (h : OXR b s a e w) (hs : s.size ≤ 9223372036854775807) (h0 : 0 ≤ m) (hm : m ≤ 9223372036854775807) :
    Calls Try.prog 72 #[.pointer (some ⟨b, 0, none⟩), .int .i64 m] w fun e1 w' => ∃ n a' e', e1 = .returned (.int .i64 n) ∧ numR s a e m = (n, a', e') ∧ 0 ≤ n ∧ n ≤ m ∧ OXR b s a' e' w' ∧ w.grownBy w' (some b) :=
  (xrNum_re b s a e m w h.re hs hm).mono (by
    rintro e1 x ⟨rfl, hw, hb⟩
    exact ⟨_, _, _, rfl, rfl, (numR_le h0).1, (numR_le h0).2, ⟨hw, numR_at⟩, but_grown hb⟩)
theorem oxr_text (b : Nat) (s : ByteArray) (a e m : Int) (w : World) (h : OXR b s a e w) (hs : s.size ≤ 9223372036854775807) (h0 : 0 ≤ m) (hm : m ≤ 9223372036854775807) :
    Calls Try.prog 73 #[.pointer (some ⟨b, 0, none⟩), .int .i64 m] w fun e1 w' => ∃ t a' e', e1 = .returned (.string t) ∧ textR s a e m = (t, a', e') ∧ (t.size : Int) ≤ m ∧ OXR b s a' e' w' ∧ w.grownBy w' (some b) :=
  (xrText_re b s a e m w h.re hs hm).mono (by
    rintro e1 x ⟨rfl, hw, hb⟩
    exact ⟨_, _, _, rfl, rfl, textR_le h0, ⟨hw, textR_at⟩, but_grown hb⟩)
theorem oxr_flag (b : Nat) (s : ByteArray) (a e : Int) (w : World) (h : OXR b s a e w) (hs : s.size ≤ 9223372036854775807) :
    Calls Try.prog 74 #[.pointer (some ⟨b, 0, none⟩)] w fun e1 w' => ∃ f a' e', e1 = .returned (.bool f) ∧ flagR s a.toNat e = (f, a', e') ∧ OXR b s a' e' w' ∧ w.grownBy w' (some b) :=
  (xrFlag_re b s a.toNat e w h.nat.1 hs h.nat.2).mono (by
    rintro e1 x ⟨rfl, hw, hb⟩
    exact ⟨_, _, _, rfl, rfl, ⟨hw, flagR_at h.nat.2⟩, but_grown hb⟩)
theorem oxr_end (b : Nat) (s : ByteArray) (a e : Int) (w : World) (h : OXR b s a e w) (hs : s.size ≤ 9223372036854775807) :
    Calls Try.prog 75 #[.pointer (some ⟨b, 0, none⟩)] w fun e1 w' => ∃ r, e1 = .returned (.int .i64 r) ∧ endV s a.toNat e = r ∧ Below w.heap.size w w' :=
  (xend_re b s a.toNat e w h.nat.1 hs h.nat.2).mono (by
    rintro e1 x ⟨rfl, hb⟩
    exact ⟨_, rfl, rfl, hb⟩)
end
end Go.Proofs.Ytciilfkjecmdiaa

/- Package ops: Check of both. Conditions: none. -/
namespace Go.Proofs.Ytciilfkjecmdiaa
open Go.RowKit Go.PlainAid
set_option linter.unusedVariables false


abbrev OpT := ByteArray × ByteArray × Bool
def opE (o : OpT) : List Value := [.string o.1, .string o.2.1, .bool o.2.2]
theorem opE_len (o : OpT) : (opE o).length = 3 := rfl
theorem opE_one (o : OpT) : ∀ u ∈ opE o, u.oneCell' = true := by intro u hu; simp [opE] at hu; rcases hu with rfl | rfl | rfl <;> rfl
theorem eq_op (a b d e : ByteArray) (c f : Bool) (w : World) : (binOp .eql 83 (.agg #[.string a, .string b, .bool c]) (.agg #[.string d, .string e, .bool f])).run Try.prog w = .ok (.bool (a.toList == d.toList && b.toList == e.toList && c == f)) w := by
  have u := Try.underlying9
  have u' := Try.underlying4
  have hS : Try.prog.underlying 83 = some (.struct (Try.prog.fieldsOf 83)) := by kernel_rfl
  have hp : Try.prog.stoodInHeld 83 = false := by kernel_rfl
  have hf : (Try.prog.fieldsOf 83).toList.map (fun f => (f.offset, f.type)) = [(0, 9), (1, 9), (2, 4)] := by kernel_rfl
  rw [run_eql_struct, show (10000 : Nat) = 9999 + 1 from rfl, run_equalIn_agg w 9999 83 _ _ hS hp]
  simp only [Program.fieldsOf, Try.underlying83]
  go_simp
  by_cases h1 : a.toList = d.toList <;> by_cases h2 : b.toList = e.toList <;> by_cases h3 : c = f <;> simp [h1, h2, h3]
theorem bl_flip : ∀ (x y : List UInt8), (Op.bytesLess x y || x == y) = !Op.bytesLess y x
  | [], [] => rfl
  | [], _ :: _ => rfl
  | _ :: _, [] => rfl
  | a :: x, b :: y => by
    have ih := bl_flip x y
    show ((decide (a < b) || (a == b && Op.bytesLess x y)) || (a == b && x == y)) = !(decide (b < a) || (b == a && Op.bytesLess y x))
    rcases Nat.lt_trichotomy a.toNat b.toNat with h | h | h
    · have h1 : a < b := h
      have h2 : ¬ b < a := fun q => by have : b.toNat < a.toNat := q; omega
      have h3 : ¬ b = a := fun q => by subst q; omega
      simp [h1, h2, h3]
    · have e : a = b := UInt8.toNat.inj h
      subst e
      have h2 : ¬ a < a := fun q => by have : a.toNat < a.toNat := q; omega
      simp [h2]; simpa using ih
    · have h1 : ¬ a < b := fun q => by have : a.toNat < b.toNat := q; omega
      have h2 : b < a := h
      have h3 : ¬ a = b := fun q => by subst q; omega
      simp [h1, h2, h3]
/-- What a key's check answers; an operation's; those of all, each key above the one ahead of it. -/
def keyC (k : ByteArray) : Int := if ((k.size : Nat) : Int) < 1 ∨ ((k.size : Nat) : Int) > 8 then 10 else 0
def delV (o : OpT) : Bool := o.2.2 && !(o.2.1.toList == (⟨#[]⟩ : ByteArray).toList)
theorem delV_t {o : OpT} {b : Bool} (h : o.2.2 = true) (h2 : (!(o.2.1.toList == (⟨#[]⟩ : ByteArray).toList)) = b) : delV o = b := by unfold delV; rw [h, h2]; rfl
theorem delV_f {o : OpT} (h : o.2.2 = false) : delV o = false := by unfold delV; rw [h]; rfl
def chkOp (o : OpT) : Int := if keyC o.1 ≠ 0 then keyC o.1 else if ((o.2.1.size : Nat) : Int) > 8 then 3 else if delV o = true then 4 else 0
def keyUp (p : Option ByteArray) (k : ByteArray) : Bool := match p with | some q => Op.bytesLess q.toList k.toList | none => true
def chkL : Option ByteArray → List OpT → Int
  | _, [] => 0
  | p, o :: r => if chkOp o ≠ 0 then chkOp o else if keyUp p o.1 = true then chkL (some o.1) r else 18
def prevK (l : List OpT) (i : Nat) : Option ByteArray := if i = 0 then none else (l[i - 1]?).map (·.1)
def chkB (c r : Int) (l : List OpT) : Int := if c < 0 ∨ c ≥ 3 then 1 else if r < 1 ∨ r > 1073741824 then 5 else if ((l.length : Nat) : Int) > 4 then 6 else chkL none l
theorem prevK_succ {l : List OpT} {i : Nat} {y : OpT} (h : l[i]? = some y) : prevK l (i + 1) = some y.1 := by simp [prevK, h]
theorem prevK_pos {l : List OpT} {i j : Nat} {y : OpT} (hj : j = i - 1) (h0 : 0 < i) (h : l[j]? = some y) : prevK l i = some y.1 := by
  subst hj; simp [prevK, h]; omega
theorem dropO_at {l : List OpT} {i : Nat} {y : OpT} (h : l[i]? = some y) : l.drop i = y :: l.drop (i + 1) := by
  obtain ⟨hi, rfl⟩ := List.getElem?_eq_some_iff.1 h
  exact List.drop_eq_getElem_cons hi
theorem takeO_at {α : Type} {l : List α} {i : Nat} {y : α} (h : l[i]? = some y) : l.take (i + 1) = l.take i ++ [y] := by
  rw [List.take_add_one, h]; rfl
theorem chkL_bad {l : List OpT} {i : Nat} {y : OpT} {z : Int} (h : chkL (prevK l i) (l.drop i) = z) (hy : l[i]? = some y) (hc : chkOp y ≠ 0) : chkOp y = z := by
  rw [dropO_at hy] at h; unfold chkL at h; rwa [if_pos hc] at h
theorem chkL_step {l : List OpT} {i : Nat} {y : OpT} {z : Int} (h : chkL (prevK l i) (l.drop i) = z) (hy : l[i]? = some y) (hc : chkOp y = 0) (hu : keyUp (prevK l i) y.1 = true) : chkL (prevK l (i + 1)) (l.drop (i + 1)) = z := by
  rw [dropO_at hy] at h; unfold chkL at h; rw [if_neg (by simp [hc]), if_pos hu] at h
  rw [prevK_succ hy]; exact h
theorem chkL_ord {l : List OpT} {i : Nat} {y : OpT} {z : Int} (h : chkL (prevK l i) (l.drop i) = z) (hy : l[i]? = some y) (hc : chkOp y = 0) (hu : keyUp (prevK l i) y.1 = false) : 18 = z := by
  rw [dropO_at hy] at h; unfold chkL at h; rwa [if_neg (by simp [hc]), if_neg (by simp [hu])] at h
theorem chkL_end {l : List OpT} {i : Nat} {z : Int} (h : chkL (prevK l i) (l.drop i) = z) (hi : l.length ≤ i) : 0 = z := by
  rw [List.drop_eq_nil_of_le hi] at h; simpa [chkL] using h
theorem keyUp_at {l : List OpT} {i j : Nat} {y y' : OpT} {b : Bool} (hj : j = i - 1) (h0 : 0 < i) (h : l[j]? = some y') (hb : Op.bytesLess y'.1.toList y.1.toList = b) : keyUp (prevK l i) y.1 = b := by rw [prevK_pos hj h0 h]; exact hb
theorem keyUp_flip {l : List OpT} {i j : Nat} {y y' : OpT} {b : Bool} (hj : j = i - 1) (h0 : 0 < i) (h : l[j]? = some y') (hb : (Op.bytesLess y.1.toList y'.1.toList || y.1.toList == y'.1.toList) = b) : keyUp (prevK l i) y.1 = !b := by
  rw [bl_flip] at hb; rw [prevK_pos hj h0 h]; rw [← hb]; simp [keyUp]
theorem keyUp_0 {l : List OpT} {i : Nat} {k : ByteArray} (h0 : ¬ (0 : Int) < i) : keyUp (prevK l i) k = true := by
  obtain rfl : i = 0 := by omega
  rfl
theorem chkB_a {c r z : Int} {l : List OpT} (hz : chkB c r l = z) (h : c < 0 ∨ c ≥ 3) : 1 = z := by unfold chkB at hz; rwa [if_pos h] at hz
theorem chkB_b {c r z : Int} {l : List OpT} (hz : chkB c r l = z) (h : ¬ (c < 0 ∨ c ≥ 3)) (h1 : r < 1 ∨ r > 1073741824) : 5 = z := by unfold chkB at hz; rwa [if_neg h, if_pos h1] at hz
theorem chkB_c {c r z : Int} {l : List OpT} (hz : chkB c r l = z) (h : ¬ (c < 0 ∨ c ≥ 3)) (h1 : ¬ (r < 1 ∨ r > 1073741824)) (h2 : ((l.length : Nat) : Int) > 4) : 6 = z := by unfold chkB at hz; rwa [if_neg h, if_neg h1, if_pos h2] at hz
theorem chkB_d {c r z : Int} {l : List OpT} (hz : chkB c r l = z) (h : ¬ (c < 0 ∨ c ≥ 3)) (h1 : ¬ (r < 1 ∨ r > 1073741824)) (h2 : ¬ ((l.length : Nat) : Int) > 4) : chkL (prevK l 0) (l.drop 0) = z := by unfold chkB at hz; rwa [if_neg h, if_neg h1, if_neg h2] at hz
theorem chkOp_a {o : OpT} (h : keyC o.1 ≠ 0) : chkOp o = keyC o.1 := by unfold chkOp; rw [if_pos h]
theorem chkOp_b {o : OpT} (h : ¬ keyC o.1 ≠ 0) (h1 : ((o.2.1.size : Nat) : Int) > 8) : chkOp o = 3 := by unfold chkOp; rw [if_neg h, if_pos h1]
theorem chkOp_c {o : OpT} (h : ¬ keyC o.1 ≠ 0) (h1 : ¬ ((o.2.1.size : Nat) : Int) > 8) (h2 : delV o = true) : chkOp o = 4 := by unfold chkOp; rw [if_neg h, if_neg h1, if_pos h2]
theorem chkOp_d {o : OpT} (h : ¬ keyC o.1 ≠ 0) (h1 : ¬ ((o.2.1.size : Nat) : Int) > 8) (h2 : delV o = false) : chkOp o = 0 := by unfold chkOp; rw [if_neg h, if_neg h1, if_neg (by simp [h2])]
theorem keyC_ten {k : ByteArray} (h : keyC k ≠ 0) : keyC k = 10 := by unfold keyC at h ⊢; split <;> simp_all
theorem keyC_ok {k : ByteArray} (h : keyC k = 0) : 1 ≤ k.size ∧ k.size ≤ 8 := by unfold keyC at h; split at h <;> omega
theorem chkOp_ok {o : OpT} (h : chkOp o = 0) : (1 ≤ o.1.size ∧ o.1.size ≤ 8) ∧ o.2.1.size ≤ 8 ∧ delV o = false := by
  unfold chkOp at h
  split at h
  · omega
  rename_i h1
  split at h
  · omega
  rename_i h2
  split at h
  · omega
  rename_i h3
  exact ⟨keyC_ok (by omega), by omega, by simpa using h3⟩
theorem chkL_all : ∀ (p : Option ByteArray) (l : List OpT), chkL p l = 0 → ∀ z ∈ l, chkOp z = 0
  | _, [], _, _, h => by cases h
  | p, o :: r, h, z, hz => by
    unfold chkL at h
    by_cases h1 : chkOp o ≠ 0
    · rw [if_pos h1] at h; exact absurd h h1
    · rw [if_neg h1] at h
      by_cases h2 : keyUp p o.1 = true
      · rw [if_pos h2] at h
        rcases List.mem_cons.1 hz with rfl | hz
        · omega
        · exact chkL_all _ r h z hz
      · rw [if_neg h2] at h; omega
theorem chkB_ok {c r : Int} {l : List OpT} (h : chkB c r l = 0) : (0 ≤ c ∧ c < 3) ∧ (1 ≤ r ∧ r ≤ 1073741824) ∧ l.length ≤ 4 ∧ chkL none l = 0 := by
  unfold chkB at h
  split at h
  · omega
  split at h
  · omega
  split at h
  · omega
  exact ⟨by omega, by omega, by omega, h⟩
def OpOk (z : OpT) : Prop := (1 ≤ z.1.size ∧ z.1.size ≤ 8) ∧ z.2.1.size ≤ 8 ∧ delV z = false
theorem chkB_all {c r : Int} {l : List OpT} (h : chkB c r l = 0) : ∀ z ∈ l, OpOk z := fun z hz => chkOp_ok (chkL_all _ l (chkB_ok h).2.2.2 z hz)

set_option maxRecDepth 100000 in
theorem pKey_any (k : ByteArray) (w : World)  :
    Calls Try.prog 98 #[.string k] w fun e w' => e = .returned (.int .i64 (keyC k)) ∧ Below w.heap.size w w' := by
  have hB0 := Below.refl w.heap.size w
  refine co_enter (n := 11) Try.func98 rfl rfl rfl [(0, .string k)] rfl (fun a h0 => ?_)
  refine co_seq ?_
  refine co_reg ?_
  refine pl_val (v := .int .i64 0) h0 rfl rfl rfl (by kernel_rfl) (by kernel_rfl) (by kernel_rfl) (fun a1 h1 => ?_); clear h0
  refine pl_nil ?_
  refine co_then ?_
  refine co_seq ?_
  refine co_seq ?_
  refine co_reg ?_
  refine pl_val (v := .string k) h1 rfl rfl rfl (by kernel_rfl) (by kernel_rfl) (by kernel_rfl) (fun a2 h2 => ?_); clear h1
  refine pl_val (v := .int .i64 ((k.size : Nat) : Int)) h2 rfl rfl rfl (by kernel_rfl) (by kernel_rfl) (rn_lenStr rfl rfl Try.underlying9) (fun a3 h3 => ?_); clear h2
  refine pl_val (v := .bool (decide (((k.size : Nat) : Int) < 1))) h3 rfl rfl rfl (by kernel_rfl) (by kernel_rfl) (by kernel_rfl) (fun a4 h4 => ?_); clear h3
  refine pl_val (v := .bool (decide (((k.size : Nat) : Int) < 1))) h4 rfl rfl rfl (by kernel_rfl) (by kernel_rfl) (by kernel_rfl) (fun a5 h5 => ?_); clear h4
  cases hc6 : (decide (((k.size : Nat) : Int) < 1))
  ·
    rw [hc6] at h5
    have hp7 : ¬ (((k.size : Nat) : Int) < 1) := of_decide_eq_false hc6
    clear hc6
    refine pl_val (v := .string k) h5 rfl rfl rfl (by kernel_rfl) (by kernel_rfl) (by kernel_rfl) (fun a8 h8 => ?_); clear h5
    refine pl_val (v := .int .i64 ((k.size : Nat) : Int)) h8 rfl rfl rfl (by kernel_rfl) (by kernel_rfl) (rn_lenStr rfl rfl Try.underlying9) (fun a9 h9 => ?_); clear h8
    refine pl_val (v := .bool (decide (((k.size : Nat) : Int) > 8))) h9 rfl rfl rfl (by kernel_rfl) (by kernel_rfl) (by kernel_rfl) (fun a10 h10 => ?_); clear h9
    refine pl_val (v := .bool (decide (((k.size : Nat) : Int) > 8))) h10 rfl rfl rfl (by kernel_rfl) (by kernel_rfl) (by kernel_rfl) (fun a11 h11 => ?_); clear h10
    refine pl_nil ?_
    refine co_then ?_
    cases hc12 : (decide (((k.size : Nat) : Int) > 8))
    ·
      rw [hc12] at h11
      have hp13 : ¬ (((k.size : Nat) : Int) > 8) := of_decide_eq_false hc12
      clear hc12
      refine co_false h11 rfl ?_
      refine wp_skip ?_
      refine co_then ?_
      refine co_seq ?_
      refine co_reg ?_
      refine pl_val (v := .int .i64 0) h11 rfl rfl rfl (by kernel_rfl) (by kernel_rfl) (by kernel_rfl) (fun a14 h14 => ?_); clear h11
      refine pl_nil ?_
      refine co_then ?_
      refine wp_ret ?_
      refine co_ret1 h14 rfl rfl ?_
      exact ⟨ret_int (by unfold keyC; first | rw [if_pos (by omega)] | rw [if_neg (by omega)]), hB0⟩
    ·
      rw [hc12] at h11
      have hp15 : ((k.size : Nat) : Int) > 8 := of_decide_eq_true hc12
      clear hc12
      refine co_true h11 rfl ?_
      refine co_seq ?_
      refine co_reg ?_
      refine pl_val (v := .int .i64 10) h11 rfl rfl rfl (by kernel_rfl) (by kernel_rfl) (by kernel_rfl) (fun a16 h16 => ?_); clear h11
      refine pl_nil ?_
      refine co_then ?_
      refine wp_ret ?_
      refine co_thenR ?_
      refine co_ret1 h16 rfl rfl ?_
      exact ⟨ret_int (by unfold keyC; first | rw [if_pos (by omega)] | rw [if_neg (by omega)]), hB0⟩
  ·
    rw [hc6] at h5
    have hp17 : ((k.size : Nat) : Int) < 1 := of_decide_eq_true hc6
    clear hc6
    refine pl_skip h5 rfl rfl rfl (fun a18 h18 => ?_); clear h5
    refine pl_skip h18 rfl rfl rfl (fun a19 h19 => ?_); clear h18
    refine pl_skip h19 rfl rfl rfl (fun a20 h20 => ?_); clear h19
    refine pl_val (v := .bool true) h20 rfl rfl rfl (by kernel_rfl) (by kernel_rfl) (by kernel_rfl) (fun a21 h21 => ?_); clear h20
    refine pl_nil ?_
    refine co_then ?_
    refine co_true h21 rfl ?_
    refine co_seq ?_
    refine co_reg ?_
    refine pl_val (v := .int .i64 10) h21 rfl rfl rfl (by kernel_rfl) (by kernel_rfl) (by kernel_rfl) (fun a22 h22 => ?_); clear h21
    refine pl_nil ?_
    refine co_then ?_
    refine wp_ret ?_
    refine co_thenR ?_
    refine co_ret1 h22 rfl rfl ?_
    exact ⟨ret_int (by unfold keyC; first | rw [if_pos (by omega)] | rw [if_neg (by omega)]), hB0⟩
set_option maxRecDepth 100000 in
theorem rKey_any (k : ByteArray) (w : World)  :
    Calls Try.prog 65 #[.string k] w fun e w' => e = .returned (.int .i64 (keyC k)) ∧ Below w.heap.size w w' := by
  have hB0 := Below.refl w.heap.size w
  refine co_enter (n := 11) Try.func65 rfl rfl rfl [(0, .string k)] rfl (fun a h0 => ?_)
  refine co_seq ?_
  refine co_reg ?_
  refine pl_val (v := .int .i64 0) h0 rfl rfl rfl (by kernel_rfl) (by kernel_rfl) (by kernel_rfl) (fun a1 h1 => ?_); clear h0
  refine pl_nil ?_
  refine co_then ?_
  refine co_seq ?_
  refine co_seq ?_
  refine co_reg ?_
  refine pl_val (v := .string k) h1 rfl rfl rfl (by kernel_rfl) (by kernel_rfl) (by kernel_rfl) (fun a2 h2 => ?_); clear h1
  refine pl_val (v := .int .i64 ((k.size : Nat) : Int)) h2 rfl rfl rfl (by kernel_rfl) (by kernel_rfl) (rn_lenStr rfl rfl Try.underlying9) (fun a3 h3 => ?_); clear h2
  refine pl_val (v := .bool (decide (((k.size : Nat) : Int) < 1))) h3 rfl rfl rfl (by kernel_rfl) (by kernel_rfl) (by kernel_rfl) (fun a4 h4 => ?_); clear h3
  refine pl_val (v := .bool (decide (((k.size : Nat) : Int) < 1))) h4 rfl rfl rfl (by kernel_rfl) (by kernel_rfl) (by kernel_rfl) (fun a5 h5 => ?_); clear h4
  cases hc6 : (decide (((k.size : Nat) : Int) < 1))
  ·
    rw [hc6] at h5
    have hp7 : ¬ (((k.size : Nat) : Int) < 1) := of_decide_eq_false hc6
    clear hc6
    refine pl_val (v := .string k) h5 rfl rfl rfl (by kernel_rfl) (by kernel_rfl) (by kernel_rfl) (fun a8 h8 => ?_); clear h5
    refine pl_val (v := .int .i64 ((k.size : Nat) : Int)) h8 rfl rfl rfl (by kernel_rfl) (by kernel_rfl) (rn_lenStr rfl rfl Try.underlying9) (fun a9 h9 => ?_); clear h8
    refine pl_val (v := .bool (decide (((k.size : Nat) : Int) > 8))) h9 rfl rfl rfl (by kernel_rfl) (by kernel_rfl) (by kernel_rfl) (fun a10 h10 => ?_); clear h9
    refine pl_val (v := .bool (decide (((k.size : Nat) : Int) > 8))) h10 rfl rfl rfl (by kernel_rfl) (by kernel_rfl) (by kernel_rfl) (fun a11 h11 => ?_); clear h10
    refine pl_nil ?_
    refine co_then ?_
    cases hc12 : (decide (((k.size : Nat) : Int) > 8))
    ·
      rw [hc12] at h11
      have hp13 : ¬ (((k.size : Nat) : Int) > 8) := of_decide_eq_false hc12
      clear hc12
      refine co_false h11 rfl ?_
      refine wp_skip ?_
      refine co_then ?_
      refine co_seq ?_
      refine co_reg ?_
      refine pl_val (v := .int .i64 0) h11 rfl rfl rfl (by kernel_rfl) (by kernel_rfl) (by kernel_rfl) (fun a14 h14 => ?_); clear h11
      refine pl_nil ?_
      refine co_then ?_
      refine wp_ret ?_
      refine co_ret1 h14 rfl rfl ?_
      exact ⟨ret_int (by unfold keyC; first | rw [if_pos (by omega)] | rw [if_neg (by omega)]), hB0⟩
    ·
      rw [hc12] at h11
      have hp15 : ((k.size : Nat) : Int) > 8 := of_decide_eq_true hc12
      clear hc12
      refine co_true h11 rfl ?_
      refine co_seq ?_
      refine co_reg ?_
      refine pl_val (v := .int .i64 10) h11 rfl rfl rfl (by kernel_rfl) (by kernel_rfl) (by kernel_rfl) (fun a16 h16 => ?_); clear h11
      refine pl_nil ?_
      refine co_then ?_
      refine wp_ret ?_
      refine co_thenR ?_
      refine co_ret1 h16 rfl rfl ?_
      exact ⟨ret_int (by unfold keyC; first | rw [if_pos (by omega)] | rw [if_neg (by omega)]), hB0⟩
  ·
    rw [hc6] at h5
    have hp17 : ((k.size : Nat) : Int) < 1 := of_decide_eq_true hc6
    clear hc6
    refine pl_skip h5 rfl rfl rfl (fun a18 h18 => ?_); clear h5
    refine pl_skip h18 rfl rfl rfl (fun a19 h19 => ?_); clear h18
    refine pl_skip h19 rfl rfl rfl (fun a20 h20 => ?_); clear h19
    refine pl_val (v := .bool true) h20 rfl rfl rfl (by kernel_rfl) (by kernel_rfl) (by kernel_rfl) (fun a21 h21 => ?_); clear h20
    refine pl_nil ?_
    refine co_then ?_
    refine co_true h21 rfl ?_
    refine co_seq ?_
    refine co_reg ?_
    refine pl_val (v := .int .i64 10) h21 rfl rfl rfl (by kernel_rfl) (by kernel_rfl) (by kernel_rfl) (fun a22 h22 => ?_); clear h21
    refine pl_nil ?_
    refine co_then ?_
    refine wp_ret ?_
    refine co_thenR ?_
    refine co_ret1 h22 rfl rfl ?_
    exact ⟨ret_int (by unfold keyC; first | rw [if_pos (by omega)] | rw [if_neg (by omega)]), hB0⟩
set_option maxRecDepth 100000 in
theorem chkOp_any (o : OpT) (w : World)  :
    Calls Try.prog 64 #[.agg #[.string o.1, .string o.2.1, .bool o.2.2]] w fun e w' => e = .returned (.int .i64 (chkOp o)) ∧ Below w.heap.size w w' := by
  have hB0 := Below.refl w.heap.size w
  refine co_enter (n := 21) Try.func64 rfl rfl rfl [(0, .agg #[.string o.1, .string o.2.1, .bool o.2.2])] rfl (fun a h0 => ?_)
  refine co_seq ?_
  refine co_reg ?_
  refine pl_want h0 rfl rfl rfl (op_new (v := fun N => .pointer (some ⟨N, 0, none⟩)) (T := 83) (cs := #[.string o.1, .string o.2.1, .bool o.2.2]) (by kernel_rfl) (by kernel_rfl) (by kernel_rfl)) ?_; clear h0
  rintro _ w2 a1 ⟨N3, rfl, hN6, hz7, hk5, hg4⟩ h1
  have hB8 := hb_new hB0 hg4
  have hz9 := hB8.size
  have hz10 := hg4.size
  try dsimp only at h1
  refine pl_val (v := .int .i64 0) h1 rfl rfl rfl (by kernel_rfl) (by kernel_rfl) (by kernel_rfl) (fun a11 h11 => ?_); clear h1
  refine pl_nil ?_
  refine co_then ?_
  refine co_seq ?_
  refine co_seq ?_
  refine co_reg ?_
  refine pl_val (v := .pointer (some ⟨N3, 0, none⟩)) h11 rfl rfl rfl (by kernel_rfl) (by kernel_rfl) (by kernel_rfl) (fun a12 h12 => ?_); clear h11
  refine pl_val (v := .string o.1) h12 rfl rfl rfl (by kernel_rfl) (by kernel_rfl) (rn_load1 rfl rfl Try.isAgg9 (hk5.cell rfl)) (fun a13 h13 => ?_); clear h12
  refine pl_want h13 rfl rfl rfl (op_call (args := #[.string o.1]) (R := fun res xw => res = .int .i64 (keyC o.1) ∧ Below w2.heap.size w2 xw) rfl rfl rfl (by kernel_rfl) (by kernel_rfl) (Try.call98 _ _) (pKey_any o.1 w2 ) (by rintro e x ⟨rfl, hb16⟩; exact ⟨_, rfl, ⟨rfl, hb16⟩⟩)) ?_; clear h13
  rintro _ w15 a14 ⟨rfl, hb16⟩ h14
  have hB17 := hb_call hB8 hb16
  have hz18 := hB17.size
  have hz19 := hb16.size
  have hk20 := hk5.below hb16
  refine pl_val (v := .int .i64 (keyC o.1)) h14 rfl rfl rfl (by kernel_rfl) (by kernel_rfl) (by kernel_rfl) (fun a21 h21 => ?_); clear h14
  refine pl_nil ?_
  refine co_then ?_
  refine co_seq ?_
  refine co_reg ?_
  refine pl_val (v := .int .i64 (keyC o.1)) h21 rfl rfl rfl (by kernel_rfl) (by kernel_rfl) (by kernel_rfl) (fun a22 h22 => ?_); clear h21
  refine pl_val (v := .bool (keyC o.1 != 0)) h22 rfl rfl rfl (by kernel_rfl) (by kernel_rfl) (by kernel_rfl) (fun a23 h23 => ?_); clear h22
  refine pl_nil ?_
  refine co_then ?_
  cases hc24 : (keyC o.1 != 0)
  ·
    rw [hc24] at h23
    have hp25 : ¬ (keyC o.1 ≠ 0) := by first | simpa using hc24 | simpa [and_assoc] using hc24
    clear hc24
    refine co_false h23 rfl ?_
    refine wp_skip ?_
    refine co_then ?_
    refine co_seq ?_
    refine co_seq ?_
    refine co_reg ?_
    refine pl_val (v := .pointer (some ⟨N3, 1, none⟩)) h23 rfl rfl rfl (by kernel_rfl) (by kernel_rfl) (by kernel_rfl) (fun a26 h26 => ?_); clear h23
    refine pl_val (v := .string o.2.1) h26 rfl rfl rfl (by kernel_rfl) (by kernel_rfl) (rn_load1 rfl rfl Try.isAgg9 (hk20.cell rfl)) (fun a27 h27 => ?_); clear h26
    refine pl_val (v := .int .i64 ((o.2.1.size : Nat) : Int)) h27 rfl rfl rfl (by kernel_rfl) (by kernel_rfl) (rn_lenStr rfl rfl Try.underlying9) (fun a28 h28 => ?_); clear h27
    refine pl_val (v := .bool (decide (((o.2.1.size : Nat) : Int) > 8))) h28 rfl rfl rfl (by kernel_rfl) (by kernel_rfl) (by kernel_rfl) (fun a29 h29 => ?_); clear h28
    refine pl_nil ?_
    refine co_then ?_
    cases hc30 : (decide (((o.2.1.size : Nat) : Int) > 8))
    ·
      rw [hc30] at h29
      have hp31 : ¬ (((o.2.1.size : Nat) : Int) > 8) := of_decide_eq_false hc30
      clear hc30
      refine co_false h29 rfl ?_
      refine wp_skip ?_
      refine co_then ?_
      refine co_seq ?_
      refine co_seq ?_
      refine co_reg ?_
      refine pl_val (v := .pointer (some ⟨N3, 2, none⟩)) h29 rfl rfl rfl (by kernel_rfl) (by kernel_rfl) (by kernel_rfl) (fun a32 h32 => ?_); clear h29
      refine pl_val (v := .bool o.2.2) h32 rfl rfl rfl (by kernel_rfl) (by kernel_rfl) (rn_load1 rfl rfl Try.isAgg4 (hk20.cell rfl)) (fun a33 h33 => ?_); clear h32
      refine pl_val (v := .bool o.2.2) h33 rfl rfl rfl (by kernel_rfl) (by kernel_rfl) (by kernel_rfl) (fun a34 h34 => ?_); clear h33
      cases hc35 : (o.2.2)
      ·
        rw [hc35] at h34
        refine pl_skip h34 rfl rfl rfl (fun a36 h36 => ?_); clear h34
        refine pl_skip h36 rfl rfl rfl (fun a37 h37 => ?_); clear h36
        refine pl_skip h37 rfl rfl rfl (fun a38 h38 => ?_); clear h37
        refine pl_val (v := .bool false) h38 rfl rfl rfl (by kernel_rfl) (by kernel_rfl) (by kernel_rfl) (fun a39 h39 => ?_); clear h38
        refine pl_nil ?_
        refine co_then ?_
        refine co_false h39 rfl ?_
        refine wp_skip ?_
        refine co_then ?_
        refine co_seq ?_
        refine co_reg ?_
        refine pl_val (v := .int .i64 0) h39 rfl rfl rfl (by kernel_rfl) (by kernel_rfl) (by kernel_rfl) (fun a40 h40 => ?_); clear h39
        refine pl_nil ?_
        refine co_then ?_
        refine wp_ret ?_
        refine co_ret1 h40 rfl rfl ?_
        exact ⟨ret_int (by first | exact (chkOp_a (by assumption)).symm | exact (chkOp_b (by assumption) (by assumption)).symm | exact (chkOp_c (by assumption) (by assumption) (by first | exact delV_t (by assumption) (by assumption) | exact delV_f (by assumption))).symm | exact (chkOp_d (by assumption) (by assumption) (by first | exact delV_t (by assumption) (by assumption) | exact delV_f (by assumption))).symm), hB17⟩
      ·
        rw [hc35] at h34
        refine pl_val (v := .pointer (some ⟨N3, 1, none⟩)) h34 rfl rfl rfl (by kernel_rfl) (by kernel_rfl) (by kernel_rfl) (fun a41 h41 => ?_); clear h34
        refine pl_val (v := .string o.2.1) h41 rfl rfl rfl (by kernel_rfl) (by kernel_rfl) (rn_load1 rfl rfl Try.isAgg9 (hk20.cell rfl)) (fun a42 h42 => ?_); clear h41
        refine pl_val (v := .bool (!(o.2.1.toList == (⟨#[]⟩ : ByteArray).toList))) h42 rfl rfl rfl (by kernel_rfl) (by kernel_rfl) (by kernel_rfl) (fun a43 h43 => ?_); clear h42
        refine pl_val (v := .bool (!(o.2.1.toList == (⟨#[]⟩ : ByteArray).toList))) h43 rfl rfl rfl (by kernel_rfl) (by kernel_rfl) (by kernel_rfl) (fun a44 h44 => ?_); clear h43
        refine pl_nil ?_
        refine co_then ?_
        cases hc45 : (!(o.2.1.toList == (⟨#[]⟩ : ByteArray).toList))
        ·
          rw [hc45] at h44
          refine co_false h44 rfl ?_
          refine wp_skip ?_
          refine co_then ?_
          refine co_seq ?_
          refine co_reg ?_
          refine pl_val (v := .int .i64 0) h44 rfl rfl rfl (by kernel_rfl) (by kernel_rfl) (by kernel_rfl) (fun a46 h46 => ?_); clear h44
          refine pl_nil ?_
          refine co_then ?_
          refine wp_ret ?_
          refine co_ret1 h46 rfl rfl ?_
          exact ⟨ret_int (by first | exact (chkOp_a (by assumption)).symm | exact (chkOp_b (by assumption) (by assumption)).symm | exact (chkOp_c (by assumption) (by assumption) (by first | exact delV_t (by assumption) (by assumption) | exact delV_f (by assumption))).symm | exact (chkOp_d (by assumption) (by assumption) (by first | exact delV_t (by assumption) (by assumption) | exact delV_f (by assumption))).symm), hB17⟩
        ·
          rw [hc45] at h44
          refine co_true h44 rfl ?_
          refine co_seq ?_
          refine co_reg ?_
          refine pl_val (v := .int .i64 4) h44 rfl rfl rfl (by kernel_rfl) (by kernel_rfl) (by kernel_rfl) (fun a47 h47 => ?_); clear h44
          refine pl_nil ?_
          refine co_then ?_
          refine wp_ret ?_
          refine co_thenR ?_
          refine co_ret1 h47 rfl rfl ?_
          exact ⟨ret_int (by first | exact (chkOp_a (by assumption)).symm | exact (chkOp_b (by assumption) (by assumption)).symm | exact (chkOp_c (by assumption) (by assumption) (by first | exact delV_t (by assumption) (by assumption) | exact delV_f (by assumption))).symm | exact (chkOp_d (by assumption) (by assumption) (by first | exact delV_t (by assumption) (by assumption) | exact delV_f (by assumption))).symm), hB17⟩
    ·
      rw [hc30] at h29
      have hp48 : ((o.2.1.size : Nat) : Int) > 8 := of_decide_eq_true hc30
      clear hc30
      refine co_true h29 rfl ?_
      refine co_seq ?_
      refine co_reg ?_
      refine pl_val (v := .int .i64 3) h29 rfl rfl rfl (by kernel_rfl) (by kernel_rfl) (by kernel_rfl) (fun a49 h49 => ?_); clear h29
      refine pl_nil ?_
      refine co_then ?_
      refine wp_ret ?_
      refine co_thenR ?_
      refine co_ret1 h49 rfl rfl ?_
      exact ⟨ret_int (by first | exact (chkOp_a (by assumption)).symm | exact (chkOp_b (by assumption) (by assumption)).symm | exact (chkOp_c (by assumption) (by assumption) (by first | exact delV_t (by assumption) (by assumption) | exact delV_f (by assumption))).symm | exact (chkOp_d (by assumption) (by assumption) (by first | exact delV_t (by assumption) (by assumption) | exact delV_f (by assumption))).symm), hB17⟩
  ·
    rw [hc24] at h23
    have hp50 : keyC o.1 ≠ 0 := by first | simpa using hc24 | simpa [and_assoc] using hc24
    clear hc24
    refine co_true h23 rfl ?_
    refine co_seq ?_
    refine co_reg ?_
    refine pl_val (v := .int .i64 (keyC o.1)) h23 rfl rfl rfl (by kernel_rfl) (by kernel_rfl) (by kernel_rfl) (fun a51 h51 => ?_); clear h23
    refine pl_val (v := .int .i64 (keyC o.1)) h51 rfl rfl rfl (by kernel_rfl) (by kernel_rfl) (by kernel_rfl) (fun a52 h52 => ?_); clear h51
    refine pl_nil ?_
    refine co_then ?_
    refine wp_ret ?_
    refine co_thenR ?_
    refine co_ret1 h52 rfl rfl ?_
    exact ⟨ret_int (by first | exact (chkOp_a (by assumption)).symm | exact (chkOp_b (by assumption) (by assumption)).symm | exact (chkOp_c (by assumption) (by assumption) (by first | exact delV_t (by assumption) (by assumption) | exact delV_f (by assumption))).symm | exact (chkOp_d (by assumption) (by assumption) (by first | exact delV_t (by assumption) (by assumption) | exact delV_f (by assumption))).symm), hB17⟩
set_option maxRecDepth 100000 in
theorem opsCheck_any (c : Int) (r : Int) (v : Value) (l : List OpT) (w : World) (hs : SliceOf opE 3 w v l) :
    Calls Try.prog 16 #[.agg #[.int .i64 c, .int .i64 r, v]] w fun e w' => e = .returned (.int .i64 (chkB c r l)) ∧ Below w.heap.size w w' := by
  have hB0 := Below.refl w.heap.size w
  have hl_hs := sl_len hs
  refine co_enter (n := 54) Try.func16 rfl rfl rfl [(0, .agg #[.int .i64 c, .int .i64 r, v])] rfl (fun a h0 => ?_)
  refine co_seq ?_
  refine co_reg ?_
  refine pl_want h0 rfl rfl rfl (op_new (v := fun N => .pointer (some ⟨N, 0, none⟩)) (T := 24) (cs := #[.int .i64 c, .int .i64 r, v]) (by kernel_rfl) (by kernel_rfl) (by kernel_rfl)) ?_; clear h0
  rintro _ w2 a1 ⟨N3, rfl, hN6, hz7, hk5, hg4⟩ h1
  have hB8 := hb_new hB0 hg4
  have hz9 := hB8.size
  have hz10 := hg4.size
  try dsimp only at h1
  refine pl_val (v := .int .i64 0) h1 rfl rfl rfl (by kernel_rfl) (by kernel_rfl) (by kernel_rfl) (fun a11 h11 => ?_); clear h1
  refine pl_nil ?_
  refine co_then ?_
  refine co_seq ?_
  refine co_seq ?_
  refine co_reg ?_
  refine pl_val (v := .pointer (some ⟨N3, 0, none⟩)) h11 rfl rfl rfl (by kernel_rfl) (by kernel_rfl) (by kernel_rfl) (fun a12 h12 => ?_); clear h11
  refine pl_val (v := .int .i64 c) h12 rfl rfl rfl (by kernel_rfl) (by kernel_rfl) (rn_load1 rfl rfl Try.isAgg3 (hk5.cell rfl)) (fun a13 h13 => ?_); clear h12
  refine pl_val (v := .bool (decide (c < 0))) h13 rfl rfl rfl (by kernel_rfl) (by kernel_rfl) (by kernel_rfl) (fun a14 h14 => ?_); clear h13
  refine pl_val (v := .bool (decide (c < 0))) h14 rfl rfl rfl (by kernel_rfl) (by kernel_rfl) (by kernel_rfl) (fun a15 h15 => ?_); clear h14
  cases hc16 : (decide (c < 0))
  ·
    rw [hc16] at h15
    have hp17 : ¬ (c < 0) := of_decide_eq_false hc16
    clear hc16
    refine pl_val (v := .pointer (some ⟨N3, 0, none⟩)) h15 rfl rfl rfl (by kernel_rfl) (by kernel_rfl) (by kernel_rfl) (fun a18 h18 => ?_); clear h15
    refine pl_val (v := .int .i64 c) h18 rfl rfl rfl (by kernel_rfl) (by kernel_rfl) (rn_load1 rfl rfl Try.isAgg3 (hk5.cell rfl)) (fun a19 h19 => ?_); clear h18
    refine pl_val (v := .bool (decide (c ≥ 3))) h19 rfl rfl rfl (by kernel_rfl) (by kernel_rfl) (by kernel_rfl) (fun a20 h20 => ?_); clear h19
    refine pl_val (v := .bool (decide (c ≥ 3))) h20 rfl rfl rfl (by kernel_rfl) (by kernel_rfl) (by kernel_rfl) (fun a21 h21 => ?_); clear h20
    refine pl_nil ?_
    refine co_then ?_
    cases hc22 : (decide (c ≥ 3))
    ·
      rw [hc22] at h21
      have hp23 : ¬ (c ≥ 3) := of_decide_eq_false hc22
      clear hc22
      refine co_false h21 rfl ?_
      refine wp_skip ?_
      refine co_then ?_
      refine co_seq ?_
      refine co_seq ?_
      refine co_reg ?_
      refine pl_val (v := .pointer (some ⟨N3, 1, none⟩)) h21 rfl rfl rfl (by kernel_rfl) (by kernel_rfl) (by kernel_rfl) (fun a24 h24 => ?_); clear h21
      refine pl_val (v := .int .i64 r) h24 rfl rfl rfl (by kernel_rfl) (by kernel_rfl) (rn_load1 rfl rfl Try.isAgg3 (hk5.cell rfl)) (fun a25 h25 => ?_); clear h24
      refine pl_val (v := .bool (decide (r < 1))) h25 rfl rfl rfl (by kernel_rfl) (by kernel_rfl) (by kernel_rfl) (fun a26 h26 => ?_); clear h25
      refine pl_val (v := .bool (decide (r < 1))) h26 rfl rfl rfl (by kernel_rfl) (by kernel_rfl) (by kernel_rfl) (fun a27 h27 => ?_); clear h26
      cases hc28 : (decide (r < 1))
      ·
        rw [hc28] at h27
        have hp29 : ¬ (r < 1) := of_decide_eq_false hc28
        clear hc28
        refine pl_val (v := .pointer (some ⟨N3, 1, none⟩)) h27 rfl rfl rfl (by kernel_rfl) (by kernel_rfl) (by kernel_rfl) (fun a30 h30 => ?_); clear h27
        refine pl_val (v := .int .i64 r) h30 rfl rfl rfl (by kernel_rfl) (by kernel_rfl) (rn_load1 rfl rfl Try.isAgg3 (hk5.cell rfl)) (fun a31 h31 => ?_); clear h30
        refine pl_val (v := .bool (decide (r > 1073741824))) h31 rfl rfl rfl (by kernel_rfl) (by kernel_rfl) (by kernel_rfl) (fun a32 h32 => ?_); clear h31
        refine pl_val (v := .bool (decide (r > 1073741824))) h32 rfl rfl rfl (by kernel_rfl) (by kernel_rfl) (by kernel_rfl) (fun a33 h33 => ?_); clear h32
        refine pl_nil ?_
        refine co_then ?_
        cases hc34 : (decide (r > 1073741824))
        ·
          rw [hc34] at h33
          have hp35 : ¬ (r > 1073741824) := of_decide_eq_false hc34
          clear hc34
          refine co_false h33 rfl ?_
          refine wp_skip ?_
          refine co_then ?_
          refine co_seq ?_
          refine co_seq ?_
          refine co_reg ?_
          refine pl_val (v := .pointer (some ⟨N3, 2, none⟩)) h33 rfl rfl rfl (by kernel_rfl) (by kernel_rfl) (by kernel_rfl) (fun a36 h36 => ?_); clear h33
          refine pl_val (v := v) h36 rfl rfl rfl (by kernel_rfl) (by kernel_rfl) (rn_load1 rfl rfl Try.isAgg22 (hk5.cell rfl)) (fun a37 h37 => ?_); clear h36
          refine pl_val (v := .int .i64 ((l.length : Nat) : Int)) h37 rfl rfl rfl (by kernel_rfl) (by kernel_rfl) (rn_len rfl rfl Try.underlying22 (hs.below hB8)) (fun a38 h38 => ?_); clear h37
          refine pl_val (v := .bool (decide (((l.length : Nat) : Int) > 4))) h38 rfl rfl rfl (by kernel_rfl) (by kernel_rfl) (by kernel_rfl) (fun a39 h39 => ?_); clear h38
          refine pl_nil ?_
          refine co_then ?_
          cases hc40 : (decide (((l.length : Nat) : Int) > 4))
          ·
            rw [hc40] at h39
            have hp41 : ¬ (((l.length : Nat) : Int) > 4) := of_decide_eq_false hc40
            clear hc40
            refine co_false h39 rfl ?_
            refine wp_skip ?_
            refine co_then ?_
            refine co_seq ?_
            refine co_seq ?_
            refine co_reg ?_
            refine pl_val (v := .pointer (some ⟨N3, 2, none⟩)) h39 rfl rfl rfl (by kernel_rfl) (by kernel_rfl) (by kernel_rfl) (fun a42 h42 => ?_); clear h39
            refine pl_val (v := v) h42 rfl rfl rfl (by kernel_rfl) (by kernel_rfl) (rn_load1 rfl rfl Try.isAgg22 (hk5.cell rfl)) (fun a43 h43 => ?_); clear h42
            refine pl_val (v := .int .i64 ((l.length : Nat) : Int)) h43 rfl rfl rfl (by kernel_rfl) (by kernel_rfl) (rn_len rfl rfl Try.underlying22 (hs.below hB8)) (fun a44 h44 => ?_); clear h43
            refine pl_val (v := .int .i64 0) h44 rfl rfl rfl (by kernel_rfl) (by kernel_rfl) (by kernel_rfl) (fun a45 h45 => ?_); clear h44
            refine pl_nil ?_
            refine co_then ?_
            refine wp_block ?_
            have h46 : Slots 54 [(1, .pointer (some ⟨N3, 0, none⟩)), (2, .int .i64 0), (27, v), (28, .int .i64 ((l.length : Nat) : Int)), (29, .int .i64 0)] _ := h45.sub ⟨rfl, rfl, rfl, rfl, rfl, trivial⟩; clear h45
            refine co_loop (fun mm a x => ∃ (i : Nat), Slots 54 [(1, .pointer (some ⟨N3, 0, none⟩)), (2, .int .i64 0), (27, v), (28, .int .i64 ((l.length : Nat) : Int)), (29, .int .i64 ((i : Nat) : Int))] a ∧ mm = l.length - i ∧ (i ≤ l.length) ∧ (chkL (prevK l i) (l.drop i) = chkB c r l) ∧ Below w.heap.size w x ∧ Blk x N3 24 #[.int .i64 c, .int .i64 r, v]) (l.length - 0) ?_ ?_
            · exact ⟨0, h46.sub ⟨rfl, rfl, rfl, rfl, (slot_eq rfl (congrArg (Value.int .i64) (by first | rfl | omega))), trivial⟩, rfl, by omega, by first | exact chkB_d rfl (by omega) (by omega) (by omega) | exact hL', hB8, hk5⟩
            · rintro k47 a48 w49 ⟨i, h48, rfl, hi50, hi51, hB52, hk53⟩
              have hz54 := hB52.size
              have hl55 := hk53.lt
              have hL : chkL (prevK l i) (l.drop i) = chkB c r l := by assumption
              refine co_seq ?_
              refine co_reg ?_
              refine pl_val (v := .bool (decide (((i : Nat) : Int) < ((l.length : Nat) : Int)))) h48 rfl rfl rfl (by kernel_rfl) (by kernel_rfl) (by kernel_rfl) (fun a56 h56 => ?_); clear h48
              refine pl_nil ?_
              refine co_then ?_
              refine co_seq ?_
              cases hc57 : (decide (((i : Nat) : Int) < ((l.length : Nat) : Int)))
              ·
                rw [hc57] at h56
                have hp58 : ¬ (((i : Nat) : Int) < ((l.length : Nat) : Int)) := of_decide_eq_false hc57
                clear hc57
                refine co_false h56 rfl ?_
                refine wp_exit ?_
                refine co_thenX ?_
                refine co_thenX ?_
                refine co_blockX ?_
                refine co_then ?_
                refine co_seq ?_
                refine co_reg ?_
                refine pl_val (v := .int .i64 0) h56 rfl rfl rfl (by kernel_rfl) (by kernel_rfl) (by kernel_rfl) (fun a59 h59 => ?_); clear h56
                refine pl_nil ?_
                refine co_then ?_
                refine wp_ret ?_
                refine co_ret1 h59 rfl rfl ?_
                exact ⟨ret_int (chkL_end (i := i) hL (by omega)), hB52⟩
              ·
                rw [hc57] at h56
                have hp60 : ((i : Nat) : Int) < ((l.length : Nat) : Int) := of_decide_eq_true hc57
                clear hc57
                refine co_true h56 rfl ?_
                refine wp_skip ?_
                refine co_then ?_
                refine co_seq ?_
                refine wp_block ?_
                refine co_seq ?_
                refine co_reg ?_
                refine pl_val (v := .int .i64 ((i : Nat) : Int)) h56 rfl rfl rfl (by kernel_rfl) (by kernel_rfl) (by kernel_rfl) (fun a61 h61 => ?_); clear h56
                obtain ⟨y62, hy62⟩ : ∃ z, l[i]? = some z := ⟨_, List.getElem?_eq_getElem (by first | omega | (simp; done) | (simp; omega))⟩
                refine pl_val (v := .pointer (some ⟨(blkOf v), offOf v + i * 3, none⟩)) h61 rfl rfl rfl (by kernel_rfl) (by kernel_rfl) (rn_index rfl rfl rfl Try.underlying22 Try.sizeOf83 (hs.below hB52) (by omega) (by first | omega | (simp; done) | (simp; omega))) (fun a63 h63 => ?_); clear h61
                refine pl_val (v := .agg #[.string y62.1, .string y62.2.1, .bool y62.2.2]) h63 rfl rfl rfl (by kernel_rfl) (by kernel_rfl) (rn_loadN rfl rfl Try.underlying83 rfl (by kernel_rfl) (sl_at (hs.below hB52) hy62)) (fun a64 h64 => ?_); clear h63
                refine pl_want h64 rfl rfl rfl (op_new (v := fun N => .pointer (some ⟨N, 0, none⟩)) (T := 83) (cs := #[.string (⟨#[]⟩), .string (⟨#[]⟩), .bool false]) (by kernel_rfl) (by kernel_rfl) (by kernel_rfl)) ?_; clear h64
                rintro _ w66 a65 ⟨N67, rfl, hN70, hz71, hk69, hg68⟩ h65
                have hB72 := hb_new hB52 hg68
                have hz73 := hB72.size
                have hz74 := hg68.size
                have hk75 := hk53.kept hg68 (by simp)
                try dsimp only at h65
                refine pl_val (v := .int .i64 ((i : Nat) : Int)) h65 rfl rfl rfl (by kernel_rfl) (by kernel_rfl) (by kernel_rfl) (fun a76 h76 => ?_); clear h65
                refine pl_doW h76 rfl rfl (op_storeN rfl rfl rfl (by kernel_rfl) (by kernel_rfl) hk69 rfl) ?_; clear h76
                rintro _ w78 a77 ⟨hk79, hz80, hg81⟩ h77
                have hk79' : Blk w78 N67 83 #[.string y62.1, .string y62.2.1, .bool y62.2.2] := hk79; clear hk79
                have hB82 := hb_at hB72 hg81 (by omega)
                have hz83 := hB82.size
                have hz84 := hg81.size
                have hk85 := hk75.kept hg81 (by simp; omega)
                refine pl_nil ?_
                refine co_then ?_
                refine co_seq ?_
                refine co_seq ?_
                refine co_reg ?_
                refine pl_val (v := .agg #[.string y62.1, .string y62.2.1, .bool y62.2.2]) h77 rfl rfl rfl (by kernel_rfl) (by kernel_rfl) (rn_loadN rfl rfl Try.underlying83 rfl (by kernel_rfl) hk79'.all) (fun a86 h86 => ?_); clear h77
                refine pl_want h86 rfl rfl rfl (op_call (args := #[.agg #[.string y62.1, .string y62.2.1, .bool y62.2.2]]) (R := fun res xw => res = .int .i64 (chkOp y62) ∧ Below w78.heap.size w78 xw) rfl rfl rfl (by kernel_rfl) (by kernel_rfl) (Try.call64 _ _) (chkOp_any y62 w78 ) (by rintro e x ⟨rfl, hb89⟩; exact ⟨_, rfl, ⟨rfl, hb89⟩⟩)) ?_; clear h86
                rintro _ w88 a87 ⟨rfl, hb89⟩ h87
                have hB90 := hb_call hB82 hb89
                have hz91 := hB90.size
                have hz92 := hb89.size
                have hk93 := hk85.below hb89
                have hk94 := hk79'.below hb89
                refine pl_val (v := .int .i64 (chkOp y62)) h87 rfl rfl rfl (by kernel_rfl) (by kernel_rfl) (by kernel_rfl) (fun a95 h95 => ?_); clear h87
                refine pl_nil ?_
                refine co_then ?_
                refine co_seq ?_
                refine co_reg ?_
                refine pl_val (v := .int .i64 (chkOp y62)) h95 rfl rfl rfl (by kernel_rfl) (by kernel_rfl) (by kernel_rfl) (fun a96 h96 => ?_); clear h95
                refine pl_val (v := .bool (chkOp y62 != 0)) h96 rfl rfl rfl (by kernel_rfl) (by kernel_rfl) (by kernel_rfl) (fun a97 h97 => ?_); clear h96
                refine pl_nil ?_
                refine co_then ?_
                cases hc98 : (chkOp y62 != 0)
                ·
                  rw [hc98] at h97
                  have hp99 : ¬ (chkOp y62 ≠ 0) := by first | simpa using hc98 | simpa [and_assoc] using hc98
                  clear hc98
                  refine co_false h97 rfl ?_
                  refine wp_skip ?_
                  refine co_then ?_
                  refine co_seq ?_
                  refine dr_eq (by kernel_rfl) (fun w100 hg101 => ?_)
                  have hB102 := hb_new hB90 hg101
                  have hz103 := hB102.size
                  have hz104 := hg101.size
                  have hk105 := hk93.kept hg101 (by simp)
                  have hk106 := hk94.kept hg101 (by simp)
                  refine dr_take (i := 0) (v := .int .i64 ((i : Nat) : Int)) h97 rfl (by kernel_rfl) (by kernel_rfl) (by kernel_rfl) rfl rfl rfl rfl (by kernel_rfl) (fun _ _ => by kernel_rfl) (fun a107 h107 => ?_); clear h97
                  refine dr_take (i := 1) (v := .bool (decide (((i : Nat) : Int) > 0))) h107 rfl (by kernel_rfl) (by kernel_rfl) (by kernel_rfl) rfl rfl rfl rfl (by kernel_rfl) (fun _ _ => by kernel_rfl) (fun a108 h108 => ?_); clear h107
                  refine dr_take (i := 2) (v := .bool (decide (((i : Nat) : Int) > 0))) h108 rfl (by kernel_rfl) (by kernel_rfl) (by kernel_rfl) rfl rfl rfl rfl (by kernel_rfl) (fun _ _ => by kernel_rfl) (fun a109 h109 => ?_); clear h108
                  cases hc110 : (decide (((i : Nat) : Int) > 0))
                  ·
                    rw [hc110] at h109
                    have hp111 : ¬ (((i : Nat) : Int) > 0) := of_decide_eq_false hc110
                    clear hc110
                    refine dr_skip (i := 3) h109 rfl (by kernel_rfl) (by kernel_rfl) (by kernel_rfl) rfl rfl rfl rfl (fun a112 h112 => ?_); clear h109
                    refine dr_skip (i := 4) h112 rfl (by kernel_rfl) (by kernel_rfl) (by kernel_rfl) rfl rfl rfl rfl (fun a113 h113 => ?_); clear h112
                    refine dr_skip (i := 5) h113 rfl (by kernel_rfl) (by kernel_rfl) (by kernel_rfl) rfl rfl rfl rfl (fun a114 h114 => ?_); clear h113
                    refine dr_skip (i := 6) h114 rfl (by kernel_rfl) (by kernel_rfl) (by kernel_rfl) rfl rfl rfl rfl (fun a115 h115 => ?_); clear h114
                    refine dr_skip (i := 7) h115 rfl (by kernel_rfl) (by kernel_rfl) (by kernel_rfl) rfl rfl rfl rfl (fun a116 h116 => ?_); clear h115
                    refine dr_skip (i := 8) h116 rfl (by kernel_rfl) (by kernel_rfl) (by kernel_rfl) rfl rfl rfl rfl (fun a117 h117 => ?_); clear h116
                    refine dr_skip (i := 9) h117 rfl (by kernel_rfl) (by kernel_rfl) (by kernel_rfl) rfl rfl rfl rfl (fun a118 h118 => ?_); clear h117
                    refine dr_skip (i := 10) h118 rfl (by kernel_rfl) (by kernel_rfl) (by kernel_rfl) rfl rfl rfl rfl (fun a119 h119 => ?_); clear h118
                    refine dr_skip (i := 11) h119 rfl (by kernel_rfl) (by kernel_rfl) (by kernel_rfl) rfl rfl rfl rfl (fun a120 h120 => ?_); clear h119
                    refine dr_skip (i := 12) h120 rfl (by kernel_rfl) (by kernel_rfl) (by kernel_rfl) rfl rfl rfl rfl (fun a121 h121 => ?_); clear h120
                    refine dr_take (i := 13) (v := .bool false) h121 rfl (by kernel_rfl) (by kernel_rfl) (by kernel_rfl) rfl rfl rfl rfl (by kernel_rfl) (fun _ _ => by kernel_rfl) (fun a122 h122 => ?_); clear h121
                    refine dr_done (by kernel_rfl) ?_
                    refine co_then ?_
                    refine co_false h122 rfl ?_
                    refine wp_skip ?_
                    refine co_blockN ?_
                    refine co_then ?_
                    refine co_reg ?_
                    refine pl_val (v := .int .i64 ((i + 1 : Nat) : Int)) h122 rfl rfl rfl (by kernel_rfl) (by kernel_rfl) (rn_arith' rfl rfl rfl rfl rfl rfl (IntWalk.i64_in _ (by omega)) (by omega)) (fun a123 h123 => ?_); clear h122
                    refine pl_val (v := .int .i64 ((i + 1 : Nat) : Int)) h123 rfl rfl rfl (by kernel_rfl) (by kernel_rfl) (by kernel_rfl) (fun a124 h124 => ?_); clear h123
                    refine pl_nil ?_
                    refine co_then ?_
                    refine ⟨(l.length - (i + 1)), by omega, ?_⟩
                    have hO : chkOp y62 = 0 := by omega
                    have hU : keyUp (prevK l i) y62.1 = true := (keyUp_0 (by omega))
                    have hL' := chkL_step (i := i) hL hy62 hO hU
                    exact ⟨i + 1, h124.sub ⟨rfl, rfl, rfl, rfl, rfl, trivial⟩, rfl, by omega, by first | exact chkB_d rfl (by omega) (by omega) (by omega) | exact hL', hB102, hk105⟩
                  ·
                    rw [hc110] at h109
                    have hp125 : ((i : Nat) : Int) > 0 := of_decide_eq_true hc110
                    clear hc110
                    refine dr_take (i := 3) (v := .pointer (some ⟨N67, 0, none⟩)) h109 rfl (by kernel_rfl) (by kernel_rfl) (by kernel_rfl) rfl rfl rfl rfl (by kernel_rfl) (fun _ _ => by kernel_rfl) (fun a126 h126 => ?_); clear h109
                    refine dr_take (i := 4) (v := .string y62.1) h126 rfl (by kernel_rfl) (by kernel_rfl) (by kernel_rfl) rfl rfl rfl rfl (by kernel_rfl) (fun x hx => by subst hx; exact (rn_load1 rfl rfl Try.isAgg9 (hk106.cell rfl))) (fun a127 h127 => ?_); clear h126
                    refine dr_take (i := 5) (v := .pointer (some ⟨N3, 2, none⟩)) h127 rfl (by kernel_rfl) (by kernel_rfl) (by kernel_rfl) rfl rfl rfl rfl (by kernel_rfl) (fun _ _ => by kernel_rfl) (fun a128 h128 => ?_); clear h127
                    refine dr_take (i := 6) (v := v) h128 rfl (by kernel_rfl) (by kernel_rfl) (by kernel_rfl) rfl rfl rfl rfl (by kernel_rfl) (fun x hx => by subst hx; exact (rn_load1 rfl rfl Try.isAgg22 (hk105.cell rfl))) (fun a129 h129 => ?_); clear h128
                    refine dr_take (i := 7) (v := .int .i64 ((i : Nat) : Int)) h129 rfl (by kernel_rfl) (by kernel_rfl) (by kernel_rfl) rfl rfl rfl rfl (by kernel_rfl) (fun _ _ => by kernel_rfl) (fun a130 h130 => ?_); clear h129
                    refine dr_take (i := 8) (v := .int .i64 (((i : Nat) : Int) - 1)) h130 rfl (by kernel_rfl) (by kernel_rfl) (by kernel_rfl) rfl rfl rfl rfl (by kernel_rfl) (fun x hx => by subst hx; exact (rn_arith rfl rfl rfl rfl rfl rfl (IntWalk.i64_in _ (by omega)))) (fun a131 h131 => ?_); clear h130
                    obtain ⟨y132, hy132⟩ : ∃ z, l[(((i : Nat) : Int) - 1).toNat]? = some z := ⟨_, List.getElem?_eq_getElem (by first | omega | (simp; done) | (simp; omega))⟩
                    refine dr_take (i := 9) (v := .pointer (some ⟨(blkOf v), offOf v + ((((i : Nat) : Int) - 1).toNat) * 3, none⟩)) h131 rfl (by kernel_rfl) (by kernel_rfl) (by kernel_rfl) rfl rfl rfl rfl (by kernel_rfl) (fun x hx => by subst hx; exact (rn_index rfl rfl rfl Try.underlying22 Try.sizeOf83 (hs.below hB102) (by omega) (by first | omega | (simp; done) | (simp; omega)))) (fun a133 h133 => ?_); clear h131
                    refine dr_take (i := 10) (v := .pointer (some ⟨(blkOf v), offOf v + ((((i : Nat) : Int) - 1).toNat) * 3, none⟩)) h133 rfl (by kernel_rfl) (by kernel_rfl) (by kernel_rfl) rfl rfl rfl rfl (by kernel_rfl) (fun _ _ => by kernel_rfl) (fun a134 h134 => ?_); clear h133
                    refine dr_take (i := 11) (v := .string y132.1) h134 rfl (by kernel_rfl) (by kernel_rfl) (by kernel_rfl) rfl rfl rfl rfl (by kernel_rfl) (fun x hx => by subst hx; exact (rn_load1 rfl rfl Try.isAgg9 ((sl_at (hs.below hB102) hy132) 0 _ rfl))) (fun a135 h135 => ?_); clear h134
                    refine dr_take (i := 12) (v := .bool (Op.bytesLess y62.1.toList y132.1.toList || y62.1.toList == y132.1.toList)) h135 rfl (by kernel_rfl) (by kernel_rfl) (by kernel_rfl) rfl rfl rfl rfl (by kernel_rfl) (fun _ _ => by kernel_rfl) (fun a136 h136 => ?_); clear h135
                    refine dr_take (i := 13) (v := .bool (Op.bytesLess y62.1.toList y132.1.toList || y62.1.toList == y132.1.toList)) h136 rfl (by kernel_rfl) (by kernel_rfl) (by kernel_rfl) rfl rfl rfl rfl (by kernel_rfl) (fun _ _ => by kernel_rfl) (fun a137 h137 => ?_); clear h136
                    refine dr_done (by kernel_rfl) ?_
                    refine co_then ?_
                    cases hc138 : ((Op.bytesLess y62.1.toList y132.1.toList || y62.1.toList == y132.1.toList))
                    ·
                      rw [hc138] at h137
                      refine co_false h137 rfl ?_
                      refine wp_skip ?_
                      refine co_blockN ?_
                      refine co_then ?_
                      refine co_reg ?_
                      refine pl_val (v := .int .i64 ((i + 1 : Nat) : Int)) h137 rfl rfl rfl (by kernel_rfl) (by kernel_rfl) (rn_arith' rfl rfl rfl rfl rfl rfl (IntWalk.i64_in _ (by omega)) (by omega)) (fun a139 h139 => ?_); clear h137
                      refine pl_val (v := .int .i64 ((i + 1 : Nat) : Int)) h139 rfl rfl rfl (by kernel_rfl) (by kernel_rfl) (by kernel_rfl) (fun a140 h140 => ?_); clear h139
                      refine pl_nil ?_
                      refine co_then ?_
                      refine ⟨(l.length - (i + 1)), by omega, ?_⟩
                      have hO : chkOp y62 = 0 := by omega
                      have hU : keyUp (prevK l i) y62.1 = true := (keyUp_flip (l := l) (i := i) (b := false) (y := y62) (j := (((i : Nat) : Int) - 1).toNat) (by omega) (by omega) hy132 (by assumption))
                      have hL' := chkL_step (i := i) hL hy62 hO hU
                      exact ⟨i + 1, h140.sub ⟨rfl, rfl, rfl, rfl, rfl, trivial⟩, rfl, by omega, by first | exact chkB_d rfl (by omega) (by omega) (by omega) | exact hL', hB102, hk105⟩
                    ·
                      rw [hc138] at h137
                      refine co_true h137 rfl ?_
                      refine co_seq ?_
                      refine co_reg ?_
                      refine pl_val (v := .int .i64 18) h137 rfl rfl rfl (by kernel_rfl) (by kernel_rfl) (by kernel_rfl) (fun a141 h141 => ?_); clear h137
                      refine pl_nil ?_
                      refine co_then ?_
                      refine wp_ret ?_
                      refine co_blockR ?_
                      refine co_thenR ?_
                      refine co_thenR ?_
                      refine co_blockR ?_
                      refine co_thenR ?_
                      refine co_ret1 h141 rfl rfl ?_
                      have hO : chkOp y62 = 0 := by omega
                      exact ⟨ret_int (chkL_ord (i := i) hL hy62 hO (keyUp_flip (l := l) (i := i) (b := true) (y := y62) (j := (((i : Nat) : Int) - 1).toNat) (by omega) (by omega) hy132 (by assumption))), hB102⟩
                ·
                  rw [hc98] at h97
                  have hp142 : chkOp y62 ≠ 0 := by first | simpa using hc98 | simpa [and_assoc] using hc98
                  clear hc98
                  refine co_true h97 rfl ?_
                  refine co_seq ?_
                  refine co_reg ?_
                  refine pl_val (v := .int .i64 (chkOp y62)) h97 rfl rfl rfl (by kernel_rfl) (by kernel_rfl) (by kernel_rfl) (fun a143 h143 => ?_); clear h97
                  refine pl_val (v := .int .i64 (chkOp y62)) h143 rfl rfl rfl (by kernel_rfl) (by kernel_rfl) (by kernel_rfl) (fun a144 h144 => ?_); clear h143
                  refine pl_nil ?_
                  refine co_then ?_
                  refine wp_ret ?_
                  refine co_thenR ?_
                  refine co_blockR ?_
                  refine co_thenR ?_
                  refine co_thenR ?_
                  refine co_blockR ?_
                  refine co_thenR ?_
                  refine co_ret1 h144 rfl rfl ?_
                  exact ⟨ret_int (chkL_bad (i := i) hL hy62 (by assumption)), hB90⟩
          ·
            rw [hc40] at h39
            have hp145 : ((l.length : Nat) : Int) > 4 := of_decide_eq_true hc40
            clear hc40
            refine co_true h39 rfl ?_
            refine co_seq ?_
            refine co_reg ?_
            refine pl_val (v := .int .i64 6) h39 rfl rfl rfl (by kernel_rfl) (by kernel_rfl) (by kernel_rfl) (fun a146 h146 => ?_); clear h39
            refine pl_nil ?_
            refine co_then ?_
            refine wp_ret ?_
            refine co_thenR ?_
            refine co_ret1 h146 rfl rfl ?_
            exact ⟨ret_int (chkB_c rfl (by omega) (by omega) (by omega)), hB8⟩
        ·
          rw [hc34] at h33
          have hp147 : r > 1073741824 := of_decide_eq_true hc34
          clear hc34
          refine co_true h33 rfl ?_
          refine co_seq ?_
          refine co_reg ?_
          refine pl_val (v := .int .i64 5) h33 rfl rfl rfl (by kernel_rfl) (by kernel_rfl) (by kernel_rfl) (fun a148 h148 => ?_); clear h33
          refine pl_nil ?_
          refine co_then ?_
          refine wp_ret ?_
          refine co_thenR ?_
          refine co_ret1 h148 rfl rfl ?_
          exact ⟨ret_int (chkB_b rfl (by omega) (by omega)), hB8⟩
      ·
        rw [hc28] at h27
        have hp149 : r < 1 := of_decide_eq_true hc28
        clear hc28
        refine pl_skip h27 rfl rfl rfl (fun a150 h150 => ?_); clear h27
        refine pl_skip h150 rfl rfl rfl (fun a151 h151 => ?_); clear h150
        refine pl_skip h151 rfl rfl rfl (fun a152 h152 => ?_); clear h151
        refine pl_val (v := .bool true) h152 rfl rfl rfl (by kernel_rfl) (by kernel_rfl) (by kernel_rfl) (fun a153 h153 => ?_); clear h152
        refine pl_nil ?_
        refine co_then ?_
        refine co_true h153 rfl ?_
        refine co_seq ?_
        refine co_reg ?_
        refine pl_val (v := .int .i64 5) h153 rfl rfl rfl (by kernel_rfl) (by kernel_rfl) (by kernel_rfl) (fun a154 h154 => ?_); clear h153
        refine pl_nil ?_
        refine co_then ?_
        refine wp_ret ?_
        refine co_thenR ?_
        refine co_ret1 h154 rfl rfl ?_
        exact ⟨ret_int (chkB_b rfl (by omega) (by omega)), hB8⟩
    ·
      rw [hc22] at h21
      have hp155 : c ≥ 3 := of_decide_eq_true hc22
      clear hc22
      refine co_true h21 rfl ?_
      refine co_seq ?_
      refine co_reg ?_
      refine pl_val (v := .int .i64 1) h21 rfl rfl rfl (by kernel_rfl) (by kernel_rfl) (by kernel_rfl) (fun a156 h156 => ?_); clear h21
      refine pl_nil ?_
      refine co_then ?_
      refine wp_ret ?_
      refine co_thenR ?_
      refine co_ret1 h156 rfl rfl ?_
      exact ⟨ret_int (chkB_a rfl (by omega)), hB8⟩
  ·
    rw [hc16] at h15
    have hp157 : c < 0 := of_decide_eq_true hc16
    clear hc16
    refine pl_skip h15 rfl rfl rfl (fun a158 h158 => ?_); clear h15
    refine pl_skip h158 rfl rfl rfl (fun a159 h159 => ?_); clear h158
    refine pl_skip h159 rfl rfl rfl (fun a160 h160 => ?_); clear h159
    refine pl_val (v := .bool true) h160 rfl rfl rfl (by kernel_rfl) (by kernel_rfl) (by kernel_rfl) (fun a161 h161 => ?_); clear h160
    refine pl_nil ?_
    refine co_then ?_
    refine co_true h161 rfl ?_
    refine co_seq ?_
    refine co_reg ?_
    refine pl_val (v := .int .i64 1) h161 rfl rfl rfl (by kernel_rfl) (by kernel_rfl) (by kernel_rfl) (fun a162 h162 => ?_); clear h161
    refine pl_nil ?_
    refine co_then ?_
    refine wp_ret ?_
    refine co_thenR ?_
    refine co_ret1 h162 rfl rfl ?_
    exact ⟨ret_int (chkB_a rfl (by omega)), hB8⟩
set_option maxRecDepth 100000 in
theorem ropsCheck_any (c : Int) (r : Int) (v : Value) (l : List OpT) (w : World) (hs : SliceOf opE 3 w v l) :
    Calls Try.prog 17 #[.agg #[.int .i64 c, .int .i64 r, v]] w fun e w' => e = .returned (.int .i64 (chkB c r l)) ∧ Below w.heap.size w w' := by
  have hB0 := Below.refl w.heap.size w
  have hl_hs := sl_len hs
  refine co_enter (n := 66) Try.func17 rfl rfl rfl [(0, .agg #[.int .i64 c, .int .i64 r, v])] rfl (fun a h0 => ?_)
  refine co_seq ?_
  refine co_reg ?_
  refine pl_want h0 rfl rfl rfl (op_new (v := fun N => .pointer (some ⟨N, 0, none⟩)) (T := 24) (cs := #[.int .i64 c, .int .i64 r, v]) (by kernel_rfl) (by kernel_rfl) (by kernel_rfl)) ?_; clear h0
  rintro _ w2 a1 ⟨N3, rfl, hN6, hz7, hk5, hg4⟩ h1
  have hB8 := hb_new hB0 hg4
  have hz9 := hB8.size
  have hz10 := hg4.size
  try dsimp only at h1
  refine pl_val (v := .int .i64 0) h1 rfl rfl rfl (by kernel_rfl) (by kernel_rfl) (by kernel_rfl) (fun a11 h11 => ?_); clear h1
  refine pl_nil ?_
  refine co_then ?_
  refine co_seq ?_
  refine co_seq ?_
  refine co_reg ?_
  refine pl_val (v := .pointer (some ⟨N3, 0, none⟩)) h11 rfl rfl rfl (by kernel_rfl) (by kernel_rfl) (by kernel_rfl) (fun a12 h12 => ?_); clear h11
  refine pl_val (v := .int .i64 c) h12 rfl rfl rfl (by kernel_rfl) (by kernel_rfl) (rn_load1 rfl rfl Try.isAgg3 (hk5.cell rfl)) (fun a13 h13 => ?_); clear h12
  refine pl_val (v := .bool (decide (c < 0))) h13 rfl rfl rfl (by kernel_rfl) (by kernel_rfl) (by kernel_rfl) (fun a14 h14 => ?_); clear h13
  refine pl_val (v := .bool (decide (c < 0))) h14 rfl rfl rfl (by kernel_rfl) (by kernel_rfl) (by kernel_rfl) (fun a15 h15 => ?_); clear h14
  cases hc16 : (decide (c < 0))
  ·
    rw [hc16] at h15
    have hp17 : ¬ (c < 0) := of_decide_eq_false hc16
    clear hc16
    refine pl_val (v := .pointer (some ⟨N3, 0, none⟩)) h15 rfl rfl rfl (by kernel_rfl) (by kernel_rfl) (by kernel_rfl) (fun a18 h18 => ?_); clear h15
    refine pl_val (v := .int .i64 c) h18 rfl rfl rfl (by kernel_rfl) (by kernel_rfl) (rn_load1 rfl rfl Try.isAgg3 (hk5.cell rfl)) (fun a19 h19 => ?_); clear h18
    refine pl_val (v := .bool (decide (c ≥ 3))) h19 rfl rfl rfl (by kernel_rfl) (by kernel_rfl) (by kernel_rfl) (fun a20 h20 => ?_); clear h19
    refine pl_val (v := .bool (decide (c ≥ 3))) h20 rfl rfl rfl (by kernel_rfl) (by kernel_rfl) (by kernel_rfl) (fun a21 h21 => ?_); clear h20
    refine pl_nil ?_
    refine co_then ?_
    cases hc22 : (decide (c ≥ 3))
    ·
      rw [hc22] at h21
      have hp23 : ¬ (c ≥ 3) := of_decide_eq_false hc22
      clear hc22
      refine co_false h21 rfl ?_
      refine wp_skip ?_
      refine co_then ?_
      refine co_seq ?_
      refine co_seq ?_
      refine co_reg ?_
      refine pl_val (v := .pointer (some ⟨N3, 1, none⟩)) h21 rfl rfl rfl (by kernel_rfl) (by kernel_rfl) (by kernel_rfl) (fun a24 h24 => ?_); clear h21
      refine pl_val (v := .int .i64 r) h24 rfl rfl rfl (by kernel_rfl) (by kernel_rfl) (rn_load1 rfl rfl Try.isAgg3 (hk5.cell rfl)) (fun a25 h25 => ?_); clear h24
      refine pl_val (v := .bool (decide (r < 1))) h25 rfl rfl rfl (by kernel_rfl) (by kernel_rfl) (by kernel_rfl) (fun a26 h26 => ?_); clear h25
      refine pl_val (v := .bool (decide (r < 1))) h26 rfl rfl rfl (by kernel_rfl) (by kernel_rfl) (by kernel_rfl) (fun a27 h27 => ?_); clear h26
      cases hc28 : (decide (r < 1))
      ·
        rw [hc28] at h27
        have hp29 : ¬ (r < 1) := of_decide_eq_false hc28
        clear hc28
        refine pl_val (v := .pointer (some ⟨N3, 1, none⟩)) h27 rfl rfl rfl (by kernel_rfl) (by kernel_rfl) (by kernel_rfl) (fun a30 h30 => ?_); clear h27
        refine pl_val (v := .int .i64 r) h30 rfl rfl rfl (by kernel_rfl) (by kernel_rfl) (rn_load1 rfl rfl Try.isAgg3 (hk5.cell rfl)) (fun a31 h31 => ?_); clear h30
        refine pl_val (v := .bool (decide (r > 1073741824))) h31 rfl rfl rfl (by kernel_rfl) (by kernel_rfl) (by kernel_rfl) (fun a32 h32 => ?_); clear h31
        refine pl_val (v := .bool (decide (r > 1073741824))) h32 rfl rfl rfl (by kernel_rfl) (by kernel_rfl) (by kernel_rfl) (fun a33 h33 => ?_); clear h32
        refine pl_nil ?_
        refine co_then ?_
        cases hc34 : (decide (r > 1073741824))
        ·
          rw [hc34] at h33
          have hp35 : ¬ (r > 1073741824) := of_decide_eq_false hc34
          clear hc34
          refine co_false h33 rfl ?_
          refine wp_skip ?_
          refine co_then ?_
          refine co_seq ?_
          refine co_seq ?_
          refine co_reg ?_
          refine pl_val (v := .pointer (some ⟨N3, 2, none⟩)) h33 rfl rfl rfl (by kernel_rfl) (by kernel_rfl) (by kernel_rfl) (fun a36 h36 => ?_); clear h33
          refine pl_val (v := v) h36 rfl rfl rfl (by kernel_rfl) (by kernel_rfl) (rn_load1 rfl rfl Try.isAgg22 (hk5.cell rfl)) (fun a37 h37 => ?_); clear h36
          refine pl_val (v := .int .i64 ((l.length : Nat) : Int)) h37 rfl rfl rfl (by kernel_rfl) (by kernel_rfl) (rn_len rfl rfl Try.underlying22 (hs.below hB8)) (fun a38 h38 => ?_); clear h37
          refine pl_val (v := .bool (decide (((l.length : Nat) : Int) > 4))) h38 rfl rfl rfl (by kernel_rfl) (by kernel_rfl) (by kernel_rfl) (fun a39 h39 => ?_); clear h38
          refine pl_nil ?_
          refine co_then ?_
          cases hc40 : (decide (((l.length : Nat) : Int) > 4))
          ·
            rw [hc40] at h39
            have hp41 : ¬ (((l.length : Nat) : Int) > 4) := of_decide_eq_false hc40
            clear hc40
            refine co_false h39 rfl ?_
            refine wp_skip ?_
            refine co_then ?_
            refine co_seq ?_
            refine co_seq ?_
            refine co_reg ?_
            refine pl_val (v := .int .i64 0) h39 rfl rfl rfl (by kernel_rfl) (by kernel_rfl) (by kernel_rfl) (fun a42 h42 => ?_); clear h39
            refine pl_nil ?_
            refine co_then ?_
            refine wp_block ?_
            have h43 : Slots 66 [(1, .pointer (some ⟨N3, 0, none⟩)), (2, .int .i64 0), (3, .int .i64 0)] _ := h42.sub ⟨rfl, rfl, rfl, trivial⟩; clear h42
            refine co_loop (fun mm a x => ∃ (i : Nat), Slots 66 [(1, .pointer (some ⟨N3, 0, none⟩)), (2, .int .i64 0), (3, .int .i64 ((i : Nat) : Int))] a ∧ mm = l.length - i ∧ (i ≤ l.length) ∧ (chkL (prevK l i) (l.drop i) = chkB c r l) ∧ Below w.heap.size w x ∧ Blk x N3 24 #[.int .i64 c, .int .i64 r, v]) (l.length - 0) ?_ ?_
            · exact ⟨0, h43.sub ⟨rfl, rfl, (slot_eq rfl (congrArg (Value.int .i64) (by first | rfl | omega))), trivial⟩, rfl, by omega, by first | exact chkB_d rfl (by omega) (by omega) (by omega) | exact hL', hB8, hk5⟩
            · rintro k44 a45 w46 ⟨i, h45, rfl, hi47, hi48, hB49, hk50⟩
              have hz51 := hB49.size
              have hl52 := hk50.lt
              have hL : chkL (prevK l i) (l.drop i) = chkB c r l := by assumption
              refine co_seq ?_
              refine co_seq ?_
              refine co_reg ?_
              refine pl_val (v := .int .i64 ((i : Nat) : Int)) h45 rfl rfl rfl (by kernel_rfl) (by kernel_rfl) (by kernel_rfl) (fun a53 h53 => ?_); clear h45
              refine pl_val (v := .pointer (some ⟨N3, 2, none⟩)) h53 rfl rfl rfl (by kernel_rfl) (by kernel_rfl) (by kernel_rfl) (fun a54 h54 => ?_); clear h53
              refine pl_val (v := v) h54 rfl rfl rfl (by kernel_rfl) (by kernel_rfl) (rn_load1 rfl rfl Try.isAgg22 (hk50.cell rfl)) (fun a55 h55 => ?_); clear h54
              refine pl_val (v := .int .i64 ((l.length : Nat) : Int)) h55 rfl rfl rfl (by kernel_rfl) (by kernel_rfl) (rn_len rfl rfl Try.underlying22 (hs.below hB49)) (fun a56 h56 => ?_); clear h55
              refine pl_val (v := .bool (decide (((i : Nat) : Int) < ((l.length : Nat) : Int)))) h56 rfl rfl rfl (by kernel_rfl) (by kernel_rfl) (by kernel_rfl) (fun a57 h57 => ?_); clear h56
              refine pl_nil ?_
              refine co_then ?_
              cases hc58 : (decide (((i : Nat) : Int) < ((l.length : Nat) : Int)))
              ·
                rw [hc58] at h57
                have hp59 : ¬ (((i : Nat) : Int) < ((l.length : Nat) : Int)) := of_decide_eq_false hc58
                clear hc58
                refine co_false h57 rfl ?_
                refine wp_exit ?_
                refine co_thenX ?_
                refine co_thenX ?_
                refine co_blockX ?_
                refine co_then ?_
                refine co_seq ?_
                refine co_reg ?_
                refine pl_val (v := .int .i64 0) h57 rfl rfl rfl (by kernel_rfl) (by kernel_rfl) (by kernel_rfl) (fun a60 h60 => ?_); clear h57
                refine pl_nil ?_
                refine co_then ?_
                refine wp_ret ?_
                refine co_ret1 h60 rfl rfl ?_
                exact ⟨ret_int (chkL_end (i := i) hL (by omega)), hB49⟩
              ·
                rw [hc58] at h57
                have hp61 : ((i : Nat) : Int) < ((l.length : Nat) : Int) := of_decide_eq_true hc58
                clear hc58
                refine co_true h57 rfl ?_
                refine wp_skip ?_
                refine co_then ?_
                refine co_seq ?_
                refine wp_block ?_
                refine co_seq ?_
                refine co_reg ?_
                refine pl_val (v := .pointer (some ⟨N3, 2, none⟩)) h57 rfl rfl rfl (by kernel_rfl) (by kernel_rfl) (by kernel_rfl) (fun a62 h62 => ?_); clear h57
                refine pl_val (v := v) h62 rfl rfl rfl (by kernel_rfl) (by kernel_rfl) (rn_load1 rfl rfl Try.isAgg22 (hk50.cell rfl)) (fun a63 h63 => ?_); clear h62
                refine pl_val (v := .int .i64 ((i : Nat) : Int)) h63 rfl rfl rfl (by kernel_rfl) (by kernel_rfl) (by kernel_rfl) (fun a64 h64 => ?_); clear h63
                obtain ⟨y65, hy65⟩ : ∃ z, l[i]? = some z := ⟨_, List.getElem?_eq_getElem (by first | omega | (simp; done) | (simp; omega))⟩
                refine pl_val (v := .pointer (some ⟨(blkOf v), offOf v + i * 3, none⟩)) h64 rfl rfl rfl (by kernel_rfl) (by kernel_rfl) (rn_index rfl rfl rfl Try.underlying22 Try.sizeOf83 (hs.below hB49) (by omega) (by first | omega | (simp; done) | (simp; omega))) (fun a66 h66 => ?_); clear h64
                refine pl_val (v := .agg #[.string y65.1, .string y65.2.1, .bool y65.2.2]) h66 rfl rfl rfl (by kernel_rfl) (by kernel_rfl) (rn_loadN rfl rfl Try.underlying83 rfl (by kernel_rfl) (sl_at (hs.below hB49) hy65)) (fun a67 h67 => ?_); clear h66
                refine pl_want h67 rfl rfl rfl (op_new (v := fun N => .pointer (some ⟨N, 0, none⟩)) (T := 83) (cs := #[.string (⟨#[]⟩), .string (⟨#[]⟩), .bool false]) (by kernel_rfl) (by kernel_rfl) (by kernel_rfl)) ?_; clear h67
                rintro _ w69 a68 ⟨N70, rfl, hN73, hz74, hk72, hg71⟩ h68
                have hB75 := hb_new hB49 hg71
                have hz76 := hB75.size
                have hz77 := hg71.size
                have hk78 := hk50.kept hg71 (by simp)
                try dsimp only at h68
                refine pl_doW h68 rfl rfl (op_storeN rfl rfl rfl (by kernel_rfl) (by kernel_rfl) hk72 rfl) ?_; clear h68
                rintro _ w80 a79 ⟨hk81, hz82, hg83⟩ h79
                have hk81' : Blk w80 N70 83 #[.string y65.1, .string y65.2.1, .bool y65.2.2] := hk81; clear hk81
                have hB84 := hb_at hB75 hg83 (by omega)
                have hz85 := hB84.size
                have hz86 := hg83.size
                have hk87 := hk78.kept hg83 (by simp; omega)
                refine pl_nil ?_
                refine co_then ?_
                refine co_seq ?_
                refine co_seq ?_
                refine co_reg ?_
                refine pl_val (v := .pointer (some ⟨N70, 0, none⟩)) h79 rfl rfl rfl (by kernel_rfl) (by kernel_rfl) (by kernel_rfl) (fun a88 h88 => ?_); clear h79
                refine pl_val (v := .string y65.1) h88 rfl rfl rfl (by kernel_rfl) (by kernel_rfl) (rn_load1 rfl rfl Try.isAgg9 (hk81'.cell rfl)) (fun a89 h89 => ?_); clear h88
                refine pl_want h89 rfl rfl rfl (op_call (args := #[.string y65.1]) (R := fun res xw => res = .int .i64 (keyC y65.1) ∧ Below w80.heap.size w80 xw) rfl rfl rfl (by kernel_rfl) (by kernel_rfl) (Try.call65 _ _) (rKey_any y65.1 w80 ) (by rintro e x ⟨rfl, hb92⟩; exact ⟨_, rfl, ⟨rfl, hb92⟩⟩)) ?_; clear h89
                rintro _ w91 a90 ⟨rfl, hb92⟩ h90
                have hB93 := hb_call hB84 hb92
                have hz94 := hB93.size
                have hz95 := hb92.size
                have hk96 := hk87.below hb92
                have hk97 := hk81'.below hb92
                refine pl_val (v := .bool (keyC y65.1 != 0)) h90 rfl rfl rfl (by kernel_rfl) (by kernel_rfl) (by kernel_rfl) (fun a98 h98 => ?_); clear h90
                refine pl_nil ?_
                refine co_then ?_
                cases hc99 : (keyC y65.1 != 0)
                ·
                  rw [hc99] at h98
                  have hp100 : ¬ (keyC y65.1 ≠ 0) := by first | simpa using hc99 | simpa [and_assoc] using hc99
                  clear hc99
                  refine co_false h98 rfl ?_
                  refine wp_skip ?_
                  refine co_then ?_
                  refine co_seq ?_
                  refine co_seq ?_
                  refine co_reg ?_
                  refine pl_val (v := .pointer (some ⟨N70, 1, none⟩)) h98 rfl rfl rfl (by kernel_rfl) (by kernel_rfl) (by kernel_rfl) (fun a101 h101 => ?_); clear h98
                  refine pl_val (v := .string y65.2.1) h101 rfl rfl rfl (by kernel_rfl) (by kernel_rfl) (rn_load1 rfl rfl Try.isAgg9 (hk97.cell rfl)) (fun a102 h102 => ?_); clear h101
                  refine pl_val (v := .int .i64 ((y65.2.1.size : Nat) : Int)) h102 rfl rfl rfl (by kernel_rfl) (by kernel_rfl) (rn_lenStr rfl rfl Try.underlying9) (fun a103 h103 => ?_); clear h102
                  refine pl_val (v := .bool (decide (((y65.2.1.size : Nat) : Int) > 8))) h103 rfl rfl rfl (by kernel_rfl) (by kernel_rfl) (by kernel_rfl) (fun a104 h104 => ?_); clear h103
                  refine pl_nil ?_
                  refine co_then ?_
                  cases hc105 : (decide (((y65.2.1.size : Nat) : Int) > 8))
                  ·
                    rw [hc105] at h104
                    have hp106 : ¬ (((y65.2.1.size : Nat) : Int) > 8) := of_decide_eq_false hc105
                    clear hc105
                    refine co_false h104 rfl ?_
                    refine wp_skip ?_
                    refine co_then ?_
                    refine co_seq ?_
                    refine co_seq ?_
                    refine co_reg ?_
                    refine pl_val (v := .pointer (some ⟨N70, 2, none⟩)) h104 rfl rfl rfl (by kernel_rfl) (by kernel_rfl) (by kernel_rfl) (fun a107 h107 => ?_); clear h104
                    refine pl_val (v := .bool y65.2.2) h107 rfl rfl rfl (by kernel_rfl) (by kernel_rfl) (rn_load1 rfl rfl Try.isAgg4 (hk97.cell rfl)) (fun a108 h108 => ?_); clear h107
                    refine pl_val (v := .bool y65.2.2) h108 rfl rfl rfl (by kernel_rfl) (by kernel_rfl) (by kernel_rfl) (fun a109 h109 => ?_); clear h108
                    cases hc110 : (y65.2.2)
                    ·
                      rw [hc110] at h109
                      refine pl_skip h109 rfl rfl rfl (fun a111 h111 => ?_); clear h109
                      refine pl_skip h111 rfl rfl rfl (fun a112 h112 => ?_); clear h111
                      refine pl_skip h112 rfl rfl rfl (fun a113 h113 => ?_); clear h112
                      refine pl_val (v := .bool false) h113 rfl rfl rfl (by kernel_rfl) (by kernel_rfl) (by kernel_rfl) (fun a114 h114 => ?_); clear h113
                      refine pl_nil ?_
                      refine co_then ?_
                      refine co_false h114 rfl ?_
                      refine wp_skip ?_
                      refine co_then ?_
                      refine co_seq ?_
                      refine dr_eq (by kernel_rfl) (fun w115 hg116 => ?_)
                      have hB117 := hb_new hB93 hg116
                      have hz118 := hB117.size
                      have hz119 := hg116.size
                      have hk120 := hk96.kept hg116 (by simp)
                      have hk121 := hk97.kept hg116 (by simp)
                      refine dr_take (i := 0) (v := .int .i64 ((i : Nat) : Int)) h114 rfl (by kernel_rfl) (by kernel_rfl) (by kernel_rfl) rfl rfl rfl rfl (by kernel_rfl) (fun _ _ => by kernel_rfl) (fun a122 h122 => ?_); clear h114
                      refine dr_take (i := 1) (v := .bool (decide (((i : Nat) : Int) > 0))) h122 rfl (by kernel_rfl) (by kernel_rfl) (by kernel_rfl) rfl rfl rfl rfl (by kernel_rfl) (fun _ _ => by kernel_rfl) (fun a123 h123 => ?_); clear h122
                      refine dr_take (i := 2) (v := .bool (decide (((i : Nat) : Int) > 0))) h123 rfl (by kernel_rfl) (by kernel_rfl) (by kernel_rfl) rfl rfl rfl rfl (by kernel_rfl) (fun _ _ => by kernel_rfl) (fun a124 h124 => ?_); clear h123
                      cases hc125 : (decide (((i : Nat) : Int) > 0))
                      ·
                        rw [hc125] at h124
                        have hp126 : ¬ (((i : Nat) : Int) > 0) := of_decide_eq_false hc125
                        clear hc125
                        refine dr_skip (i := 3) h124 rfl (by kernel_rfl) (by kernel_rfl) (by kernel_rfl) rfl rfl rfl rfl (fun a127 h127 => ?_); clear h124
                        refine dr_skip (i := 4) h127 rfl (by kernel_rfl) (by kernel_rfl) (by kernel_rfl) rfl rfl rfl rfl (fun a128 h128 => ?_); clear h127
                        refine dr_skip (i := 5) h128 rfl (by kernel_rfl) (by kernel_rfl) (by kernel_rfl) rfl rfl rfl rfl (fun a129 h129 => ?_); clear h128
                        refine dr_skip (i := 6) h129 rfl (by kernel_rfl) (by kernel_rfl) (by kernel_rfl) rfl rfl rfl rfl (fun a130 h130 => ?_); clear h129
                        refine dr_skip (i := 7) h130 rfl (by kernel_rfl) (by kernel_rfl) (by kernel_rfl) rfl rfl rfl rfl (fun a131 h131 => ?_); clear h130
                        refine dr_skip (i := 8) h131 rfl (by kernel_rfl) (by kernel_rfl) (by kernel_rfl) rfl rfl rfl rfl (fun a132 h132 => ?_); clear h131
                        refine dr_skip (i := 9) h132 rfl (by kernel_rfl) (by kernel_rfl) (by kernel_rfl) rfl rfl rfl rfl (fun a133 h133 => ?_); clear h132
                        refine dr_skip (i := 10) h133 rfl (by kernel_rfl) (by kernel_rfl) (by kernel_rfl) rfl rfl rfl rfl (fun a134 h134 => ?_); clear h133
                        refine dr_skip (i := 11) h134 rfl (by kernel_rfl) (by kernel_rfl) (by kernel_rfl) rfl rfl rfl rfl (fun a135 h135 => ?_); clear h134
                        refine dr_skip (i := 12) h135 rfl (by kernel_rfl) (by kernel_rfl) (by kernel_rfl) rfl rfl rfl rfl (fun a136 h136 => ?_); clear h135
                        refine dr_take (i := 13) (v := .bool false) h136 rfl (by kernel_rfl) (by kernel_rfl) (by kernel_rfl) rfl rfl rfl rfl (by kernel_rfl) (fun _ _ => by kernel_rfl) (fun a137 h137 => ?_); clear h136
                        refine dr_done (by kernel_rfl) ?_
                        refine co_then ?_
                        refine co_false h137 rfl ?_
                        refine wp_skip ?_
                        refine co_blockN ?_
                        refine co_then ?_
                        refine co_reg ?_
                        refine pl_val (v := .int .i64 ((i : Nat) : Int)) h137 rfl rfl rfl (by kernel_rfl) (by kernel_rfl) (by kernel_rfl) (fun a138 h138 => ?_); clear h137
                        refine pl_val (v := .int .i64 ((i + 1 : Nat) : Int)) h138 rfl rfl rfl (by kernel_rfl) (by kernel_rfl) (rn_arith' rfl rfl rfl rfl rfl rfl (IntWalk.i64_in _ (by omega)) (by omega)) (fun a139 h139 => ?_); clear h138
                        refine pl_val (v := .int .i64 ((i + 1 : Nat) : Int)) h139 rfl rfl rfl (by kernel_rfl) (by kernel_rfl) (by kernel_rfl) (fun a140 h140 => ?_); clear h139
                        refine pl_nil ?_
                        refine co_then ?_
                        refine ⟨(l.length - (i + 1)), by omega, ?_⟩
                        have hO : chkOp y65 = 0 := chkOp_d (by assumption) (by assumption) (by first | exact delV_t (by assumption) (by assumption) | exact delV_f (by assumption))
                        have hU : keyUp (prevK l i) y65.1 = true := (keyUp_0 (by omega))
                        have hL' := chkL_step (i := i) hL hy65 hO hU
                        exact ⟨i + 1, h140.sub ⟨rfl, rfl, rfl, trivial⟩, rfl, by omega, by first | exact chkB_d rfl (by omega) (by omega) (by omega) | exact hL', hB117, hk120⟩
                      ·
                        rw [hc125] at h124
                        have hp141 : ((i : Nat) : Int) > 0 := of_decide_eq_true hc125
                        clear hc125
                        refine dr_take (i := 3) (v := .pointer (some ⟨N3, 2, none⟩)) h124 rfl (by kernel_rfl) (by kernel_rfl) (by kernel_rfl) rfl rfl rfl rfl (by kernel_rfl) (fun _ _ => by kernel_rfl) (fun a142 h142 => ?_); clear h124
                        refine dr_take (i := 4) (v := v) h142 rfl (by kernel_rfl) (by kernel_rfl) (by kernel_rfl) rfl rfl rfl rfl (by kernel_rfl) (fun x hx => by subst hx; exact (rn_load1 rfl rfl Try.isAgg22 (hk120.cell rfl))) (fun a143 h143 => ?_); clear h142
                        refine dr_take (i := 5) (v := .int .i64 ((i : Nat) : Int)) h143 rfl (by kernel_rfl) (by kernel_rfl) (by kernel_rfl) rfl rfl rfl rfl (by kernel_rfl) (fun _ _ => by kernel_rfl) (fun a144 h144 => ?_); clear h143
                        refine dr_take (i := 6) (v := .int .i64 (((i : Nat) : Int) - 1)) h144 rfl (by kernel_rfl) (by kernel_rfl) (by kernel_rfl) rfl rfl rfl rfl (by kernel_rfl) (fun x hx => by subst hx; exact (rn_arith rfl rfl rfl rfl rfl rfl (IntWalk.i64_in _ (by omega)))) (fun a145 h145 => ?_); clear h144
                        obtain ⟨y146, hy146⟩ : ∃ z, l[(((i : Nat) : Int) - 1).toNat]? = some z := ⟨_, List.getElem?_eq_getElem (by first | omega | (simp; done) | (simp; omega))⟩
                        refine dr_take (i := 7) (v := .pointer (some ⟨(blkOf v), offOf v + ((((i : Nat) : Int) - 1).toNat) * 3, none⟩)) h145 rfl (by kernel_rfl) (by kernel_rfl) (by kernel_rfl) rfl rfl rfl rfl (by kernel_rfl) (fun x hx => by subst hx; exact (rn_index rfl rfl rfl Try.underlying22 Try.sizeOf83 (hs.below hB117) (by omega) (by first | omega | (simp; done) | (simp; omega)))) (fun a147 h147 => ?_); clear h145
                        refine dr_take (i := 8) (v := .pointer (some ⟨(blkOf v), offOf v + ((((i : Nat) : Int) - 1).toNat) * 3, none⟩)) h147 rfl (by kernel_rfl) (by kernel_rfl) (by kernel_rfl) rfl rfl rfl rfl (by kernel_rfl) (fun _ _ => by kernel_rfl) (fun a148 h148 => ?_); clear h147
                        refine dr_take (i := 9) (v := .string y146.1) h148 rfl (by kernel_rfl) (by kernel_rfl) (by kernel_rfl) rfl rfl rfl rfl (by kernel_rfl) (fun x hx => by subst hx; exact (rn_load1 rfl rfl Try.isAgg9 ((sl_at (hs.below hB117) hy146) 0 _ rfl))) (fun a149 h149 => ?_); clear h148
                        refine dr_take (i := 10) (v := .pointer (some ⟨N70, 0, none⟩)) h149 rfl (by kernel_rfl) (by kernel_rfl) (by kernel_rfl) rfl rfl rfl rfl (by kernel_rfl) (fun _ _ => by kernel_rfl) (fun a150 h150 => ?_); clear h149
                        refine dr_take (i := 11) (v := .string y65.1) h150 rfl (by kernel_rfl) (by kernel_rfl) (by kernel_rfl) rfl rfl rfl rfl (by kernel_rfl) (fun x hx => by subst hx; exact (rn_load1 rfl rfl Try.isAgg9 (hk121.cell rfl))) (fun a151 h151 => ?_); clear h150
                        refine dr_take (i := 12) (v := .bool (!(Op.bytesLess y146.1.toList y65.1.toList))) h151 rfl (by kernel_rfl) (by kernel_rfl) (by kernel_rfl) rfl rfl rfl rfl (by kernel_rfl) (fun _ _ => by kernel_rfl) (fun a152 h152 => ?_); clear h151
                        refine dr_take (i := 13) (v := .bool (!(Op.bytesLess y146.1.toList y65.1.toList))) h152 rfl (by kernel_rfl) (by kernel_rfl) (by kernel_rfl) rfl rfl rfl rfl (by kernel_rfl) (fun _ _ => by kernel_rfl) (fun a153 h153 => ?_); clear h152
                        refine dr_done (by kernel_rfl) ?_
                        refine co_then ?_
                        cases hc154 : (!(Op.bytesLess y146.1.toList y65.1.toList))
                        ·
                          rw [hc154] at h153
                          refine co_false h153 rfl ?_
                          refine wp_skip ?_
                          refine co_blockN ?_
                          refine co_then ?_
                          refine co_reg ?_
                          refine pl_val (v := .int .i64 ((i : Nat) : Int)) h153 rfl rfl rfl (by kernel_rfl) (by kernel_rfl) (by kernel_rfl) (fun a155 h155 => ?_); clear h153
                          refine pl_val (v := .int .i64 ((i + 1 : Nat) : Int)) h155 rfl rfl rfl (by kernel_rfl) (by kernel_rfl) (rn_arith' rfl rfl rfl rfl rfl rfl (IntWalk.i64_in _ (by omega)) (by omega)) (fun a156 h156 => ?_); clear h155
                          refine pl_val (v := .int .i64 ((i + 1 : Nat) : Int)) h156 rfl rfl rfl (by kernel_rfl) (by kernel_rfl) (by kernel_rfl) (fun a157 h157 => ?_); clear h156
                          refine pl_nil ?_
                          refine co_then ?_
                          refine ⟨(l.length - (i + 1)), by omega, ?_⟩
                          have hO : chkOp y65 = 0 := chkOp_d (by assumption) (by assumption) (by first | exact delV_t (by assumption) (by assumption) | exact delV_f (by assumption))
                          have hU : keyUp (prevK l i) y65.1 = true := (keyUp_at (l := l) (i := i) (y := y65) (j := (((i : Nat) : Int) - 1).toNat) (by omega) (by omega) hy146 (by simpa using hc154))
                          have hL' := chkL_step (i := i) hL hy65 hO hU
                          exact ⟨i + 1, h157.sub ⟨rfl, rfl, rfl, trivial⟩, rfl, by omega, by first | exact chkB_d rfl (by omega) (by omega) (by omega) | exact hL', hB117, hk120⟩
                        ·
                          rw [hc154] at h153
                          refine co_true h153 rfl ?_
                          refine co_seq ?_
                          refine co_reg ?_
                          refine pl_val (v := .int .i64 18) h153 rfl rfl rfl (by kernel_rfl) (by kernel_rfl) (by kernel_rfl) (fun a158 h158 => ?_); clear h153
                          refine pl_nil ?_
                          refine co_then ?_
                          refine wp_ret ?_
                          refine co_blockR ?_
                          refine co_thenR ?_
                          refine co_thenR ?_
                          refine co_blockR ?_
                          refine co_thenR ?_
                          refine co_ret1 h158 rfl rfl ?_
                          have hO : chkOp y65 = 0 := chkOp_d (by assumption) (by assumption) (by first | exact delV_t (by assumption) (by assumption) | exact delV_f (by assumption))
                          exact ⟨ret_int (chkL_ord (i := i) hL hy65 hO (keyUp_at (l := l) (i := i) (y := y65) (j := (((i : Nat) : Int) - 1).toNat) (by omega) (by omega) hy146 (by simpa using hc154))), hB117⟩
                    ·
                      rw [hc110] at h109
                      refine pl_val (v := .pointer (some ⟨N70, 1, none⟩)) h109 rfl rfl rfl (by kernel_rfl) (by kernel_rfl) (by kernel_rfl) (fun a159 h159 => ?_); clear h109
                      refine pl_val (v := .string y65.2.1) h159 rfl rfl rfl (by kernel_rfl) (by kernel_rfl) (rn_load1 rfl rfl Try.isAgg9 (hk97.cell rfl)) (fun a160 h160 => ?_); clear h159
                      refine pl_val (v := .bool (!(y65.2.1.toList == (⟨#[]⟩ : ByteArray).toList))) h160 rfl rfl rfl (by kernel_rfl) (by kernel_rfl) (by kernel_rfl) (fun a161 h161 => ?_); clear h160
                      refine pl_val (v := .bool (!(y65.2.1.toList == (⟨#[]⟩ : ByteArray).toList))) h161 rfl rfl rfl (by kernel_rfl) (by kernel_rfl) (by kernel_rfl) (fun a162 h162 => ?_); clear h161
                      refine pl_nil ?_
                      refine co_then ?_
                      cases hc163 : (!(y65.2.1.toList == (⟨#[]⟩ : ByteArray).toList))
                      ·
                        rw [hc163] at h162
                        refine co_false h162 rfl ?_
                        refine wp_skip ?_
                        refine co_then ?_
                        refine co_seq ?_
                        refine dr_eq (by kernel_rfl) (fun w164 hg165 => ?_)
                        have hB166 := hb_new hB93 hg165
                        have hz167 := hB166.size
                        have hz168 := hg165.size
                        have hk169 := hk96.kept hg165 (by simp)
                        have hk170 := hk97.kept hg165 (by simp)
                        refine dr_take (i := 0) (v := .int .i64 ((i : Nat) : Int)) h162 rfl (by kernel_rfl) (by kernel_rfl) (by kernel_rfl) rfl rfl rfl rfl (by kernel_rfl) (fun _ _ => by kernel_rfl) (fun a171 h171 => ?_); clear h162
                        refine dr_take (i := 1) (v := .bool (decide (((i : Nat) : Int) > 0))) h171 rfl (by kernel_rfl) (by kernel_rfl) (by kernel_rfl) rfl rfl rfl rfl (by kernel_rfl) (fun _ _ => by kernel_rfl) (fun a172 h172 => ?_); clear h171
                        refine dr_take (i := 2) (v := .bool (decide (((i : Nat) : Int) > 0))) h172 rfl (by kernel_rfl) (by kernel_rfl) (by kernel_rfl) rfl rfl rfl rfl (by kernel_rfl) (fun _ _ => by kernel_rfl) (fun a173 h173 => ?_); clear h172
                        cases hc174 : (decide (((i : Nat) : Int) > 0))
                        ·
                          rw [hc174] at h173
                          have hp175 : ¬ (((i : Nat) : Int) > 0) := of_decide_eq_false hc174
                          clear hc174
                          refine dr_skip (i := 3) h173 rfl (by kernel_rfl) (by kernel_rfl) (by kernel_rfl) rfl rfl rfl rfl (fun a176 h176 => ?_); clear h173
                          refine dr_skip (i := 4) h176 rfl (by kernel_rfl) (by kernel_rfl) (by kernel_rfl) rfl rfl rfl rfl (fun a177 h177 => ?_); clear h176
                          refine dr_skip (i := 5) h177 rfl (by kernel_rfl) (by kernel_rfl) (by kernel_rfl) rfl rfl rfl rfl (fun a178 h178 => ?_); clear h177
                          refine dr_skip (i := 6) h178 rfl (by kernel_rfl) (by kernel_rfl) (by kernel_rfl) rfl rfl rfl rfl (fun a179 h179 => ?_); clear h178
                          refine dr_skip (i := 7) h179 rfl (by kernel_rfl) (by kernel_rfl) (by kernel_rfl) rfl rfl rfl rfl (fun a180 h180 => ?_); clear h179
                          refine dr_skip (i := 8) h180 rfl (by kernel_rfl) (by kernel_rfl) (by kernel_rfl) rfl rfl rfl rfl (fun a181 h181 => ?_); clear h180
                          refine dr_skip (i := 9) h181 rfl (by kernel_rfl) (by kernel_rfl) (by kernel_rfl) rfl rfl rfl rfl (fun a182 h182 => ?_); clear h181
                          refine dr_skip (i := 10) h182 rfl (by kernel_rfl) (by kernel_rfl) (by kernel_rfl) rfl rfl rfl rfl (fun a183 h183 => ?_); clear h182
                          refine dr_skip (i := 11) h183 rfl (by kernel_rfl) (by kernel_rfl) (by kernel_rfl) rfl rfl rfl rfl (fun a184 h184 => ?_); clear h183
                          refine dr_skip (i := 12) h184 rfl (by kernel_rfl) (by kernel_rfl) (by kernel_rfl) rfl rfl rfl rfl (fun a185 h185 => ?_); clear h184
                          refine dr_take (i := 13) (v := .bool false) h185 rfl (by kernel_rfl) (by kernel_rfl) (by kernel_rfl) rfl rfl rfl rfl (by kernel_rfl) (fun _ _ => by kernel_rfl) (fun a186 h186 => ?_); clear h185
                          refine dr_done (by kernel_rfl) ?_
                          refine co_then ?_
                          refine co_false h186 rfl ?_
                          refine wp_skip ?_
                          refine co_blockN ?_
                          refine co_then ?_
                          refine co_reg ?_
                          refine pl_val (v := .int .i64 ((i : Nat) : Int)) h186 rfl rfl rfl (by kernel_rfl) (by kernel_rfl) (by kernel_rfl) (fun a187 h187 => ?_); clear h186
                          refine pl_val (v := .int .i64 ((i + 1 : Nat) : Int)) h187 rfl rfl rfl (by kernel_rfl) (by kernel_rfl) (rn_arith' rfl rfl rfl rfl rfl rfl (IntWalk.i64_in _ (by omega)) (by omega)) (fun a188 h188 => ?_); clear h187
                          refine pl_val (v := .int .i64 ((i + 1 : Nat) : Int)) h188 rfl rfl rfl (by kernel_rfl) (by kernel_rfl) (by kernel_rfl) (fun a189 h189 => ?_); clear h188
                          refine pl_nil ?_
                          refine co_then ?_
                          refine ⟨(l.length - (i + 1)), by omega, ?_⟩
                          have hO : chkOp y65 = 0 := chkOp_d (by assumption) (by assumption) (by first | exact delV_t (by assumption) (by assumption) | exact delV_f (by assumption))
                          have hU : keyUp (prevK l i) y65.1 = true := (keyUp_0 (by omega))
                          have hL' := chkL_step (i := i) hL hy65 hO hU
                          exact ⟨i + 1, h189.sub ⟨rfl, rfl, rfl, trivial⟩, rfl, by omega, by first | exact chkB_d rfl (by omega) (by omega) (by omega) | exact hL', hB166, hk169⟩
                        ·
                          rw [hc174] at h173
                          have hp190 : ((i : Nat) : Int) > 0 := of_decide_eq_true hc174
                          clear hc174
                          refine dr_take (i := 3) (v := .pointer (some ⟨N3, 2, none⟩)) h173 rfl (by kernel_rfl) (by kernel_rfl) (by kernel_rfl) rfl rfl rfl rfl (by kernel_rfl) (fun _ _ => by kernel_rfl) (fun a191 h191 => ?_); clear h173
                          refine dr_take (i := 4) (v := v) h191 rfl (by kernel_rfl) (by kernel_rfl) (by kernel_rfl) rfl rfl rfl rfl (by kernel_rfl) (fun x hx => by subst hx; exact (rn_load1 rfl rfl Try.isAgg22 (hk169.cell rfl))) (fun a192 h192 => ?_); clear h191
                          refine dr_take (i := 5) (v := .int .i64 ((i : Nat) : Int)) h192 rfl (by kernel_rfl) (by kernel_rfl) (by kernel_rfl) rfl rfl rfl rfl (by kernel_rfl) (fun _ _ => by kernel_rfl) (fun a193 h193 => ?_); clear h192
                          refine dr_take (i := 6) (v := .int .i64 (((i : Nat) : Int) - 1)) h193 rfl (by kernel_rfl) (by kernel_rfl) (by kernel_rfl) rfl rfl rfl rfl (by kernel_rfl) (fun x hx => by subst hx; exact (rn_arith rfl rfl rfl rfl rfl rfl (IntWalk.i64_in _ (by omega)))) (fun a194 h194 => ?_); clear h193
                          obtain ⟨y195, hy195⟩ : ∃ z, l[(((i : Nat) : Int) - 1).toNat]? = some z := ⟨_, List.getElem?_eq_getElem (by first | omega | (simp; done) | (simp; omega))⟩
                          refine dr_take (i := 7) (v := .pointer (some ⟨(blkOf v), offOf v + ((((i : Nat) : Int) - 1).toNat) * 3, none⟩)) h194 rfl (by kernel_rfl) (by kernel_rfl) (by kernel_rfl) rfl rfl rfl rfl (by kernel_rfl) (fun x hx => by subst hx; exact (rn_index rfl rfl rfl Try.underlying22 Try.sizeOf83 (hs.below hB166) (by omega) (by first | omega | (simp; done) | (simp; omega)))) (fun a196 h196 => ?_); clear h194
                          refine dr_take (i := 8) (v := .pointer (some ⟨(blkOf v), offOf v + ((((i : Nat) : Int) - 1).toNat) * 3, none⟩)) h196 rfl (by kernel_rfl) (by kernel_rfl) (by kernel_rfl) rfl rfl rfl rfl (by kernel_rfl) (fun _ _ => by kernel_rfl) (fun a197 h197 => ?_); clear h196
                          refine dr_take (i := 9) (v := .string y195.1) h197 rfl (by kernel_rfl) (by kernel_rfl) (by kernel_rfl) rfl rfl rfl rfl (by kernel_rfl) (fun x hx => by subst hx; exact (rn_load1 rfl rfl Try.isAgg9 ((sl_at (hs.below hB166) hy195) 0 _ rfl))) (fun a198 h198 => ?_); clear h197
                          refine dr_take (i := 10) (v := .pointer (some ⟨N70, 0, none⟩)) h198 rfl (by kernel_rfl) (by kernel_rfl) (by kernel_rfl) rfl rfl rfl rfl (by kernel_rfl) (fun _ _ => by kernel_rfl) (fun a199 h199 => ?_); clear h198
                          refine dr_take (i := 11) (v := .string y65.1) h199 rfl (by kernel_rfl) (by kernel_rfl) (by kernel_rfl) rfl rfl rfl rfl (by kernel_rfl) (fun x hx => by subst hx; exact (rn_load1 rfl rfl Try.isAgg9 (hk170.cell rfl))) (fun a200 h200 => ?_); clear h199
                          refine dr_take (i := 12) (v := .bool (!(Op.bytesLess y195.1.toList y65.1.toList))) h200 rfl (by kernel_rfl) (by kernel_rfl) (by kernel_rfl) rfl rfl rfl rfl (by kernel_rfl) (fun _ _ => by kernel_rfl) (fun a201 h201 => ?_); clear h200
                          refine dr_take (i := 13) (v := .bool (!(Op.bytesLess y195.1.toList y65.1.toList))) h201 rfl (by kernel_rfl) (by kernel_rfl) (by kernel_rfl) rfl rfl rfl rfl (by kernel_rfl) (fun _ _ => by kernel_rfl) (fun a202 h202 => ?_); clear h201
                          refine dr_done (by kernel_rfl) ?_
                          refine co_then ?_
                          cases hc203 : (!(Op.bytesLess y195.1.toList y65.1.toList))
                          ·
                            rw [hc203] at h202
                            refine co_false h202 rfl ?_
                            refine wp_skip ?_
                            refine co_blockN ?_
                            refine co_then ?_
                            refine co_reg ?_
                            refine pl_val (v := .int .i64 ((i : Nat) : Int)) h202 rfl rfl rfl (by kernel_rfl) (by kernel_rfl) (by kernel_rfl) (fun a204 h204 => ?_); clear h202
                            refine pl_val (v := .int .i64 ((i + 1 : Nat) : Int)) h204 rfl rfl rfl (by kernel_rfl) (by kernel_rfl) (rn_arith' rfl rfl rfl rfl rfl rfl (IntWalk.i64_in _ (by omega)) (by omega)) (fun a205 h205 => ?_); clear h204
                            refine pl_val (v := .int .i64 ((i + 1 : Nat) : Int)) h205 rfl rfl rfl (by kernel_rfl) (by kernel_rfl) (by kernel_rfl) (fun a206 h206 => ?_); clear h205
                            refine pl_nil ?_
                            refine co_then ?_
                            refine ⟨(l.length - (i + 1)), by omega, ?_⟩
                            have hO : chkOp y65 = 0 := chkOp_d (by assumption) (by assumption) (by first | exact delV_t (by assumption) (by assumption) | exact delV_f (by assumption))
                            have hU : keyUp (prevK l i) y65.1 = true := (keyUp_at (l := l) (i := i) (y := y65) (j := (((i : Nat) : Int) - 1).toNat) (by omega) (by omega) hy195 (by simpa using hc203))
                            have hL' := chkL_step (i := i) hL hy65 hO hU
                            exact ⟨i + 1, h206.sub ⟨rfl, rfl, rfl, trivial⟩, rfl, by omega, by first | exact chkB_d rfl (by omega) (by omega) (by omega) | exact hL', hB166, hk169⟩
                          ·
                            rw [hc203] at h202
                            refine co_true h202 rfl ?_
                            refine co_seq ?_
                            refine co_reg ?_
                            refine pl_val (v := .int .i64 18) h202 rfl rfl rfl (by kernel_rfl) (by kernel_rfl) (by kernel_rfl) (fun a207 h207 => ?_); clear h202
                            refine pl_nil ?_
                            refine co_then ?_
                            refine wp_ret ?_
                            refine co_blockR ?_
                            refine co_thenR ?_
                            refine co_thenR ?_
                            refine co_blockR ?_
                            refine co_thenR ?_
                            refine co_ret1 h207 rfl rfl ?_
                            have hO : chkOp y65 = 0 := chkOp_d (by assumption) (by assumption) (by first | exact delV_t (by assumption) (by assumption) | exact delV_f (by assumption))
                            exact ⟨ret_int (chkL_ord (i := i) hL hy65 hO (keyUp_at (l := l) (i := i) (y := y65) (j := (((i : Nat) : Int) - 1).toNat) (by omega) (by omega) hy195 (by simpa using hc203))), hB166⟩
                      ·
                        rw [hc163] at h162
                        refine co_true h162 rfl ?_
                        refine co_seq ?_
                        refine co_reg ?_
                        refine pl_val (v := .int .i64 4) h162 rfl rfl rfl (by kernel_rfl) (by kernel_rfl) (by kernel_rfl) (fun a208 h208 => ?_); clear h162
                        refine pl_nil ?_
                        refine co_then ?_
                        refine wp_ret ?_
                        refine co_thenR ?_
                        refine co_blockR ?_
                        refine co_thenR ?_
                        refine co_thenR ?_
                        refine co_blockR ?_
                        refine co_thenR ?_
                        refine co_ret1 h208 rfl rfl ?_
                        have hO : chkOp y65 = 4 := chkOp_c (by assumption) (by assumption) (by first | exact delV_t (by assumption) (by assumption) | exact delV_f (by assumption))
                        exact ⟨ret_int (hO.symm.trans (chkL_bad (i := i) hL hy65 (by omega))), hB93⟩
                  ·
                    rw [hc105] at h104
                    have hp209 : ((y65.2.1.size : Nat) : Int) > 8 := of_decide_eq_true hc105
                    clear hc105
                    refine co_true h104 rfl ?_
                    refine co_seq ?_
                    refine co_reg ?_
                    refine pl_val (v := .int .i64 3) h104 rfl rfl rfl (by kernel_rfl) (by kernel_rfl) (by kernel_rfl) (fun a210 h210 => ?_); clear h104
                    refine pl_nil ?_
                    refine co_then ?_
                    refine wp_ret ?_
                    refine co_thenR ?_
                    refine co_blockR ?_
                    refine co_thenR ?_
                    refine co_thenR ?_
                    refine co_blockR ?_
                    refine co_thenR ?_
                    refine co_ret1 h210 rfl rfl ?_
                    have hO : chkOp y65 = 3 := chkOp_b (by assumption) (by assumption)
                    exact ⟨ret_int (hO.symm.trans (chkL_bad (i := i) hL hy65 (by omega))), hB93⟩
                ·
                  rw [hc99] at h98
                  have hp211 : keyC y65.1 ≠ 0 := by first | simpa using hc99 | simpa [and_assoc] using hc99
                  clear hc99
                  refine co_true h98 rfl ?_
                  refine co_seq ?_
                  refine co_reg ?_
                  refine pl_val (v := .int .i64 10) h98 rfl rfl rfl (by kernel_rfl) (by kernel_rfl) (by kernel_rfl) (fun a212 h212 => ?_); clear h98
                  refine pl_nil ?_
                  refine co_then ?_
                  refine wp_ret ?_
                  refine co_thenR ?_
                  refine co_blockR ?_
                  refine co_thenR ?_
                  refine co_thenR ?_
                  refine co_blockR ?_
                  refine co_thenR ?_
                  refine co_ret1 h212 rfl rfl ?_
                  have hO : chkOp y65 = 10 := by rw [chkOp_a (by assumption), keyC_ten (by assumption)]
                  exact ⟨ret_int (hO.symm.trans (chkL_bad (i := i) hL hy65 (by omega))), hB93⟩
          ·
            rw [hc40] at h39
            have hp213 : ((l.length : Nat) : Int) > 4 := of_decide_eq_true hc40
            clear hc40
            refine co_true h39 rfl ?_
            refine co_seq ?_
            refine co_reg ?_
            refine pl_val (v := .int .i64 6) h39 rfl rfl rfl (by kernel_rfl) (by kernel_rfl) (by kernel_rfl) (fun a214 h214 => ?_); clear h39
            refine pl_nil ?_
            refine co_then ?_
            refine wp_ret ?_
            refine co_thenR ?_
            refine co_ret1 h214 rfl rfl ?_
            exact ⟨ret_int (chkB_c rfl (by omega) (by omega) (by omega)), hB8⟩
        ·
          rw [hc34] at h33
          have hp215 : r > 1073741824 := of_decide_eq_true hc34
          clear hc34
          refine co_true h33 rfl ?_
          refine co_seq ?_
          refine co_reg ?_
          refine pl_val (v := .int .i64 5) h33 rfl rfl rfl (by kernel_rfl) (by kernel_rfl) (by kernel_rfl) (fun a216 h216 => ?_); clear h33
          refine pl_nil ?_
          refine co_then ?_
          refine wp_ret ?_
          refine co_thenR ?_
          refine co_ret1 h216 rfl rfl ?_
          exact ⟨ret_int (chkB_b rfl (by omega) (by omega)), hB8⟩
      ·
        rw [hc28] at h27
        have hp217 : r < 1 := of_decide_eq_true hc28
        clear hc28
        refine pl_skip h27 rfl rfl rfl (fun a218 h218 => ?_); clear h27
        refine pl_skip h218 rfl rfl rfl (fun a219 h219 => ?_); clear h218
        refine pl_skip h219 rfl rfl rfl (fun a220 h220 => ?_); clear h219
        refine pl_val (v := .bool true) h220 rfl rfl rfl (by kernel_rfl) (by kernel_rfl) (by kernel_rfl) (fun a221 h221 => ?_); clear h220
        refine pl_nil ?_
        refine co_then ?_
        refine co_true h221 rfl ?_
        refine co_seq ?_
        refine co_reg ?_
        refine pl_val (v := .int .i64 5) h221 rfl rfl rfl (by kernel_rfl) (by kernel_rfl) (by kernel_rfl) (fun a222 h222 => ?_); clear h221
        refine pl_nil ?_
        refine co_then ?_
        refine wp_ret ?_
        refine co_thenR ?_
        refine co_ret1 h222 rfl rfl ?_
        exact ⟨ret_int (chkB_b rfl (by omega) (by omega)), hB8⟩
    ·
      rw [hc22] at h21
      have hp223 : c ≥ 3 := of_decide_eq_true hc22
      clear hc22
      refine co_true h21 rfl ?_
      refine co_seq ?_
      refine co_reg ?_
      refine pl_val (v := .int .i64 1) h21 rfl rfl rfl (by kernel_rfl) (by kernel_rfl) (by kernel_rfl) (fun a224 h224 => ?_); clear h21
      refine pl_nil ?_
      refine co_then ?_
      refine wp_ret ?_
      refine co_thenR ?_
      refine co_ret1 h224 rfl rfl ?_
      exact ⟨ret_int (chkB_a rfl (by omega)), hB8⟩
  ·
    rw [hc16] at h15
    have hp225 : c < 0 := of_decide_eq_true hc16
    clear hc16
    refine pl_skip h15 rfl rfl rfl (fun a226 h226 => ?_); clear h15
    refine pl_skip h226 rfl rfl rfl (fun a227 h227 => ?_); clear h226
    refine pl_skip h227 rfl rfl rfl (fun a228 h228 => ?_); clear h227
    refine pl_val (v := .bool true) h228 rfl rfl rfl (by kernel_rfl) (by kernel_rfl) (by kernel_rfl) (fun a229 h229 => ?_); clear h228
    refine pl_nil ?_
    refine co_then ?_
    refine co_true h229 rfl ?_
    refine co_seq ?_
    refine co_reg ?_
    refine pl_val (v := .int .i64 1) h229 rfl rfl rfl (by kernel_rfl) (by kernel_rfl) (by kernel_rfl) (fun a230 h230 => ?_); clear h229
    refine pl_nil ?_
    refine co_then ?_
    refine wp_ret ?_
    refine co_thenR ?_
    refine co_ret1 h230 rfl rfl ?_
    exact ⟨ret_int (chkB_a rfl (by omega)), hB8⟩
end Go.Proofs.Ytciilfkjecmdiaa

/- Package ops: Same, Put of both. Conditions: none. -/
namespace Go.Proofs.Ytciilfkjecmdiaa
open Go.RowKit Go.PlainAid
set_option linter.unusedVariables false


def eqO (x y : OpT) : Bool := x.1.toList == y.1.toList && x.2.1.toList == y.2.1.toList && x.2.2 == y.2.2
def sameL : List OpT → List OpT → Bool
  | [], [] => true
  | x :: a, y :: b => eqO x y && sameL a b
  | _, _ => false
theorem sameL_len : ∀ {a b : List OpT}, a.length ≠ b.length → false = sameL a b
  | [], [], h => absurd rfl h
  | [], _ :: _, _ => rfl
  | _ :: _, [], _ => rfl
  | x :: a, y :: b, h => by
    show false = (eqO x y && sameL a b)
    rw [← sameL_len (a := a) (b := b) (fun e => h (by simp [e]))]; simp
theorem sameL_step {a b : List OpT} {i : Nat} {x y : OpT} {z : Bool} (h : sameL (a.drop i) (b.drop i) = z) (hx : a[i]? = some x) (hy : b[i]? = some y) (he : eqO x y = true) : sameL (a.drop (i + 1)) (b.drop (i + 1)) = z := by
  rw [dropO_at hx, dropO_at hy] at h; unfold sameL at h; rwa [he, Bool.true_and] at h
theorem sameL_no {a b : List OpT} {i : Nat} {x y : OpT} {z : Bool} (h : sameL (a.drop i) (b.drop i) = z) (hx : a[i]? = some x) (hy : b[i]? = some y) (he : eqO x y = false) : false = z := by
  rw [dropO_at hx, dropO_at hy] at h; unfold sameL at h; rwa [he, Bool.false_and] at h
theorem sameL_end {a b : List OpT} {i : Nat} {z : Bool} (h : sameL (a.drop i) (b.drop i) = z) (hl : a.length = b.length) (hi : a.length ≤ i) : true = z := by
  rw [List.drop_eq_nil_of_le hi, List.drop_eq_nil_of_le (by omega)] at h; exact h
theorem eqO_of {x y : OpT} {b : Bool} (h : (!(x.1.toList == y.1.toList && x.2.1.toList == y.2.1.toList && x.2.2 == y.2.2)) = b) : eqO x y = !b := by unfold eqO; rw [← h]; simp
theorem eqO_refl (x : OpT) : eqO x x = true := by unfold eqO; simp
theorem sameL_refl : ∀ a : List OpT, sameL a a = true
  | [] => rfl
  | x :: a => by show (eqO x x && sameL a a) = true; rw [eqO_refl, sameL_refl a]; rfl
def sameB (c r : Int) (l : List OpT) (c2 r2 : Int) (l2 : List OpT) : Bool := if c = c2 ∧ r = r2 then sameL l l2 else false
theorem sameB_y {c r c2 r2 : Int} {l l2 : List OpT} (h : c = c2) (h1 : r = r2) : sameL l l2 = sameB c r l c2 r2 l2 := by unfold sameB; rw [if_pos ⟨h, h1⟩]
theorem sameB_n {c r c2 r2 : Int} {l l2 : List OpT} (h : ¬ (c = c2 ∧ r = r2)) : false = sameB c r l c2 r2 l2 := by unfold sameB; rw [if_neg h]
theorem sameB_refl (c r : Int) (l : List OpT) : sameB c r l c r l = true := by rw [← sameB_y rfl rfl, sameL_refl]
/-- The bytes of a batch. -/
def putO1 (o : OpT) : List UInt8 := (putL (o.1.size : Int) ++ o.1.data.toList) ++ [flagB o.2.2] ++ (putL (o.2.1.size : Int) ++ o.2.1.data.toList)
def putOs (l : List OpT) : List UInt8 := l.flatMap putO1
def putH (c r : Int) (l : List OpT) : List UInt8 := putL c ++ putL r ++ putL ((l.length : Nat) : Int)
def putB (c r : Int) (l : List OpT) : ByteArray := if chkB c r l = 0 then ⟨(putH c r l ++ putOs l).toArray⟩ else ⟨#[]⟩
theorem putB_ok {c r : Int} {l : List OpT} (h : chkB c r l = 0) : putB c r l = ⟨(putH c r l ++ putOs l).toArray⟩ := by unfold putB; rw [if_pos h]
theorem putB_err {c r : Int} {l : List OpT} (h : chkB c r l ≠ 0) : putB c r l = ⟨#[]⟩ := by unfold putB; rw [if_neg h]

set_option maxRecDepth 100000 in
theorem equalOp_any (v : Value) (l : List OpT) (v2 : Value) (l2 : List OpT) (w : World) (hs : SliceOf opE 3 w v l) (hs2 : SliceOf opE 3 w v2 l2) :
    Calls Try.prog 66 #[v, v2] w fun e w' => e = .returned (.bool (sameL l l2)) ∧ Below w.heap.size w w' := by
  have hB0 := Below.refl w.heap.size w
  have hl_hs := sl_len hs
  have hl_hs2 := sl_len hs2
  refine co_enter (n := 26) Try.func66 rfl rfl rfl [(0, v), (1, v2)] rfl (fun a h0 => ?_)
  refine co_seq ?_
  refine co_reg ?_
  refine pl_val (v := .bool false) h0 rfl rfl rfl (by kernel_rfl) (by kernel_rfl) (by kernel_rfl) (fun a1 h1 => ?_); clear h0
  refine pl_nil ?_
  refine co_then ?_
  refine co_seq ?_
  refine co_seq ?_
  refine co_reg ?_
  refine pl_val (v := v) h1 rfl rfl rfl (by kernel_rfl) (by kernel_rfl) (by kernel_rfl) (fun a2 h2 => ?_); clear h1
  refine pl_val (v := .int .i64 ((l.length : Nat) : Int)) h2 rfl rfl rfl (by kernel_rfl) (by kernel_rfl) (rn_len rfl rfl Try.underlying22 hs) (fun a3 h3 => ?_); clear h2
  refine pl_val (v := v2) h3 rfl rfl rfl (by kernel_rfl) (by kernel_rfl) (by kernel_rfl) (fun a4 h4 => ?_); clear h3
  refine pl_val (v := .int .i64 ((l2.length : Nat) : Int)) h4 rfl rfl rfl (by kernel_rfl) (by kernel_rfl) (rn_len rfl rfl Try.underlying22 hs2) (fun a5 h5 => ?_); clear h4
  refine pl_val (v := .bool (((l.length : Nat) : Int) != ((l2.length : Nat) : Int))) h5 rfl rfl rfl (by kernel_rfl) (by kernel_rfl) (by kernel_rfl) (fun a6 h6 => ?_); clear h5
  refine pl_nil ?_
  refine co_then ?_
  cases hc7 : (((l.length : Nat) : Int) != ((l2.length : Nat) : Int))
  ·
    rw [hc7] at h6
    have hp8 : ¬ (((l.length : Nat) : Int) ≠ ((l2.length : Nat) : Int)) := by first | simpa using hc7 | simpa [and_assoc] using hc7
    clear hc7
    refine co_false h6 rfl ?_
    refine wp_skip ?_
    refine co_then ?_
    refine co_seq ?_
    refine co_seq ?_
    refine co_reg ?_
    refine pl_val (v := v) h6 rfl rfl rfl (by kernel_rfl) (by kernel_rfl) (by kernel_rfl) (fun a9 h9 => ?_); clear h6
    refine pl_val (v := .int .i64 ((l.length : Nat) : Int)) h9 rfl rfl rfl (by kernel_rfl) (by kernel_rfl) (rn_len rfl rfl Try.underlying22 hs) (fun a10 h10 => ?_); clear h9
    refine pl_val (v := .int .i64 0) h10 rfl rfl rfl (by kernel_rfl) (by kernel_rfl) (by kernel_rfl) (fun a11 h11 => ?_); clear h10
    refine pl_nil ?_
    refine co_then ?_
    refine wp_block ?_
    have h12 : Slots 26 [(0, v), (1, v2), (4, .bool false), (12, .int .i64 ((l.length : Nat) : Int)), (13, .int .i64 0)] _ := h11.sub ⟨rfl, rfl, rfl, rfl, rfl, trivial⟩; clear h11
    refine co_loop (fun mm a x => ∃ (i : Nat), Slots 26 [(0, v), (1, v2), (4, .bool false), (12, .int .i64 ((l.length : Nat) : Int)), (13, .int .i64 ((i : Nat) : Int))] a ∧ mm = l.length - i ∧ (i ≤ l.length) ∧ (l.length = l2.length) ∧ (sameL (l.drop i) (l2.drop i) = sameL l l2) ∧ Below w.heap.size w x) (l.length - 0) ?_ ?_
    · exact ⟨0, h12.sub ⟨rfl, rfl, rfl, rfl, (slot_eq rfl (congrArg (Value.int .i64) (by first | rfl | omega))), trivial⟩, rfl, by omega, by omega, by first | rfl | exact hL', hB0⟩
    · rintro k13 a14 w15 ⟨i, h14, rfl, hi16, hi17, hi18, hB19⟩
      have hz20 := hB19.size
      have hL : sameL (l.drop i) (l2.drop i) = sameL l l2 := by assumption
      refine co_seq ?_
      refine co_reg ?_
      refine pl_val (v := .bool (decide (((i : Nat) : Int) < ((l.length : Nat) : Int)))) h14 rfl rfl rfl (by kernel_rfl) (by kernel_rfl) (by kernel_rfl) (fun a21 h21 => ?_); clear h14
      refine pl_nil ?_
      refine co_then ?_
      refine co_seq ?_
      cases hc22 : (decide (((i : Nat) : Int) < ((l.length : Nat) : Int)))
      ·
        rw [hc22] at h21
        have hp23 : ¬ (((i : Nat) : Int) < ((l.length : Nat) : Int)) := of_decide_eq_false hc22
        clear hc22
        refine co_false h21 rfl ?_
        refine wp_exit ?_
        refine co_thenX ?_
        refine co_thenX ?_
        refine co_blockX ?_
        refine co_then ?_
        refine co_seq ?_
        refine co_reg ?_
        refine pl_val (v := .bool true) h21 rfl rfl rfl (by kernel_rfl) (by kernel_rfl) (by kernel_rfl) (fun a24 h24 => ?_); clear h21
        refine pl_nil ?_
        refine co_then ?_
        refine wp_ret ?_
        refine co_ret1 h24 rfl rfl ?_
        exact ⟨ret_bool (sameL_end (i := i) hL (by omega) (by omega)), hB19⟩
      ·
        rw [hc22] at h21
        have hp25 : ((i : Nat) : Int) < ((l.length : Nat) : Int) := of_decide_eq_true hc22
        clear hc22
        refine co_true h21 rfl ?_
        refine wp_skip ?_
        refine co_then ?_
        refine co_seq ?_
        refine wp_block ?_
        refine co_seq ?_
        refine co_reg ?_
        refine pl_val (v := .int .i64 ((i : Nat) : Int)) h21 rfl rfl rfl (by kernel_rfl) (by kernel_rfl) (by kernel_rfl) (fun a26 h26 => ?_); clear h21
        refine pl_val (v := .int .i64 ((i : Nat) : Int)) h26 rfl rfl rfl (by kernel_rfl) (by kernel_rfl) (by kernel_rfl) (fun a27 h27 => ?_); clear h26
        refine pl_nil ?_
        refine co_then ?_
        refine co_seq ?_
        refine dr_eq (by kernel_rfl) (fun w28 hg29 => ?_)
        have hB30 := hb_new hB19 hg29
        have hz31 := hB30.size
        have hz32 := hg29.size
        refine dr_take (i := 0) (v := v) h27 rfl (by kernel_rfl) (by kernel_rfl) (by kernel_rfl) rfl rfl rfl rfl (by kernel_rfl) (fun _ _ => by kernel_rfl) (fun a33 h33 => ?_); clear h27
        refine dr_take (i := 1) (v := .int .i64 ((i : Nat) : Int)) h33 rfl (by kernel_rfl) (by kernel_rfl) (by kernel_rfl) rfl rfl rfl rfl (by kernel_rfl) (fun _ _ => by kernel_rfl) (fun a34 h34 => ?_); clear h33
        obtain ⟨y35, hy35⟩ : ∃ z, l[i]? = some z := ⟨_, List.getElem?_eq_getElem (by first | omega | (simp; done) | (simp; omega))⟩
        refine dr_take (i := 2) (v := .pointer (some ⟨(blkOf v), offOf v + i * 3, none⟩)) h34 rfl (by kernel_rfl) (by kernel_rfl) (by kernel_rfl) rfl rfl rfl rfl (by kernel_rfl) (fun x hx => by subst hx; exact (rn_index rfl rfl rfl Try.underlying22 Try.sizeOf83 (hs.below hB30) (by omega) (by first | omega | (simp; done) | (simp; omega)))) (fun a36 h36 => ?_); clear h34
        refine dr_take (i := 3) (v := .agg #[.string y35.1, .string y35.2.1, .bool y35.2.2]) h36 rfl (by kernel_rfl) (by kernel_rfl) (by kernel_rfl) rfl rfl rfl rfl (by kernel_rfl) (fun x hx => by subst hx; exact (rn_loadN rfl rfl Try.underlying83 rfl (by kernel_rfl) (sl_at (hs.below hB30) hy35))) (fun a37 h37 => ?_); clear h36
        refine dr_take (i := 4) (v := v2) h37 rfl (by kernel_rfl) (by kernel_rfl) (by kernel_rfl) rfl rfl rfl rfl (by kernel_rfl) (fun _ _ => by kernel_rfl) (fun a38 h38 => ?_); clear h37
        refine dr_take (i := 5) (v := .int .i64 ((i : Nat) : Int)) h38 rfl (by kernel_rfl) (by kernel_rfl) (by kernel_rfl) rfl rfl rfl rfl (by kernel_rfl) (fun _ _ => by kernel_rfl) (fun a39 h39 => ?_); clear h38
        obtain ⟨y40, hy40⟩ : ∃ z, l2[i]? = some z := ⟨_, List.getElem?_eq_getElem (by first | omega | (simp; done) | (simp; omega))⟩
        refine dr_take (i := 6) (v := .pointer (some ⟨(blkOf v2), offOf v2 + i * 3, none⟩)) h39 rfl (by kernel_rfl) (by kernel_rfl) (by kernel_rfl) rfl rfl rfl rfl (by kernel_rfl) (fun x hx => by subst hx; exact (rn_index rfl rfl rfl Try.underlying22 Try.sizeOf83 (hs2.below hB30) (by omega) (by first | omega | (simp; done) | (simp; omega)))) (fun a41 h41 => ?_); clear h39
        refine dr_take (i := 7) (v := .agg #[.string y40.1, .string y40.2.1, .bool y40.2.2]) h41 rfl (by kernel_rfl) (by kernel_rfl) (by kernel_rfl) rfl rfl rfl rfl (by kernel_rfl) (fun x hx => by subst hx; exact (rn_loadN rfl rfl Try.underlying83 rfl (by kernel_rfl) (sl_at (hs2.below hB30) hy40))) (fun a42 h42 => ?_); clear h41
        refine dr_take (i := 8) (v := .bool (!(y35.1.toList == y40.1.toList && y35.2.1.toList == y40.2.1.toList && y35.2.2 == y40.2.2))) h42 rfl (by kernel_rfl) (by kernel_rfl) (by kernel_rfl) rfl rfl rfl rfl (by kernel_rfl) (fun x hx => by subst hx; exact (rn_neS rfl rfl rfl Try.eqGuardType83 (eq_op _ _ _ _ _ _ _))) (fun a43 h43 => ?_); clear h42
        refine dr_done (by kernel_rfl) ?_
        refine co_then ?_
        cases hc44 : (!(y35.1.toList == y40.1.toList && y35.2.1.toList == y40.2.1.toList && y35.2.2 == y40.2.2))
        ·
          rw [hc44] at h43
          refine co_false h43 rfl ?_
          refine wp_skip ?_
          refine co_blockN ?_
          refine co_then ?_
          refine co_reg ?_
          refine pl_val (v := .int .i64 ((i + 1 : Nat) : Int)) h43 rfl rfl rfl (by kernel_rfl) (by kernel_rfl) (rn_arith' rfl rfl rfl rfl rfl rfl (IntWalk.i64_in _ (by omega)) (by omega)) (fun a45 h45 => ?_); clear h43
          refine pl_val (v := .int .i64 ((i + 1 : Nat) : Int)) h45 rfl rfl rfl (by kernel_rfl) (by kernel_rfl) (by kernel_rfl) (fun a46 h46 => ?_); clear h45
          refine pl_nil ?_
          refine co_then ?_
          refine ⟨(l.length - (i + 1)), by omega, ?_⟩
          have hL' := sameL_step (i := i) hL hy35 hy40 (eqO_of (b := false) (by assumption))
          exact ⟨i + 1, h46.sub ⟨rfl, rfl, rfl, rfl, rfl, trivial⟩, rfl, by omega, by omega, by first | rfl | exact hL', hB30⟩
        ·
          rw [hc44] at h43
          refine co_true h43 rfl ?_
          refine co_seq ?_
          refine co_reg ?_
          refine pl_val (v := .bool false) h43 rfl rfl rfl (by kernel_rfl) (by kernel_rfl) (by kernel_rfl) (fun a47 h47 => ?_); clear h43
          refine pl_nil ?_
          refine co_then ?_
          refine wp_ret ?_
          refine co_blockR ?_
          refine co_thenR ?_
          refine co_thenR ?_
          refine co_blockR ?_
          refine co_thenR ?_
          refine co_ret1 h47 rfl rfl ?_
          exact ⟨ret_bool (sameL_no (i := i) hL hy35 hy40 (eqO_of (b := true) (by assumption))), hB30⟩
  ·
    rw [hc7] at h6
    have hp48 : ((l.length : Nat) : Int) ≠ ((l2.length : Nat) : Int) := by first | simpa using hc7 | simpa [and_assoc] using hc7
    clear hc7
    refine co_true h6 rfl ?_
    refine co_seq ?_
    refine co_reg ?_
    refine pl_val (v := .bool false) h6 rfl rfl rfl (by kernel_rfl) (by kernel_rfl) (by kernel_rfl) (fun a49 h49 => ?_); clear h6
    refine pl_nil ?_
    refine co_then ?_
    refine wp_ret ?_
    refine co_thenR ?_
    refine co_ret1 h49 rfl rfl ?_
    exact ⟨ret_bool (sameL_len (by omega)), hB0⟩
set_option maxRecDepth 100000 in
theorem rsameOps_any (v : Value) (l : List OpT) (v2 : Value) (l2 : List OpT) (w : World) (hs : SliceOf opE 3 w v l) (hs2 : SliceOf opE 3 w v2 l2) :
    Calls Try.prog 23 #[v, v2] w fun e w' => e = .returned (.bool (sameL l l2)) ∧ Below w.heap.size w w' := by
  have hB0 := Below.refl w.heap.size w
  have hl_hs := sl_len hs
  have hl_hs2 := sl_len hs2
  refine co_enter (n := 32) Try.func23 rfl rfl rfl [(0, v), (1, v2)] rfl (fun a h0 => ?_)
  refine co_seq ?_
  refine co_reg ?_
  refine pl_val (v := .bool false) h0 rfl rfl rfl (by kernel_rfl) (by kernel_rfl) (by kernel_rfl) (fun a1 h1 => ?_); clear h0
  refine pl_nil ?_
  refine co_then ?_
  refine co_seq ?_
  refine co_seq ?_
  refine co_reg ?_
  refine pl_val (v := v) h1 rfl rfl rfl (by kernel_rfl) (by kernel_rfl) (by kernel_rfl) (fun a2 h2 => ?_); clear h1
  refine pl_val (v := .int .i64 ((l.length : Nat) : Int)) h2 rfl rfl rfl (by kernel_rfl) (by kernel_rfl) (rn_len rfl rfl Try.underlying22 hs) (fun a3 h3 => ?_); clear h2
  refine pl_val (v := v2) h3 rfl rfl rfl (by kernel_rfl) (by kernel_rfl) (by kernel_rfl) (fun a4 h4 => ?_); clear h3
  refine pl_val (v := .int .i64 ((l2.length : Nat) : Int)) h4 rfl rfl rfl (by kernel_rfl) (by kernel_rfl) (rn_len rfl rfl Try.underlying22 hs2) (fun a5 h5 => ?_); clear h4
  refine pl_val (v := .bool (((l.length : Nat) : Int) != ((l2.length : Nat) : Int))) h5 rfl rfl rfl (by kernel_rfl) (by kernel_rfl) (by kernel_rfl) (fun a6 h6 => ?_); clear h5
  refine pl_nil ?_
  refine co_then ?_
  cases hc7 : (((l.length : Nat) : Int) != ((l2.length : Nat) : Int))
  ·
    rw [hc7] at h6
    have hp8 : ¬ (((l.length : Nat) : Int) ≠ ((l2.length : Nat) : Int)) := by first | simpa using hc7 | simpa [and_assoc] using hc7
    clear hc7
    refine co_false h6 rfl ?_
    refine wp_skip ?_
    refine co_then ?_
    refine co_seq ?_
    refine co_seq ?_
    refine co_reg ?_
    refine pl_val (v := .int .i64 0) h6 rfl rfl rfl (by kernel_rfl) (by kernel_rfl) (by kernel_rfl) (fun a9 h9 => ?_); clear h6
    refine pl_nil ?_
    refine co_then ?_
    refine wp_block ?_
    have h10 : Slots 32 [(0, v), (1, v2), (4, .bool false), (5, .int .i64 0)] _ := h9.sub ⟨rfl, rfl, rfl, rfl, trivial⟩; clear h9
    refine co_loop (fun mm a x => ∃ (i : Nat), Slots 32 [(0, v), (1, v2), (4, .bool false), (5, .int .i64 ((i : Nat) : Int))] a ∧ mm = l.length - i ∧ (i ≤ l.length) ∧ (l.length = l2.length) ∧ (sameL (l.drop i) (l2.drop i) = sameL l l2) ∧ Below w.heap.size w x) (l.length - 0) ?_ ?_
    · exact ⟨0, h10.sub ⟨rfl, rfl, rfl, (slot_eq rfl (congrArg (Value.int .i64) (by first | rfl | omega))), trivial⟩, rfl, by omega, by omega, by first | rfl | exact hL', hB0⟩
    · rintro k11 a12 w13 ⟨i, h12, rfl, hi14, hi15, hi16, hB17⟩
      have hz18 := hB17.size
      have hL : sameL (l.drop i) (l2.drop i) = sameL l l2 := by assumption
      refine co_seq ?_
      refine co_seq ?_
      refine co_reg ?_
      refine pl_val (v := .int .i64 ((i : Nat) : Int)) h12 rfl rfl rfl (by kernel_rfl) (by kernel_rfl) (by kernel_rfl) (fun a19 h19 => ?_); clear h12
      refine pl_val (v := v) h19 rfl rfl rfl (by kernel_rfl) (by kernel_rfl) (by kernel_rfl) (fun a20 h20 => ?_); clear h19
      refine pl_val (v := .int .i64 ((l.length : Nat) : Int)) h20 rfl rfl rfl (by kernel_rfl) (by kernel_rfl) (rn_len rfl rfl Try.underlying22 (hs.below hB17)) (fun a21 h21 => ?_); clear h20
      refine pl_val (v := .bool (decide (((i : Nat) : Int) < ((l.length : Nat) : Int)))) h21 rfl rfl rfl (by kernel_rfl) (by kernel_rfl) (by kernel_rfl) (fun a22 h22 => ?_); clear h21
      refine pl_val (v := .bool (decide (((i : Nat) : Int) < ((l.length : Nat) : Int)))) h22 rfl rfl rfl (by kernel_rfl) (by kernel_rfl) (by kernel_rfl) (fun a23 h23 => ?_); clear h22
      cases hc24 : (decide (((i : Nat) : Int) < ((l.length : Nat) : Int)))
      ·
        rw [hc24] at h23
        have hp25 : ¬ (((i : Nat) : Int) < ((l.length : Nat) : Int)) := of_decide_eq_false hc24
        clear hc24
        refine pl_skip h23 rfl rfl rfl (fun a26 h26 => ?_); clear h23
        refine pl_skip h26 rfl rfl rfl (fun a27 h27 => ?_); clear h26
        refine pl_skip h27 rfl rfl rfl (fun a28 h28 => ?_); clear h27
        refine pl_skip h28 rfl rfl rfl (fun a29 h29 => ?_); clear h28
        refine pl_val (v := .bool false) h29 rfl rfl rfl (by kernel_rfl) (by kernel_rfl) (by kernel_rfl) (fun a30 h30 => ?_); clear h29
        refine pl_nil ?_
        refine co_then ?_
        refine co_false h30 rfl ?_
        refine wp_exit ?_
        refine co_thenX ?_
        refine co_thenX ?_
        refine co_blockX ?_
        refine co_then ?_
        refine co_seq ?_
        refine co_reg ?_
        refine pl_val (v := .bool true) h30 rfl rfl rfl (by kernel_rfl) (by kernel_rfl) (by kernel_rfl) (fun a31 h31 => ?_); clear h30
        refine pl_nil ?_
        refine co_then ?_
        refine wp_ret ?_
        refine co_ret1 h31 rfl rfl ?_
        exact ⟨ret_bool (sameL_end (i := i) hL (by omega) (by omega)), hB17⟩
      ·
        rw [hc24] at h23
        have hp32 : ((i : Nat) : Int) < ((l.length : Nat) : Int) := of_decide_eq_true hc24
        clear hc24
        refine pl_val (v := .int .i64 ((i : Nat) : Int)) h23 rfl rfl rfl (by kernel_rfl) (by kernel_rfl) (by kernel_rfl) (fun a33 h33 => ?_); clear h23
        refine pl_val (v := v2) h33 rfl rfl rfl (by kernel_rfl) (by kernel_rfl) (by kernel_rfl) (fun a34 h34 => ?_); clear h33
        refine pl_val (v := .int .i64 ((l2.length : Nat) : Int)) h34 rfl rfl rfl (by kernel_rfl) (by kernel_rfl) (rn_len rfl rfl Try.underlying22 (hs2.below hB17)) (fun a35 h35 => ?_); clear h34
        refine pl_val (v := .bool (decide (((i : Nat) : Int) < ((l2.length : Nat) : Int)))) h35 rfl rfl rfl (by kernel_rfl) (by kernel_rfl) (by kernel_rfl) (fun a36 h36 => ?_); clear h35
        refine pl_val (v := .bool (decide (((i : Nat) : Int) < ((l2.length : Nat) : Int)))) h36 rfl rfl rfl (by kernel_rfl) (by kernel_rfl) (by kernel_rfl) (fun a37 h37 => ?_); clear h36
        refine pl_nil ?_
        refine co_then ?_
        have hc38 : (decide (((i : Nat) : Int) < ((l2.length : Nat) : Int))) = true := decide_eq_true (by omega)
        rw [hc38] at h37; clear hc38
        refine co_true h37 rfl ?_
        refine wp_skip ?_
        refine co_then ?_
        refine co_seq ?_
        refine wp_block ?_
        refine co_seq ?_
        refine dr_eq (by kernel_rfl) (fun w39 hg40 => ?_)
        have hB41 := hb_new hB17 hg40
        have hz42 := hB41.size
        have hz43 := hg40.size
        refine dr_take (i := 0) (v := v) h37 rfl (by kernel_rfl) (by kernel_rfl) (by kernel_rfl) rfl rfl rfl rfl (by kernel_rfl) (fun _ _ => by kernel_rfl) (fun a44 h44 => ?_); clear h37
        refine dr_take (i := 1) (v := .int .i64 ((i : Nat) : Int)) h44 rfl (by kernel_rfl) (by kernel_rfl) (by kernel_rfl) rfl rfl rfl rfl (by kernel_rfl) (fun _ _ => by kernel_rfl) (fun a45 h45 => ?_); clear h44
        obtain ⟨y46, hy46⟩ : ∃ z, l[i]? = some z := ⟨_, List.getElem?_eq_getElem (by first | omega | (simp; done) | (simp; omega))⟩
        refine dr_take (i := 2) (v := .pointer (some ⟨(blkOf v), offOf v + i * 3, none⟩)) h45 rfl (by kernel_rfl) (by kernel_rfl) (by kernel_rfl) rfl rfl rfl rfl (by kernel_rfl) (fun x hx => by subst hx; exact (rn_index rfl rfl rfl Try.underlying22 Try.sizeOf83 (hs.below hB41) (by omega) (by first | omega | (simp; done) | (simp; omega)))) (fun a47 h47 => ?_); clear h45
        refine dr_take (i := 3) (v := .agg #[.string y46.1, .string y46.2.1, .bool y46.2.2]) h47 rfl (by kernel_rfl) (by kernel_rfl) (by kernel_rfl) rfl rfl rfl rfl (by kernel_rfl) (fun x hx => by subst hx; exact (rn_loadN rfl rfl Try.underlying83 rfl (by kernel_rfl) (sl_at (hs.below hB41) hy46))) (fun a48 h48 => ?_); clear h47
        refine dr_take (i := 4) (v := v2) h48 rfl (by kernel_rfl) (by kernel_rfl) (by kernel_rfl) rfl rfl rfl rfl (by kernel_rfl) (fun _ _ => by kernel_rfl) (fun a49 h49 => ?_); clear h48
        refine dr_take (i := 5) (v := .int .i64 ((i : Nat) : Int)) h49 rfl (by kernel_rfl) (by kernel_rfl) (by kernel_rfl) rfl rfl rfl rfl (by kernel_rfl) (fun _ _ => by kernel_rfl) (fun a50 h50 => ?_); clear h49
        obtain ⟨y51, hy51⟩ : ∃ z, l2[i]? = some z := ⟨_, List.getElem?_eq_getElem (by first | omega | (simp; done) | (simp; omega))⟩
        refine dr_take (i := 6) (v := .pointer (some ⟨(blkOf v2), offOf v2 + i * 3, none⟩)) h50 rfl (by kernel_rfl) (by kernel_rfl) (by kernel_rfl) rfl rfl rfl rfl (by kernel_rfl) (fun x hx => by subst hx; exact (rn_index rfl rfl rfl Try.underlying22 Try.sizeOf83 (hs2.below hB41) (by omega) (by first | omega | (simp; done) | (simp; omega)))) (fun a52 h52 => ?_); clear h50
        refine dr_take (i := 7) (v := .agg #[.string y51.1, .string y51.2.1, .bool y51.2.2]) h52 rfl (by kernel_rfl) (by kernel_rfl) (by kernel_rfl) rfl rfl rfl rfl (by kernel_rfl) (fun x hx => by subst hx; exact (rn_loadN rfl rfl Try.underlying83 rfl (by kernel_rfl) (sl_at (hs2.below hB41) hy51))) (fun a53 h53 => ?_); clear h52
        refine dr_take (i := 8) (v := .bool (!(y46.1.toList == y51.1.toList && y46.2.1.toList == y51.2.1.toList && y46.2.2 == y51.2.2))) h53 rfl (by kernel_rfl) (by kernel_rfl) (by kernel_rfl) rfl rfl rfl rfl (by kernel_rfl) (fun x hx => by subst hx; exact (rn_neS rfl rfl rfl Try.eqGuardType83 (eq_op _ _ _ _ _ _ _))) (fun a54 h54 => ?_); clear h53
        refine dr_done (by kernel_rfl) ?_
        refine co_then ?_
        cases hc55 : (!(y46.1.toList == y51.1.toList && y46.2.1.toList == y51.2.1.toList && y46.2.2 == y51.2.2))
        ·
          rw [hc55] at h54
          refine co_false h54 rfl ?_
          refine wp_skip ?_
          refine co_blockN ?_
          refine co_then ?_
          refine co_reg ?_
          refine pl_val (v := .int .i64 ((i : Nat) : Int)) h54 rfl rfl rfl (by kernel_rfl) (by kernel_rfl) (by kernel_rfl) (fun a56 h56 => ?_); clear h54
          refine pl_val (v := .int .i64 ((i + 1 : Nat) : Int)) h56 rfl rfl rfl (by kernel_rfl) (by kernel_rfl) (rn_arith' rfl rfl rfl rfl rfl rfl (IntWalk.i64_in _ (by omega)) (by omega)) (fun a57 h57 => ?_); clear h56
          refine pl_val (v := .int .i64 ((i + 1 : Nat) : Int)) h57 rfl rfl rfl (by kernel_rfl) (by kernel_rfl) (by kernel_rfl) (fun a58 h58 => ?_); clear h57
          refine pl_nil ?_
          refine co_then ?_
          refine ⟨(l.length - (i + 1)), by omega, ?_⟩
          have hL' := sameL_step (i := i) hL hy46 hy51 (eqO_of (b := false) (by assumption))
          exact ⟨i + 1, h58.sub ⟨rfl, rfl, rfl, rfl, trivial⟩, rfl, by omega, by omega, by first | rfl | exact hL', hB41⟩
        ·
          rw [hc55] at h54
          refine co_true h54 rfl ?_
          refine co_seq ?_
          refine co_reg ?_
          refine pl_val (v := .bool false) h54 rfl rfl rfl (by kernel_rfl) (by kernel_rfl) (by kernel_rfl) (fun a59 h59 => ?_); clear h54
          refine pl_nil ?_
          refine co_then ?_
          refine wp_ret ?_
          refine co_blockR ?_
          refine co_thenR ?_
          refine co_thenR ?_
          refine co_blockR ?_
          refine co_thenR ?_
          refine co_ret1 h59 rfl rfl ?_
          exact ⟨ret_bool (sameL_no (i := i) hL hy46 hy51 (eqO_of (b := true) (by assumption))), hB41⟩
  ·
    rw [hc7] at h6
    have hp60 : ((l.length : Nat) : Int) ≠ ((l2.length : Nat) : Int) := by first | simpa using hc7 | simpa [and_assoc] using hc7
    clear hc7
    refine co_true h6 rfl ?_
    refine co_seq ?_
    refine co_reg ?_
    refine pl_val (v := .bool false) h6 rfl rfl rfl (by kernel_rfl) (by kernel_rfl) (by kernel_rfl) (fun a61 h61 => ?_); clear h6
    refine pl_nil ?_
    refine co_then ?_
    refine wp_ret ?_
    refine co_thenR ?_
    refine co_ret1 h61 rfl rfl ?_
    exact ⟨ret_bool (sameL_len (by omega)), hB0⟩
set_option maxRecDepth 100000 in
theorem opsSame_any (c : Int) (r : Int) (v : Value) (l : List OpT) (c2 : Int) (r2 : Int) (v2 : Value) (l2 : List OpT) (w : World) (hs : SliceOf opE 3 w v l) (hs2 : SliceOf opE 3 w v2 l2) :
    Calls Try.prog 18 #[.agg #[.int .i64 c, .int .i64 r, v], .agg #[.int .i64 c2, .int .i64 r2, v2]] w fun e w' => e = .returned (.bool (sameB c r l c2 r2 l2)) ∧ Below w.heap.size w w' := by
  have hB0 := Below.refl w.heap.size w
  have hl_hs := sl_len hs
  have hl_hs2 := sl_len hs2
  refine co_enter (n := 24) Try.func18 rfl rfl rfl [(0, .agg #[.int .i64 c, .int .i64 r, v]), (1, .agg #[.int .i64 c2, .int .i64 r2, v2])] rfl (fun a h0 => ?_)
  refine co_seq ?_
  refine co_reg ?_
  refine pl_want h0 rfl rfl rfl (op_new (v := fun N => .pointer (some ⟨N, 0, none⟩)) (T := 24) (cs := #[.int .i64 c, .int .i64 r, v]) (by kernel_rfl) (by kernel_rfl) (by kernel_rfl)) ?_; clear h0
  rintro _ w2 a1 ⟨N3, rfl, hN6, hz7, hk5, hg4⟩ h1
  have hB8 := hb_new hB0 hg4
  have hz9 := hB8.size
  have hz10 := hg4.size
  try dsimp only at h1
  refine pl_want h1 rfl rfl rfl (op_new (v := fun N => .pointer (some ⟨N, 0, none⟩)) (T := 24) (cs := #[.int .i64 c2, .int .i64 r2, v2]) (by kernel_rfl) (by kernel_rfl) (by kernel_rfl)) ?_; clear h1
  rintro _ w12 a11 ⟨N13, rfl, hN16, hz17, hk15, hg14⟩ h11
  have hB18 := hb_new hB8 hg14
  have hz19 := hB18.size
  have hz20 := hg14.size
  have hk21 := hk5.kept hg14 (by simp)
  try dsimp only at h11
  refine pl_val (v := .bool false) h11 rfl rfl rfl (by kernel_rfl) (by kernel_rfl) (by kernel_rfl) (fun a22 h22 => ?_); clear h11
  refine pl_nil ?_
  refine co_then ?_
  refine co_seq ?_
  refine co_reg ?_
  refine pl_val (v := .pointer (some ⟨N3, 0, none⟩)) h22 rfl rfl rfl (by kernel_rfl) (by kernel_rfl) (by kernel_rfl) (fun a23 h23 => ?_); clear h22
  refine pl_val (v := .int .i64 c) h23 rfl rfl rfl (by kernel_rfl) (by kernel_rfl) (rn_load1 rfl rfl Try.isAgg3 (hk21.cell rfl)) (fun a24 h24 => ?_); clear h23
  refine pl_val (v := .pointer (some ⟨N13, 0, none⟩)) h24 rfl rfl rfl (by kernel_rfl) (by kernel_rfl) (by kernel_rfl) (fun a25 h25 => ?_); clear h24
  refine pl_val (v := .int .i64 c2) h25 rfl rfl rfl (by kernel_rfl) (by kernel_rfl) (rn_load1 rfl rfl Try.isAgg3 (hk15.cell rfl)) (fun a26 h26 => ?_); clear h25
  refine pl_val (v := .bool (c == c2)) h26 rfl rfl rfl (by kernel_rfl) (by kernel_rfl) (by kernel_rfl) (fun a27 h27 => ?_); clear h26
  refine pl_val (v := .bool (c == c2)) h27 rfl rfl rfl (by kernel_rfl) (by kernel_rfl) (by kernel_rfl) (fun a28 h28 => ?_); clear h27
  cases hc29 : (c == c2)
  ·
    rw [hc29] at h28
    have hp30 : ¬ (c = c2) := by first | simpa using hc29 | simpa [and_assoc] using hc29
    clear hc29
    refine pl_skip h28 rfl rfl rfl (fun a31 h31 => ?_); clear h28
    refine pl_skip h31 rfl rfl rfl (fun a32 h32 => ?_); clear h31
    refine pl_skip h32 rfl rfl rfl (fun a33 h33 => ?_); clear h32
    refine pl_skip h33 rfl rfl rfl (fun a34 h34 => ?_); clear h33
    refine pl_skip h34 rfl rfl rfl (fun a35 h35 => ?_); clear h34
    refine pl_val (v := .bool false) h35 rfl rfl rfl (by kernel_rfl) (by kernel_rfl) (by kernel_rfl) (fun a36 h36 => ?_); clear h35
    refine pl_val (v := .bool false) h36 rfl rfl rfl (by kernel_rfl) (by kernel_rfl) (by kernel_rfl) (fun a37 h37 => ?_); clear h36
    refine pl_skip h37 rfl rfl rfl (fun a38 h38 => ?_); clear h37
    refine pl_skip h38 rfl rfl rfl (fun a39 h39 => ?_); clear h38
    refine pl_skip h39 rfl rfl rfl (fun a40 h40 => ?_); clear h39
    refine pl_skip h40 rfl rfl rfl (fun a41 h41 => ?_); clear h40
    refine pl_skip h41 rfl rfl rfl (fun a42 h42 => ?_); clear h41
    refine pl_val (v := .bool false) h42 rfl rfl rfl (by kernel_rfl) (by kernel_rfl) (by kernel_rfl) (fun a43 h43 => ?_); clear h42
    refine pl_val (v := .bool false) h43 rfl rfl rfl (by kernel_rfl) (by kernel_rfl) (by kernel_rfl) (fun a44 h44 => ?_); clear h43
    refine pl_nil ?_
    refine co_then ?_
    refine wp_ret ?_
    refine co_ret1 h44 rfl rfl ?_
    exact ⟨ret_bool (sameB_n (fun hq => by omega)), hB18⟩
  ·
    rw [hc29] at h28
    have hp45 : c = c2 := by first | simpa using hc29 | simpa [and_assoc] using hc29
    clear hc29
    refine pl_val (v := .pointer (some ⟨N3, 1, none⟩)) h28 rfl rfl rfl (by kernel_rfl) (by kernel_rfl) (by kernel_rfl) (fun a46 h46 => ?_); clear h28
    refine pl_val (v := .int .i64 r) h46 rfl rfl rfl (by kernel_rfl) (by kernel_rfl) (rn_load1 rfl rfl Try.isAgg3 (hk21.cell rfl)) (fun a47 h47 => ?_); clear h46
    refine pl_val (v := .pointer (some ⟨N13, 1, none⟩)) h47 rfl rfl rfl (by kernel_rfl) (by kernel_rfl) (by kernel_rfl) (fun a48 h48 => ?_); clear h47
    refine pl_val (v := .int .i64 r2) h48 rfl rfl rfl (by kernel_rfl) (by kernel_rfl) (rn_load1 rfl rfl Try.isAgg3 (hk15.cell rfl)) (fun a49 h49 => ?_); clear h48
    refine pl_val (v := .bool (r == r2)) h49 rfl rfl rfl (by kernel_rfl) (by kernel_rfl) (by kernel_rfl) (fun a50 h50 => ?_); clear h49
    refine pl_val (v := .bool (r == r2)) h50 rfl rfl rfl (by kernel_rfl) (by kernel_rfl) (by kernel_rfl) (fun a51 h51 => ?_); clear h50
    refine pl_val (v := .bool (r == r2)) h51 rfl rfl rfl (by kernel_rfl) (by kernel_rfl) (by kernel_rfl) (fun a52 h52 => ?_); clear h51
    cases hc53 : (r == r2)
    ·
      rw [hc53] at h52
      have hp54 : ¬ (r = r2) := by first | simpa using hc53 | simpa [and_assoc] using hc53
      clear hc53
      refine pl_skip h52 rfl rfl rfl (fun a55 h55 => ?_); clear h52
      refine pl_skip h55 rfl rfl rfl (fun a56 h56 => ?_); clear h55
      refine pl_skip h56 rfl rfl rfl (fun a57 h57 => ?_); clear h56
      refine pl_skip h57 rfl rfl rfl (fun a58 h58 => ?_); clear h57
      refine pl_skip h58 rfl rfl rfl (fun a59 h59 => ?_); clear h58
      refine pl_val (v := .bool false) h59 rfl rfl rfl (by kernel_rfl) (by kernel_rfl) (by kernel_rfl) (fun a60 h60 => ?_); clear h59
      refine pl_val (v := .bool false) h60 rfl rfl rfl (by kernel_rfl) (by kernel_rfl) (by kernel_rfl) (fun a61 h61 => ?_); clear h60
      refine pl_nil ?_
      refine co_then ?_
      refine wp_ret ?_
      refine co_ret1 h61 rfl rfl ?_
      exact ⟨ret_bool (sameB_n (fun hq => by omega)), hB18⟩
    ·
      rw [hc53] at h52
      have hp62 : r = r2 := by first | simpa using hc53 | simpa [and_assoc] using hc53
      clear hc53
      refine pl_val (v := .pointer (some ⟨N3, 2, none⟩)) h52 rfl rfl rfl (by kernel_rfl) (by kernel_rfl) (by kernel_rfl) (fun a63 h63 => ?_); clear h52
      refine pl_val (v := v) h63 rfl rfl rfl (by kernel_rfl) (by kernel_rfl) (rn_load1 rfl rfl Try.isAgg22 (hk21.cell rfl)) (fun a64 h64 => ?_); clear h63
      refine pl_val (v := .pointer (some ⟨N13, 2, none⟩)) h64 rfl rfl rfl (by kernel_rfl) (by kernel_rfl) (by kernel_rfl) (fun a65 h65 => ?_); clear h64
      refine pl_val (v := v2) h65 rfl rfl rfl (by kernel_rfl) (by kernel_rfl) (rn_load1 rfl rfl Try.isAgg22 (hk15.cell rfl)) (fun a66 h66 => ?_); clear h65
      refine pl_want h66 rfl rfl rfl (op_call (args := #[v, v2]) (R := fun res xw => res = .bool (sameL l l2) ∧ Below w12.heap.size w12 xw) rfl rfl rfl (by kernel_rfl) (by kernel_rfl) (Try.call66 _ _) (equalOp_any v l v2 l2 w12 (hs.below hB18) (hs2.below hB18)) (by rintro e x ⟨rfl, hb69⟩; exact ⟨_, rfl, ⟨rfl, hb69⟩⟩)) ?_; clear h66
      rintro _ w68 a67 ⟨rfl, hb69⟩ h67
      have hB70 := hb_call hB18 hb69
      have hz71 := hB70.size
      have hz72 := hb69.size
      have hk73 := hk21.below hb69
      have hk74 := hk15.below hb69
      refine pl_val (v := .bool (sameL l l2)) h67 rfl rfl rfl (by kernel_rfl) (by kernel_rfl) (by kernel_rfl) (fun a75 h75 => ?_); clear h67
      refine pl_val (v := .bool (sameL l l2)) h75 rfl rfl rfl (by kernel_rfl) (by kernel_rfl) (by kernel_rfl) (fun a76 h76 => ?_); clear h75
      refine pl_nil ?_
      refine co_then ?_
      refine wp_ret ?_
      refine co_ret1 h76 rfl rfl ?_
      exact ⟨ret_bool (sameB_y (by omega) (by omega)), hB70⟩
set_option maxRecDepth 100000 in
theorem ropsSame_any (c : Int) (r : Int) (v : Value) (l : List OpT) (c2 : Int) (r2 : Int) (v2 : Value) (l2 : List OpT) (w : World) (hs : SliceOf opE 3 w v l) (hs2 : SliceOf opE 3 w v2 l2) :
    Calls Try.prog 19 #[.agg #[.int .i64 c, .int .i64 r, v], .agg #[.int .i64 c2, .int .i64 r2, v2]] w fun e w' => e = .returned (.bool (sameB c r l c2 r2 l2)) ∧ Below w.heap.size w w' := by
  have hB0 := Below.refl w.heap.size w
  have hl_hs := sl_len hs
  have hl_hs2 := sl_len hs2
  refine co_enter (n := 24) Try.func19 rfl rfl rfl [(0, .agg #[.int .i64 c, .int .i64 r, v]), (1, .agg #[.int .i64 c2, .int .i64 r2, v2])] rfl (fun a h0 => ?_)
  refine co_seq ?_
  refine co_reg ?_
  refine pl_want h0 rfl rfl rfl (op_new (v := fun N => .pointer (some ⟨N, 0, none⟩)) (T := 24) (cs := #[.int .i64 c, .int .i64 r, v]) (by kernel_rfl) (by kernel_rfl) (by kernel_rfl)) ?_; clear h0
  rintro _ w2 a1 ⟨N3, rfl, hN6, hz7, hk5, hg4⟩ h1
  have hB8 := hb_new hB0 hg4
  have hz9 := hB8.size
  have hz10 := hg4.size
  try dsimp only at h1
  refine pl_want h1 rfl rfl rfl (op_new (v := fun N => .pointer (some ⟨N, 0, none⟩)) (T := 24) (cs := #[.int .i64 c2, .int .i64 r2, v2]) (by kernel_rfl) (by kernel_rfl) (by kernel_rfl)) ?_; clear h1
  rintro _ w12 a11 ⟨N13, rfl, hN16, hz17, hk15, hg14⟩ h11
  have hB18 := hb_new hB8 hg14
  have hz19 := hB18.size
  have hz20 := hg14.size
  have hk21 := hk5.kept hg14 (by simp)
  try dsimp only at h11
  refine pl_val (v := .bool false) h11 rfl rfl rfl (by kernel_rfl) (by kernel_rfl) (by kernel_rfl) (fun a22 h22 => ?_); clear h11
  refine pl_nil ?_
  refine co_then ?_
  refine co_seq ?_
  refine co_reg ?_
  refine pl_val (v := .pointer (some ⟨N3, 0, none⟩)) h22 rfl rfl rfl (by kernel_rfl) (by kernel_rfl) (by kernel_rfl) (fun a23 h23 => ?_); clear h22
  refine pl_val (v := .int .i64 c) h23 rfl rfl rfl (by kernel_rfl) (by kernel_rfl) (rn_load1 rfl rfl Try.isAgg3 (hk21.cell rfl)) (fun a24 h24 => ?_); clear h23
  refine pl_val (v := .pointer (some ⟨N13, 0, none⟩)) h24 rfl rfl rfl (by kernel_rfl) (by kernel_rfl) (by kernel_rfl) (fun a25 h25 => ?_); clear h24
  refine pl_val (v := .int .i64 c2) h25 rfl rfl rfl (by kernel_rfl) (by kernel_rfl) (rn_load1 rfl rfl Try.isAgg3 (hk15.cell rfl)) (fun a26 h26 => ?_); clear h25
  refine pl_val (v := .bool (c == c2)) h26 rfl rfl rfl (by kernel_rfl) (by kernel_rfl) (by kernel_rfl) (fun a27 h27 => ?_); clear h26
  refine pl_val (v := .bool (c == c2)) h27 rfl rfl rfl (by kernel_rfl) (by kernel_rfl) (by kernel_rfl) (fun a28 h28 => ?_); clear h27
  cases hc29 : (c == c2)
  ·
    rw [hc29] at h28
    have hp30 : ¬ (c = c2) := by first | simpa using hc29 | simpa [and_assoc] using hc29
    clear hc29
    refine pl_skip h28 rfl rfl rfl (fun a31 h31 => ?_); clear h28
    refine pl_skip h31 rfl rfl rfl (fun a32 h32 => ?_); clear h31
    refine pl_skip h32 rfl rfl rfl (fun a33 h33 => ?_); clear h32
    refine pl_skip h33 rfl rfl rfl (fun a34 h34 => ?_); clear h33
    refine pl_skip h34 rfl rfl rfl (fun a35 h35 => ?_); clear h34
    refine pl_val (v := .bool false) h35 rfl rfl rfl (by kernel_rfl) (by kernel_rfl) (by kernel_rfl) (fun a36 h36 => ?_); clear h35
    refine pl_val (v := .bool false) h36 rfl rfl rfl (by kernel_rfl) (by kernel_rfl) (by kernel_rfl) (fun a37 h37 => ?_); clear h36
    refine pl_skip h37 rfl rfl rfl (fun a38 h38 => ?_); clear h37
    refine pl_skip h38 rfl rfl rfl (fun a39 h39 => ?_); clear h38
    refine pl_skip h39 rfl rfl rfl (fun a40 h40 => ?_); clear h39
    refine pl_skip h40 rfl rfl rfl (fun a41 h41 => ?_); clear h40
    refine pl_skip h41 rfl rfl rfl (fun a42 h42 => ?_); clear h41
    refine pl_val (v := .bool false) h42 rfl rfl rfl (by kernel_rfl) (by kernel_rfl) (by kernel_rfl) (fun a43 h43 => ?_); clear h42
    refine pl_val (v := .bool false) h43 rfl rfl rfl (by kernel_rfl) (by kernel_rfl) (by kernel_rfl) (fun a44 h44 => ?_); clear h43
    refine pl_nil ?_
    refine co_then ?_
    refine wp_ret ?_
    refine co_ret1 h44 rfl rfl ?_
    exact ⟨ret_bool (sameB_n (fun hq => by omega)), hB18⟩
  ·
    rw [hc29] at h28
    have hp45 : c = c2 := by first | simpa using hc29 | simpa [and_assoc] using hc29
    clear hc29
    refine pl_val (v := .pointer (some ⟨N3, 1, none⟩)) h28 rfl rfl rfl (by kernel_rfl) (by kernel_rfl) (by kernel_rfl) (fun a46 h46 => ?_); clear h28
    refine pl_val (v := .int .i64 r) h46 rfl rfl rfl (by kernel_rfl) (by kernel_rfl) (rn_load1 rfl rfl Try.isAgg3 (hk21.cell rfl)) (fun a47 h47 => ?_); clear h46
    refine pl_val (v := .pointer (some ⟨N13, 1, none⟩)) h47 rfl rfl rfl (by kernel_rfl) (by kernel_rfl) (by kernel_rfl) (fun a48 h48 => ?_); clear h47
    refine pl_val (v := .int .i64 r2) h48 rfl rfl rfl (by kernel_rfl) (by kernel_rfl) (rn_load1 rfl rfl Try.isAgg3 (hk15.cell rfl)) (fun a49 h49 => ?_); clear h48
    refine pl_val (v := .bool (r == r2)) h49 rfl rfl rfl (by kernel_rfl) (by kernel_rfl) (by kernel_rfl) (fun a50 h50 => ?_); clear h49
    refine pl_val (v := .bool (r == r2)) h50 rfl rfl rfl (by kernel_rfl) (by kernel_rfl) (by kernel_rfl) (fun a51 h51 => ?_); clear h50
    refine pl_val (v := .bool (r == r2)) h51 rfl rfl rfl (by kernel_rfl) (by kernel_rfl) (by kernel_rfl) (fun a52 h52 => ?_); clear h51
    cases hc53 : (r == r2)
    ·
      rw [hc53] at h52
      have hp54 : ¬ (r = r2) := by first | simpa using hc53 | simpa [and_assoc] using hc53
      clear hc53
      refine pl_skip h52 rfl rfl rfl (fun a55 h55 => ?_); clear h52
      refine pl_skip h55 rfl rfl rfl (fun a56 h56 => ?_); clear h55
      refine pl_skip h56 rfl rfl rfl (fun a57 h57 => ?_); clear h56
      refine pl_skip h57 rfl rfl rfl (fun a58 h58 => ?_); clear h57
      refine pl_skip h58 rfl rfl rfl (fun a59 h59 => ?_); clear h58
      refine pl_val (v := .bool false) h59 rfl rfl rfl (by kernel_rfl) (by kernel_rfl) (by kernel_rfl) (fun a60 h60 => ?_); clear h59
      refine pl_val (v := .bool false) h60 rfl rfl rfl (by kernel_rfl) (by kernel_rfl) (by kernel_rfl) (fun a61 h61 => ?_); clear h60
      refine pl_nil ?_
      refine co_then ?_
      refine wp_ret ?_
      refine co_ret1 h61 rfl rfl ?_
      exact ⟨ret_bool (sameB_n (fun hq => by omega)), hB18⟩
    ·
      rw [hc53] at h52
      have hp62 : r = r2 := by first | simpa using hc53 | simpa [and_assoc] using hc53
      clear hc53
      refine pl_val (v := .pointer (some ⟨N3, 2, none⟩)) h52 rfl rfl rfl (by kernel_rfl) (by kernel_rfl) (by kernel_rfl) (fun a63 h63 => ?_); clear h52
      refine pl_val (v := v) h63 rfl rfl rfl (by kernel_rfl) (by kernel_rfl) (rn_load1 rfl rfl Try.isAgg22 (hk21.cell rfl)) (fun a64 h64 => ?_); clear h63
      refine pl_val (v := .pointer (some ⟨N13, 2, none⟩)) h64 rfl rfl rfl (by kernel_rfl) (by kernel_rfl) (by kernel_rfl) (fun a65 h65 => ?_); clear h64
      refine pl_val (v := v2) h65 rfl rfl rfl (by kernel_rfl) (by kernel_rfl) (rn_load1 rfl rfl Try.isAgg22 (hk15.cell rfl)) (fun a66 h66 => ?_); clear h65
      refine pl_want h66 rfl rfl rfl (op_call (args := #[v, v2]) (R := fun res xw => res = .bool (sameL l l2) ∧ Below w12.heap.size w12 xw) rfl rfl rfl (by kernel_rfl) (by kernel_rfl) (Try.call23 _ _) (rsameOps_any v l v2 l2 w12 (hs.below hB18) (hs2.below hB18)) (by rintro e x ⟨rfl, hb69⟩; exact ⟨_, rfl, ⟨rfl, hb69⟩⟩)) ?_; clear h66
      rintro _ w68 a67 ⟨rfl, hb69⟩ h67
      have hB70 := hb_call hB18 hb69
      have hz71 := hB70.size
      have hz72 := hb69.size
      have hk73 := hk21.below hb69
      have hk74 := hk15.below hb69
      refine pl_val (v := .bool (sameL l l2)) h67 rfl rfl rfl (by kernel_rfl) (by kernel_rfl) (by kernel_rfl) (fun a75 h75 => ?_); clear h67
      refine pl_val (v := .bool (sameL l l2)) h75 rfl rfl rfl (by kernel_rfl) (by kernel_rfl) (by kernel_rfl) (fun a76 h76 => ?_); clear h75
      refine pl_nil ?_
      refine co_then ?_
      refine wp_ret ?_
      refine co_ret1 h76 rfl rfl ?_
      exact ⟨ret_bool (sameB_y (by omega) (by omega)), hB70⟩
set_option maxRecDepth 100000 in
theorem opsPut_any (c : Int) (r : Int) (v : Value) (l : List OpT) (w : World) (hs : SliceOf opE 3 w v l) :
    Calls Try.prog 14 #[.agg #[.int .i64 c, .int .i64 r, v]] w fun e w' => e = .returned (.tuple #[.string (putB c r l), .int .i64 (chkB c r l)]) ∧ Below w.heap.size w w' := by
  have hcb : chkB c r l = 0 → ((0 ≤ c ∧ c < 3) ∧ (1 ≤ r ∧ r ≤ 1073741824) ∧ l.length ≤ 4) := fun h => ⟨(chkB_ok h).1, (chkB_ok h).2.1, (chkB_ok h).2.2.1⟩
  have hB0 := Below.refl w.heap.size w
  have hl_hs := sl_len hs
  refine co_enter (n := 46) Try.func14 rfl rfl rfl [(0, .agg #[.int .i64 c, .int .i64 r, v])] rfl (fun a h0 => ?_)
  refine co_seq ?_
  refine co_reg ?_
  refine pl_want h0 rfl rfl rfl (op_new (v := fun N => .pointer (some ⟨N, 0, none⟩)) (T := 24) (cs := #[.int .i64 c, .int .i64 r, v]) (by kernel_rfl) (by kernel_rfl) (by kernel_rfl)) ?_; clear h0
  rintro _ w2 a1 ⟨N3, rfl, hN6, hz7, hk5, hg4⟩ h1
  have hB8 := hb_new hB0 hg4
  have hz9 := hB8.size
  have hz10 := hg4.size
  try dsimp only at h1
  refine pl_val (v := .string (⟨#[]⟩)) h1 rfl rfl rfl (by kernel_rfl) (by kernel_rfl) (by kernel_rfl) (fun a11 h11 => ?_); clear h1
  refine pl_val (v := .int .i64 0) h11 rfl rfl rfl (by kernel_rfl) (by kernel_rfl) (by kernel_rfl) (fun a12 h12 => ?_); clear h11
  refine pl_nil ?_
  refine co_then ?_
  refine co_seq ?_
  refine co_seq ?_
  refine co_reg ?_
  refine pl_val (v := .agg #[.int .i64 c, .int .i64 r, v]) h12 rfl rfl rfl (by kernel_rfl) (by kernel_rfl) (rn_loadN rfl rfl Try.underlying24 rfl (by kernel_rfl) hk5.all) (fun a13 h13 => ?_); clear h12
  refine pl_want h13 rfl rfl rfl (op_call (args := #[.agg #[.int .i64 c, .int .i64 r, v]]) (R := fun res xw => res = .int .i64 (chkB c r l) ∧ Below w2.heap.size w2 xw) rfl rfl rfl (by kernel_rfl) (by kernel_rfl) (Try.call16 _ _) (opsCheck_any c r v l w2 (hs.below hB8)) (by rintro e x ⟨rfl, hb16⟩; exact ⟨_, rfl, ⟨rfl, hb16⟩⟩)) ?_; clear h13
  rintro _ w15 a14 ⟨rfl, hb16⟩ h14
  have hB17 := hb_call hB8 hb16
  have hz18 := hB17.size
  have hz19 := hb16.size
  have hk20 := hk5.below hb16
  refine pl_val (v := .int .i64 (chkB c r l)) h14 rfl rfl rfl (by kernel_rfl) (by kernel_rfl) (by kernel_rfl) (fun a21 h21 => ?_); clear h14
  refine pl_nil ?_
  refine co_then ?_
  refine co_seq ?_
  refine co_reg ?_
  refine pl_val (v := .int .i64 (chkB c r l)) h21 rfl rfl rfl (by kernel_rfl) (by kernel_rfl) (by kernel_rfl) (fun a22 h22 => ?_); clear h21
  refine pl_val (v := .bool (chkB c r l != 0)) h22 rfl rfl rfl (by kernel_rfl) (by kernel_rfl) (by kernel_rfl) (fun a23 h23 => ?_); clear h22
  refine pl_nil ?_
  refine co_then ?_
  cases hc24 : (chkB c r l != 0)
  ·
    rw [hc24] at h23
    have hp25 : ¬ (chkB c r l ≠ 0) := by first | simpa using hc24 | simpa [and_assoc] using hc24
    clear hc24
    refine co_false h23 rfl ?_
    refine wp_skip ?_
    refine co_then ?_
    refine co_seq ?_
    refine dr_gen (fun x => Below w.heap.size w x ∧ Blk x N3 24 #[.int .i64 c, .int .i64 r, v]) (by kernel_rfl) (fun w26 hg27 => ?_) (fun w26 hg27 => ?_)
    ·
      have hB28 := hb_new hB17 hg27
      have hz29 := hB28.size
      have hz30 := hg27.size
      have hk31 := hk20.kept hg27 (by simp)
      exact ⟨hB28, hk31⟩
    have hB32 := hb_new hB17 hg27
    have hz33 := hB32.size
    have hz34 := hg27.size
    have hk35 := hk20.kept hg27 (by simp)
    refine dr_take (i := 1) (v := .pointer (some ⟨N3, 0, none⟩)) h23 rfl (by kernel_rfl) (by kernel_rfl) (by kernel_rfl) rfl rfl rfl ⟨hB32, hk35⟩ (by kernel_rfl) (fun _ _ => by kernel_rfl) (fun a36 h36 => ?_); clear h23
    refine dr_take (i := 2) (v := .int .i64 c) h36 rfl (by kernel_rfl) (by kernel_rfl) (by kernel_rfl) rfl rfl rfl ⟨hB32, hk35⟩ (by kernel_rfl) (fun x hx => (rn_load1 rfl rfl Try.isAgg3 (hx.2.cell rfl))) (fun a37 h37 => ?_); clear h36
    refine dr_take (i := 4) (v := .pointer (some ⟨N3, 1, none⟩)) h37 rfl (by kernel_rfl) (by kernel_rfl) (by kernel_rfl) rfl rfl rfl ⟨hB32, hk35⟩ (by kernel_rfl) (fun _ _ => by kernel_rfl) (fun a38 h38 => ?_); clear h37
    refine dr_take (i := 5) (v := .int .i64 r) h38 rfl (by kernel_rfl) (by kernel_rfl) (by kernel_rfl) rfl rfl rfl ⟨hB32, hk35⟩ (by kernel_rfl) (fun x hx => (rn_load1 rfl rfl Try.isAgg3 (hx.2.cell rfl))) (fun a39 h39 => ?_); clear h38
    refine dr_take (i := 7) (v := .pointer (some ⟨N3, 2, none⟩)) h39 rfl (by kernel_rfl) (by kernel_rfl) (by kernel_rfl) rfl rfl rfl ⟨hB32, hk35⟩ (by kernel_rfl) (fun _ _ => by kernel_rfl) (fun a40 h40 => ?_); clear h39
    refine dr_take (i := 8) (v := v) h40 rfl (by kernel_rfl) (by kernel_rfl) (by kernel_rfl) rfl rfl rfl ⟨hB32, hk35⟩ (by kernel_rfl) (fun x hx => (rn_load1 rfl rfl Try.isAgg22 (hx.2.cell rfl))) (fun a41 h41 => ?_); clear h40
    refine dr_take (i := 9) (v := .int .i64 ((l.length : Nat) : Int)) h41 rfl (by kernel_rfl) (by kernel_rfl) (by kernel_rfl) rfl rfl rfl ⟨hB32, hk35⟩ (by kernel_rfl) (fun x hx => (rn_len rfl rfl Try.underlying22 (hs.below hx.1))) (fun a42 h42 => ?_); clear h41
    refine dr_one (i := 0) h42 rfl (by kernel_rfl) rfl rfl rfl (op_call (args := #[]) (R := fun res xw => ∃ b : Nat, res = .pointer (some ⟨b, 0, none⟩) ∧ b = w26.heap.size ∧ OW b [] 0 xw ∧ Below w26.heap.size w26 xw) rfl rfl rfl (by kernel_rfl) (by kernel_rfl) (Try.call55 _ _) (ow_new w26) (by rintro e x ⟨b, rfl, h0, h1, h2⟩; exact ⟨_, rfl, b, rfl, h0, h1, h2⟩)) ?_ ?_; clear h42
    ·
      rintro _ w44 ⟨b45, rfl, hN46, ho47, hb48⟩
      have hB49 := hb_call hB32 hb48
      have hz50 := hB49.size
      have hz51 := hb48.size
      have hk52 := hk35.below hb48
      have hl53 := ho47.lt
      exact ⟨hB49, hk52⟩
    rintro _ w44 a43 ⟨b45, rfl, hN46, ho47, hb48⟩ h43
    have hB49 := hb_call hB32 hb48
    have hz50 := hB49.size
    have hz51 := hb48.size
    have hk52 := hk35.below hb48
    have hl53 := ho47.lt
    refine dr_one (i := 3) h43 rfl (by kernel_rfl) rfl rfl rfl (op_call (args := #[.pointer (some ⟨b45, 0, none⟩), .int .i64 c]) (R := fun res xw => res = .pointer (some ⟨b45, 0, none⟩) ∧ OW b45 (([] : List UInt8) ++ putL c) (0 + 9) xw ∧ But (Rw w44 b45) w44 xw) rfl rfl rfl (by kernel_rfl) (by kernel_rfl) (Try.call56 _ _) (ow_num b45 ([]) 0 c w44 ho47 (by omega) (by omega) (by omega)) (by rintro e x ⟨rfl, h1, h2⟩; exact ⟨_, rfl, rfl, h1, h2⟩)) ?_ ?_; clear h43
    ·
      rintro _ w55 ⟨rfl, ho56, hx57⟩
      have hB58 := hb_wr hB49 ho47 (by omega) hx57
      have hz59 := hB58.size
      have hz60 := hx57.size
      have hk61 := blk_wr hk52 ho47 (by decide) (by omega) hx57
      have hl62 := ho56.lt
      exact ⟨hB58, hk61⟩
    rintro _ w55 a54 ⟨rfl, ho56, hx57⟩ h54
    have hB58 := hb_wr hB49 ho47 (by omega) hx57
    have hz59 := hB58.size
    have hz60 := hx57.size
    have hk61 := blk_wr hk52 ho47 (by decide) (by omega) hx57
    have hl62 := ho56.lt
    refine dr_one (i := 6) h54 rfl (by kernel_rfl) rfl rfl rfl (op_call (args := #[.pointer (some ⟨b45, 0, none⟩), .int .i64 r]) (R := fun res xw => res = .pointer (some ⟨b45, 0, none⟩) ∧ OW b45 ((([] : List UInt8) ++ putL c) ++ putL r) (0 + 9 + 9) xw ∧ But (Rw w55 b45) w55 xw) rfl rfl rfl (by kernel_rfl) (by kernel_rfl) (Try.call56 _ _) (ow_num b45 (([] : List UInt8) ++ putL c) (0 + 9) r w55 ho56 (by omega) (by omega) (by omega)) (by rintro e x ⟨rfl, h1, h2⟩; exact ⟨_, rfl, rfl, h1, h2⟩)) ?_ ?_; clear h54
    ·
      rintro _ w64 ⟨rfl, ho65, hx66⟩
      have hB67 := hb_wr hB58 ho56 (by omega) hx66
      have hz68 := hB67.size
      have hz69 := hx66.size
      have hk70 := blk_wr hk61 ho56 (by decide) (by omega) hx66
      have hl71 := ho65.lt
      exact ⟨hB67, hk70⟩
    rintro _ w64 a63 ⟨rfl, ho65, hx66⟩ h63
    have hB67 := hb_wr hB58 ho56 (by omega) hx66
    have hz68 := hB67.size
    have hz69 := hx66.size
    have hk70 := blk_wr hk61 ho56 (by decide) (by omega) hx66
    have hl71 := ho65.lt
    refine dr_one (i := 10) h63 rfl (by kernel_rfl) rfl rfl rfl (op_call (args := #[.pointer (some ⟨b45, 0, none⟩), .int .i64 ((l.length : Nat) : Int)]) (R := fun res xw => res = .pointer (some ⟨b45, 0, none⟩) ∧ OW b45 (((([] : List UInt8) ++ putL c) ++ putL r) ++ putL ((l.length : Nat) : Int)) (0 + 9 + 9 + 9) xw ∧ But (Rw w64 b45) w64 xw) rfl rfl rfl (by kernel_rfl) (by kernel_rfl) (Try.call56 _ _) (ow_num b45 ((([] : List UInt8) ++ putL c) ++ putL r) (0 + 9 + 9) ((l.length : Nat) : Int) w64 ho65 (by omega) (by omega) (by omega)) (by rintro e x ⟨rfl, h1, h2⟩; exact ⟨_, rfl, rfl, h1, h2⟩)) ?_ ?_; clear h63
    ·
      rintro _ w73 ⟨rfl, ho74, hx75⟩
      have hB76 := hb_wr hB67 ho65 (by omega) hx75
      have hz77 := hB76.size
      have hz78 := hx75.size
      have hk79 := blk_wr hk70 ho65 (by decide) (by omega) hx75
      have hl80 := ho74.lt
      exact ⟨hB76, hk79⟩
    rintro _ w73 a72 ⟨rfl, ho74, hx75⟩ h72
    have hB76 := hb_wr hB67 ho65 (by omega) hx75
    have hz77 := hB76.size
    have hz78 := hx75.size
    have hk79 := blk_wr hk70 ho65 (by decide) (by omega) hx75
    have hl80 := ho74.lt
    refine dr_take (i := 11) (v := .pointer (some ⟨b45, 0, none⟩)) h72 rfl (by kernel_rfl) (by kernel_rfl) (by kernel_rfl) rfl rfl rfl ⟨hB76, hk79⟩ (by kernel_rfl) (fun _ _ => by kernel_rfl) (fun a81 h81 => ?_); clear h72
    refine dr_done (by kernel_rfl) ?_
    refine co_then ?_
    refine co_seq ?_
    refine co_seq ?_
    refine co_reg ?_
    refine pl_val (v := .pointer (some ⟨N3, 2, none⟩)) h81 rfl rfl rfl (by kernel_rfl) (by kernel_rfl) (by kernel_rfl) (fun a82 h82 => ?_); clear h81
    refine pl_val (v := v) h82 rfl rfl rfl (by kernel_rfl) (by kernel_rfl) (rn_load1 rfl rfl Try.isAgg22 (hk79.cell rfl)) (fun a83 h83 => ?_); clear h82
    refine pl_val (v := .int .i64 ((l.length : Nat) : Int)) h83 rfl rfl rfl (by kernel_rfl) (by kernel_rfl) (rn_len rfl rfl Try.underlying22 (hs.below hB76)) (fun a84 h84 => ?_); clear h83
    refine pl_val (v := .int .i64 0) h84 rfl rfl rfl (by kernel_rfl) (by kernel_rfl) (by kernel_rfl) (fun a85 h85 => ?_); clear h84
    refine pl_nil ?_
    refine co_then ?_
    refine wp_block ?_
    have hck := chkB_all (c := c) (r := r) (l := l) (by omega)
    have h86 : Slots 46 [(1, .pointer (some ⟨N3, 0, none⟩)), (2, .string (⟨#[]⟩)), (3, .int .i64 0), (5, .pointer (some ⟨b45, 0, none⟩)), (25, v), (26, .int .i64 ((l.length : Nat) : Int)), (27, .int .i64 0)] _ := h85.sub ⟨rfl, rfl, rfl, rfl, rfl, rfl, rfl, trivial⟩; clear h85
    refine co_loop (fun mm a x => ∃ (i : Nat), Slots 46 [(1, .pointer (some ⟨N3, 0, none⟩)), (2, .string (⟨#[]⟩)), (3, .int .i64 0), (5, .pointer (some ⟨b45, 0, none⟩)), (25, v), (26, .int .i64 ((l.length : Nat) : Int)), (27, .int .i64 ((i : Nat) : Int))] a ∧ mm = l.length - i ∧ (i ≤ l.length) ∧ OW b45 (putH c r l ++ putOs (l.take i)) (27 + i * 35) x ∧ Below w.heap.size w x ∧ Blk x N3 24 #[.int .i64 c, .int .i64 r, v]) (l.length - 0) ?_ ?_
    · exact ⟨0, h86.sub ⟨rfl, rfl, rfl, rfl, rfl, rfl, (slot_eq rfl (congrArg (Value.int .i64) (by first | rfl | omega))), trivial⟩, rfl, by omega, (ho74.eq (by first | (simp [putH, putOs]; done) | (rw [takeO_at (by assumption)]; simp [putH, putOs, putO1])) (by first | omega | (simp; done) | (simp; omega))), hB76, hk79⟩
    · rintro k87 a88 w89 ⟨i, h88, rfl, hi90, hf91, hB92, hk93⟩
      have hz94 := hB92.size
      have hl95 := hk93.lt
      have hl96 := hf91.lt
      refine co_seq ?_
      refine co_reg ?_
      refine pl_val (v := .bool (decide (((i : Nat) : Int) < ((l.length : Nat) : Int)))) h88 rfl rfl rfl (by kernel_rfl) (by kernel_rfl) (by kernel_rfl) (fun a97 h97 => ?_); clear h88
      refine pl_nil ?_
      refine co_then ?_
      refine co_seq ?_
      cases hc98 : (decide (((i : Nat) : Int) < ((l.length : Nat) : Int)))
      ·
        rw [hc98] at h97
        have hp99 : ¬ (((i : Nat) : Int) < ((l.length : Nat) : Int)) := of_decide_eq_false hc98
        clear hc98
        refine co_false h97 rfl ?_
        refine wp_exit ?_
        refine co_thenX ?_
        refine co_thenX ?_
        refine co_blockX ?_
        refine co_then ?_
        refine co_seq ?_
        refine co_reg ?_
        refine pl_val (v := .pointer (some ⟨b45, 0, none⟩)) h97 rfl rfl rfl (by kernel_rfl) (by kernel_rfl) (by kernel_rfl) (fun a100 h100 => ?_); clear h97
        refine pl_want h100 rfl rfl rfl (op_call (args := #[.pointer (some ⟨b45, 0, none⟩)]) (R := fun res xw => res = .tuple #[.string (⟨(putH c r l ++ putOs (l.take i)).toArray⟩), .int .i64 0] ∧ Below w89.heap.size w89 xw) rfl rfl rfl (by kernel_rfl) (by kernel_rfl) (Try.call59 _ _) (ow_done b45 (putH c r l ++ putOs (l.take i)) (27 + i * 35) w89 hf91) (by rintro e x ⟨rfl, h2⟩; exact ⟨_, rfl, rfl, h2⟩)) ?_; clear h100
        rintro _ w102 a101 ⟨rfl, hb103⟩ h101
        have hB104 := hb_call hB92 hb103
        have hz105 := hB104.size
        have hz106 := hb103.size
        have hk107 := hk93.below hb103
        have ho108 := hf91.below hb103
        refine pl_val (v := .string (⟨(putH c r l ++ putOs (l.take i)).toArray⟩)) h101 rfl rfl rfl (by kernel_rfl) (by kernel_rfl) (by kernel_rfl) (fun a109 h109 => ?_); clear h101
        refine pl_val (v := .int .i64 0) h109 rfl rfl rfl (by kernel_rfl) (by kernel_rfl) (by kernel_rfl) (fun a110 h110 => ?_); clear h109
        refine pl_val (v := .string (⟨(putH c r l ++ putOs (l.take i)).toArray⟩)) h110 rfl rfl rfl (by kernel_rfl) (by kernel_rfl) (by kernel_rfl) (fun a111 h111 => ?_); clear h110
        refine pl_val (v := .int .i64 0) h111 rfl rfl rfl (by kernel_rfl) (by kernel_rfl) (by kernel_rfl) (fun a112 h112 => ?_); clear h111
        refine pl_nil ?_
        refine co_then ?_
        refine wp_ret ?_
        refine co_ret2 h112 rfl rfl rfl ?_
        exact ⟨by rw [putB_ok (by omega), show chkB c r l = 0 by omega, List.take_of_length_le (show l.length ≤ i by omega)], hB104⟩
      ·
        rw [hc98] at h97
        have hp113 : ((i : Nat) : Int) < ((l.length : Nat) : Int) := of_decide_eq_true hc98
        clear hc98
        refine co_true h97 rfl ?_
        refine wp_skip ?_
        refine co_then ?_
        refine co_seq ?_
        refine wp_block ?_
        refine co_seq ?_
        refine co_reg ?_
        obtain ⟨y114, hy114⟩ : ∃ z, l[i]? = some z := ⟨_, List.getElem?_eq_getElem (by first | omega | (simp; done) | (simp; omega))⟩
        have oky114 := hck _ (List.mem_of_getElem? hy114)
        have k115 : y114.1.size ≤ 8 := oky114.1.2
        have k116 : y114.2.1.size ≤ 8 := oky114.2.1
        refine pl_val (v := .pointer (some ⟨(blkOf v), offOf v + i * 3, none⟩)) h97 rfl rfl rfl (by kernel_rfl) (by kernel_rfl) (rn_index rfl rfl rfl Try.underlying22 Try.sizeOf83 (hs.below hB92) (by omega) (by first | omega | (simp; done) | (simp; omega))) (fun a117 h117 => ?_); clear h97
        refine pl_val (v := .agg #[.string y114.1, .string y114.2.1, .bool y114.2.2]) h117 rfl rfl rfl (by kernel_rfl) (by kernel_rfl) (rn_loadN rfl rfl Try.underlying83 rfl (by kernel_rfl) (sl_at (hs.below hB92) hy114)) (fun a118 h118 => ?_); clear h117
        refine pl_want h118 rfl rfl rfl (op_new (v := fun N => .pointer (some ⟨N, 0, none⟩)) (T := 83) (cs := #[.string (⟨#[]⟩), .string (⟨#[]⟩), .bool false]) (by kernel_rfl) (by kernel_rfl) (by kernel_rfl)) ?_; clear h118
        rintro _ w120 a119 ⟨N121, rfl, hN124, hz125, hk123, hg122⟩ h119
        have hB126 := hb_new hB92 hg122
        have hz127 := hB126.size
        have hz128 := hg122.size
        have hk129 := hk93.kept hg122 (by simp)
        have ho130 := hf91.new hg122
        try dsimp only at h119
        refine pl_doW h119 rfl rfl (op_storeN rfl rfl rfl (by kernel_rfl) (by kernel_rfl) hk123 rfl) ?_; clear h119
        rintro _ w132 a131 ⟨hk133, hz134, hg135⟩ h131
        have hk133' : Blk w132 N121 83 #[.string y114.1, .string y114.2.1, .bool y114.2.2] := hk133; clear hk133
        have hB136 := hb_at hB126 hg135 (by omega)
        have hz137 := hB136.size
        have hz138 := hg135.size
        have hk139 := hk129.kept hg135 (by simp; omega)
        have ho140 := ho130.at hk123 (by decide) (by omega) hg135
        refine pl_nil ?_
        refine co_then ?_
        refine dr_gen (fun x => Below w.heap.size w x ∧ Blk x N121 83 #[.string y114.1, .string y114.2.1, .bool y114.2.2]) (by kernel_rfl) (fun w141 hg142 => ?_) (fun w141 hg142 => ?_)
        ·
          have hB143 := hb_new hB136 hg142
          have hz144 := hB143.size
          have hz145 := hg142.size
          have hk146 := hk139.kept hg142 (by simp)
          have ho147 := ho140.new hg142
          have hk148 := hk133'.kept hg142 (by simp)
          exact ⟨hB143, hk148⟩
        have hB149 := hb_new hB136 hg142
        have hz150 := hB149.size
        have hz151 := hg142.size
        have hk152 := hk139.kept hg142 (by simp)
        have ho153 := ho140.new hg142
        have hk154 := hk133'.kept hg142 (by simp)
        refine dr_take (i := 0) (v := .pointer (some ⟨b45, 0, none⟩)) h131 rfl (by kernel_rfl) (by kernel_rfl) (by kernel_rfl) rfl rfl rfl ⟨hB149, hk154⟩ (by kernel_rfl) (fun _ _ => by kernel_rfl) (fun a155 h155 => ?_); clear h131
        refine dr_take (i := 1) (v := .pointer (some ⟨N121, 0, none⟩)) h155 rfl (by kernel_rfl) (by kernel_rfl) (by kernel_rfl) rfl rfl rfl ⟨hB149, hk154⟩ (by kernel_rfl) (fun _ _ => by kernel_rfl) (fun a156 h156 => ?_); clear h155
        refine dr_take (i := 2) (v := .string y114.1) h156 rfl (by kernel_rfl) (by kernel_rfl) (by kernel_rfl) rfl rfl rfl ⟨hB149, hk154⟩ (by kernel_rfl) (fun x hx => (rn_load1 rfl rfl Try.isAgg9 (hx.2.cell rfl))) (fun a157 h157 => ?_); clear h156
        refine dr_take (i := 4) (v := .pointer (some ⟨N121, 2, none⟩)) h157 rfl (by kernel_rfl) (by kernel_rfl) (by kernel_rfl) rfl rfl rfl ⟨hB149, hk154⟩ (by kernel_rfl) (fun _ _ => by kernel_rfl) (fun a158 h158 => ?_); clear h157
        refine dr_take (i := 5) (v := .bool y114.2.2) h158 rfl (by kernel_rfl) (by kernel_rfl) (by kernel_rfl) rfl rfl rfl ⟨hB149, hk154⟩ (by kernel_rfl) (fun x hx => (rn_load1 rfl rfl Try.isAgg4 (hx.2.cell rfl))) (fun a159 h159 => ?_); clear h158
        refine dr_take (i := 7) (v := .pointer (some ⟨N121, 1, none⟩)) h159 rfl (by kernel_rfl) (by kernel_rfl) (by kernel_rfl) rfl rfl rfl ⟨hB149, hk154⟩ (by kernel_rfl) (fun _ _ => by kernel_rfl) (fun a160 h160 => ?_); clear h159
        refine dr_take (i := 8) (v := .string y114.2.1) h160 rfl (by kernel_rfl) (by kernel_rfl) (by kernel_rfl) rfl rfl rfl ⟨hB149, hk154⟩ (by kernel_rfl) (fun x hx => (rn_load1 rfl rfl Try.isAgg9 (hx.2.cell rfl))) (fun a161 h161 => ?_); clear h160
        refine dr_one (i := 3) h161 rfl (by kernel_rfl) rfl rfl rfl (op_call (args := #[.pointer (some ⟨b45, 0, none⟩), .string y114.1]) (R := fun res xw => res = .pointer (some ⟨b45, 0, none⟩) ∧ OW b45 ((putH c r l ++ putOs (l.take i)) ++ (putL (y114.1.size : Int) ++ y114.1.data.toList)) (27 + i * 35 + (9 + y114.1.size)) xw ∧ But (Rw w141 b45) w141 xw) rfl rfl rfl (by kernel_rfl) (by kernel_rfl) (Try.call57 _ _) (ow_text b45 (putH c r l ++ putOs (l.take i)) (27 + i * 35) y114.1 w141 ho153 (by first | omega | (simp; done) | (simp; omega))) (by rintro e x ⟨rfl, h1, h2⟩; exact ⟨_, rfl, rfl, h1, h2⟩)) ?_ ?_; clear h161
        ·
          rintro _ w163 ⟨rfl, ho164, hx165⟩
          have hB166 := hb_wr hB149 ho153 (by omega) hx165
          have hz167 := hB166.size
          have hz168 := hx165.size
          have hk169 := blk_wr hk152 ho153 (by decide) (by omega) hx165
          have hk170 := blk_wr hk154 ho153 (by decide) (by omega) hx165
          have hl171 := ho164.lt
          exact ⟨hB166, hk170⟩
        rintro _ w163 a162 ⟨rfl, ho164, hx165⟩ h162
        have hB166 := hb_wr hB149 ho153 (by omega) hx165
        have hz167 := hB166.size
        have hz168 := hx165.size
        have hk169 := blk_wr hk152 ho153 (by decide) (by omega) hx165
        have hk170 := blk_wr hk154 ho153 (by decide) (by omega) hx165
        have hl171 := ho164.lt
        refine dr_one (i := 6) h162 rfl (by kernel_rfl) rfl rfl rfl (op_call (args := #[.pointer (some ⟨b45, 0, none⟩), .bool y114.2.2]) (R := fun res xw => res = .pointer (some ⟨b45, 0, none⟩) ∧ OW b45 (((putH c r l ++ putOs (l.take i)) ++ (putL (y114.1.size : Int) ++ y114.1.data.toList)) ++ [flagB y114.2.2]) (27 + i * 35 + (9 + y114.1.size) + 1) xw ∧ But (Rw w163 b45) w163 xw) rfl rfl rfl (by kernel_rfl) (by kernel_rfl) (Try.call58 _ _) (ow_flag b45 ((putH c r l ++ putOs (l.take i)) ++ (putL (y114.1.size : Int) ++ y114.1.data.toList)) (27 + i * 35 + (9 + y114.1.size)) y114.2.2 w163 ho164 (by omega)) (by rintro e x ⟨rfl, h1, h2⟩; exact ⟨_, rfl, rfl, h1, h2⟩)) ?_ ?_; clear h162
        ·
          rintro _ w173 ⟨rfl, ho174, hx175⟩
          have hB176 := hb_wr hB166 ho164 (by omega) hx175
          have hz177 := hB176.size
          have hz178 := hx175.size
          have hk179 := blk_wr hk169 ho164 (by decide) (by omega) hx175
          have hk180 := blk_wr hk170 ho164 (by decide) (by omega) hx175
          have hl181 := ho174.lt
          exact ⟨hB176, hk180⟩
        rintro _ w173 a172 ⟨rfl, ho174, hx175⟩ h172
        have hB176 := hb_wr hB166 ho164 (by omega) hx175
        have hz177 := hB176.size
        have hz178 := hx175.size
        have hk179 := blk_wr hk169 ho164 (by decide) (by omega) hx175
        have hk180 := blk_wr hk170 ho164 (by decide) (by omega) hx175
        have hl181 := ho174.lt
        refine dr_one (i := 9) h172 rfl (by kernel_rfl) rfl rfl rfl (op_call (args := #[.pointer (some ⟨b45, 0, none⟩), .string y114.2.1]) (R := fun res xw => res = .pointer (some ⟨b45, 0, none⟩) ∧ OW b45 ((((putH c r l ++ putOs (l.take i)) ++ (putL (y114.1.size : Int) ++ y114.1.data.toList)) ++ [flagB y114.2.2]) ++ (putL (y114.2.1.size : Int) ++ y114.2.1.data.toList)) (27 + i * 35 + (9 + y114.1.size) + 1 + (9 + y114.2.1.size)) xw ∧ But (Rw w173 b45) w173 xw) rfl rfl rfl (by kernel_rfl) (by kernel_rfl) (Try.call57 _ _) (ow_text b45 (((putH c r l ++ putOs (l.take i)) ++ (putL (y114.1.size : Int) ++ y114.1.data.toList)) ++ [flagB y114.2.2]) (27 + i * 35 + (9 + y114.1.size) + 1) y114.2.1 w173 ho174 (by first | omega | (simp; done) | (simp; omega))) (by rintro e x ⟨rfl, h1, h2⟩; exact ⟨_, rfl, rfl, h1, h2⟩)) ?_ ?_; clear h172
        ·
          rintro _ w183 ⟨rfl, ho184, hx185⟩
          have hB186 := hb_wr hB176 ho174 (by omega) hx185
          have hz187 := hB186.size
          have hz188 := hx185.size
          have hk189 := blk_wr hk179 ho174 (by decide) (by omega) hx185
          have hk190 := blk_wr hk180 ho174 (by decide) (by omega) hx185
          have hl191 := ho184.lt
          exact ⟨hB186, hk190⟩
        rintro _ w183 a182 ⟨rfl, ho184, hx185⟩ h182
        have hB186 := hb_wr hB176 ho174 (by omega) hx185
        have hz187 := hB186.size
        have hz188 := hx185.size
        have hk189 := blk_wr hk179 ho174 (by decide) (by omega) hx185
        have hk190 := blk_wr hk180 ho174 (by decide) (by omega) hx185
        have hl191 := ho184.lt
        refine dr_done (by kernel_rfl) ?_
        refine co_blockN ?_
        refine co_then ?_
        refine co_reg ?_
        refine pl_val (v := .int .i64 ((i + 1 : Nat) : Int)) h182 rfl rfl rfl (by kernel_rfl) (by kernel_rfl) (rn_arith' rfl rfl rfl rfl rfl rfl (IntWalk.i64_in _ (by omega)) (by omega)) (fun a192 h192 => ?_); clear h182
        refine pl_val (v := .int .i64 ((i + 1 : Nat) : Int)) h192 rfl rfl rfl (by kernel_rfl) (by kernel_rfl) (by kernel_rfl) (fun a193 h193 => ?_); clear h192
        refine pl_nil ?_
        refine co_then ?_
        refine ⟨(l.length - (i + 1)), by omega, ?_⟩
        exact ⟨i + 1, h193.sub ⟨rfl, rfl, rfl, rfl, rfl, rfl, rfl, trivial⟩, rfl, by omega, (ho184.eq (by first | (simp [putH, putOs]; done) | (rw [takeO_at (by assumption)]; simp [putH, putOs, putO1])) (by first | omega | (simp; done) | (simp; omega))), hB186, hk189⟩
  ·
    rw [hc24] at h23
    have hp194 : chkB c r l ≠ 0 := by first | simpa using hc24 | simpa [and_assoc] using hc24
    clear hc24
    refine co_true h23 rfl ?_
    refine co_seq ?_
    refine co_reg ?_
    refine pl_val (v := .int .i64 (chkB c r l)) h23 rfl rfl rfl (by kernel_rfl) (by kernel_rfl) (by kernel_rfl) (fun a195 h195 => ?_); clear h23
    refine pl_val (v := .string (⟨#[]⟩)) h195 rfl rfl rfl (by kernel_rfl) (by kernel_rfl) (by kernel_rfl) (fun a196 h196 => ?_); clear h195
    refine pl_val (v := .int .i64 (chkB c r l)) h196 rfl rfl rfl (by kernel_rfl) (by kernel_rfl) (by kernel_rfl) (fun a197 h197 => ?_); clear h196
    refine pl_nil ?_
    refine co_then ?_
    refine wp_ret ?_
    refine co_thenR ?_
    refine co_ret2 h197 rfl rfl rfl ?_
    exact ⟨by rw [putB_err (by assumption)], hB17⟩
set_option maxRecDepth 100000 in
theorem ropsPut_any (c : Int) (r : Int) (v : Value) (l : List OpT) (w : World) (hs : SliceOf opE 3 w v l) :
    Calls Try.prog 15 #[.agg #[.int .i64 c, .int .i64 r, v]] w fun e w' => e = .returned (.tuple #[.string (putB c r l), .int .i64 (chkB c r l)]) ∧ Below w.heap.size w w' := by
  have hcb : chkB c r l = 0 → ((0 ≤ c ∧ c < 3) ∧ (1 ≤ r ∧ r ≤ 1073741824) ∧ l.length ≤ 4) := fun h => ⟨(chkB_ok h).1, (chkB_ok h).2.1, (chkB_ok h).2.2.1⟩
  have hB0 := Below.refl w.heap.size w
  have hl_hs := sl_len hs
  refine co_enter (n := 62) Try.func15 rfl rfl rfl [(0, .agg #[.int .i64 c, .int .i64 r, v])] rfl (fun a h0 => ?_)
  refine co_seq ?_
  refine co_reg ?_
  refine pl_want h0 rfl rfl rfl (op_new (v := fun N => .pointer (some ⟨N, 0, none⟩)) (T := 24) (cs := #[.int .i64 c, .int .i64 r, v]) (by kernel_rfl) (by kernel_rfl) (by kernel_rfl)) ?_; clear h0
  rintro _ w2 a1 ⟨N3, rfl, hN6, hz7, hk5, hg4⟩ h1
  have hB8 := hb_new hB0 hg4
  have hz9 := hB8.size
  have hz10 := hg4.size
  try dsimp only at h1
  refine pl_val (v := .string (⟨#[]⟩)) h1 rfl rfl rfl (by kernel_rfl) (by kernel_rfl) (by kernel_rfl) (fun a11 h11 => ?_); clear h1
  refine pl_val (v := .int .i64 0) h11 rfl rfl rfl (by kernel_rfl) (by kernel_rfl) (by kernel_rfl) (fun a12 h12 => ?_); clear h11
  refine pl_nil ?_
  refine co_then ?_
  refine co_seq ?_
  refine co_seq ?_
  refine co_reg ?_
  refine pl_val (v := .agg #[.int .i64 c, .int .i64 r, v]) h12 rfl rfl rfl (by kernel_rfl) (by kernel_rfl) (rn_loadN rfl rfl Try.underlying24 rfl (by kernel_rfl) hk5.all) (fun a13 h13 => ?_); clear h12
  refine pl_want h13 rfl rfl rfl (op_call (args := #[.agg #[.int .i64 c, .int .i64 r, v]]) (R := fun res xw => res = .int .i64 (chkB c r l) ∧ Below w2.heap.size w2 xw) rfl rfl rfl (by kernel_rfl) (by kernel_rfl) (Try.call17 _ _) (ropsCheck_any c r v l w2 (hs.below hB8)) (by rintro e x ⟨rfl, hb16⟩; exact ⟨_, rfl, ⟨rfl, hb16⟩⟩)) ?_; clear h13
  rintro _ w15 a14 ⟨rfl, hb16⟩ h14
  have hB17 := hb_call hB8 hb16
  have hz18 := hB17.size
  have hz19 := hb16.size
  have hk20 := hk5.below hb16
  refine pl_val (v := .int .i64 (chkB c r l)) h14 rfl rfl rfl (by kernel_rfl) (by kernel_rfl) (by kernel_rfl) (fun a21 h21 => ?_); clear h14
  refine pl_nil ?_
  refine co_then ?_
  refine co_seq ?_
  refine co_reg ?_
  refine pl_val (v := .int .i64 (chkB c r l)) h21 rfl rfl rfl (by kernel_rfl) (by kernel_rfl) (by kernel_rfl) (fun a22 h22 => ?_); clear h21
  refine pl_val (v := .bool (chkB c r l != 0)) h22 rfl rfl rfl (by kernel_rfl) (by kernel_rfl) (by kernel_rfl) (fun a23 h23 => ?_); clear h22
  refine pl_nil ?_
  refine co_then ?_
  cases hc24 : (chkB c r l != 0)
  ·
    rw [hc24] at h23
    have hp25 : ¬ (chkB c r l ≠ 0) := by first | simpa using hc24 | simpa [and_assoc] using hc24
    clear hc24
    refine co_false h23 rfl ?_
    refine wp_skip ?_
    refine co_then ?_
    refine co_seq ?_
    refine co_reg ?_
    refine pl_val (v := .agg #[.string (⟨#[]⟩), .int .i64 0]) h23 rfl rfl rfl (by kernel_rfl) (by kernel_rfl) (by kernel_rfl) (fun a26 h26 => ?_); clear h23
    refine pl_want h26 rfl rfl rfl (op_new (v := fun N => .pointer (some ⟨N, 0, none⟩)) (T := 94) (cs := #[.string (⟨#[]⟩), .int .i64 0]) (by kernel_rfl) (by kernel_rfl) (by kernel_rfl)) ?_; clear h26
    rintro _ w28 a27 ⟨N29, rfl, hN32, hz33, hk31, hg30⟩ h27
    have hB34 := hb_new hB17 hg30
    have hz35 := hB34.size
    have hz36 := hg30.size
    have hk37 := hk20.kept hg30 (by simp)
    try dsimp only at h27
    refine pl_val (v := .pointer (some ⟨N29, 0, none⟩)) h27 rfl rfl rfl (by kernel_rfl) (by kernel_rfl) (by kernel_rfl) (fun a38 h38 => ?_); clear h27
    refine pl_nil ?_
    refine co_then ?_
    refine co_seq ?_
    refine co_reg ?_
    refine pl_val (v := .pointer (some ⟨N29, 0, none⟩)) h38 rfl rfl rfl (by kernel_rfl) (by kernel_rfl) (by kernel_rfl) (fun a39 h39 => ?_); clear h38
    refine pl_val (v := .pointer (some ⟨N3, 0, none⟩)) h39 rfl rfl rfl (by kernel_rfl) (by kernel_rfl) (by kernel_rfl) (fun a40 h40 => ?_); clear h39
    refine pl_val (v := .int .i64 c) h40 rfl rfl rfl (by kernel_rfl) (by kernel_rfl) (rn_load1 rfl rfl Try.isAgg3 (hk37.cell rfl)) (fun a41 h41 => ?_); clear h40
    have ho44 := ox_of hk31
    refine pl_want h41 rfl rfl rfl (op_call (args := #[.pointer (some ⟨N29, 0, none⟩), .int .i64 c]) (R := fun res xw => res = .tuple #[] ∧ OX N29 (([] : List UInt8) ++ putL c) (0 + 9) xw ∧ w28.grownBy xw (some N29)) rfl rfl rfl (by kernel_rfl) (by kernel_rfl) (Try.call60 _ _) (ox_num N29 ([]) 0 c w28 ho44 (by omega) (by omega) (by omega)) (by rintro e x ⟨rfl, h1, h2⟩; exact ⟨_, rfl, rfl, h1, h2⟩)) ?_; clear h41
    rintro _ w43 a42 ⟨rfl, ho45, hx46⟩ h42
    have hB47 := hb_at hB34 hx46 (by omega)
    have hz48 := hB47.size
    have hz49 := hx46.size
    have hk50 := hk37.kept hx46 (by simp; omega)
    have hl51 := ho45.lt
    refine pl_nil ?_
    refine co_then ?_
    refine co_seq ?_
    refine co_reg ?_
    refine pl_val (v := .pointer (some ⟨N29, 0, none⟩)) h42 rfl rfl rfl (by kernel_rfl) (by kernel_rfl) (by kernel_rfl) (fun a52 h52 => ?_); clear h42
    refine pl_val (v := .pointer (some ⟨N3, 1, none⟩)) h52 rfl rfl rfl (by kernel_rfl) (by kernel_rfl) (by kernel_rfl) (fun a53 h53 => ?_); clear h52
    refine pl_val (v := .int .i64 r) h53 rfl rfl rfl (by kernel_rfl) (by kernel_rfl) (rn_load1 rfl rfl Try.isAgg3 (hk50.cell rfl)) (fun a54 h54 => ?_); clear h53
    refine pl_want h54 rfl rfl rfl (op_call (args := #[.pointer (some ⟨N29, 0, none⟩), .int .i64 r]) (R := fun res xw => res = .tuple #[] ∧ OX N29 ((([] : List UInt8) ++ putL c) ++ putL r) (0 + 9 + 9) xw ∧ w43.grownBy xw (some N29)) rfl rfl rfl (by kernel_rfl) (by kernel_rfl) (Try.call60 _ _) (ox_num N29 (([] : List UInt8) ++ putL c) (0 + 9) r w43 ho45 (by omega) (by omega) (by omega)) (by rintro e x ⟨rfl, h1, h2⟩; exact ⟨_, rfl, rfl, h1, h2⟩)) ?_; clear h54
    rintro _ w56 a55 ⟨rfl, ho57, hx58⟩ h55
    have hB59 := hb_at hB47 hx58 (by omega)
    have hz60 := hB59.size
    have hz61 := hx58.size
    have hk62 := hk50.kept hx58 (by simp; omega)
    have hl63 := ho57.lt
    refine pl_nil ?_
    refine co_then ?_
    refine co_seq ?_
    refine co_reg ?_
    refine pl_val (v := .pointer (some ⟨N29, 0, none⟩)) h55 rfl rfl rfl (by kernel_rfl) (by kernel_rfl) (by kernel_rfl) (fun a64 h64 => ?_); clear h55
    refine pl_val (v := .pointer (some ⟨N3, 2, none⟩)) h64 rfl rfl rfl (by kernel_rfl) (by kernel_rfl) (by kernel_rfl) (fun a65 h65 => ?_); clear h64
    refine pl_val (v := v) h65 rfl rfl rfl (by kernel_rfl) (by kernel_rfl) (rn_load1 rfl rfl Try.isAgg22 (hk62.cell rfl)) (fun a66 h66 => ?_); clear h65
    refine pl_val (v := .int .i64 ((l.length : Nat) : Int)) h66 rfl rfl rfl (by kernel_rfl) (by kernel_rfl) (rn_len rfl rfl Try.underlying22 (hs.below hB59)) (fun a67 h67 => ?_); clear h66
    refine pl_want h67 rfl rfl rfl (op_call (args := #[.pointer (some ⟨N29, 0, none⟩), .int .i64 ((l.length : Nat) : Int)]) (R := fun res xw => res = .tuple #[] ∧ OX N29 (((([] : List UInt8) ++ putL c) ++ putL r) ++ putL ((l.length : Nat) : Int)) (0 + 9 + 9 + 9) xw ∧ w56.grownBy xw (some N29)) rfl rfl rfl (by kernel_rfl) (by kernel_rfl) (Try.call60 _ _) (ox_num N29 ((([] : List UInt8) ++ putL c) ++ putL r) (0 + 9 + 9) ((l.length : Nat) : Int) w56 ho57 (by omega) (by omega) (by omega)) (by rintro e x ⟨rfl, h1, h2⟩; exact ⟨_, rfl, rfl, h1, h2⟩)) ?_; clear h67
    rintro _ w69 a68 ⟨rfl, ho70, hx71⟩ h68
    have hB72 := hb_at hB59 hx71 (by omega)
    have hz73 := hB72.size
    have hz74 := hx71.size
    have hk75 := hk62.kept hx71 (by simp; omega)
    have hl76 := ho70.lt
    refine pl_nil ?_
    refine co_then ?_
    refine co_seq ?_
    refine co_seq ?_
    refine co_reg ?_
    refine pl_val (v := .int .i64 0) h68 rfl rfl rfl (by kernel_rfl) (by kernel_rfl) (by kernel_rfl) (fun a77 h77 => ?_); clear h68
    refine pl_nil ?_
    refine co_then ?_
    refine wp_block ?_
    have hck := chkB_all (c := c) (r := r) (l := l) (by omega)
    have h78 : Slots 62 [(1, .pointer (some ⟨N3, 0, none⟩)), (2, .string (⟨#[]⟩)), (3, .int .i64 0), (5, .pointer (some ⟨N29, 0, none⟩)), (6, .int .i64 0)] _ := h77.sub ⟨rfl, rfl, rfl, rfl, rfl, trivial⟩; clear h77
    refine co_loop (fun mm a x => ∃ (i : Nat), Slots 62 [(1, .pointer (some ⟨N3, 0, none⟩)), (2, .string (⟨#[]⟩)), (3, .int .i64 0), (5, .pointer (some ⟨N29, 0, none⟩)), (6, .int .i64 ((i : Nat) : Int))] a ∧ mm = l.length - i ∧ (i ≤ l.length) ∧ OX N29 (putH c r l ++ putOs (l.take i)) (27 + i * 35) x ∧ Below w.heap.size w x ∧ Blk x N3 24 #[.int .i64 c, .int .i64 r, v]) (l.length - 0) ?_ ?_
    · exact ⟨0, h78.sub ⟨rfl, rfl, rfl, rfl, (slot_eq rfl (congrArg (Value.int .i64) (by first | rfl | omega))), trivial⟩, rfl, by omega, (ho70.eq (by first | (simp [putH, putOs]; done) | (rw [takeO_at (by assumption)]; simp [putH, putOs, putO1])) (by first | omega | (simp; done) | (simp; omega))), hB72, hk75⟩
    · rintro k79 a80 w81 ⟨i, h80, rfl, hi82, hf83, hB84, hk85⟩
      have hz86 := hB84.size
      have hl87 := hk85.lt
      have hl88 := hf83.lt
      refine co_seq ?_
      refine co_seq ?_
      refine co_reg ?_
      refine pl_val (v := .int .i64 ((i : Nat) : Int)) h80 rfl rfl rfl (by kernel_rfl) (by kernel_rfl) (by kernel_rfl) (fun a89 h89 => ?_); clear h80
      refine pl_val (v := .pointer (some ⟨N3, 2, none⟩)) h89 rfl rfl rfl (by kernel_rfl) (by kernel_rfl) (by kernel_rfl) (fun a90 h90 => ?_); clear h89
      refine pl_val (v := v) h90 rfl rfl rfl (by kernel_rfl) (by kernel_rfl) (rn_load1 rfl rfl Try.isAgg22 (hk85.cell rfl)) (fun a91 h91 => ?_); clear h90
      refine pl_val (v := .int .i64 ((l.length : Nat) : Int)) h91 rfl rfl rfl (by kernel_rfl) (by kernel_rfl) (rn_len rfl rfl Try.underlying22 (hs.below hB84)) (fun a92 h92 => ?_); clear h91
      refine pl_val (v := .bool (decide (((i : Nat) : Int) < ((l.length : Nat) : Int)))) h92 rfl rfl rfl (by kernel_rfl) (by kernel_rfl) (by kernel_rfl) (fun a93 h93 => ?_); clear h92
      refine pl_nil ?_
      refine co_then ?_
      cases hc94 : (decide (((i : Nat) : Int) < ((l.length : Nat) : Int)))
      ·
        rw [hc94] at h93
        have hp95 : ¬ (((i : Nat) : Int) < ((l.length : Nat) : Int)) := of_decide_eq_false hc94
        clear hc94
        refine co_false h93 rfl ?_
        refine wp_exit ?_
        refine co_thenX ?_
        refine co_thenX ?_
        refine co_blockX ?_
        refine co_then ?_
        refine co_seq ?_
        refine co_reg ?_
        refine pl_val (v := .pointer (some ⟨N29, 0, none⟩)) h93 rfl rfl rfl (by kernel_rfl) (by kernel_rfl) (by kernel_rfl) (fun a96 h96 => ?_); clear h93
        refine pl_want h96 rfl rfl rfl (op_call (args := #[.pointer (some ⟨N29, 0, none⟩)]) (R := fun res xw => res = .tuple #[.string (⟨(putH c r l ++ putOs (l.take i)).toArray⟩), .int .i64 0] ∧ Below w81.heap.size w81 xw) rfl rfl rfl (by kernel_rfl) (by kernel_rfl) (Try.call63 _ _) (ox_done N29 (putH c r l ++ putOs (l.take i)) (27 + i * 35) w81 hf83) (by rintro e x ⟨rfl, h2⟩; exact ⟨_, rfl, rfl, h2⟩)) ?_; clear h96
        rintro _ w98 a97 ⟨rfl, hb99⟩ h97
        have hB100 := hb_call hB84 hb99
        have hz101 := hB100.size
        have hz102 := hb99.size
        have hk103 := hk85.below hb99
        have ho104 := hf83.below hb99
        refine pl_val (v := .string (⟨(putH c r l ++ putOs (l.take i)).toArray⟩)) h97 rfl rfl rfl (by kernel_rfl) (by kernel_rfl) (by kernel_rfl) (fun a105 h105 => ?_); clear h97
        refine pl_val (v := .int .i64 0) h105 rfl rfl rfl (by kernel_rfl) (by kernel_rfl) (by kernel_rfl) (fun a106 h106 => ?_); clear h105
        refine pl_val (v := .string (⟨(putH c r l ++ putOs (l.take i)).toArray⟩)) h106 rfl rfl rfl (by kernel_rfl) (by kernel_rfl) (by kernel_rfl) (fun a107 h107 => ?_); clear h106
        refine pl_val (v := .int .i64 0) h107 rfl rfl rfl (by kernel_rfl) (by kernel_rfl) (by kernel_rfl) (fun a108 h108 => ?_); clear h107
        refine pl_nil ?_
        refine co_then ?_
        refine wp_ret ?_
        refine co_ret2 h108 rfl rfl rfl ?_
        exact ⟨by rw [putB_ok (by omega), show chkB c r l = 0 by omega, List.take_of_length_le (show l.length ≤ i by omega)], hB100⟩
      ·
        rw [hc94] at h93
        have hp109 : ((i : Nat) : Int) < ((l.length : Nat) : Int) := of_decide_eq_true hc94
        clear hc94
        refine co_true h93 rfl ?_
        refine wp_skip ?_
        refine co_then ?_
        refine co_seq ?_
        refine wp_block ?_
        refine co_seq ?_
        refine co_reg ?_
        refine pl_val (v := .pointer (some ⟨N29, 0, none⟩)) h93 rfl rfl rfl (by kernel_rfl) (by kernel_rfl) (by kernel_rfl) (fun a110 h110 => ?_); clear h93
        refine pl_val (v := .pointer (some ⟨N3, 2, none⟩)) h110 rfl rfl rfl (by kernel_rfl) (by kernel_rfl) (by kernel_rfl) (fun a111 h111 => ?_); clear h110
        refine pl_val (v := v) h111 rfl rfl rfl (by kernel_rfl) (by kernel_rfl) (rn_load1 rfl rfl Try.isAgg22 (hk85.cell rfl)) (fun a112 h112 => ?_); clear h111
        refine pl_val (v := .int .i64 ((i : Nat) : Int)) h112 rfl rfl rfl (by kernel_rfl) (by kernel_rfl) (by kernel_rfl) (fun a113 h113 => ?_); clear h112
        obtain ⟨y114, hy114⟩ : ∃ z, l[i]? = some z := ⟨_, List.getElem?_eq_getElem (by first | omega | (simp; done) | (simp; omega))⟩
        have oky114 := hck _ (List.mem_of_getElem? hy114)
        have k115 : y114.1.size ≤ 8 := oky114.1.2
        have k116 : y114.2.1.size ≤ 8 := oky114.2.1
        refine pl_val (v := .pointer (some ⟨(blkOf v), offOf v + i * 3, none⟩)) h113 rfl rfl rfl (by kernel_rfl) (by kernel_rfl) (rn_index rfl rfl rfl Try.underlying22 Try.sizeOf83 (hs.below hB84) (by omega) (by first | omega | (simp; done) | (simp; omega))) (fun a117 h117 => ?_); clear h113
        refine pl_val (v := .pointer (some ⟨(blkOf v), offOf v + i * 3, none⟩)) h117 rfl rfl rfl (by kernel_rfl) (by kernel_rfl) (by kernel_rfl) (fun a118 h118 => ?_); clear h117
        refine pl_val (v := .string y114.1) h118 rfl rfl rfl (by kernel_rfl) (by kernel_rfl) (rn_load1 rfl rfl Try.isAgg9 ((sl_at (hs.below hB84) hy114) 0 _ rfl)) (fun a119 h119 => ?_); clear h118
        refine pl_want h119 rfl rfl rfl (op_call (args := #[.pointer (some ⟨N29, 0, none⟩), .string y114.1]) (R := fun res xw => res = .tuple #[] ∧ OX N29 ((putH c r l ++ putOs (l.take i)) ++ (putL (y114.1.size : Int) ++ y114.1.data.toList)) (27 + i * 35 + (9 + y114.1.size)) xw ∧ w81.grownBy xw (some N29)) rfl rfl rfl (by kernel_rfl) (by kernel_rfl) (Try.call61 _ _) (ox_text N29 (putH c r l ++ putOs (l.take i)) (27 + i * 35) y114.1 w81 hf83 (by first | omega | (simp; done) | (simp; omega))) (by rintro e x ⟨rfl, h1, h2⟩; exact ⟨_, rfl, rfl, h1, h2⟩)) ?_; clear h119
        rintro _ w121 a120 ⟨rfl, ho122, hx123⟩ h120
        have hB124 := hb_at hB84 hx123 (by omega)
        have hz125 := hB124.size
        have hz126 := hx123.size
        have hk127 := hk85.kept hx123 (by simp; omega)
        have hl128 := ho122.lt
        refine pl_nil ?_
        refine co_then ?_
        refine co_seq ?_
        refine co_reg ?_
        refine pl_val (v := .pointer (some ⟨N29, 0, none⟩)) h120 rfl rfl rfl (by kernel_rfl) (by kernel_rfl) (by kernel_rfl) (fun a129 h129 => ?_); clear h120
        refine pl_val (v := .pointer (some ⟨N3, 2, none⟩)) h129 rfl rfl rfl (by kernel_rfl) (by kernel_rfl) (by kernel_rfl) (fun a130 h130 => ?_); clear h129
        refine pl_val (v := v) h130 rfl rfl rfl (by kernel_rfl) (by kernel_rfl) (rn_load1 rfl rfl Try.isAgg22 (hk127.cell rfl)) (fun a131 h131 => ?_); clear h130
        refine pl_val (v := .int .i64 ((i : Nat) : Int)) h131 rfl rfl rfl (by kernel_rfl) (by kernel_rfl) (by kernel_rfl) (fun a132 h132 => ?_); clear h131
        refine pl_val (v := .pointer (some ⟨(blkOf v), offOf v + i * 3, none⟩)) h132 rfl rfl rfl (by kernel_rfl) (by kernel_rfl) (rn_index rfl rfl rfl Try.underlying22 Try.sizeOf83 (hs.below hB124) (by omega) (by first | omega | (simp; done) | (simp; omega))) (fun a133 h133 => ?_); clear h132
        refine pl_val (v := .pointer (some ⟨(blkOf v), offOf v + i * 3 + 2, none⟩)) h133 rfl rfl rfl (by kernel_rfl) (by kernel_rfl) (by kernel_rfl) (fun a134 h134 => ?_); clear h133
        refine pl_val (v := .bool y114.2.2) h134 rfl rfl rfl (by kernel_rfl) (by kernel_rfl) (rn_load1 rfl rfl Try.isAgg4 ((sl_at (hs.below hB124) hy114) 2 _ rfl)) (fun a135 h135 => ?_); clear h134
        refine pl_want h135 rfl rfl rfl (op_call (args := #[.pointer (some ⟨N29, 0, none⟩), .bool y114.2.2]) (R := fun res xw => res = .tuple #[] ∧ OX N29 (((putH c r l ++ putOs (l.take i)) ++ (putL (y114.1.size : Int) ++ y114.1.data.toList)) ++ [flagB y114.2.2]) (27 + i * 35 + (9 + y114.1.size) + 1) xw ∧ w121.grownBy xw (some N29)) rfl rfl rfl (by kernel_rfl) (by kernel_rfl) (Try.call62 _ _) (ox_flag N29 ((putH c r l ++ putOs (l.take i)) ++ (putL (y114.1.size : Int) ++ y114.1.data.toList)) (27 + i * 35 + (9 + y114.1.size)) y114.2.2 w121 ho122 (by omega)) (by rintro e x ⟨rfl, h1, h2⟩; exact ⟨_, rfl, rfl, h1, h2⟩)) ?_; clear h135
        rintro _ w137 a136 ⟨rfl, ho138, hx139⟩ h136
        have hB140 := hb_at hB124 hx139 (by omega)
        have hz141 := hB140.size
        have hz142 := hx139.size
        have hk143 := hk127.kept hx139 (by simp; omega)
        have hl144 := ho138.lt
        refine pl_nil ?_
        refine co_then ?_
        refine co_reg ?_
        refine pl_val (v := .pointer (some ⟨N29, 0, none⟩)) h136 rfl rfl rfl (by kernel_rfl) (by kernel_rfl) (by kernel_rfl) (fun a145 h145 => ?_); clear h136
        refine pl_val (v := .pointer (some ⟨N3, 2, none⟩)) h145 rfl rfl rfl (by kernel_rfl) (by kernel_rfl) (by kernel_rfl) (fun a146 h146 => ?_); clear h145
        refine pl_val (v := v) h146 rfl rfl rfl (by kernel_rfl) (by kernel_rfl) (rn_load1 rfl rfl Try.isAgg22 (hk143.cell rfl)) (fun a147 h147 => ?_); clear h146
        refine pl_val (v := .int .i64 ((i : Nat) : Int)) h147 rfl rfl rfl (by kernel_rfl) (by kernel_rfl) (by kernel_rfl) (fun a148 h148 => ?_); clear h147
        refine pl_val (v := .pointer (some ⟨(blkOf v), offOf v + i * 3, none⟩)) h148 rfl rfl rfl (by kernel_rfl) (by kernel_rfl) (rn_index rfl rfl rfl Try.underlying22 Try.sizeOf83 (hs.below hB140) (by omega) (by first | omega | (simp; done) | (simp; omega))) (fun a149 h149 => ?_); clear h148
        refine pl_val (v := .pointer (some ⟨(blkOf v), offOf v + i * 3 + 1, none⟩)) h149 rfl rfl rfl (by kernel_rfl) (by kernel_rfl) (by kernel_rfl) (fun a150 h150 => ?_); clear h149
        refine pl_val (v := .string y114.2.1) h150 rfl rfl rfl (by kernel_rfl) (by kernel_rfl) (rn_load1 rfl rfl Try.isAgg9 ((sl_at (hs.below hB140) hy114) 1 _ rfl)) (fun a151 h151 => ?_); clear h150
        refine pl_want h151 rfl rfl rfl (op_call (args := #[.pointer (some ⟨N29, 0, none⟩), .string y114.2.1]) (R := fun res xw => res = .tuple #[] ∧ OX N29 ((((putH c r l ++ putOs (l.take i)) ++ (putL (y114.1.size : Int) ++ y114.1.data.toList)) ++ [flagB y114.2.2]) ++ (putL (y114.2.1.size : Int) ++ y114.2.1.data.toList)) (27 + i * 35 + (9 + y114.1.size) + 1 + (9 + y114.2.1.size)) xw ∧ w137.grownBy xw (some N29)) rfl rfl rfl (by kernel_rfl) (by kernel_rfl) (Try.call61 _ _) (ox_text N29 (((putH c r l ++ putOs (l.take i)) ++ (putL (y114.1.size : Int) ++ y114.1.data.toList)) ++ [flagB y114.2.2]) (27 + i * 35 + (9 + y114.1.size) + 1) y114.2.1 w137 ho138 (by first | omega | (simp; done) | (simp; omega))) (by rintro e x ⟨rfl, h1, h2⟩; exact ⟨_, rfl, rfl, h1, h2⟩)) ?_; clear h151
        rintro _ w153 a152 ⟨rfl, ho154, hx155⟩ h152
        have hB156 := hb_at hB140 hx155 (by omega)
        have hz157 := hB156.size
        have hz158 := hx155.size
        have hk159 := hk143.kept hx155 (by simp; omega)
        have hl160 := ho154.lt
        refine pl_nil ?_
        refine co_blockN ?_
        refine co_then ?_
        refine co_reg ?_
        refine pl_val (v := .int .i64 ((i : Nat) : Int)) h152 rfl rfl rfl (by kernel_rfl) (by kernel_rfl) (by kernel_rfl) (fun a161 h161 => ?_); clear h152
        refine pl_val (v := .int .i64 ((i + 1 : Nat) : Int)) h161 rfl rfl rfl (by kernel_rfl) (by kernel_rfl) (rn_arith' rfl rfl rfl rfl rfl rfl (IntWalk.i64_in _ (by omega)) (by omega)) (fun a162 h162 => ?_); clear h161
        refine pl_val (v := .int .i64 ((i + 1 : Nat) : Int)) h162 rfl rfl rfl (by kernel_rfl) (by kernel_rfl) (by kernel_rfl) (fun a163 h163 => ?_); clear h162
        refine pl_nil ?_
        refine co_then ?_
        refine ⟨(l.length - (i + 1)), by omega, ?_⟩
        exact ⟨i + 1, h163.sub ⟨rfl, rfl, rfl, rfl, rfl, trivial⟩, rfl, by omega, (ho154.eq (by first | (simp [putH, putOs]; done) | (rw [takeO_at (by assumption)]; simp [putH, putOs, putO1])) (by first | omega | (simp; done) | (simp; omega))), hB156, hk159⟩
  ·
    rw [hc24] at h23
    have hp164 : chkB c r l ≠ 0 := by first | simpa using hc24 | simpa [and_assoc] using hc24
    clear hc24
    refine co_true h23 rfl ?_
    refine co_seq ?_
    refine co_reg ?_
    refine pl_val (v := .int .i64 (chkB c r l)) h23 rfl rfl rfl (by kernel_rfl) (by kernel_rfl) (by kernel_rfl) (fun a165 h165 => ?_); clear h23
    refine pl_val (v := .string (⟨#[]⟩)) h165 rfl rfl rfl (by kernel_rfl) (by kernel_rfl) (by kernel_rfl) (fun a166 h166 => ?_); clear h165
    refine pl_val (v := .int .i64 (chkB c r l)) h166 rfl rfl rfl (by kernel_rfl) (by kernel_rfl) (by kernel_rfl) (fun a167 h167 => ?_); clear h166
    refine pl_nil ?_
    refine co_then ?_
    refine wp_ret ?_
    refine co_thenR ?_
    refine co_ret2 h167 rfl rfl rfl ?_
    exact ⟨by rw [putB_err (by assumption)], hB17⟩
end Go.Proofs.Ytciilfkjecmdiaa

/- slices.SortFunc on a row of structs that the call owns: what the row holds behind it. Conditions: none. -/
namespace Go.Proofs.Ytciilfkjecmdiaa
open Go.RowKit Go.Sort Go.Shelf

section
variable {α : Type} [Inhabited α] {enc : α → List Value} {k : Nat}
theorem flatK_at (hk : ∀ x, (enc x).length = k) : ∀ (l : List α) (t : Nat), t < l.length * k → (l.flatMap enc)[t]? = some ((enc l[t / k]!)[t % k]!)
  | [], t, h => by simp at h
  | x :: r, t, h => by
    rw [List.flatMap_cons]
    by_cases ht : t < k
    · rw [List.getElem?_append_left (by rw [hk]; exact ht), Nat.div_eq_of_lt ht, Nat.mod_eq_of_lt ht]
      have : t < (enc x).length := by rw [hk]; exact ht
      simp [this]
    · obtain ⟨u, rfl⟩ : ∃ u, t = k + u := ⟨t - k, by omega⟩
      have k0 : 0 < k := by
        rcases Nat.eq_zero_or_pos k with h0 | h0
        · subst h0; simp at h
        · exact h0
      have hu : u < r.length * k := by
        rw [List.length_cons, Nat.add_mul, Nat.one_mul] at h; omega
      rw [List.getElem?_append_right (by rw [hk]; omega), hk, Nat.add_sub_cancel_left, flatK_at hk r u hu, Nat.add_div_left _ k0, Nat.add_mod_left]
      simp
omit [Inhabited α] in
theorem flatK_len (hk : ∀ x, (enc x).length = k) : ∀ l : List α, (l.flatMap enc).length = l.length * k
  | [] => by simp
  | x :: r => by rw [List.flatMap_cons, List.length_append, hk, flatK_len hk r, List.length_cons, Nat.add_mul, Nat.one_mul, Nat.add_comm]
theorem flatK_get (hk : ∀ x, (enc x).length = k) (l : List α) (t : Nat) (h : t < l.length * k) : (l.flatMap enc)[t]? = some ((flatK enc k l.toArray)[t]!) := by
  rw [flatK_at hk l t h, get_flatK enc k l.toArray t (by simpa using h)]
  congr 3
  simp
theorem holds_row (hk : ∀ x, (enc x).length = k) {w : World} {g cap : Nat} {e : TypeId} {cur : Array Value} {l : List α} (hb : w.heap[g]? = some (.cells cur e (0, 0))) (ht : cur.toList.take (l.length * k) = l.flatMap enc) : HoldsK enc k w g 0 l.toArray := by
  intro j hj
  have hj' : j < l.length * k := by simpa using hj
  refine ⟨?_, by simp [World.frozen?, hb]⟩
  have h1 : (cur.toList.take (l.length * k))[j]? = some ((flatK enc k l.toArray)[j]!) := by rw [ht, flatK_get hk l j hj']
  rw [List.getElem?_take_of_lt hj'] at h1
  simp only [World.cell?, hb, Nat.zero_add]
  simp only [Option.isSome_none, Bool.false_eq_true, if_false]
  rw [← Array.getElem?_toList, h1]
  rfl
theorem heap_put {w : World} {g n : Nat} {os : Array Obj} {cur : Array Value} {e : TypeId} {fr : Nat × Nat} (d : Array Value) (hb : w.heap[g]? = some (.cells cur e fr)) :
    (grow (putRow id (Sort.ahead w n) g 0 d) os).heap[g]? = some (.cells (putCells id 0 d cur) e fr) := by
  have hg : g < w.heap.size := (Array.getElem?_eq_some_iff.1 hb).1
  rw [heap_grow_old _ _ (by simpa using hg)]
  simp [putRow, mapBlock, Sort.ahead, Array.getElem?_modify, hb, onCells]
theorem grown_put {w : World} {g n : Nat} {os : Array Obj} (d : Array Value) : w.grownBy (grow (putRow id (Sort.ahead w n) g 0 d) os) (some g) := by
  refine ⟨rfl, rfl, rfl, by simp, fun k hk hne => ?_⟩
  rw [heap_grow_old _ _ (by simpa using hk)]
  have : g ≠ k := fun e => hne (by rw [e])
  simp [putRow, mapBlock, Sort.ahead, Array.getElem?_modify, this]
theorem take_put (hk : ∀ x, (enc x).length = k) (cur : Array Value) (l : List α) (h : l.length * k ≤ cur.size) : (putCells id 0 (flatK enc k l.toArray) cur).toList.take (l.length * k) = l.flatMap enc := by
  apply List.ext_getElem?
  intro j
  by_cases hj : j < l.length * k
  · rw [List.getElem?_take_of_lt hj, Array.getElem?_toList, flatK_get hk l j hj]
    simp [putCells, hj, show j < cur.size by omega]
  · rw [List.getElem?_take_eq_none (by omega), List.getElem?_eq_none (by rw [flatK_len hk]; omega)]
/-- Sorted by lt: no later one is less than an earlier one. -/
def SortedL (lt : α → α → Bool) (l : List α) : Prop := l.Pairwise fun a b => lt b a = false
theorem sorted_of {lt : α → α → Bool} {d : Array α} (h : SortedIn lt 0 d.size d) : SortedL lt d.toList := by
  unfold SortedL
  rw [List.pairwise_iff_getElem]
  intro i j hi hj hij
  have h1 := h i j (Nat.zero_le _) hij (by simpa using hj)
  have hi' : i < d.size := by simpa using hi
  have hj' : j < d.size := by simpa using hj
  simpa [hi', hj'] using h1
theorem perm_of {d d' : Array α} (h : PermIn 0 d.size d d') : d'.toList.Perm d.toList := by
  obtain ⟨h1, _, h2⟩ := h
  have e1 : d.extract 0 d.size = d := by simp
  have e2 : d'.extract 0 d.size = d' := by rw [← h1]; simp
  rw [e1, e2] at h2; exact h2
theorem sort_row {P : Program} {F : FuncId} {fv : Value} {lt : α → α → Bool} (hk : ∀ x, (enc x).length = k) {w : World} {base : Nat} {e : TypeId} {v : Value} {l : List α} (h : w.ownsRow base e k v l.length (l.flatMap enc)) (hn : v ≠ .slice none 0 0)
    (hc : ∀ (g cap : Nat), HoldsK enc k w g 0 l.toArray → g < w.heap.size → Calls P F #[.slice (some ⟨g, 0, none⟩) l.length cap, fv] w fun e w' => e = .returned (.tuple #[]) ∧ ∃ d' n os, PermIn 0 l.toArray.size l.toArray d' ∧ SortedIn lt 0 l.toArray.size d' ∧ w' = sortWorldK enc k w g 0 n d' os) :
    Calls P F #[v, fv] w fun e1 w' => e1 = .returned (.tuple #[]) ∧ ∃ l' : List α, l'.Perm l ∧ SortedL lt l' ∧ w'.ownsRow base e k v l'.length (l'.flatMap enc) ∧ w.grownBy w' v.ownBlock := by
  obtain ⟨h0, h⟩ := h
  rcases h with ⟨rfl, _⟩ | ⟨g, cap, cur, rfl, hbase, hb, h1, h2, h3, h4⟩
  · exact absurd rfl hn
  refine (hc g cap (holds_row (cap := cap) hk hb h4) (Array.getElem?_eq_some_iff.1 hb).1).mono ?_
  rintro e1 w' ⟨rfl, d', n, os, hp, hs, rfl⟩
  have hp' := perm_of hp
  have hsz : d'.size = l.length := by simpa using hp.1
  have hs' : SortedL lt d'.toList := sorted_of (by rw [hsz]; simpa using hs)
  have hle : d'.toList.length = l.length := by simpa using hsz
  have hcs : l.length * k ≤ cur.size := by rw [h3]; exact Nat.mul_le_mul_right _ h1
  refine ⟨rfl, d'.toList, by simpa using hp', hs', ⟨by rw [flatK_len hk], .inr ⟨g, cap, _, by rw [hle], hbase, heap_put _ hb, by rw [hle]; exact h1, h2, by simp [putCells, h3], ?_⟩⟩, grown_put _⟩
  have := take_put hk cur d'.toList (by rw [hle]; exact hcs)
  rw [← this]
end
end Go.Proofs.Ytciilfkjecmdiaa

/- Maps that the call makes: a list of keys and values; lookups, stores, deletes, lengths. Conditions: none. -/
namespace Go.Proofs.Ytciilfkjecmdiaa
open Go.RowKit

theorem mapErase {α β : Type} (f : α → β) : ∀ (l : List α) (i : Nat), (l.eraseIdx i).map f = (l.map f).eraseIdx i
  | [], i => by simp
  | a :: r, 0 => by simp
  | a :: r, i + 1 => by simp [mapErase f r i]
section
variable {K : Type} [DecidableEq K]
/-- The place and the value of a key. -/
def lookK (a : K) : List (K × Value) → Nat → Option (Nat × Value)
  | [], _ => none
  | p :: r, i => if a = p.1 then some (i, p.2) else lookK a r (i + 1)
def getK (l : List (K × Value)) (a : K) : Option Value := (lookK a l 0).map (·.2)
def putK (l : List (K × Value)) (a : K) (v : Value) : List (K × Value) :=
  match lookK a l 0 with
  | some (i, _) => l.modify i fun p => (p.1, v)
  | none => l ++ [(a, v)]
def delK (l : List (K × Value)) (a : K) : List (K × Value) :=
  match lookK a l 0 with
  | some (i, _) => l.eraseIdx i
  | none => l
theorem lookK_shift (a : K) : ∀ (l : List (K × Value)) (i j : Nat), lookK a l (i + j) = (lookK a l j).map fun p => (i + p.1, p.2)
  | [], _, _ => rfl
  | p :: r, i, j => by
    unfold lookK
    split
    · rfl
    · rw [Nat.add_assoc]; exact lookK_shift a r i (j + 1)
theorem lookK_some {a : K} : ∀ {l : List (K × Value)} {i : Nat} {v : Value}, lookK a l 0 = some (i, v) → l[i]? = some (a, v)
  | [], i, v, h => by simp [lookK] at h
  | p :: r, i, v, h => by
    unfold lookK at h
    split at h
    · rename_i e
      simp only [Option.some.injEq, Prod.mk.injEq] at h
      obtain ⟨rfl, rfl⟩ := h
      subst e; rfl
    · rw [show (0 : Nat) + 1 = 1 + 0 from rfl, lookK_shift] at h
      cases hr : lookK a r 0 with
      | none => rw [hr] at h; simp at h
      | some q =>
        obtain ⟨k, u⟩ := q
        rw [hr] at h
        simp only [Option.map_some, Option.some.injEq, Prod.mk.injEq] at h
        obtain ⟨rfl, rfl⟩ := h
        rw [Nat.add_comm, List.getElem?_cons_succ]
        exact lookK_some hr
theorem lookK_none {a : K} : ∀ {l : List (K × Value)}, lookK a l 0 = none → ∀ p ∈ l, p.1 ≠ a
  | [], _, p, hp => by simp at hp
  | q :: r, h, p, hp => by
    unfold lookK at h
    split at h
    · simp at h
    · rename_i e
      rw [show (0 : Nat) + 1 = 1 + 0 from rfl, lookK_shift] at h
      have hr : lookK a r 0 = none := by cases hr : lookK a r 0 <;> simp_all
      rcases List.mem_cons.1 hp with rfl | hp
      · exact fun e' => e e'.symm
      · exact lookK_none hr p hp
theorem getK_cons (p : K × Value) (l : List (K × Value)) (b : K) : getK (p :: l) b = if b = p.1 then some p.2 else getK l b := by
  simp only [getK, lookK]
  split
  · rfl
  · rw [show (0 : Nat) + 1 = 1 + 0 from rfl, lookK_shift]; cases lookK b l 0 <;> rfl
@[simp] theorem getK_nil (b : K) : getK ([] : List (K × Value)) b = none := rfl
theorem getK_append (l r : List (K × Value)) (b : K) : getK (l ++ r) b = (getK l b).or (getK r b) := by
  induction l with
  | nil => simp
  | cons p l ih => rw [List.cons_append, getK_cons, getK_cons, ih]; split <;> simp
theorem getK_none {l : List (K × Value)} {b : K} (h : ∀ p ∈ l, p.1 ≠ b) : getK l b = none := by
  induction l with
  | nil => rfl
  | cons p l ih => rw [getK_cons, if_neg (fun e => h p (by simp) e.symm), ih (fun q hq => h q (by simp [hq]))]
theorem getK_modify : ∀ (l : List (K × Value)) (i : Nat) (a : K) (u v : Value) (b : K), l[i]? = some (a, u) → (∀ j, j < i → ∀ p, l[j]? = some p → p.1 ≠ a) → getK (l.modify i fun p => (p.1, v)) b = if b = a then some v else getK l b
  | [], i, a, u, v, b, h, _ => by simp at h
  | p :: r, 0, a, u, v, b, h, _ => by
    simp at h; subst h
    rw [List.modify_zero_cons, getK_cons, getK_cons]
    split <;> simp_all
  | p :: r, i + 1, a, u, v, b, h, hn => by
    rw [List.modify_succ_cons, getK_cons, getK_cons, getK_modify r i a u v b (by simpa using h) (fun j hj q hq => hn (j + 1) (by omega) q (by simpa using hq))]
    have hp : p.1 ≠ a := hn 0 (by omega) p rfl
    by_cases e : b = p.1
    · subst e; simp [hp]
    · simp [e]
theorem lookK_first {a : K} : ∀ {l : List (K × Value)} {i : Nat} {v : Value}, lookK a l 0 = some (i, v) → ∀ j, j < i → ∀ p, l[j]? = some p → p.1 ≠ a
  | [], i, v, h => by simp [lookK] at h
  | q :: r, i, v, h => by
    intro j hj p hp
    unfold lookK at h
    split at h
    · simp at h; omega
    · rename_i e
      rw [show (0 : Nat) + 1 = 1 + 0 from rfl, lookK_shift] at h
      cases hr : lookK a r 0 with
      | none => rw [hr] at h; simp at h
      | some x =>
        obtain ⟨k, u⟩ := x
        rw [hr] at h
        simp only [Option.map_some, Option.some.injEq, Prod.mk.injEq] at h
        cases j with
        | zero => simp at hp; subst hp; exact fun e' => e e'.symm
        | succ j => exact lookK_first hr j (by omega) p (by simpa using hp)
theorem getK_put (l : List (K × Value)) (a : K) (v : Value) (b : K) : getK (putK l a v) b = if b = a then some v else getK l b := by
  unfold putK
  cases h : lookK a l 0 with
  | none =>
    simp only []
    rw [getK_append]
    by_cases e : b = a
    · subst e; rw [getK_none (lookK_none h)]; simp [getK_cons]
    · simp [getK_cons, e]
  | some x =>
    obtain ⟨i, u⟩ := x
    exact getK_modify l i a u v b (lookK_some h) (lookK_first h)
theorem putK_keys (l : List (K × Value)) (a : K) (v : Value) (h : (l.map (·.1)).Nodup) : ((putK l a v).map (·.1)).Nodup := by
  unfold putK
  cases h1 : lookK a l 0 with
  | none =>
    simp only [List.map_append, List.map_cons, List.map_nil]
    rw [List.nodup_append]
    refine ⟨h, by simp, ?_⟩
    intro x hx y hy
    obtain ⟨p, hp, rfl⟩ := List.mem_map.1 hx
    simp at hy; subst hy
    exact lookK_none h1 p hp
  | some x =>
    obtain ⟨i, u⟩ := x
    have : (l.modify i fun p => (p.1, v)).map (·.1) = l.map (·.1) := by
      apply List.ext_getElem?
      intro j
      simp only [List.getElem?_map, List.getElem?_modify]
      cases l[j]? <;> simp
      split <;> rfl
    simp only []
    rw [this]; exact h
theorem getK_del (l : List (K × Value)) (a b : K) (h : (l.map (·.1)).Nodup) : getK (delK l a) b = if b = a then none else getK l b := by
  have key : ∀ (l : List (K × Value)) (i : Nat) (u : Value), (l.map (·.1)).Nodup → l[i]? = some (a, u) → getK (l.eraseIdx i) b = if b = a then none else getK l b := by
    intro l
    induction l with
    | nil => intro i u _ h; simp at h
    | cons p r ih =>
      intro i u hn h
      simp only [List.map_cons, List.nodup_cons, List.mem_map, not_exists, not_and] at hn
      cases i with
      | zero =>
        simp at h; subst h
        rw [List.eraseIdx_zero, List.tail_cons, getK_cons]
        by_cases e : b = a
        · subst e; simp; exact getK_none (fun q hq => hn.1 q hq)
        · simp [e]
      | succ i =>
        simp only [List.getElem?_cons_succ] at h
        rw [List.eraseIdx_cons_succ, getK_cons, getK_cons, ih i u hn.2 h]
        have hp : p.1 ≠ a := fun e => hn.1 (a, u) (List.mem_of_getElem? h) e.symm
        by_cases e : b = p.1
        · subst e; simp [hp]
        · simp [e]
  unfold delK
  cases h1 : lookK a l 0 with
  | none =>
    simp only []
    by_cases e : b = a
    · subst e; simp [getK, h1]
    · simp [e]
  | some x => exact key l x.1 x.2 h (lookK_some h1)
theorem delK_keys (l : List (K × Value)) (a : K) (h : (l.map (·.1)).Nodup) : ((delK l a).map (·.1)).Nodup := by
  unfold delK
  cases h1 : lookK a l 0 with
  | none => exact h
  | some x => simp only []; rw [mapErase]; exact h.sublist (List.eraseIdx_sublist _ _)

end

section
variable {K : Type}
variable {P : Program} {n : Nat} {m : List (Nat × Value)} {w x : World} {o : Oper} {B : Nat} {l : List (K × Value)} {kv : K → Value} {kt e t : TypeId} {q r : Operand} {a : K}
/-- Block B is a map that holds just these entries. -/
def MapB (kv : K → Value) (w : World) (B : Nat) (l : List (K × Value)) : Prop :=
  ∃ es clock, w.heap[B]? = some (.map es clock) ∧ es.toList.map (fun e => (e.key, e.val)) = l.map (fun p => (kv p.1, p.2)) ∧ (l.map (·.1)).Nodup ∧ (es.toList.map (·.born)).Nodup ∧ ∀ e ∈ es.toList, e.born < clock
theorem MapB.lt (h : MapB kv w B l) : B < w.heap.size := by obtain ⟨_, _, h, _⟩ := h; exact (Array.getElem?_eq_some_iff.1 h).1
theorem MapB.keys (h : MapB kv w B l) : (l.map (·.1)).Nodup := by obtain ⟨_, _, _, _, h, _⟩ := h; exact h
theorem MapB.kept {row : Option Nat} (h : MapB kv w B l) (hg : w.grownBy x row) (hne : row ≠ some B) : MapB kv x B l := by
  obtain ⟨es, c, h1, h2⟩ := h
  exact ⟨es, c, by rw [hg.block B (Array.getElem?_eq_some_iff.1 h1).1 (fun e => hne e.symm)]; exact h1, h2⟩
theorem MapB.below (h : MapB kv w B l) (hb : Below w.heap.size w x) : MapB kv x B l := h.kept (below_grown hb) (by simp)
theorem op_makeMap (kv : K → Value) (hrun : (execOp (lk m) o).run P w = .ok (.value (.map (some w.heap.size))) (w.alloc (.map #[] 0))) (hok : okOps m o.op = true) (hsel : (match o.op with | .select .. => true | _ => false) = false) :
    Op1 P n m o w (fun u x => ∃ N, u = .map (some N) ∧ N = w.heap.size ∧ x.heap.size = N + 1 ∧ MapB kv x N [] ∧ w.grownBy x none) :=
  (op_run hok hsel hrun).mono fun u x ⟨h1, h2⟩ => by
    subst h2
    exact ⟨w.heap.size, h1, rfl, by simp, ⟨#[], 0, heap_alloc_new w _, by simp, by simp, by simp, by simp⟩, World.grownBy_alloc w _ none⟩
theorem rn_lenMap {ts : Array TypeId} (ho : o.op = .call { callee := .builtin .len, args := #[q], argTypes := #[t] }) (hq : ev m q = some (.map (some B))) (ht : P.underlying t = some (.map kt e)) (h : MapB kv w B l) : (execOp (lk m) o).run P w = .ok (.value (.int .i64 (l.length : Nat))) w := by
  obtain ⟨es, cl, h1, h2, _⟩ := h
  have hl : es.size = l.length := by have := congrArg List.length h2; simpa using this
  have hg : (getObj B).run P w = .ok (.map es cl) w := by simp [getObj, Sem.run, h1]
  unfold execOp
  simp [ho, resolve, invoke, builtin, Sem.run_bind, lk_ev hq, Builtin.len_, goInt, run_underlying ht, hg, hl]
theorem setObj_grown (w : World) (B : Nat) (ob : Obj) : w.grownBy { w with heap := w.heap.setIfInBounds B ob } (some B) :=
  ⟨rfl, rfl, rfl, by simp, fun k _ hk => by simp [Array.getElem?_setIfInBounds_ne (show B ≠ k from fun e => hk (by rw [e]))]⟩

end

section
variable {K : Type} [DecidableEq K]
/-- How keys of a kind lie in memory, are found, stay. -/
structure KL (P : Program) (kt : TypeId) (kv : K → Value) : Prop where
  chk : ∀ (w : World) (em : Bool) (a : K), (Instr.checkKey em 10000 kt (kv a)).run P w = .ok () w
  fnd : ∀ (w : World) (a : K) (es : List MapEntry) (l : List (K × Value)), es.map (fun e => (e.key, e.val)) = l.map (fun p => (kv p.1, p.2)) → (Instr.findKey kt (kv a) es).run P w = .ok (lookK a l 0) w
  bits : ∀ a : K, Instr.sameBits 10000 (kv a) (kv a) = true

variable {P : Program} {n : Nat} {m : List (Nat × Value)} {w x : World} {o : Oper} {B : Nat} {l : List (K × Value)} {kv : K → Value} {kt e t : TypeId} {q r : Operand} {a : K}
theorem run_look (KK : KL P kt kv) (ht : P.underlying t = some (.map kt e)) {z : Value} (hz : ∀ w : World, (zeroValue e).run P w = .ok z w) (h : MapB kv w B l) (c : Bool) :
    (Instr.lookup t (.map (some B)) (kv a) c).run P w = .ok (if c then .tuple #[(getK l a).getD z, .bool (getK l a).isSome] else (getK l a).getD z) w := by
  obtain ⟨es, cl, h1, h2, _⟩ := h
  have hg : (getObj B).run P w = .ok (.map es cl) w := by simp [getObj, Sem.run, h1]
  have hf := KK.fnd w a es.toList l h2
  simp only [Instr.lookup, Sem.run_bind, run_underlying ht, Result.andThen_ok, hg, Sem.run_pure, KK.chk, hf]
  unfold getK
  cases lookK a l 0 with
  | none => simp [hz]
  | some p => simp
theorem rn_look (KK : KL P kt kv) (ho : o.op = .lookup t q r false) (hq : ev m q = some (.map (some B))) (hr : ev m r = some (kv a)) (ht : P.underlying t = some (.map kt e)) {z : Value} (hz : ∀ w : World, (zeroValue e).run P w = .ok z w) (h : MapB kv w B l) :
    (execOp (lk m) o).run P w = .ok (.value ((getK l a).getD z)) w := by
  have := run_look (a := a) KK ht hz h false
  unfold execOp
  simp only [ho, lk_ev hq, lk_ev hr, Sem.run_bind, this, Result.andThen_ok, Sem.run_pure]
  rfl
theorem rn_lookOk (KK : KL P kt kv) (ho : o.op = .lookup t q r true) (hq : ev m q = some (.map (some B))) (hr : ev m r = some (kv a)) (ht : P.underlying t = some (.map kt e)) {z : Value} (hz : ∀ w : World, (zeroValue e).run P w = .ok z w) (h : MapB kv w B l) :
    (execOp (lk m) o).run P w = .ok (.value (.tuple #[(getK l a).getD z, .bool (getK l a).isSome])) w := by
  have := run_look (a := a) KK ht hz h true
  unfold execOp
  simp only [ho, lk_ev hq, lk_ev hr, Sem.run_bind, this, Result.andThen_ok, Sem.run_pure]
  rfl
theorem run_update (KK : KL P kt kv) (ht : P.underlying t = some (.map kt e)) (v : Value) (h : MapB kv w B l) :
    ∃ x, (Instr.mapUpdate t (.map (some B)) (kv a) v).run P w = .ok () x ∧ MapB kv x B (putK l a v) ∧ x.heap.size = w.heap.size ∧ w.grownBy x (some B) := by
  have hkn := putK_keys l a v h.keys
  obtain ⟨es, cl, h1, h2, h3, h4, h5⟩ := h
  have hlt := (Array.getElem?_eq_some_iff.1 h1).1
  have hg : (getObj B).run P w = .ok (.map es cl) w := by simp [getObj, Sem.run, h1]
  have hso : ∀ ob : Obj, (setObj B ob).run P w = .ok () { w with heap := w.heap.setIfInBounds B ob } := fun ob => by simp [setObj, Sem.run, h1]
  have hf := KK.fnd w a es.toList l h2
  cases hL : lookK a l 0 with
  | none =>
    refine ⟨{ w with heap := w.heap.setIfInBounds B (.map (es.push { key := kv a, val := v, born := cl }) (cl + 1)) }, ?_, ⟨es.push { key := kv a, val := v, born := cl }, cl + 1, by simp [hlt], ?_, hkn, ?_, ?_⟩, by simp, setObj_grown w B _⟩
    · simp only [Instr.mapUpdate, Sem.run_bind, run_underlying ht, Result.andThen_ok, hg, KK.chk, hf, hL, hso]
    · simp [putK, hL, h2]
    · simp only [Array.toList_push, List.map_append, List.map_cons, List.map_nil]
      rw [List.nodup_append]
      refine ⟨h4, by simp, fun y hy z hz => ?_⟩
      obtain ⟨e0, he, rfl⟩ := List.mem_map.1 hy
      simp at hz; subst hz
      have := h5 e0 he; omega
    · intro e0 he
      simp only [Array.toList_push, List.mem_append, List.mem_singleton] at he
      rcases he with he | rfl
      · have := h5 e0 he; omega
      · exact Nat.lt_succ_self _
  | some p =>
    obtain ⟨i, u⟩ := p
    have hli := lookK_some hL
    have hei : (es.toList.map (fun e => (e.key, e.val)))[i]? = some (kv a, u) := by rw [h2]; simp [hli]
    rw [List.getElem?_map] at hei
    cases he : es.toList[i]? with
    | none => rw [he] at hei; simp at hei
    | some e0 =>
      rw [he] at hei
      simp only [Option.map_some, Option.some.injEq, Prod.mk.injEq] at hei
      have he' : es[i]? = some e0 := by rw [← Array.getElem?_toList]; exact he
      have hst : (Instr.keyThatStays e0.key (kv a)).run P w = .ok (kv a) w := by
        rw [hei.1]; unfold Instr.keyThatStays; rw [KK.bits a]; rfl
      refine ⟨{ w with heap := w.heap.setIfInBounds B (.map (es.modify i fun e => { e with key := kv a, val := v }) cl) }, ?_, ⟨es.modify i fun e => { e with key := kv a, val := v }, cl, by simp [hlt], ?_, hkn, ?_, ?_⟩, by simp, setObj_grown w B _⟩
      · simp only [Instr.mapUpdate, Sem.run_bind, run_underlying ht, Result.andThen_ok, hg, KK.chk, hf, hL, he', Option.map_some, Option.getD_some, hst, hso]
      · simp only [putK, hL, Array.toList_modify]
        apply List.ext_getElem?
        intro j
        have hj : (es.toList.map (fun e => (e.key, e.val)))[j]? = (l.map (fun p => (kv p.1, p.2)))[j]? := by rw [h2]
        simp only [List.getElem?_map, List.getElem?_modify] at hj ⊢
        by_cases e1 : i = j
        · subst e1; simp [he, hli]
        · simp only [e1, if_false]
          cases hx : es.toList[j]? <;> cases hy : l[j]? <;> simp_all
      · have : (es.toList.modify i fun e0 => { e0 with key := kv a, val := v }).map (·.born) = es.toList.map (·.born) := by
          apply List.ext_getElem?
          intro j
          simp only [List.getElem?_map, List.getElem?_modify]
          cases es.toList[j]? <;> simp
          split <;> rfl
        rw [Array.toList_modify, this]; exact h4
      · intro e1 h1'
        rw [Array.toList_modify] at h1'
        obtain ⟨j, hj⟩ := List.getElem?_of_mem h1'
        rw [List.getElem?_modify] at hj
        cases hx : es.toList[j]? with
        | none => rw [hx] at hj; simp at hj
        | some e2 =>
          rw [hx] at hj
          have := h5 e2 (List.mem_of_getElem? hx)
          simp at hj; subst hj
          split <;> simpa using this
theorem op_mapUpdate (KK : KL P kt kv) {s : Operand} {v : Value} (ho : o.op = .mapUpdate t q r s) (hq : ev m q = some (.map (some B))) (hr : ev m r = some (kv a)) (hs : ev m s = some v) (ht : P.underlying t = some (.map kt e)) (h : MapB kv w B l) :
    Op1 P n m o w (fun _ x => MapB kv x B (putK l a v) ∧ x.heap.size = w.heap.size ∧ w.grownBy x (some B)) := by
  intro ac ha N Q hN
  obtain ⟨x, hx, h1, h2, h3⟩ := run_update (a := a) KK ht v h
  unfold Oper.wp execOp
  simp only [ho, ha.ev hq, ha.ev hr, ha.ev hs, Sem.run_bind, hx, Result.andThen_ok, Sem.run_pure]
  exact hN _ _ ⟨h1, h2, h3⟩
theorem run_delete (KK : KL P kt kv) (ht : P.underlying t = some (.map kt e)) {t2 ty : TypeId} (h : MapB kv w B l) :
    ∃ x, (Builtin.delete_ #[t, t2] ty #[.map (some B), kv a]).run P w = .ok (.tuple #[]) x ∧ MapB kv x B (delK l a) ∧ x.heap.size = w.heap.size ∧ w.grownBy x (some B) := by
  have hkn := delK_keys l a h.keys
  obtain ⟨es, cl, h1, h2, h3, h4, h5⟩ := h
  have hlt := (Array.getElem?_eq_some_iff.1 h1).1
  have hg : (getObj B).run P w = .ok (.map es cl) w := by simp [getObj, Sem.run, h1]
  have hso : ∀ ob : Obj, (setObj B ob).run P w = .ok () { w with heap := w.heap.setIfInBounds B ob } := fun ob => by simp [setObj, Sem.run, h1]
  have hf := KK.fnd w a es.toList l h2
  cases hL : lookK a l 0 with
  | none =>
    refine ⟨{ w with heap := w.heap.setIfInBounds B (.map es cl) }, ?_, ⟨es, cl, by simp [hlt], by simpa [delK, hL] using h2, hkn, h4, h5⟩, by simp, setObj_grown w B _⟩
    simp only [Builtin.delete_, List.getElem?_toArray, List.getElem?_cons_zero, List.getElem?_cons_succ, Sem.run_bind, run_underlying ht, Result.andThen_ok, hg, KK.chk, hf, hL, hso, Sem.run_pure]
  | some p =>
    obtain ⟨i, u⟩ := p
    have he : (es.eraseIdxIfInBounds i).toList = es.toList.eraseIdx i := by simp
    refine ⟨{ w with heap := w.heap.setIfInBounds B (.map (es.eraseIdxIfInBounds i) cl) }, ?_, ⟨es.eraseIdxIfInBounds i, cl, by simp [hlt], ?_, hkn, ?_, ?_⟩, by simp, setObj_grown w B _⟩
    · simp only [Builtin.delete_, List.getElem?_toArray, List.getElem?_cons_zero, List.getElem?_cons_succ, Sem.run_bind, run_underlying ht, Result.andThen_ok, hg, KK.chk, hf, hL, hso, Sem.run_pure]
    · simp only [delK, hL]; rw [he, mapErase, mapErase, h2]
    · rw [he, mapErase]; exact h4.sublist (List.eraseIdx_sublist _ _)
    · intro e0 h0; rw [he] at h0; exact h5 e0 ((List.eraseIdx_sublist _ _).mem h0)
end
end Go.Proofs.Ytciilfkjecmdiaa

/- Keys of maps: ints, texts, and structs or arrays that are compared part by part. Conditions: none. -/
namespace Go.Proofs.Ytciilfkjecmdiaa
open Go.RowKit

theorem findNow_keys {K : Type} [DecidableEq K] {kv : K → Value} {d : TypeDesc} (h : ∀ a b, Instr.sameNow d (kv a) (kv b) = some (decide (a = b))) (a : K) : ∀ (es : List MapEntry) (l : List (K × Value)) (i : Nat), es.map (fun e => (e.key, e.val)) = l.map (fun p => (kv p.1, p.2)) → Instr.findNow d (kv a) es i = some (lookK a l i)
  | [], [], _, _ => rfl
  | [], p :: r, _, h => by simp at h
  | e :: es, [], _, h => by simp at h
  | e :: es, p :: r, i, he => by
    simp only [List.map_cons, List.cons.injEq, Prod.mk.injEq] at he
    obtain ⟨⟨h1, h2⟩, h3⟩ := he
    unfold Instr.findNow lookK
    rw [h1, h a p.1, h2]
    by_cases e1 : a = p.1
    · simp [e1]
    · simp only [e1, decide_false, if_false]
      exact findNow_keys h a es r (i + 1) h3
theorem findAsking_keys {P : Program} {kt : TypeId} {K : Type} [DecidableEq K] {kv : K → Value} (h : ∀ a b (w : World), (Op.equal kt (kv a) (kv b)).run P w = .ok (decide (a = b)) w) (a : K) (w : World) : ∀ (es : List MapEntry) (l : List (K × Value)) (i : Nat), es.map (fun e => (e.key, e.val)) = l.map (fun p => (kv p.1, p.2)) → (Instr.findAsking kt (kv a) es i).run P w = .ok (lookK a l i) w
  | [], [], _, _ => rfl
  | [], p :: r, _, h => by simp at h
  | e :: es, [], _, h => by simp at h
  | e :: es, p :: r, i, he => by
    simp only [List.map_cons, List.cons.injEq, Prod.mk.injEq] at he
    obtain ⟨⟨h1, h2⟩, h3⟩ := he
    unfold Instr.findAsking lookK
    simp only [Sem.run_bind, h1, h a p.1 w, Result.andThen_ok]
    by_cases e1 : a = p.1
    · simp [e1, h2]
    · simp only [e1, decide_false, if_false]
      exact findAsking_keys h a w es r (i + 1) h3
theorem plainKL {P : Program} {kt : TypeId} {K : Type} [DecidableEq K] {kv : K → Value} {d : TypeDesc} (ht : P.underlying kt = some d) (h : ∀ a b, Instr.sameNow d (kv a) (kv b) = some (decide (a = b))) (hc : ∀ (w : World) em a, (Instr.checkKey em 10000 kt (kv a)).run P w = .ok () w) (hb : ∀ a, Instr.sameBits 10000 (kv a) (kv a) = true) : KL P kt kv where
  chk := hc
  fnd w a es l hl := by
    simp only [Instr.findKey, Sem.run_bind, run_underlying ht, Result.andThen_ok, findNow_keys h a es l 0 hl, Sem.run_pure]
  bits := hb
theorem aggKL {P : Program} {kt : TypeId} {K : Type} [DecidableEq K] {kv : K → Value} {d : TypeDesc} (ht : P.underlying kt = some d) (h : ∀ a b, Instr.sameNow d (kv a) (kv b) = none) (hq : ∀ a b (w : World), (Op.equal kt (kv a) (kv b)).run P w = .ok (decide (a = b)) w) (hc : ∀ (w : World) em a, (Instr.checkKey em 10000 kt (kv a)).run P w = .ok () w) (hb : ∀ a, Instr.sameBits 10000 (kv a) (kv a) = true) : KL P kt kv where
  chk := hc
  fnd w a es l hl := by
    cases es with
    | nil =>
      cases l with
      | nil => simp only [Instr.findKey, Sem.run_bind, run_underlying ht, Result.andThen_ok, Instr.findNow, Sem.run_pure]; rfl
      | cons p r => simp at hl
    | cons e es =>
      cases l with
      | nil => simp at hl
      | cons p r =>
        have h0 := hl
        simp only [List.map_cons, List.cons.injEq, Prod.mk.injEq] at hl
        have hn : Instr.findNow d (kv a) (e :: es) 0 = none := by unfold Instr.findNow; rw [hl.1.1, h a p.1]
        simp only [Instr.findKey, Sem.run_bind, run_underlying ht, Result.andThen_ok, hn]
        exact findAsking_keys hq a w (e :: es) (p :: r) 0 h0
  bits := hb
def intK (n : Int) : Value := .int .i64 n
theorem intKL {P : Program} {kt : TypeId} (ht : P.underlying kt = some (.int .i64)) : KL P kt intK :=
  plainKL ht (fun a b => by simp [Instr.sameNow, intK]; rfl) (fun w em a => (show ∀ d, (Instr.checkKey em (d + 1) kt (intK a)).run P w = .ok () w from fun d => by
    simp only [Instr.checkKey, Sem.run_bind, run_underlying ht, Result.andThen_ok, intK, Sem.run_pure]) 9999) (fun a => (show ∀ d, Instr.sameBits (d + 1) (intK a) (intK a) = true from fun d => by simp [Instr.sameBits, intK]) 9999)
def strK (s : ByteArray) : Value := .string s
theorem beq_bytes (a b : ByteArray) : (a == b) = decide (a = b) := by
  rw [beq_toListBytes, Go.ByteArray.toList_eq, Go.ByteArray.toList_eq]
  by_cases h : a = b
  · subst h; simp
  · rw [decide_eq_false h, beq_eq_false_iff_ne]
    intro e; exact h (by apply ByteArray.ext; exact Array.toList_inj.1 e)
theorem strKL {P : Program} {kt : TypeId} (ht : P.underlying kt = some .string) : KL P kt strK :=
  plainKL ht (fun a b => by simp only [Instr.sameNow, strK]; rw [beq_bytes]) (fun w em a => (show ∀ d, (Instr.checkKey em (d + 1) kt (strK a)).run P w = .ok () w from fun d => by
    simp only [Instr.checkKey, Sem.run_bind, run_underlying ht, Result.andThen_ok, strK, Sem.run_pure]) 9999) (fun a => (show ∀ d, Instr.sameBits (d + 1) (strK a) (strK a) = true from fun d => by simp only [Instr.sameBits, strK]; rw [beq_bytes]; simp) 9999)
def arr2K (p : Int × Int) : Value := .agg #[.int .i64 p.1, .int .i64 p.2]
theorem arr2KL {P : Program} {kt E : TypeId} (ht : P.underlying kt = some (.array 2 E)) (hE : P.underlying E = some (.int .i64)) (hs : ∀ w : World, (sizeOf E).run P w = .ok 1 w) (hg : ∀ w : World, (isAgg E).run P w = .ok false w) : KL P kt arr2K := by
  have hp : ∀ (w : World) (a b : Int) (i : Nat), i < 2 → (part E #[.int .i64 a, .int .i64 b] (i * 1)).run P w = .ok (.int .i64 (if i = 0 then a else b)) w := by
    intro w a b i hi
    match i, hi with
    | 0, _ => simp [part, Sem.run_bind, hg, hs]
    | 1, _ => simp [part, Sem.run_bind, hg, hs]
  have q2 : ∀ (d : Nat) (a b : Int × Int) (w : World), (Op.equalIn (d + 1 + 1) kt (arr2K a) (arr2K b)).run P w = .ok (decide (a = b)) w := by
    intro d a b w
    have e1 : ∀ (w : World) (x y : Int), (Op.equalIn (d + 1) E (.int .i64 x) (.int .i64 y)).run P w = .ok (x == y) w := fun w x y => by
      simp [Op.equalIn, Sem.run_bind, run_underlying hE]
    have h00 := fun w => hp w a.1 a.2 0 (by omega); have h01 := fun w => hp w a.1 a.2 1 (by omega)
    have h10 := fun w => hp w b.1 b.2 0 (by omega); have h11 := fun w => hp w b.1 b.2 1 (by omega)
    simp only [Nat.zero_mul, Nat.one_mul, if_true, Nat.one_ne_zero, if_false] at h00 h01 h10 h11
    obtain ⟨a1, a2⟩ := a
    obtain ⟨b1, b2⟩ := b
    rw [Op.equalIn]
    simp only [Sem.run_bind, run_underlying ht, Result.andThen_ok, arr2K, hs]
    simp [Std.Legacy.Range.forIn_eq_forIn_range', List.range', Sem.run_bind, h00, h01, h10, h11, e1, Sem.run_ite, hs]
    by_cases h1 : a1 = b1 <;> by_cases h2 : a2 = b2 <;> simp [h1, h2]
  have c2 : ∀ (d : Nat) (w : World) (em : Bool) (a : Int × Int), (Instr.checkKey em (d + 1 + 1) kt (arr2K a)).run P w = .ok () w := by
    intro d w em a
    have e1 : ∀ (w : World) (x : Int), (Instr.checkKey em (d + 1) E (.int .i64 x)).run P w = .ok () w := fun w x => by
      simp [Instr.checkKey, Sem.run_bind, run_underlying hE]
    have h00 := fun w => hp w a.1 a.2 0 (by omega); have h01 := fun w => hp w a.1 a.2 1 (by omega)
    simp only [Nat.zero_mul, Nat.one_mul, if_true, Nat.one_ne_zero, if_false] at h00 h01
    rw [Instr.checkKey]
    simp only [Sem.run_bind, run_underlying ht, Result.andThen_ok, arr2K, hs]
    simp [Std.Legacy.Range.forIn_eq_forIn_range', List.range', Sem.run_bind, h00, h01, e1, hs]
  have b2 : ∀ (d : Nat) (a : Int × Int), Instr.sameBits (d + 1 + 1) (arr2K a) (arr2K a) = true := fun d a => by simp [Instr.sameBits, arr2K]
  exact aggKL ht (fun a b => rfl) (fun a b w => q2 9998 a b w) (fun w em a => c2 9998 w em a) (fun a => b2 9998 a)
end Go.Proofs.Ytciilfkjecmdiaa

/- Maps that the call makes, told by a function that says what each key has (a default for those that are not there). Conditions: none. -/
namespace Go.Proofs.Ytciilfkjecmdiaa
open Go.RowKit

section
variable {K V : Type} {P : Program} {n : Nat} {m : List (Nat × Value)} {w x : World} {o : Oper} {B : Nat} {kv : K → Value} {kt e t : TypeId} {q r : Operand} {a : K} {enc : V → Value} {z : V} {g : K → V}

/-- Block B is a map; a key a has g a (z, if it is not there). -/
def MapG [DecidableEq K] (kv : K → Value) (enc : V → Value) (z : V) (w : World) (B : Nat) (g : K → V) : Prop := ∃ l, MapB kv w B l ∧ ∀ a, (getK l a).getD (enc z) = enc (g a)
variable [DecidableEq K]
theorem MapG.lt (h : MapG kv enc z w B g) : B < w.heap.size := by obtain ⟨l, h, _⟩ := h; exact h.lt
theorem MapG.kept {row : Option Nat} (h : MapG kv enc z w B g) (hg : w.grownBy x row) (hne : row ≠ some B) : MapG kv enc z x B g := by
  obtain ⟨l, h1, h2⟩ := h; exact ⟨l, h1.kept hg hne, h2⟩
theorem MapG.below (h : MapG kv enc z w B g) (hb : Below w.heap.size w x) : MapG kv enc z x B g := h.kept (below_grown hb) (by simp)
theorem MapG.row {B' : Nat} {T : TypeId} {sz k : Nat} {v : Value} {xs : List Value} (h : MapG kv enc z w B g) (hr : w.ownsRow B' T sz v k xs) : v.ownBlock ≠ some B := by
  intro e1
  obtain ⟨l, ⟨es, c, h1, _⟩, _⟩ := h
  rcases hr.2 with ⟨rfl, _⟩ | ⟨g1, _, _, rfl, _, hg1, _⟩
  · simp [Value.ownBlock] at e1
  · simp [Value.ownBlock] at e1
    subst e1; rw [h1] at hg1; cases hg1
theorem MapB.toG (h : MapB kv w B []) (enc : V → Value) (z : V) : MapG kv enc z w B (fun _ => z) := ⟨[], h, fun a => by simp⟩
theorem op_makeG (kv : K → Value) (enc : V → Value) (z : V) (hrun : (execOp (lk m) o).run P w = .ok (.value (.map (some w.heap.size))) (w.alloc (.map #[] 0))) (hok : okOps m o.op = true) (hsel : (match o.op with | .select .. => true | _ => false) = false) :
    Op1 P n m o w (fun u x => ∃ N, u = .map (some N) ∧ N = w.heap.size ∧ x.heap.size = N + 1 ∧ MapG kv enc z x N (fun _ => z) ∧ w.grownBy x none) :=
  (op_makeMap kv hrun hok hsel).mono fun u x ⟨N, h1, h2, h3, h4, h5⟩ => ⟨N, h1, h2, h3, h4.toG enc z, h5⟩
theorem rn_lookG (KK : KL P kt kv) (ho : o.op = .lookup t q r false) (hq : ev m q = some (.map (some B))) (hr : ev m r = some (kv a)) (ht : P.underlying t = some (.map kt e)) (hz : ∀ w : World, (zeroValue e).run P w = .ok (enc z) w) (h : MapG kv enc z w B g) :
    (execOp (lk m) o).run P w = .ok (.value (enc (g a))) w := by
  obtain ⟨l, h1, h2⟩ := h
  rw [← h2 a]; exact rn_look KK ho hq hr ht hz h1
theorem op_updateG (KK : KL P kt kv) {s : Operand} {v : V} (ho : o.op = .mapUpdate t q r s) (hq : ev m q = some (.map (some B))) (hr : ev m r = some (kv a)) (hs : ev m s = some (enc v)) (ht : P.underlying t = some (.map kt e)) (h : MapG kv enc z w B g) :
    Op1 P n m o w (fun _ x => MapG kv enc z x B (fun b => if b = a then v else g b) ∧ x.heap.size = w.heap.size ∧ w.grownBy x (some B)) := by
  obtain ⟨l, h1, h2⟩ := h
  exact (op_mapUpdate KK ho hq hr hs ht h1).mono fun _ x ⟨h3, h4, h5⟩ => ⟨⟨_, h3, fun b => by rw [getK_put]; by_cases e1 : b = a <;> simp [e1, h2]⟩, h4, h5⟩
/-- The entry of the key a bears this stamp. -/
def Stamp (kv : K → Value) (w : World) (B : Nat) (s : Nat) (a : K) : Prop := ∃ es clock, w.heap[B]? = some (.map es clock) ∧ ∃ e0 ∈ es.toList, e0.born = s ∧ e0.key = kv a
theorem run_entry (KK : KL P kt kv) (ht : P.underlying t = some (.map kt e)) (hz : ∀ w : World, (zeroValue e).run P w = .ok (enc z) w) (h : MapG kv enc z w B g) :
    ∃ s x, (Instr.mapEntry t (.map (some B)) (kv a)).run P w = .ok (.tuple #[enc (g a), .int .i64 (s : Nat)]) x ∧ MapG kv enc z x B g ∧ Stamp kv x B s a ∧ x.heap.size = w.heap.size ∧ w.grownBy x (some B) := by
  obtain ⟨l, hM, h2⟩ := h
  have hM0 := hM
  obtain ⟨es, cl, h1, hl, h3, h4, h5⟩ := hM
  have hlt := (Array.getElem?_eq_some_iff.1 h1).1
  have hg : (getObj B).run P w = .ok (.map es cl) w := by simp [getObj, Sem.run, h1]
  have hso : ∀ ob : Obj, (setObj B ob).run P w = .ok () { w with heap := w.heap.setIfInBounds B ob } := fun ob => by simp [setObj, Sem.run, h1]
  have hf := KK.fnd w a es.toList l hl
  cases hL : lookK a l 0 with
  | none =>
    have hga : enc (g a) = enc z := by rw [← h2 a]; simp [getK, hL]
    refine ⟨cl, { w with heap := w.heap.setIfInBounds B (.map (es.push { key := kv a, val := enc z, born := cl }) (cl + 1)) }, ?_, ⟨l ++ [(a, enc z)], ⟨es.push { key := kv a, val := enc z, born := cl }, cl + 1, by simp [hlt], by simp [hl], ?_, ?_, ?_⟩, ?_⟩, ⟨es.push { key := kv a, val := enc z, born := cl }, cl + 1, by simp [hlt], { key := kv a, val := enc z, born := cl }, by simp, rfl, rfl⟩, by simp, setObj_grown w B _⟩
    · simp only [Instr.mapEntry, Sem.run_bind, run_underlying ht, Result.andThen_ok, hg, KK.chk, hf, hL, hz, hso, Sem.run_pure, hga, goInt]
    · have := putK_keys l a (enc z) h3
      simpa [putK, hL] using this
    · simp only [Array.toList_push, List.map_append, List.map_cons, List.map_nil]
      rw [List.nodup_append]
      refine ⟨h4, by simp, fun y hy z hz => ?_⟩
      obtain ⟨e0, he, rfl⟩ := List.mem_map.1 hy
      simp at hz; subst hz
      have := h5 e0 he; omega
    · intro e0 he
      simp only [Array.toList_push, List.mem_append, List.mem_singleton] at he
      rcases he with he | rfl
      · have := h5 e0 he; omega
      · exact Nat.lt_succ_self _
    · intro b
      have hp := getK_put l a (enc z) b
      simp only [putK, hL] at hp
      rw [hp]
      by_cases e1 : b = a
      · subst e1; simp [hga]
      · simp [e1, h2]
  | some p =>
    obtain ⟨i, u⟩ := p
    have hli := lookK_some hL
    have hu : u = enc (g a) := by rw [← h2 a]; simp [getK, hL]
    have hei : (es.toList.map (fun e => (e.key, e.val)))[i]? = some (kv a, u) := by rw [hl]; simp [hli]
    rw [List.getElem?_map] at hei
    cases he : es.toList[i]? with
    | none => rw [he] at hei; simp at hei
    | some e0 =>
      rw [he] at hei
      simp only [Option.map_some, Option.some.injEq, Prod.mk.injEq] at hei
      have he' : es[i]? = some e0 := by rw [← Array.getElem?_toList]; exact he
      have hst : (Instr.keyThatStays e0.key (kv a)).run P w = .ok (kv a) w := by
        rw [hei.1]; unfold Instr.keyThatStays; rw [KK.bits a]; rfl
      have hmod : (es.modify i fun e => { e with key := kv a }) = es := by
        apply Array.ext_getElem?
        intro j
        rw [Array.getElem?_modify]
        by_cases e1 : i = j
        · subst e1; rw [if_pos rfl, he', Option.map_some, ← hei.1]
        · rw [if_neg e1]
      have hww : { w with heap := w.heap.setIfInBounds B (.map es cl) } = w := by
        have : w.heap.setIfInBounds B (.map es cl) = w.heap := by
          apply Array.ext_getElem?
          intro j
          by_cases e1 : B = j
          · subst e1; rw [Array.getElem?_setIfInBounds_self_of_lt hlt, h1]
          · rw [Array.getElem?_setIfInBounds_ne e1]
        rw [this]
      refine ⟨e0.born, w, ?_, ⟨l, hM0, h2⟩, ⟨es, cl, h1, e0, List.mem_of_getElem? he, rfl, hei.1⟩, rfl, World.grownBy.refl _ _⟩
      simp only [Instr.mapEntry, Sem.run_bind, run_underlying ht, Result.andThen_ok, hg, KK.chk, hf, hL, he', Option.map_some, Option.getD_some, hst, hmod, hso, hww, Sem.run_pure, hu, goInt]
theorem op_entryG (KK : KL P kt kv) (ho : o.op = .mapEntry t q r) (hq : ev m q = some (.map (some B))) (hr : ev m r = some (kv a)) (ht : P.underlying t = some (.map kt e)) (hz : ∀ w : World, (zeroValue e).run P w = .ok (enc z) w) (h : MapG kv enc z w B g) :
    Op1 P n m o w (fun u x => ∃ s : Nat, u = .tuple #[enc (g a), .int .i64 (s : Nat)] ∧ MapG kv enc z x B g ∧ Stamp kv x B s a ∧ x.heap.size = w.heap.size ∧ w.grownBy x (some B)) := by
  intro ac ha N Q hN
  obtain ⟨s, x, hx, h1, h2, h3, h4⟩ := run_entry (a := a) KK ht hz h
  unfold Oper.wp execOp
  simp only [ho, ha.ev hq, ha.ev hr, Sem.run_bind, hx, Result.andThen_ok, Sem.run_pure]
  exact hN _ _ ⟨s, rfl, h1, h2, h3, h4⟩
theorem findIdx_stamp : ∀ (l : List MapEntry) (s : Nat) (e0 : MapEntry), e0 ∈ l → e0.born = s → (l.map (·.born)).Nodup → ∃ i, l.findIdx? (fun e => (e.born : Int) == (s : Int)) = some i ∧ l[i]? = some e0
  | [], s, e0, h, _, _ => by simp at h
  | e1 :: r, s, e0, h, hb, hn => by
    simp only [List.map_cons, List.nodup_cons, List.mem_map, not_exists, not_and] at hn
    rw [List.findIdx?_cons]
    by_cases he : e1.born = s
    · refine ⟨0, by simp [he], ?_⟩
      rcases List.mem_cons.1 h with rfl | h
      · rfl
      · exact absurd (hb.trans he.symm) (hn.1 e0 h)
    · have h' : e0 ∈ r := by
        rcases List.mem_cons.1 h with rfl | h
        · exact absurd hb he
        · exact h
      obtain ⟨i, h1, h2⟩ := findIdx_stamp r s e0 h' hb hn.2
      have hne : ((e1.born : Int) == (s : Int)) = false := by simp; omega
      exact ⟨i + 1, by simp [hne, h1], by simpa using h2⟩
omit [DecidableEq K] in
theorem nodup_ne : ∀ (l : List K), l.Nodup → ∀ (j i : Nat), j < i → ∀ b, l[j]? = some b → l[i]? = some b → False
  | [], _, j, i, _, b, h, _ => by simp at h
  | c :: r, hn, 0, i + 1, _, b, h1, h2 => by
    simp at h1 h2; subst h1
    exact (List.nodup_cons.1 hn).1 (List.mem_of_getElem? h2)
  | c :: r, hn, j + 1, i + 1, hj, b, h1, h2 => nodup_ne r (List.nodup_cons.1 hn).2 j i (by omega) b (by simpa using h1) (by simpa using h2)
/-- A store at an entry that was told. -/
theorem op_entryStoreG (hinj : ∀ a b, kv a = kv b → a = b) {s u : Operand} {st : Nat} {v : V} (ho : o.op = .entryStore t q s u) (hq : ev m q = some (.map (some B))) (hs : ev m s = some (.int .i64 (st : Nat))) (hu : ev m u = some (enc v)) (h : MapG kv enc z w B g) (hst : Stamp kv w B st a) :
    Op1 P n m o w (fun _ x => MapG kv enc z x B (fun b => if b = a then v else g b) ∧ x.heap.size = w.heap.size ∧ w.grownBy x (some B)) := by
  intro ac ha N Q hN
  obtain ⟨l, ⟨es, cl, h1, hl, h3, h4, h5⟩, h2⟩ := h
  obtain ⟨es', cl', h1', e0, hm, hb, hk⟩ := hst
  rw [h1] at h1'; cases h1'
  have hlt := (Array.getElem?_eq_some_iff.1 h1).1
  have hg : (getObj B).run P w = .ok (.map es cl) w := by simp [getObj, Sem.run, h1]
  have hso : ∀ ob : Obj, (setObj B ob).run P w = .ok () { w with heap := w.heap.setIfInBounds B ob } := fun ob => by simp [setObj, Sem.run, h1]
  obtain ⟨i, hfi, hi⟩ := findIdx_stamp es.toList st e0 hm hb h4
  have hfa : es.findIdx? (fun e => (e.born : Int) == (st : Int)) = some i := by rw [← hfi, ← List.findIdx?_toArray]
  have hli : ∃ u0, l[i]? = some (a, u0) := by
    have hj : (es.toList.map (fun e => (e.key, e.val)))[i]? = (l.map (fun p => (kv p.1, p.2)))[i]? := by rw [hl]
    rw [List.getElem?_map, List.getElem?_map, hi] at hj
    cases hy : l[i]? with
    | none => rw [hy] at hj; simp at hj
    | some p =>
      rw [hy] at hj
      simp only [Option.map_some, Option.some.injEq, Prod.mk.injEq] at hj
      obtain ⟨p1, p2⟩ := p
      have : p1 = a := hinj _ _ (by rw [← hj.1, hk])
      subst this; exact ⟨p2, rfl⟩
  obtain ⟨u0, hli⟩ := hli
  have hfirst : ∀ j, j < i → ∀ p, l[j]? = some p → p.1 ≠ a := by
    intro j hj p hp e1
    exact nodup_ne (l.map (·.1)) h3 j i hj p.1 (by rw [List.getElem?_map, hp]; rfl) (by rw [List.getElem?_map, hli, e1]; rfl)
  have hrun : (Instr.entryStore t (.map (some B)) (.int .i64 (st : Nat)) (enc v)).run P w = .ok () { w with heap := w.heap.setIfInBounds B (.map (es.modify i fun e => { e with val := enc v }) cl) } := by
    simp only [Instr.entryStore, Sem.run_bind, hg, Result.andThen_ok, asInt, asIntOf, hfa, hso, Sem.run_pure]
  unfold Oper.wp execOp
  simp only [ho, ha.ev hq, ha.ev hs, ha.ev hu, Sem.run_bind, hrun, Result.andThen_ok, Sem.run_pure]
  refine hN _ _ ⟨⟨l.modify i fun p => (p.1, enc v), ⟨es.modify i fun e => { e with val := enc v }, cl, by simp [hlt], ?_, ?_, ?_, ?_⟩, fun b => ?_⟩, by simp, setObj_grown w B _⟩
  · rw [Array.toList_modify]
    apply List.ext_getElem?
    intro j
    have hj : (es.toList.map (fun e => (e.key, e.val)))[j]? = (l.map (fun p => (kv p.1, p.2)))[j]? := by rw [hl]
    simp only [List.getElem?_map, List.getElem?_modify] at hj ⊢
    cases hx : es.toList[j]? <;> cases hy : l[j]? <;> simp_all
    split <;> simp_all
  · have : (l.modify i fun p => (p.1, enc v)).map (·.1) = l.map (·.1) := by
      apply List.ext_getElem?
      intro j
      simp only [List.getElem?_map, List.getElem?_modify]
      cases l[j]? <;> simp
      split <;> rfl
    rw [this]; exact h3
  · have : (es.toList.modify i fun e => { e with val := enc v }).map (·.born) = es.toList.map (·.born) := by
      apply List.ext_getElem?
      intro j
      simp only [List.getElem?_map, List.getElem?_modify]
      cases es.toList[j]? <;> simp
      split <;> rfl
    rw [Array.toList_modify, this]; exact h4
  · intro e1 h1'
    rw [Array.toList_modify] at h1'
    obtain ⟨j, hj⟩ := List.getElem?_of_mem h1'
    rw [List.getElem?_modify] at hj
    cases hx : es.toList[j]? with
    | none => rw [hx] at hj; simp at hj
    | some e2 =>
      rw [hx] at hj
      have := h5 e2 (List.mem_of_getElem? hx)
      simp at hj; subst hj
      split <;> simpa using this
  · rw [getK_modify l i a u0 (enc v) b hli hfirst]
    by_cases e1 : b = a <;> simp [e1, h2]
end
theorem intK_inj : ∀ a b, intK a = intK b → a = b := fun a b h => by simpa [intK] using h
theorem strK_inj : ∀ a b, strK a = strK b → a = b := fun a b h => by simpa [strK] using h
theorem arr2K_inj : ∀ a b, arr2K a = arr2K b → a = b := fun a b h => by
  simp [arr2K] at h; exact Prod.ext h.1 h.2
end Go.Proofs.Ytciilfkjecmdiaa
