/- Package catenaref02: what a Reader has left. Conditions: texts of at most 2^63-1 bytes. -/
import Derived.Test.YteioaaegooebpaaWireO
namespace Go.Proofs.Yteioaaegooebpaa
open Go.RowKit Go.PlainAid

set_option maxRecDepth 100000 in
set_option maxHeartbeats 1600000 in
theorem xrEnd_ok (b : Nat) (s : ByteArray) (a : Nat) (w : World) (h : XRd w b s a 0) (hs : s.size ≤ 9223372036854775807) (ha : a ≤ s.size) :
    Calls Try.prog 75 #[.pointer (some ⟨b, 0, none⟩)] w fun e w' => e = .returned (.int .i64 (if a < s.size then 4 else 0)) ∧ Below w.heap.size w w' := by
  have c0 := h.txt; have c1 := h.pos; have c2 := h.err
  clear h
  by_cases hlt : a < s.size
  · rw [if_pos hlt]
    have hq : (a : Int) < (s.size : Int) := by omega
    go_enter Try.func75, Try.ntmps75
    go_wp2_with fail
    go_quiet (fail)
    go_wp2
    go_ret
    exact ⟨rfl, below_draws (Below.refl _ _) _⟩
  · rw [if_neg hlt]
    have hq : ¬ (a : Int) < (s.size : Int) := by omega
    go_enter Try.func75, Try.ntmps75
    go_wp2_with fail
    go_quiet (fail)
    go_wp2
    go_ret
    exact ⟨rfl, below_draws (Below.refl _ _) _⟩
set_option maxRecDepth 100000 in
set_option maxHeartbeats 1600000 in
theorem xrEnd_err (b : Nat) (s : ByteArray) (a x : Int) (w : World) (h : XRd w b s a x) (hx : x ≠ 0) :
    Calls Try.prog 75 #[.pointer (some ⟨b, 0, none⟩)] w fun e w' => e = .returned (.int .i64 x) ∧ Below w.heap.size w w' := by
  have c2 := h.err
  have hq : (x == 0) = false := by simp [hx]
  clear h
  go_enter Try.func75, Try.ntmps75
  go_wp2_with fail
  go_quiet (fail)
  go_wp2
  go_ret
  exact ⟨rfl, below_draws (Below.refl _ _) _⟩
set_option maxRecDepth 100000 in
set_option maxHeartbeats 1600000 in
theorem xrFlag_any (b : Nat) (s : ByteArray) (a : Nat) (x : Int) (w : World) (h : XRd w b s a x) (hs : s.size ≤ 9223372036854775807) (ha : a ≤ s.size) :
    Calls Try.prog 120 #[.pointer (some ⟨b, 0, none⟩)] w fun e w' => e = .returned (.bool (flagR s a x).1) ∧ XRE w' b s (flagR s a x).2.1 (flagR s a x).2.2 ∧ But (Own b) w w' := by
  have H := Lib.hid h
  have c0 := h.txt; have c1 := h.pos; have c2 := h.err; have z1 := h.fr1; have z2 := h.fr2
  have hbt := get_bt s
  clear h
  by_cases hx : x = 0
  · subst hx
    by_cases hu : a = s.size
    · have hq : flagR s a 0 = (false, (a : Int), 2) := by unfold flagR; rw [if_neg (by simp), if_pos hu]
      rw [hq]
      have hne : ((a : Int) == (s.size : Int)) = true := by simp [hu]
      have HF := Lib.hid (fun n => ((H.out.below (below_draws (Below.refl _ _) n)).setErr 2))
      have HB := Lib.hid (fun n => ((But.refl (Own b) w).draws n).setCell (p := ⟨b, 2, none⟩) (fun _ => rfl) (.int .i64 2))
      clear hq
      go_enter Try.func120, Try.ntmps120
      go_wp2_with fail
      go_quiet (fail)
      obtain ⟨k1, hk1⟩ : ∃ k, k = nq := ⟨_, rfl⟩
      rw [← hk1]
      clear hk1
      have e2 : (w.drewN k1).cell? ⟨b, 2, none⟩ = some (.int .i64 0) := c2
      have e3 : (w.drewN k1).frozen? ⟨b, 2, none⟩ = false := z2
      have HFk := Lib.hid (HF.out k1)
      have HBk := Lib.hid (HB.out k1)
      go_wp2_with fail
      go_quiet (fail)
      go_wp2
      go_ret
      exact ⟨rfl, XRE.bad (by simp) (HFk.out.below (below_draws (Below.refl _ _) _)), HBk.out.draws _⟩
    · have hne : ((a : Int) == (s.size : Int)) = false := by simp; omega
      have hlt : a < s.size := by omega
      by_cases hf : 1 < bt s a
      · have hq : flagR s a 0 = (false, (a : Int), 4) := by unfold flagR; rw [if_neg (by simp), if_neg hu, if_pos hf]
        rw [hq]
        have HF := Lib.hid (fun n => ((H.out.below (below_draws (Below.refl _ _) n)).setErr 4))
        have HB := Lib.hid (fun n => ((But.refl (Own b) w).draws n).setCell (p := ⟨b, 2, none⟩) (fun _ => rfl) (.int .i64 4))
        clear hq
        go_enter Try.func120, Try.ntmps120
        go_wp2_with fail
        go_quiet (fail)
        go_wp2_with fail
        go_quiet (fail)
        go_wp2
        go_ret
        exact ⟨rfl, XRE.bad (by simp) (HF.out _), HB.out _⟩
      · have hq : flagR s a 0 = (bt s a == 1, (a : Int) + 1, 0) := by unfold flagR; rw [if_neg (by simp), if_neg hu, if_neg hf]
        rw [hq]
        have hadd : IntKind.i64.wrap ((a : Int) + 1) = (a : Int) + 1 := IntWalk.i64_in _ ⟨by omega, by omega⟩
        have HF := Lib.hid (fun n => ((H.out.below (below_draws (Below.refl _ _) n)).setPos ((a : Int) + 1)))
        have HB := Lib.hid (fun n => ((But.refl (Own b) w).draws n).setCell (p := ⟨b, 1, none⟩) (fun _ => rfl) (.int .i64 ((a : Int) + 1)))
        clear hq
        go_enter Try.func120, Try.ntmps120
        go_wp2_with fail
        go_quiet (fail)
        go_wp2_with fail
        go_quiet (fail)
        go_wp2_with fail
        go_quiet (fail)
        go_wp2
        go_ret
        exact ⟨rfl, XRE.good (HF.out _), HB.out _⟩
  · have hq : flagR s a x = (false, (a : Int), x) := by unfold flagR; rw [if_pos hx]
    rw [hq]
    have hn1 : (x == 0) = false := by simp [hx]
    have hn2 : (x != 0) = true := by simp [hx]
    have HX := Lib.hid hx
    clear hq hx
    go_enter Try.func120, Try.ntmps120
    go_wp2_with fail
    go_quiet (fail)
    go_wp2_with fail
    go_quiet (fail)
    go_wp2
    go_ret
    exact ⟨rfl, XRE.bad HX.out (H.out.below (below_draws (Below.refl _ _) _)), (But.refl _ _).draws _⟩
end Go.Proofs.Yteioaaegooebpaa
