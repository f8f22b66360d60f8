/- Package conf and the document's own: who stands ahead and behind. Conditions: none. -/
import Derived.Test.YtghjhkojehlfmaaConfB
namespace Go.Proofs.Ytghjhkojehlfmaa
open Go.RowKit Go.PlainAid

theorem fnd_i64 (P : MemT → Bool) (l : List MemT) (h : l.length ≤ 9223372036854775807) : -1 ≤ fnd P l ∧ fnd P l < 9223372036854775807 := by
  rcases fnd_bd P l with h1 | h1 <;> omega
theorem SliceOf.len_le {α : Type} {enc : α → List Value} {sz : Nat} {w : World} {v : Value} {l : List α} (h : SliceOf enc sz w v l) : l.length ≤ 9223372036854775807 := by
  obtain ⟨_, _, _, h1, h2, _⟩ := h; omega
theorem two_boxed (w : World) (c : ConfT) (m : MemT) : Below w.heap.size w ((w.alloc (.cells #[.int .i64 c.ep, c.mv, .int .u64 c.fl] 43)).alloc (.cells #[.int .i64 m.1, .int .i64 m.2] 45)) ∧
    HA w.heap.size c m ((w.alloc (.cells #[.int .i64 c.ep, c.mv, .int .u64 c.fl] 43)).alloc (.cells #[.int .i64 m.1, .int .i64 m.2] 45)) := by
  refine ⟨((Below.refl _ _).alloc (Nat.le_refl _) _).alloc (by simp) _, ?_⟩
  unfold HA
  refine ⟨by simp, by simp, by simp, by simp, by simp⟩
set_option maxRecDepth 100000 in
set_option maxHeartbeats 1600000 in
theorem ahead_any (c : ConfT) (m : MemT) (w : World) (h : ConfOk w c) :
    Calls Try.prog 33 #[confV c, memV m] w fun e w' => e = .returned (.int .i64 (aheadI c.ms m)) ∧ Below w.heap.size w w' := by
  obtain ⟨W, hW⟩ : ∃ W, W = ((w.alloc (.cells #[.int .i64 c.ep, c.mv, .int .u64 c.fl] 43)).alloc (.cells #[.int .i64 m.1, .int .i64 m.2] 45)) := ⟨_, rfl⟩
  have h2 := two_boxed w c m
  rw [← hW] at h2
  have HB := Lib.hid h2.1
  have HH : Hid (HA w.heap.size c m W.drew) := Lib.hid h2.2
  have H := Lib.hid h
  have hlen := h.ms.len_le
  have hfb := fnd_i64 (· == m) c.ms hlen
  have hsub : IntKind.i64.wrap (fnd (· == m) c.ms - 1) = fnd (· == m) c.ms - 1 := IntWalk.i64_in _ ⟨by omega, by omega⟩
  have hbd : Below w.heap.size w W.drew := HB.out.drew
  have HW := Lib.hid hW
  clear h h2 hW
  unfold confV memV
  go_enter Try.func33, Try.ntmps33
  go_wp2_with fail
  rw [← HW.out]
  go_region_held3 (fun w' => w'.cell? ⟨w.heap.size, 0, none⟩ = some (.int .i64 c.ep) ∧ w'.cell? ⟨w.heap.size, 1, none⟩ = some c.mv ∧ w'.cell? ⟨w.heap.size, 2, none⟩ = some (.int .u64 c.fl) ∧ w'.cell? ⟨w.heap.size + 1, 0, none⟩ = some (.int .i64 m.1) ∧ w'.cell? ⟨w.heap.size + 1, 1, none⟩ = some (.int .i64 m.2)) (first | exact HH.out | exact HA.step (by assumption) hb7 | exact HA.step (by assumption) hb8 | assumption) (first
    | (go_at_call 31; refine (place_any c m _ (H.out.below (by assumption))).mono ?_; rintro e w7 ⟨rfl, hb7⟩; have hb77 : Below w.heap.size w w7 := Below.trans (by assumption) (hb7.mono (Below.size (by assumption))))
    | (go_at_call 96; refine (idAt_any c (fnd (· == m) c.ms - 1) _ (H.out.below (by assumption)) (by omega) (by omega)).mono ?_; rintro e w8 ⟨rfl, hb8⟩; have hb88 : Below w.heap.size w w8 := Below.trans (by assumption) (hb8.mono (Below.size (by assumption)))))
  go_wp2
  go_ret
  exact ⟨rfl, by assumption⟩
set_option maxRecDepth 100000 in
set_option maxHeartbeats 1600000 in
theorem behind_any (c : ConfT) (m : MemT) (w : World) (h : ConfOk w c) :
    Calls Try.prog 35 #[confV c, memV m] w fun e w' => e = .returned (.int .i64 (behindI c.ms m)) ∧ Below w.heap.size w w' := by
  obtain ⟨W, hW⟩ : ∃ W, W = ((w.alloc (.cells #[.int .i64 c.ep, c.mv, .int .u64 c.fl] 43)).alloc (.cells #[.int .i64 m.1, .int .i64 m.2] 45)) := ⟨_, rfl⟩
  have h2 := two_boxed w c m
  rw [← hW] at h2
  have HB := Lib.hid h2.1
  have HA2 := Lib.hid h2.2
  have H := Lib.hid h
  have hlen := h.ms.len_le
  have hfb := fnd_i64 (· == m) c.ms hlen
  have hadd : IntKind.i64.wrap (fnd (· == m) c.ms + 1) = fnd (· == m) c.ms + 1 := IntWalk.i64_in _ ⟨by omega, by omega⟩
  have HW := Lib.hid hW
  clear h h2 hW
  by_cases hn : fnd (· == m) c.ms < 0
  · have HZ : Hid (behindI c.ms m = -1) := Lib.hid (by unfold behindI; rw [if_pos (by omega)])
    unfold confV memV
    go_enter Try.func35, Try.ntmps35
    go_wp2_with fail
    rw [← HW.out]
    refine (place_any c m _ (H.out.below HB.out)).mono ?_
    rintro e w1 ⟨rfl, hb⟩
    have HB1 := Lib.hid (HB.out.trans (hb.mono HB.out.size)); clear hb
    go_wp2
    go_ret
    exact ⟨ret_int HZ.out.symm, HB1.out⟩
  · have HZ : Hid (behindI c.ms m = idAtI c.ms (fnd (· == m) c.ms + 1)) := Lib.hid (by unfold behindI; rw [if_neg (by omega)])
    unfold confV memV
    go_enter Try.func35, Try.ntmps35
    go_wp2_with fail
    rw [← HW.out]
    refine (place_any c m _ (H.out.below HB.out)).mono ?_
    rintro e w1 ⟨rfl, hb⟩
    have HB1 := Lib.hid (HB.out.trans (hb.mono HB.out.size))
    obtain ⟨d0, d1, d2, d3, d4⟩ := HA.step HA2.out hb
    clear hb
    go_wp2_with fail
    refine (idAt_any c (fnd (· == m) c.ms + 1) _ (H.out.below HB1.out) (by omega) (by omega)).mono ?_
    rintro e w2 ⟨rfl, hb⟩
    have HB2 := Lib.hid (HB1.out.trans (hb.mono HB1.out.size)); clear hb
    go_wp2
    go_ret
    exact ⟨ret_int HZ.out.symm, HB2.out⟩
set_option maxRecDepth 100000 in
set_option maxHeartbeats 1600000 in
theorem rbehind_any (c : ConfT) (m : MemT) (w : World) (h : ConfOk w c) :
    Calls Try.prog 36 #[confV c, memV m] w fun e w' => e = .returned (.int .i64 (behindI c.ms m)) ∧ Below w.heap.size w w' := by
  obtain ⟨W, hW⟩ : ∃ W, W = ((w.alloc (.cells #[.int .i64 c.ep, c.mv, .int .u64 c.fl] 43)).alloc (.cells #[.int .i64 m.1, .int .i64 m.2] 45)) := ⟨_, rfl⟩
  have h2 := two_boxed w c m
  rw [← hW] at h2
  have HB := Lib.hid h2.1
  have HA2 := Lib.hid h2.2
  have H := Lib.hid h
  have hlen := h.ms.len_le
  have hfb := fnd_i64 (· == m) c.ms hlen
  have hadd : IntKind.i64.wrap (fnd (· == m) c.ms + 1) = fnd (· == m) c.ms + 1 := IntWalk.i64_in _ ⟨by omega, by omega⟩
  have HW := Lib.hid hW
  clear h h2 hW
  by_cases hn : fnd (· == m) c.ms < 0
  · have HZ : Hid (behindI c.ms m = -1) := Lib.hid (by unfold behindI; rw [if_pos (by omega)])
    unfold confV memV
    go_enter Try.func36, Try.ntmps36
    go_wp2_with fail
    rw [← HW.out]
    refine (rplace_any c m _ (H.out.below HB.out)).mono ?_
    rintro e w1 ⟨rfl, hb⟩
    have HB1 := Lib.hid (HB.out.trans (hb.mono HB.out.size)); clear hb
    go_wp2
    go_ret
    exact ⟨ret_int HZ.out.symm, HB1.out⟩
  · have HZ : Hid (behindI c.ms m = idAtI c.ms (fnd (· == m) c.ms + 1)) := Lib.hid (by unfold behindI; rw [if_neg (by omega)])
    unfold confV memV
    go_enter Try.func36, Try.ntmps36
    go_wp2_with fail
    rw [← HW.out]
    refine (rplace_any c m _ (H.out.below HB.out)).mono ?_
    rintro e w1 ⟨rfl, hb⟩
    have HB1 := Lib.hid (HB.out.trans (hb.mono HB.out.size))
    obtain ⟨d0, d1, d2, d3, d4⟩ := HA.step HA2.out hb
    clear hb
    go_wp2_with fail
    refine (rat_any c (fnd (· == m) c.ms + 1) _ (H.out.below HB1.out) (by omega) (by omega)).mono ?_
    rintro e w2 ⟨rfl, hb⟩
    have HB2 := Lib.hid (HB1.out.trans (hb.mono HB1.out.size)); clear hb
    go_wp2
    go_ret
    exact ⟨ret_int HZ.out.symm, HB2.out⟩
set_option maxRecDepth 100000 in
set_option maxHeartbeats 1600000 in
theorem rahead_any (c : ConfT) (m : MemT) (w : World) (h : ConfOk w c) :
    Calls Try.prog 34 #[confV c, memV m] w fun e w' => e = .returned (.int .i64 (aheadI c.ms m)) ∧ Below w.heap.size w w' := by
  obtain ⟨W, hW⟩ : ∃ W, W = ((w.alloc (.cells #[.int .i64 c.ep, c.mv, .int .u64 c.fl] 43)).alloc (.cells #[.int .i64 m.1, .int .i64 m.2] 45)) := ⟨_, rfl⟩
  have h2 := two_boxed w c m
  rw [← hW] at h2
  have HB := Lib.hid h2.1
  have HA2 := Lib.hid h2.2
  have H := Lib.hid h
  have hlen := h.ms.len_le
  have hfb := fnd_i64 (· == m) c.ms hlen
  have hadd : IntKind.i64.wrap (fnd (· == m) c.ms - 1) = fnd (· == m) c.ms - 1 := IntWalk.i64_in _ ⟨by omega, by omega⟩
  have HW := Lib.hid hW
  clear h h2 hW
  by_cases hn : fnd (· == m) c.ms < 0
  · have HZ : Hid (aheadI c.ms m = -1) := Lib.hid (by unfold aheadI; exact idAtI_no (Or.inl (by omega)))
    unfold confV memV
    go_enter Try.func34, Try.ntmps34
    go_wp2_with fail
    rw [← HW.out]
    refine (rplace_any c m _ (H.out.below HB.out)).mono ?_
    rintro e w1 ⟨rfl, hb⟩
    have HB1 := Lib.hid (HB.out.trans (hb.mono HB.out.size)); clear hb
    go_wp2
    go_ret
    exact ⟨ret_int HZ.out.symm, HB1.out⟩
  · have HZ : Hid (aheadI c.ms m = idAtI c.ms (fnd (· == m) c.ms - 1)) := Lib.hid (rfl)
    unfold confV memV
    go_enter Try.func34, Try.ntmps34
    go_wp2_with fail
    rw [← HW.out]
    refine (rplace_any c m _ (H.out.below HB.out)).mono ?_
    rintro e w1 ⟨rfl, hb⟩
    have HB1 := Lib.hid (HB.out.trans (hb.mono HB.out.size))
    obtain ⟨d0, d1, d2, d3, d4⟩ := HA.step HA2.out hb
    clear hb
    go_wp2_with fail
    refine (rat_any c (fnd (· == m) c.ms - 1) _ (H.out.below HB1.out) (by omega) (by omega)).mono ?_
    rintro e w2 ⟨rfl, hb⟩
    have HB2 := Lib.hid (HB1.out.trans (hb.mono HB1.out.size)); clear hb
    go_wp2
    go_ret
    exact ⟨ret_int HZ.out.symm, HB2.out⟩
end Go.Proofs.Ytghjhkojehlfmaa
