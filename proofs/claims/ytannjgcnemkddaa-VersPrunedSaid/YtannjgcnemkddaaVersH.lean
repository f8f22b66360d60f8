/- VersPruned. Conditions: none. -/
import Derived.Test.YtannjgcnemkddaaVersM
namespace Go.Proofs.Ytannjgcnemkddaa
open Go.RowKit Go.PlainAid

set_option maxRecDepth 100000 in
set_option maxHeartbeats 800000 in
theorem pruned_law (v : Value) (l : List CellT) (h t : Int) (w : World) (hs : SliceOf cellE 3 w v l) (hw : ∀ c ∈ l, cellOk c) (_hh : (Lit.int .u64 h).wf = true) (_ht : (Lit.int .u64 t).wf = true) :
    Calls Try.prog 8 #[v, .int .u64 h, .int .u64 t] w fun e w' => e = .returned (.bool true) ∧ Below w.heap.size w w' := by
  have HS := Lib.hid hs; have HW := Lib.hid hw
  obtain ⟨ao, cap, rfl, hcap, hcm, _, _⟩ := hs
  clear hw
  by_cases h1 : 100 < l.length
  · go_enter Try.func8, Try.ntmps8
    go_wp2_with (go_at_call 27; refine (awake14 _).mono ?_; rintro e w3 ⟨rfl, hb3⟩)
    go_ret
    exact ⟨rfl, hb3⟩
  cases hr : rises 0 l with
  | false =>
    have HR := Lib.hid hr; clear hr
    go_enter Try.func8, Try.ntmps8
    go_wp2_with fail
    refine (right_any _ _ _ HS.out HW.out).mono ?_
    rintro e w1 ⟨rfl, hb1⟩
    rw [HR.out]
    have HB1 := Lib.hid hb1; clear hb1
    go_wp2_with (go_at_call 27; refine (awake14 _).mono ?_; rintro e w3 ⟨rfl, hb3⟩)
    go_ret
    exact ⟨rfl, HB1.out.trans (hb3.mono HB1.out.size)⟩
  | true =>
    have HR := Lib.hid hr; clear hr
    go_enter Try.func8, Try.ntmps8
    go_wp2_with fail
    refine (right_any _ _ _ HS.out HW.out).mono ?_
    rintro e w1 ⟨rfl, hb1⟩
    rw [HR.out]
    have HB1 := Lib.hid hb1; have HS1 := Lib.hid (HS.out.below hb1); clear hb1
    go_wp2_with fail
    refine (prune_any _ _ h _ HS1.out HW.out (by omega)).mono ?_
    rintro e w2 ⟨v2, rfl, hs2, hb2⟩
    have HB2 := Lib.hid (HB1.out.trans (hb2.mono HB1.out.size)); have HS2 := Lib.hid (HS1.out.below hb2)
    have hP := prune_law HR.out h (min h t) (max h t) (by omega) (by omega)
    obtain ⟨m, hm⟩ : ∃ m, m = l.drop (pruneN l h) := ⟨_, rfl⟩
    rw [← hm] at hP hs2
    have hml : m.length ≤ l.length := by rw [hm]; simp
    have HMW : Hid (∀ c ∈ m, cellOk c) := Lib.hid (by rw [hm]; exact fun c hc => HW.out c (List.mem_of_mem_drop hc))
    obtain ⟨p1, p2, p3, p4⟩ := hP
    have HM := Lib.hid hs2; have P1 := Lib.hid p1; have P2 := Lib.hid p2; have P3 := Lib.hid p3; have P4 := Lib.hid p4
    obtain ⟨ao2, cap2, rfl, _, _, _, _⟩ := hs2
    clear hb2 hm p1 p2 p3 p4
    go_wp2_with fail
    refine (right_any _ _ _ HM.out HMW.out).mono ?_
    rintro e w3 ⟨rfl, hb3⟩
    rw [P1.out]
    have HB3 := Lib.hid (HB2.out.trans (hb3.mono HB2.out.size)); have HS3 := Lib.hid (HS2.out.below hb3); have HM3 := Lib.hid (HM.out.below hb3); clear hb3
    go_wp2_with fail
    refine (prune_any _ _ h _ HM3.out HMW.out (by omega)).mono ?_
    rintro e w4 ⟨v4, rfl, hs4, hb4⟩
    rw [P2.out, List.drop_zero] at hs4
    have H4 := Lib.hid hs4
    have HB4 := Lib.hid (HB3.out.trans (hb4.mono HB3.out.size)); have HS4 := Lib.hid (HS3.out.below hb4); have HM4 := Lib.hid (HM3.out.below hb4); clear hb4 hs4
    go_wp2_with fail
    refine (same_eq _ _ _ _ H4.out HM4.out).mono ?_
    rintro e w5 ⟨rfl, hb5⟩
    have HB5 := Lib.hid (HB4.out.trans (hb5.mono HB4.out.size)); have HS5 := Lib.hid (HS4.out.below hb5); have HM5 := Lib.hid (HM4.out.below hb5); clear hb5
    rcases Int.lt_trichotomy t h with hth | hth | hth
    · have hmn : min h t = t := by omega
      have hmx : max h t = h := by omega
      rw [hmn] at P3; rw [hmx] at P4
      clear hmn hmx
      have hth3 : (h < t) = False := eq_false (by omega)
      go_wp2_with fail
      refine (prune_any _ _ t _ HM5.out HMW.out (by omega)).mono ?_
      rintro e w6 ⟨v6, rfl, hs6, hb6⟩
      rw [P3.out, List.drop_zero] at hs6
      have H6 := Lib.hid hs6
      have HB6 := Lib.hid (HB5.out.trans (hb6.mono HB5.out.size)); have HS6 := Lib.hid (HS5.out.below hb6); have HM6 := Lib.hid (HM5.out.below hb6); clear hb6 hs6
      go_wp2_with fail
      refine (same_eq _ _ _ _ H6.out HM6.out).mono ?_
      rintro e w7 ⟨rfl, hb7⟩
      have HB7 := Lib.hid (HB6.out.trans (hb7.mono HB6.out.size)); have HS7 := Lib.hid (HS6.out.below hb7); have HM7 := Lib.hid (HM6.out.below hb7); clear hb7
      go_wp2_with fail
      refine (at_any _ _ h _ HS7.out HW.out).mono ?_
      rintro e w8 ⟨rfl, hb8⟩
      have HB8 := Lib.hid (HB7.out.trans (hb8.mono HB7.out.size)); have HM8 := Lib.hid (HM7.out.below hb8); clear hb8
      go_wp2_with fail
      refine (at_any _ _ h _ HM8.out HMW.out).mono ?_
      rintro e w9 ⟨rfl, hb9⟩
      have HB9 := Lib.hid (HB8.out.trans (hb9.mono HB8.out.size)); clear hb9
      rw [← P4.out]
      go_wp2_with (go_at_call 27; refine (awake14 _).mono ?_; rintro e w10 ⟨rfl, hb10⟩)
      go_ret
      exact ⟨rfl, HB9.out.trans (hb10.mono HB9.out.size)⟩
    · subst hth
      have hmn : min t t = t := by omega
      have hmx : max t t = t := by omega
      rw [hmn] at P3; rw [hmx] at P4
      clear hmn hmx
      have hth3 : (t < t) = False := eq_false (by omega)
      go_wp2_with fail
      refine (prune_any _ _ t _ HM5.out HMW.out (by omega)).mono ?_
      rintro e w6 ⟨v6, rfl, hs6, hb6⟩
      rw [P3.out, List.drop_zero] at hs6
      have H6 := Lib.hid hs6
      have HB6 := Lib.hid (HB5.out.trans (hb6.mono HB5.out.size)); have HS6 := Lib.hid (HS5.out.below hb6); have HM6 := Lib.hid (HM5.out.below hb6); clear hb6 hs6
      go_wp2_with fail
      refine (same_eq _ _ _ _ H6.out HM6.out).mono ?_
      rintro e w7 ⟨rfl, hb7⟩
      have HB7 := Lib.hid (HB6.out.trans (hb7.mono HB6.out.size)); have HS7 := Lib.hid (HS6.out.below hb7); have HM7 := Lib.hid (HM6.out.below hb7); clear hb7
      go_wp2_with fail
      refine (at_any _ _ t _ HS7.out HW.out).mono ?_
      rintro e w8 ⟨rfl, hb8⟩
      have HB8 := Lib.hid (HB7.out.trans (hb8.mono HB7.out.size)); have HM8 := Lib.hid (HM7.out.below hb8); clear hb8
      go_wp2_with fail
      refine (at_any _ _ t _ HM8.out HMW.out).mono ?_
      rintro e w9 ⟨rfl, hb9⟩
      have HB9 := Lib.hid (HB8.out.trans (hb9.mono HB8.out.size)); clear hb9
      rw [← P4.out]
      go_wp2_with (go_at_call 27; refine (awake14 _).mono ?_; rintro e w10 ⟨rfl, hb10⟩)
      go_ret
      exact ⟨rfl, HB9.out.trans (hb10.mono HB9.out.size)⟩
    · have hmn : min h t = h := by omega
      have hmx : max h t = t := by omega
      rw [hmn] at P3; rw [hmx] at P4
      clear hmn hmx
      have hth3 : (t < h) = False := eq_false (by omega)
      go_wp2_with fail
      refine (prune_any _ _ h _ HM5.out HMW.out (by omega)).mono ?_
      rintro e w6 ⟨v6, rfl, hs6, hb6⟩
      rw [P3.out, List.drop_zero] at hs6
      have H6 := Lib.hid hs6
      have HB6 := Lib.hid (HB5.out.trans (hb6.mono HB5.out.size)); have HS6 := Lib.hid (HS5.out.below hb6); have HM6 := Lib.hid (HM5.out.below hb6); clear hb6 hs6
      go_wp2_with fail
      refine (same_eq _ _ _ _ H6.out HM6.out).mono ?_
      rintro e w7 ⟨rfl, hb7⟩
      have HB7 := Lib.hid (HB6.out.trans (hb7.mono HB6.out.size)); have HS7 := Lib.hid (HS6.out.below hb7); have HM7 := Lib.hid (HM6.out.below hb7); clear hb7
      go_wp2_with fail
      refine (at_any _ _ t _ HS7.out HW.out).mono ?_
      rintro e w8 ⟨rfl, hb8⟩
      have HB8 := Lib.hid (HB7.out.trans (hb8.mono HB7.out.size)); have HM8 := Lib.hid (HM7.out.below hb8); clear hb8
      go_wp2_with fail
      refine (at_any _ _ t _ HM8.out HMW.out).mono ?_
      rintro e w9 ⟨rfl, hb9⟩
      have HB9 := Lib.hid (HB8.out.trans (hb9.mono HB8.out.size)); clear hb9
      rw [← P4.out]
      go_wp2_with (go_at_call 27; refine (awake14 _).mono ?_; rintro e w10 ⟨rfl, hb10⟩)
      go_ret
      exact ⟨rfl, HB9.out.trans (hb10.mono HB9.out.size)⟩
end Go.Proofs.Ytannjgcnemkddaa
