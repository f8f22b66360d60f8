/- VersPast. Conditions: none. -/
import Derived.Test.YtannjgcnemkddaaVersM
namespace Go.Proofs.Ytannjgcnemkddaa
open Go.RowKit Go.PlainAid

theorem put_good (v : Value) (l : List CellT) (c : CellT) (w : World) (hs : SliceOf cellE 3 w v l) (hl : l.length ≤ 900) (h0 : 0 < c.1) (h : lastTs 0 l < c.1) :
    Calls Try.prog 28 #[v, .agg #[.int .u64 c.1, .string c.2.1, .bool c.2.2]] w fun e w' => ∃ v', e = .returned (.tuple #[v', .int .i64 0]) ∧ SliceOf cellE 3 w' v' (l ++ [c]) ∧ Below w.heap.size w w' := by
  by_cases h1 : l.length = 0
  · exact put_new v l c w hs hl h0 h1
  · rw [lastTs_ts 0 l (by omega)] at h
    exact put_old v l c w hs hl h0 (l.length - 1) (by omega) h
theorem put_bad (v : Value) (l : List CellT) (c : CellT) (w : World) (hs : SliceOf cellE 3 w v l) (h0 : 0 ≤ c.1) (h : c.1 = 0 ∨ c.1 ≤ lastTs 0 l) :
    Calls Try.prog 28 #[v, .agg #[.int .u64 c.1, .string c.2.1, .bool c.2.2]] w fun e w' => ∃ E : Int, e = .returned (.tuple #[.slice none 0 0, .int .i64 E]) ∧ (E == 0) = false ∧ Below w.heap.size w w' := by
  by_cases hz : c.1 = 0
  · exact (put_zero v c w hz).mono fun e w' h => ⟨5, h.1, rfl, h.2⟩
  · have h2 : c.1 ≤ lastTs 0 l := by omega
    by_cases h1 : l.length = 0
    · obtain rfl : l = [] := List.eq_nil_of_length_eq_zero h1
      simp [lastTs] at h2; omega
    · rw [lastTs_ts 0 l (by omega)] at h2
      exact (put_late v l c w hs (by omega) (l.length - 1) (by omega) h2).mono fun e w' h => ⟨18, h.1, rfl, h.2⟩

set_option maxRecDepth 100000 in
set_option maxHeartbeats 1600000 in
theorem past_law (v : Value) (l : List CellT) (c : CellT) (t : Int) (w : World) (hs : SliceOf cellE 3 w v l) (hw : ∀ c ∈ l, cellOk c) (hc : cellOk c) (_ht : (Lit.int .u64 t).wf = true) :
    Calls Try.prog 7 #[v, .agg #[.int .u64 c.1, .string c.2.1, .bool c.2.2], .int .u64 t] w fun e w' => e = .returned (.bool true) ∧ Below w.heap.size w w' := by
  have HS := Lib.hid (hs.below (w' := w.alloc (.cells #[.int .u64 c.1, .string c.2.1, .bool c.2.2] 38)) (by (repeat (first | exact Below.refl _ _ | refine Below.alloc ?_ (by first | omega | (simp; done) | (simp; omega)) _ | refine Below.drew ?_ | refine below_draws ?_ _)))); have HW := Lib.hid hw
  have hc0 := (wf_u64 hc).1
  have HC : Hid (cellOk c) := Lib.hid hc
  have HCW : Hid (∀ x ∈ l ++ [c], cellOk x) := Lib.hid (fun x hx => by rcases List.mem_append.1 hx with h | h; exact hw x h; simp at h; subst h; exact hc)
  obtain ⟨ao, cap, rfl, hcap, hcm, _, _⟩ := hs
  obtain ⟨p, s, d⟩ := c
  replace hc0 : 0 ≤ p := hc0
  clear hw hc
  by_cases h1 : 100 < l.length
  · go_enter Try.func7, Try.ntmps7
    go_wp2_with (go_at_call 27; refine (awake14 _).mono ?_; rintro e w3 ⟨rfl, hb3⟩)
    go_ret
    exact ⟨rfl, Below.trans (by (repeat (first | exact Below.refl _ _ | refine Below.alloc ?_ (by first | omega | (simp; done) | (simp; omega)) _ | refine Below.drew ?_ | refine below_draws ?_ _))) (hb3.mono (by simp))⟩
  have hb0 : Below w.heap.size w (w.alloc (.cells #[.int .u64 p, .string s, .bool d] 38)) := by (repeat (first | exact Below.refl _ _ | refine Below.alloc ?_ (by first | omega | (simp; done) | (simp; omega)) _ | refine Below.drew ?_ | refine below_draws ?_ _))
  have HB0 := Lib.hid hb0
  have HX := Lib.hid (box_cells w p s d)
  clear hb0
  cases hr : rises 0 l with
  | false =>
    have HR := Lib.hid hr; clear hr
    go_enter Try.func7, Try.ntmps7
    go_wp2_with fail
    refine (right_any _ _ _ HS.out HW.out).mono ?_
    rintro e w1 ⟨rfl, hb1⟩
    rw [HR.out]
    have HB1 := Lib.hid (HB0.out.trans (hb1.mono HB0.out.size)); clear hb1
    go_wp2_with (go_at_call 27; refine (awake14 _).mono ?_; rintro e w3 ⟨rfl, hb3⟩)
    go_ret
    exact ⟨rfl, HB1.out.trans (hb3.mono HB1.out.size)⟩
  | true =>
    have HR := Lib.hid hr; clear hr
    go_enter Try.func7, Try.ntmps7
    go_wp2_with fail
    refine (right_any _ _ _ HS.out HW.out).mono ?_
    rintro e w1 ⟨rfl, hb1⟩
    rw [HR.out]
    have HB1 := Lib.hid (HB0.out.trans (hb1.mono HB0.out.size)); have HS1 := Lib.hid (HS.out.below hb1)
    have c0 := cell_below hb1 HX.out.1; have c1 := cell_below hb1 HX.out.2.1; have c2 := cell_below hb1 HX.out.2.2
    have HX1 := Lib.hid (And.intro c0 (And.intro c1 c2))
    clear hb1 c0 c1 c2
    by_cases hbad : p = 0 ∨ p ≤ lastTs 0 l
    · have HBad := Lib.hid hbad; clear hbad
      obtain ⟨c0, c1, c2⟩ := HX1.out
      go_wp2_with fail
      refine (put_bad _ l (p, s, d) _ HS1.out hc0 HBad.out).mono ?_
      rintro e w2 ⟨E, rfl, hE, hb2⟩
      have HB2 := Lib.hid (HB1.out.trans (hb2.mono HB1.out.size)); clear hb2 c0 c1 c2
      go_wp2_with (go_at_call 27; refine (awake14 _).mono ?_; rintro e w3 ⟨rfl, hb3⟩)
      go_ret
      exact ⟨rfl, HB2.out.trans (hb3.mono HB2.out.size)⟩
    · have hp0 : 0 < p := by omega
      have hlt : lastTs 0 l < p := by omega
      have HLT := Lib.hid hlt
      have hrm : rises 0 (l ++ [(p, s, d)]) = true := by rw [rises_snoc, HR.out, decide_eq_true hlt]; rfl
      have ha1 : p ≤ t → atS (l ++ [(p, s, d)]) t = if d = true then (ByteArray.empty, false) else (s, true) := fun h => at_later l (p, s, d) h
      have ha2 : t < p → atS (l ++ [(p, s, d)]) t = atS l t := fun h => at_before l (p, s, d) h
      obtain ⟨m, hm⟩ : ∃ m, m = l ++ [(p, s, d)] := ⟨_, rfl⟩
      have HCM : Hid (∀ x ∈ m, cellOk x) := Lib.hid (by rw [hm]; exact HCW.out)
      rw [← hm] at hrm ha1 ha2
      have HRM := Lib.hid hrm; have HA1 := Lib.hid ha1; have HA2 := Lib.hid ha2; have HMM := Lib.hid hm
      clear hbad hlt hrm ha1 ha2 hm
      obtain ⟨c0, c1, c2⟩ := HX1.out
      go_wp2_with fail
      refine (put_good _ l (p, s, d) _ HS1.out (by omega) hp0 HLT.out).mono ?_
      rintro e w2 ⟨v2, rfl, hs2, hb2⟩
      rw [← HMM.out] at hs2
      clear c0 c1 c2
      have HB2 := Lib.hid (HB1.out.trans (hb2.mono HB1.out.size)); have HS2 := Lib.hid (HS1.out.below hb2); have HM2 := Lib.hid hs2
      have HX2 := Lib.hid (And.intro (cell_below hb2 HX1.out.1) (And.intro (cell_below hb2 HX1.out.2.1) (cell_below hb2 HX1.out.2.2)))
      obtain ⟨ao2, cap2, rfl, _, _, _, _⟩ := hs2
      clear hb2
      go_wp2_with fail
      refine (at_any _ _ _ _ HM2.out HCM.out).mono ?_
      rintro e w3 ⟨rfl, hb3⟩
      have HB3 := Lib.hid (HB2.out.trans (hb3.mono HB2.out.size)); have HS3 := Lib.hid (HS2.out.below hb3); have HM3 := Lib.hid (HM2.out.below hb3)
      have HX3 := Lib.hid (And.intro (cell_below hb3 HX2.out.1) (And.intro (cell_below hb3 HX2.out.2.1) (cell_below hb3 HX2.out.2.2)))
      clear hb3
      by_cases hpt : p ≤ t
      · cases d with
        | true =>
          have HA := Lib.hid (show atS m t = (ByteArray.empty, false) from HA1.out hpt)
          rw [HA.out]
          obtain ⟨c0, c1, c2⟩ := HX3.out
          go_wp2_with fail
          clear c0 c1 c2
          refine (right_any _ _ _ HM3.out HCM.out).mono ?_
          rintro e w5 ⟨rfl, hb5⟩
          rw [HRM.out]
          have HB5 := Lib.hid (HB3.out.trans (hb5.mono HB3.out.size))
          have d0 := cell_below hb5 HX3.out.1; have d1 := cell_below hb5 HX3.out.2.1; have d2 := cell_below hb5 HX3.out.2.2
          clear hb5
          go_wp2_with (go_at_call 27; refine (awake14 _).mono ?_; rintro e w6 ⟨rfl, hb6⟩)
          go_ret
          exact ⟨rfl, HB5.out.trans (hb6.mono HB5.out.size)⟩
        | false =>
          have HA := Lib.hid (show atS m t = (s, true) from HA1.out hpt)
          rw [HA.out]
          obtain ⟨c0, c1, c2⟩ := HX3.out
          go_wp2_with fail
          clear c0 c1 c2
          refine (right_any _ _ _ HM3.out HCM.out).mono ?_
          rintro e w5 ⟨rfl, hb5⟩
          rw [HRM.out]
          have HB5 := Lib.hid (HB3.out.trans (hb5.mono HB3.out.size))
          have d0 := cell_below hb5 HX3.out.1; have d1 := cell_below hb5 HX3.out.2.1; have d2 := cell_below hb5 HX3.out.2.2
          clear hb5
          go_wp2_with (go_at_call 27; refine (awake14 _).mono ?_; rintro e w6 ⟨rfl, hb6⟩)
          go_ret
          exact ⟨rfl, HB5.out.trans (hb6.mono HB5.out.size)⟩
      · have HA := Lib.hid (HA2.out (by omega))
        rw [HA.out]
        obtain ⟨c0, c1, c2⟩ := HX3.out
        go_wp2_with fail
        clear c0 c1 c2
        refine (at_any _ _ _ _ HS3.out HW.out).mono ?_
        rintro e w4 ⟨rfl, hb4⟩
        have HB4 := Lib.hid (HB3.out.trans (hb4.mono HB3.out.size)); have HM4 := Lib.hid (HM3.out.below hb4)
        have HX4 := Lib.hid (And.intro (cell_below hb4 HX3.out.1) (And.intro (cell_below hb4 HX3.out.2.1) (cell_below hb4 HX3.out.2.2)))
        clear hb4
        go_wp2_with fail
        refine (right_any _ _ _ HM4.out HCM.out).mono ?_
        rintro e w5 ⟨rfl, hb5⟩
        rw [HRM.out]
        have HB5 := Lib.hid (HB4.out.trans (hb5.mono HB4.out.size))
        have d0 := cell_below hb5 HX4.out.1; have d1 := cell_below hb5 HX4.out.2.1; have d2 := cell_below hb5 HX4.out.2.2
        clear hb5
        go_wp2_with (go_at_call 27; refine (awake14 _).mono ?_; rintro e w6 ⟨rfl, hb6⟩)
        go_ret
        exact ⟨rfl, HB5.out.trans (hb6.mono HB5.out.size)⟩
end Go.Proofs.Ytannjgcnemkddaa
