/- VersPlays. Conditions: none. -/
import Derived.Test.YtannjgcnemkddaaVersT
import Derived.Test.YtannjgcnemkddaaVersR
import Derived.Test.YtannjgcnemkddaaVersK
namespace Go.Proofs.Ytannjgcnemkddaa
open Go.RowKit Go.PlainAid

/-- What both answer of one more version. -/
theorem put_sum (v : Value) (l : List CellT) (c : CellT) (w : World) (hs : SliceOf cellE 3 w v l) (hl : l.length ≤ 900) (h0 : 0 ≤ c.1) : ∃ (k : List CellT) (E : Int),
    (∀ (w1 : World) , Below w.heap.size w w1 → Calls Try.prog 28 #[v, .agg #[.int .u64 c.1, .string c.2.1, .bool c.2.2]] w1 fun e w' => ∃ v', e = .returned (.tuple #[v', .int .i64 E]) ∧ SliceOf cellE 3 w' v' k ∧ Below w1.heap.size w1 w') ∧
    ∀ (w1 : World) , Below w.heap.size w w1 → Calls Try.prog 29 #[v, .agg #[.int .u64 c.1, .string c.2.1, .bool c.2.2]] w1 fun e w' => ∃ v', e = .returned (.tuple #[v', .int .i64 E]) ∧ SliceOf cellE 3 w' v' k ∧ Below w1.heap.size w1 w' := by
  by_cases hz : c.1 = 0
  · exact ⟨[], 5, fun w1 _ => (put_zero v c w1 hz).mono fun e w' h => ⟨_, h.1, SliceOf.nil _ _ _, h.2⟩, fun w1 _ => (rput_zero v c w1 hz).mono fun e w' h => ⟨_, h.1, SliceOf.nil _ _ _, h.2⟩⟩
  by_cases hlt : lastTs 0 l < c.1
  · exact ⟨l ++ [c], 0, fun w1 hb => put_good v l c w1 (hs.below hb) hl (by omega) hlt, fun w1 hb => rput_good v l c w1 (hs.below hb) hl (by omega) hlt⟩
  · by_cases h1 : l.length = 0
    · obtain rfl : l = [] := List.eq_nil_of_length_eq_zero h1
      exact absurd (show lastTs 0 [] < c.1 by simp [lastTs]; omega) hlt
    · rw [lastTs_ts 0 l (by omega)] at hlt
      exact ⟨[], 18, fun w1 hb => (put_late v l c w1 (hs.below hb) (by omega) (l.length - 1) (by omega) (by omega)).mono fun e w' h => ⟨_, h.1, SliceOf.nil _ _ _, h.2⟩,
        fun w1 hb => (rput_late v l c w1 (hs.below hb) (by omega) (l.length - 1) (by omega) (by omega)).mono fun e w' h => ⟨_, h.1, SliceOf.nil _ _ _, h.2⟩⟩

set_option maxRecDepth 100000 in
set_option maxHeartbeats 1600000 in
theorem plays14_law (v : Value) (l : List CellT) (c : CellT) (t : Int) (w : World) (hs : SliceOf cellE 3 w v l) (hw : ∀ c ∈ l, cellOk c) (hc : cellOk c) (_ht : (Lit.int .u64 t).wf = true) :
    Calls Try.prog 6 #[v, .agg #[.int .u64 c.1, .string c.2.1, .bool c.2.2], .int .u64 t] w fun e w' => e = .returned (.bool true) ∧ Below w.heap.size w w' := by
  have HS := Lib.hid hs; have HW := Lib.hid hw
  have hc0 := (wf_u64 hc).1
  have hcok := hc
  obtain ⟨ao, cap, rfl, hcap, hcm, _, _⟩ := hs
  obtain ⟨p, s, d⟩ := c
  replace hc0 : 0 ≤ p := hc0
  clear hw hc hcok
  by_cases h1 : 100 < l.length
  · go_enter Try.func6, Try.ntmps6
    go_wp2_with (go_at_call 27; refine (awake14 _).mono ?_; rintro e w3 ⟨rfl, hb3⟩)
    go_ret
    exact ⟨rfl, Below.trans (by (repeat (first | exact Below.refl _ _ | refine Below.alloc ?_ (by first | omega | (simp; done) | (simp; omega)) _ | refine Below.drew ?_ | refine below_draws ?_ _))) (hb3.mono (by first | exact Nat.le_refl _ | (simp; done)))⟩
  obtain ⟨k, E, hput, hrput⟩ := put_sum _ l (p, s, d) w HS.out (by omega) hc0
  have HPut := Lib.hid hput; have HRPut := Lib.hid hrput
  clear hput hrput
  go_enter Try.func6, Try.ntmps6
  go_wp2_with fail
  have hb0 : Below w.heap.size w (w.alloc (.cells #[.int .u64 p, .string s, .bool d] 38)) := by (repeat (first | exact Below.refl _ _ | refine Below.alloc ?_ (by first | omega | (simp; done) | (simp; omega)) _ | refine Below.drew ?_ | refine below_draws ?_ _))
  have HB0 := Lib.hid hb0
  have HX := Lib.hid (box_cells w p s d)
  refine (HPut.out _ hb0).mono ?_
  rintro e w1 ⟨v1, rfl, hm1, hb1⟩
  have HB1 := Lib.hid (HB0.out.trans (hb1.mono HB0.out.size)); have HM1 := Lib.hid hm1
  have c0 := cell_below hb1 HX.out.1; have c1 := cell_below hb1 HX.out.2.1; have c2 := cell_below hb1 HX.out.2.2
  clear hb0 hb1 hm1
  go_wp2_with fail
  refine (HRPut.out _ HB1.out).mono ?_
  rintro e w2 ⟨v2, rfl, hm2, hb2⟩
  have HB2 := Lib.hid (HB1.out.trans (hb2.mono HB1.out.size)); have HM2 := Lib.hid (HM1.out.below hb2); have HK2 := Lib.hid hm2
  clear hb2 hm2 c0 c1 c2
  go_wp2_with fail
  refine (at_any _ _ _ _ (HS.out.below HB2.out) HW.out).mono ?_
  rintro e w3 ⟨rfl, hb3⟩
  have HB3 := Lib.hid (HB2.out.trans (hb3.mono HB2.out.size)); have HM3 := Lib.hid (HM2.out.below hb3); have HK3 := Lib.hid (HK2.out.below hb3)
  clear hb3
  go_wp2_with fail
  refine (rat_any _ _ _ _ (HS.out.below HB3.out) HW.out).mono ?_
  rintro e w4 ⟨rfl, hb4⟩
  have HB4 := Lib.hid (HB3.out.trans (hb4.mono HB3.out.size)); have HM4 := Lib.hid (HM3.out.below hb4); have HK4 := Lib.hid (HK3.out.below hb4)
  clear hb4
  go_wp2_with fail
  refine (right_any _ _ _ (HS.out.below HB4.out) HW.out).mono ?_
  rintro e w5 ⟨rfl, hb5⟩
  have HB5 := Lib.hid (HB4.out.trans (hb5.mono HB4.out.size)); have HM5 := Lib.hid (HM4.out.below hb5); have HK5 := Lib.hid (HK4.out.below hb5)
  clear hb5
  go_wp2_with fail
  refine (rright_any _ _ _ (HS.out.below HB5.out) HW.out).mono ?_
  rintro e w6 ⟨rfl, hb6⟩
  have HB6 := Lib.hid (HB5.out.trans (hb6.mono HB5.out.size)); have HM6 := Lib.hid (HM5.out.below hb6); have HK6 := Lib.hid (HK5.out.below hb6)
  clear hb6
  go_wp2_with fail
  refine (same_eq _ _ _ _ HM6.out HK6.out).mono ?_
  rintro e w7 ⟨rfl, hb7⟩
  have HB7 := Lib.hid (HB6.out.trans (hb7.mono HB6.out.size))
  clear hb7
  go_wp2_with fail
  refine (prune_any _ _ t _ (HS.out.below HB7.out) HW.out (by omega)).mono ?_
  rintro e w8 ⟨v8, rfl, hs8, hb8⟩
  have HB8 := Lib.hid (HB7.out.trans (hb8.mono HB7.out.size)); have H8 := Lib.hid hs8
  clear hb8 hs8
  go_wp2_with fail
  refine (rprune_any _ _ t _ (HS.out.below HB8.out) HW.out (by omega)).mono ?_
  rintro e w9 ⟨v9, rfl, hs9, hb9⟩
  have HB9 := Lib.hid (HB8.out.trans (hb9.mono HB8.out.size)); have H9 := Lib.hid hs9; have H89 := Lib.hid (H8.out.below hb9)
  clear hb9 hs9
  go_wp2_with fail
  refine (same_eq _ _ _ _ H89.out H9.out).mono ?_
  rintro e w10 ⟨rfl, hb10⟩
  have HB10 := Lib.hid (HB9.out.trans (hb10.mono HB9.out.size))
  clear hb10
  go_wp2_with (go_at_call 27; refine (awake14 _).mono ?_; rintro e w11 ⟨rfl, hb11⟩)
  go_ret
  exact ⟨rfl, HB10.out.trans (hb11.mono HB10.out.size)⟩
end Go.Proofs.Ytannjgcnemkddaa
