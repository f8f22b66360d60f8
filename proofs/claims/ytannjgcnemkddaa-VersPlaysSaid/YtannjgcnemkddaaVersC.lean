/- Package vers: what place answers (a search by halves, left by a goto). Conditions: none. -/
import Derived.Test.YtannjgcnemkddaaVersB
namespace Go.Proofs.Ytannjgcnemkddaa
open Go.RowKit Go.PlainAid

set_option maxRecDepth 100000 in
set_option maxHeartbeats 800000 in
theorem place_rising (v : Value) (l : List CellT) (t : Int) (w : World) (hs : SliceOf cellE 3 w v l) (hw : ∀ c ∈ l, cellOk c) (hr : rises 0 l = true) :
    Calls Try.prog 67 #[v, .int .u64 t] w fun e w' => e = .returned (.int .i64 (lastI l t)) ∧ Below w.heap.size w w' := by
  have HS := Lib.hid hs; have HW := Lib.hid hw; have HR := Lib.hid hr
  obtain ⟨ao, cap, rfl, hcap, hcm, _, hcell⟩ := hs
  have HC := Lib.hid hcell; clear hcell hr
  go_enter Try.func67, Try.ntmps67
  go_wp2
  refine wp_scope_jumps 0 (fun a' w' => ∃ (low high : Nat) (u7 u16 u17 u18 u19 u20 u21 u22 u23 u24 u25 u26 u27 u28 u29 u30 u31 u32 u33 u34 : Value), a' = { tmps := #[.slice ao l.length cap, .int .u64 t, undef, undef, .int .i64 0, .int .i64 low, .int .i64 high, u7, .slice ao l.length cap, .bool true, .bool false, undef, undef, undef, .slice ao l.length cap, .int .i64 l.length, u16, u17, u18, u19, u20, u21, u22, u23, u24, u25, u26, u27, u28, u29, u30, u31, u32, u33, u34, undef, undef], defers := [] } ∧ low ≤ high ∧ high ≤ l.length ∧ (∀ j, j < low → ts l j ≤ t) ∧ (∀ j, high ≤ j → j < l.length → t < ts l j) ∧ Below w.heap.size w w')
    (fun a' _ => (intOf (a'.tmps.getD 6 undef) - intOf (a'.tmps.getD 5 undef)).toNat) rfl ?_ ?_
  · go_wp2_with fail
    refine (right_any _ _ _ HS.out HW.out).mono ?_
    rintro e w1 ⟨rfl, hb1⟩
    rw [HR.out]
    have HB := Lib.hid hb1; clear hb1
    go_wp2_with fail
    go_step3
    have H1 : Hid (∀ j, j < 0 → ts l j ≤ t) := fun j hj => absurd hj (by omega)
    have H2 : Hid (∀ j, l.length ≤ j → j < l.length → t < ts l j) := fun j h1 h2 => absurd h1 (by omega)
    by_cases hlt : 0 < l.length
    · have hmid : l.length / 2 < l.length := by omega
      obtain ⟨b, off, rfl, hrr⟩ := HC.out _ hmid
      obtain ⟨mid, hm⟩ : ∃ mid, mid = l.length / 2 := ⟨_, rfl⟩
      have hc := cell_below HB.out (hrr 0 _ rfl)
      rw [Nat.add_zero] at hc
      have hx := ts_get hmid
      obtain ⟨x, hxe⟩ : ∃ x, x = (l[l.length / 2]'hmid).1 := ⟨_, rfl⟩
      rw [← hxe] at hc hx
      rw [← hm] at hx
      have HX := Lib.hid hx; have HM := Lib.hid hm
      have hml : 0 ≤ mid := by omega
      have hmh : mid < l.length := by omega
      have hmL : mid < l.length := by omega
      clear hrr hx hxe hm hmid
      have hup : ∀ i j, i < j → j < l.length → ts l i < ts l j := fun i j hij hj => (rises_lt 0 l HR.out i j hij hj).2
      have HUP := Lib.hid hup; clear hup
      by_cases hle : x ≤ t
      · go_wp2
        go_step3
        have e1 : (l.length : Int) / 2 + 1 = ((mid + 1 : Nat) : Int) := by have := HM.out; omega
        rw [e1]
        refine ⟨rfl, ⟨mid + 1, l.length, _, _, _, _, _, _, _, _, _, _, _, _, _, _, _, _, _, _, _, _, rfl, ?_⟩⟩
        have := HX.out
        refine ⟨by omega, by omega, fun j hj => ?_, H2.out, HB.out⟩
        by_cases hjm : j = mid
        · subst hjm; omega
        · have := HUP.out j mid (by omega) hmL; omega
      · go_wp2
        go_step3
        have e1 : (l.length : Int) / 2 = ((mid : Nat) : Int) := by have := HM.out; omega
        rw [e1]
        refine ⟨rfl, ⟨0, mid, _, _, _, _, _, _, _, _, _, _, _, _, _, _, _, _, _, _, _, _, rfl, ?_⟩⟩
        have := HX.out
        refine ⟨by omega, by omega, H1.out, fun j hj hjl => ?_, HB.out⟩
        by_cases hjm : j = mid
        · subst hjm; omega
        · have := HUP.out mid j (by omega) hjl; omega
    · have HF := Lib.hid (show lastI l t = (0 : Int) - 1 from down_at 0 l.length (by omega) H1.out (fun j hj => H2.out j (by omega)))
      go_wp2
      simp only [Exit.jump]
      go_ret
      exact ⟨ret_int (by have := HF.out; omega), HB.out⟩
  · rintro a' w' ⟨low, high, u7, u16, u17, u18, u19, u20, u21, u22, u23, u24, u25, u26, u27, u28, u29, u30, u31, u32, u33, u34, rfl, hlh, hhigh, h1, h2, hbel⟩
    have HB := Lib.hid hbel; have H1 := Lib.hid h1; have H2 := Lib.hid h2
    clear hbel h1 h2
    by_cases hlt : low < high
    · have hmid : low + (high - low) / 2 < l.length := by omega
      obtain ⟨b, off, rfl, hrr⟩ := HC.out _ hmid
      obtain ⟨mid, hm⟩ : ∃ mid, mid = low + (high - low) / 2 := ⟨_, rfl⟩
      have hc := cell_below HB.out (hrr 0 _ rfl)
      rw [Nat.add_zero] at hc
      have hx := ts_get hmid
      obtain ⟨x, hxe⟩ : ∃ x, x = (l[low + (high - low) / 2]'hmid).1 := ⟨_, rfl⟩
      rw [← hxe] at hc hx
      rw [← hm] at hx
      have HX := Lib.hid hx; have HM := Lib.hid hm
      have hml : low ≤ mid := by omega
      have hmh : mid < high := by omega
      have hmL : mid < l.length := by omega
      clear hrr hx hxe hm hmid
      have hup : ∀ i j, i < j → j < l.length → ts l i < ts l j := fun i j hij hj => (rises_lt 0 l HR.out i j hij hj).2
      have HUP := Lib.hid hup; clear hup
      by_cases hle : x ≤ t
      · go_wp2
        go_step3
        have e1 : (low : Int) + ((high : Int) - (low : Int)) / 2 + 1 = ((mid + 1 : Nat) : Int) := by have := HM.out; omega
        rw [e1]
        refine ⟨rfl, ⟨mid + 1, high, _, _, _, _, _, _, _, _, _, _, _, _, _, _, _, _, _, _, _, _, rfl, ?_⟩, ?_⟩
        rotate_left
        · (simp [intOf] <;> omega)
        have := HX.out
        refine ⟨by omega, by omega, fun j hj => ?_, H2.out, HB.out⟩
        by_cases hjm : j = mid
        · subst hjm; omega
        · have := HUP.out j mid (by omega) hmL; omega
      · go_wp2
        go_step3
        have e1 : (low : Int) + ((high : Int) - (low : Int)) / 2 = ((mid : Nat) : Int) := by have := HM.out; omega
        rw [e1]
        refine ⟨rfl, ⟨low, mid, _, _, _, _, _, _, _, _, _, _, _, _, _, _, _, _, _, _, _, _, rfl, ?_⟩, ?_⟩
        rotate_left
        · (simp [intOf] <;> omega)
        have := HX.out
        refine ⟨by omega, by omega, H1.out, fun j hj hjl => ?_, HB.out⟩
        by_cases hjm : j = mid
        · subst hjm; omega
        · have := HUP.out mid j (by omega) hjl; omega
    · have HF := Lib.hid (show lastI l t = (low : Int) - 1 from down_at low l.length (by omega) H1.out (fun j hj => H2.out j (by omega)))
      go_wp2
      simp only [Exit.jump]
      go_ret
      exact ⟨ret_int (by have := HF.out; omega), HB.out⟩

theorem place_any (v : Value) (l : List CellT) (t : Int) (w : World) (hs : SliceOf cellE 3 w v l) (hw : ∀ c ∈ l, cellOk c) :
    Calls Try.prog 67 #[v, .int .u64 t] w fun e w' => e = .returned (.int .i64 (lastI l t)) ∧ Below w.heap.size w w' := by
  cases hr : rises 0 l with
  | true => exact place_rising v l t w hs hw hr
  | false =>
    have HS := Lib.hid hs; have HW := Lib.hid hw; have HR := Lib.hid hr
    clear hs hw hr
    go_enter Try.func67, Try.ntmps67
    go_wp2
    go_step3
    go_wp2_with fail
    refine (right_any _ _ _ HS.out HW.out).mono ?_
    rintro e w1 ⟨rfl, hb1⟩
    rw [HR.out]
    have HB := Lib.hid hb1; have HS1 := Lib.hid (HS.out.below hb1); clear hb1
    go_wp2_with fail
    refine (lastOf_any _ _ _ _ HS1.out).mono ?_
    rintro e w2 ⟨rfl, rfl⟩
    go_wp2
    rw [Exit.noGoto_ret]
    go_ret
    exact ⟨rfl, HB.out⟩
end Go.Proofs.Ytannjgcnemkddaa
