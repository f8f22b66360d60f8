/- Package agree: the law 'never back'. Conditions: none. -/
import Derived.Test.YtannjgcnemkddaaAgreeC
namespace Go.Proofs.Ytannjgcnemkddaa
open Go.RowKit Go.PlainAid

theorem hz_ge (old : Int) (marks : List Int) (pins : List (Int × Int × Int)) : old ≤ hz old marks pins := by
  unfold hz; split <;> omega
theorem hz_mark {old : Int} {marks : List Int} {pins : List (Int × Int × Int)} (hu : ∀ n ∈ marks, U64 n) {x : Int} (hx : x ∈ marks) : hz old marks pins ≤ x ∨ hz old marks pins = old := by
  have h0 : ¬ marks.length = 0 := fun h => by rw [List.eq_nil_of_length_eq_zero h] at hx; cases hx
  rw [hz_some h0]
  have h1 := mn_le hx
  have h2 := mn_le (l := (mn marks - min (mn marks) 2) :: pins.map (·.2.1)) (y := mn marks - min (mn marks) 2) (by simp)
  have h3 := (mn_u64 hu).1
  omega
theorem hz_pin {old : Int} {marks : List Int} {pins : List (Int × Int × Int)} {p : Int × Int × Int} (hp : p ∈ pins) : hz old marks pins ≤ p.2.1 ∨ hz old marks pins = old := by
  by_cases h0 : marks.length = 0
  · exact .inr (hz_none h0)
  · rw [hz_some h0]
    have h2 := mn_le (l := (mn marks - min (mn marks) 2) :: pins.map (·.2.1)) (y := p.2.1) (by simp; right; exact ⟨p.1, p.2.2, hp⟩)
    omega

set_option maxRecDepth 100000 in
set_option maxHeartbeats 800000 in
theorem never_law (old : Int) (vm : Value) (marks : List Int) (vp : Value) (pins : List (Int × Int × Int)) (w : World) (_h0 : (Lit.int .u64 old).wf = true)
    (hm : SliceOf (intE .u64) 1 w vm marks) (hmw : ∀ n ∈ marks, (Lit.int .u64 n).wf = true) (hp : SliceOf pinE 3 w vp pins) (_hpw : ∀ p ∈ pins, pinOk p) :
    Calls Try.prog 13 #[.int .u64 old, vm, vp] w fun e w' => e = .returned (.bool true) ∧ Below w.heap.size w w' := by
  have HU := Lib.hid (u64_all hmw)
  have HM := Lib.hid hm; have HP := Lib.hid hp
  obtain ⟨ao, cap, rfl, hc1, hc2, _, hcm⟩ := hm
  obtain ⟨ao2, cap2, rfl, hc3, hc4, _, hcp⟩ := hp
  have HCM := Lib.hid hcm; have HCP := Lib.hid hcp
  clear hmw hcm hcp
  by_cases h1 : 60 < marks.length
  · go_enter Try.func13, Try.ntmps13
    go_wp2_with (go_at_call 60; refine (awake_any _).mono ?_; rintro e w3 ⟨rfl, hb3⟩)
    go_ret
    exact ⟨rfl, hb3⟩
  by_cases h2 : 60 < pins.length
  · go_enter Try.func13, Try.ntmps13
    go_wp2_with (go_at_call 60; refine (awake_any _).mono ?_; rintro e w3 ⟨rfl, hb3⟩)
    go_ret
    exact ⟨rfl, hb3⟩
  · obtain ⟨h, hh⟩ : ∃ h, h = hz old marks pins := ⟨_, rfl⟩
    have hge : old ≤ h := by rw [hh]; exact hz_ge _ _ _
    have HH := Lib.hid hh; clear hh
    go_enter Try.func13, Try.ntmps13
    go_wp2_with fail
    refine (horizon_any _ _ _ _ _ _ HM.out HU.out HP.out (by omega)).mono ?_
    rintro e w1 ⟨rfl, hb1⟩
    rw [← HH.out]
    have HB1 := Lib.hid hb1
    clear hb1
    go_wp2_with fail
    go_loopg [8] (marks.length + 1) (fun g s8 wr => ∃ i : Nat, s8 = .int .i64 i ∧ i ≤ marks.length ∧ marks.length + 1 ≤ i + g ∧ w1 = wr)
    case atStart => exact ⟨0, rfl, by omega, by omega, rfl⟩
    case round =>
      obtain ⟨i, rfl, hi, hg, rfl⟩ := hrel
      by_cases hlt : i < marks.length
      · obtain ⟨b, off, rfl, hr⟩ := HCM.out i hlt
        have hc := cell_below HB1.out (hr 0 _ rfl)
        rw [Nat.mul_one, Nat.add_zero] at hc
        have hx := hz_mark (old := old) (pins := pins) HU.out (List.getElem_mem hlt)
        rw [← HH.out] at hx
        obtain ⟨x, hxe⟩ : ∃ x, x = marks[i] := ⟨_, rfl⟩
        rw [← hxe] at hc hx
        clear hr hxe
        by_cases hxh : x < h
        · have he : (h != old) = false := by have : h = old := by omega
                                             simp [this]
          clear hx
          go_wp2
          go_roundg (gk - 1)
          case rel => exact ⟨i + 1, by go_num, by omega, by omega, rfl⟩
          case measure => omega
        · clear hx
          go_wp2
          go_roundg (gk - 1)
          case rel => exact ⟨i + 1, by go_num, by omega, by omega, rfl⟩
          case measure => omega
      · go_wp2_with fail
        go_loopg [9] (pins.length + 1) (fun g s9 wr => ∃ i : Nat, s9 = .int .i64 i ∧ i ≤ pins.length ∧ pins.length + 1 ≤ i + g ∧ w1 = wr)
        case atStart => exact ⟨0, rfl, by omega, by omega, rfl⟩
        case round =>
          obtain ⟨j, rfl, hj, hg2, rfl⟩ := hrel
          by_cases hltj : j < pins.length
          · obtain ⟨b, off, rfl, hr⟩ := HCP.out j hltj
            have hc := cell_below HB1.out (hr 1 _ rfl)
            have hx := hz_pin (old := old) (marks := marks) (List.getElem_mem hltj)
            rw [← HH.out] at hx
            obtain ⟨x, hxe⟩ : ∃ x, x = pins[j].2.1 := ⟨_, rfl⟩
            rw [← hxe] at hc hx
            clear hr hxe
            by_cases hxh : x < h
            · have he : (h != old) = false := by have : h = old := by omega
                                                 simp [this]
              clear hx
              go_wp2
              go_roundg (gk - 1)
              case rel => exact ⟨j + 1, by go_num, by omega, by omega, rfl⟩
              case measure => omega
            · clear hx
              go_wp2
              go_roundg (gk - 1)
              case rel => exact ⟨j + 1, by go_num, by omega, by omega, rfl⟩
              case measure => omega
          · go_wp2_with (go_at_call 60; refine (awake_any _).mono ?_; rintro e w3 ⟨rfl, hb3⟩)
            go_ret
            exact ⟨rfl, HB1.out.trans (hb3.mono HB1.out.size)⟩
end Go.Proofs.Ytannjgcnemkddaa
