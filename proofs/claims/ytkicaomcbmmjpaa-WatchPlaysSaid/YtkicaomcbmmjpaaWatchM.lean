/- Both ticks, and what they leave. Conditions: none. -/
import Derived.Test.YtkicaomcbmmjpaaWatchL
namespace Go.Proofs.Ytkicaomcbmmjpaa
open Go.RowKit Go.PlainAid

set_option maxRecDepth 100000 in
set_option maxHeartbeats 800000 in
theorem tick_but (b : Nat) (f : Nat → Int) (k : Int) (w : World) (h : Made w b f k) (hk : 0 ≤ k) (hk2 : k < 1073741824) (hf : ∀ i, i < 4 → 0 ≤ f i) :
    Calls Try.prog 22 #[.pointer (some ⟨b, 0, none⟩)] w fun e w' => e = .returned (.int .i64 (k + 1)) ∧ Made w' b (fun i => bump (f i)) (k + 1) ∧ But (fun x => x = b) w w' := by
  have H := Lib.hid h
  clear h
  go_enter Try.func22, Try.ntmps22
  go_wp2_with fail
  refine (has_made _ _ _ H.out.1).mono ?_
  rintro e w1 ⟨rfl, rfl⟩
  go_wp2_with fail
  go_loopg [7] 5 (fun g s7 wr => ∃ i : Nat, s7 = .int .i64 i ∧ i ≤ 4 ∧ 5 ≤ i + g ∧ Made wr b (fun j => if j < i then bump (f j) else f j) k ∧ But (fun x => x = b) w wr)
  case atStart => exact ⟨0, rfl, by omega, by omega, H.out.congr (fun j _ => by simp), But.refl _ _⟩
  case round =>
    obtain ⟨i, rfl, hi, hg, hm, hbel⟩ := hrel
    have HM := Lib.hid hm; have HB := Lib.hid hbel
    clear hm hbel
    by_cases hlt : i < 4
    · have hc0 := (HM.out.2.1 i hlt).1
      simp only [if_neg (Nat.lt_irrefl i)] at hc0
      have HC0 := Lib.hid hc0
      have hfi := hf i hlt
      clear hc0 hf
      go_wp2_with fail
      refine (load64 _ _ (f i) _ HC0.out).mono ?_
      rintro e w1 ⟨rfl, rfl⟩
      by_cases hx : f i < 1073741824
      · go_wp2_with fail
        refine (add64 _ _ (f i) 1 _ HC0.out (HM.out.2.1 i hlt).2 (by omega) (by omega)).mono ?_
        rintro e w2 ⟨rfl, hw2⟩
        have hm2 := (HM.out.set hlt (f i + 1)).congr (g := fun j => if j < i + 1 then bump (f j) else f j) (fun j hj => by
          by_cases hji : j = i
          · subst hji; simp [bump, hx]
          · simp only [if_neg hji]
            by_cases h5 : j < i
            · rw [if_pos h5, if_pos (by omega)]
            · rw [if_neg h5, if_neg (by omega)])
        rw [← hw2] at hm2
        have hb2 : But (fun x => x = b) w w2 := by rw [hw2]; exact HB.out.store _ _
        have HM2 := Lib.hid hm2; have HB2 := Lib.hid hb2
        clear hm2 hb2 hw2
        go_wp2
        go_roundg (gk - 1)
        case rel => exact ⟨i + 1, by go_num, by omega, by omega, HM2.out, HB2.out⟩
        case measure => omega
      · have HM2 := Lib.hid (HM.out.congr (g := fun j => if j < i + 1 then bump (f j) else f j) (fun j hj => by
          by_cases hji : j = i
          · subst hji; simp [bump, hx]
          · by_cases h5 : j < i
            · rw [if_pos h5, if_pos (by omega)]
            · rw [if_neg h5, if_neg (by omega)]))
        go_wp2
        go_roundg (gk - 1)
        case rel => exact ⟨i + 1, by go_num, by omega, by omega, HM2.out, HB.out⟩
        case measure => omega
    · have HM4 := Lib.hid (HM.out.congr (g := fun j => bump (f j)) (fun j hj => by rw [if_pos (by omega)]))
      go_wp2_with fail
      refine (add64 _ _ k 1 _ HM4.out.2.2.1 HM4.out.2.2.2 (by omega) (by omega)).mono ?_
      rintro e w2 ⟨rfl, hw2⟩
      have HM5 := Lib.hid (HM4.out.setTicks (k + 1)); have HW2 := Lib.hid hw2
      clear hw2
      go_wp2
      go_ret
      exact ⟨rfl, by rw [HW2.out]; exact HM5.out, by rw [HW2.out]; exact HB.out.store _ _⟩

set_option maxRecDepth 100000 in
set_option maxHeartbeats 800000 in
theorem rtick_but (b : Nat) (f : Nat → Int) (k : Int) (w : World) (h : RMade w b f k) (hk : 0 ≤ k) (hk2 : k < 1073741824) (hf : ∀ i, i < 4 → 0 ≤ f i ∧ f i < 1073741824) :
    Calls Try.prog 23 #[.pointer (some ⟨b, 0, none⟩)] w fun e w' => e = .returned (.int .i64 (k + 1)) ∧ RMade w' b (fun i => f i + 1) (k + 1) ∧ But (fun x => x = b) w w' := by
  have H := Lib.hid h; have HF := Lib.hid hf
  clear h hf
  go_enter Try.func23, Try.ntmps23
  go_wp2
  go_loopg [3] 5 (fun g s3 wr => ∃ i : Nat, s3 = .int .i64 i ∧ i ≤ 4 ∧ 5 ≤ i + g ∧ RMade wr b (fun j => if j < i then f j + 1 else f j) k ∧ But (fun x => x = b) w wr)
  case atStart => exact ⟨0, rfl, by omega, by omega, H.out.congr (fun j _ => by simp), But.refl _ _⟩
  case round =>
    obtain ⟨i, rfl, hi, hg, hm, hbel⟩ := hrel
    have HM := Lib.hid hm; have HB := Lib.hid hbel
    clear hm hbel
    by_cases hlt : i < 4
    · have hc0 := (HM.out.1 i hlt).1
      simp only [if_neg (Nat.lt_irrefl i)] at hc0
      have k0 : wr.drew.cell? ⟨b, i, none⟩ = some (.int .i64 (f i)) := hc0
      have z0 : wr.drew.frozen? ⟨b, i, none⟩ = false := (HM.out.1 i hlt).2
      have hfi := HF.out i hlt
      have hw1 : IntKind.i64.wrap (f i + 1) = f i + 1 := IntWalk.i64_in _ ⟨by omega, by omega⟩
      have hmin : (1073741824 < f i + 1) = False := eq_false (by omega)
      clear hc0 hfi
      go_wp2_with fail
      go_region
      have hm1 : RMade wr.drew b (fun j => if j < i then f j + 1 else f j) k := HM.out
      have HM2 := Lib.hid ((hm1.set hlt (f i + 1)).congr (g := fun j => if j < i + 1 then f j + 1 else f j) (fun j hj => by
        by_cases hji : j = i
        · subst hji; simp
        · simp only [if_neg hji]
          by_cases h5 : j < i
          · rw [if_pos h5, if_pos (by omega)]
          · rw [if_neg h5, if_neg (by omega)]))
      have HB2 : Hid (But (fun x => x = b) w (wr.drew.setCell ⟨b, i, none⟩ (.int .i64 (f i + 1)))) := Lib.hid ((HB.out.drew).store _ _)
      clear hm1
      go_wp2
      go_roundg (gk - 1)
      case rel => exact ⟨i + 1, by go_num, by omega, by omega, HM2.out, HB2.out⟩
      case measure => omega
    · have HM4 := Lib.hid (HM.out.congr (g := fun j => f j + 1) (fun j hj => by rw [if_pos (by omega)]))
      have k0 := HM4.out.2.1
      have z0 := HM4.out.2.2
      have hw1 : IntKind.i64.wrap (k + 1) = k + 1 := IntWalk.i64_in _ ⟨by omega, by omega⟩
      have hmin : (1073741824 < k + 1) = False := eq_false (by omega)
      have HM5 := Lib.hid (HM4.out.setTicks (k + 1))
      have HB5 : Hid (But (fun x => x = b) w (wr.setCell ⟨b, 4, none⟩ (.int .i64 (k + 1)))) := Lib.hid (HB.out.store _ _)
      go_wp2
      go_ret
      exact ⟨rfl, HM5.out, HB5.out⟩
end Go.Proofs.Ytkicaomcbmmjpaa
