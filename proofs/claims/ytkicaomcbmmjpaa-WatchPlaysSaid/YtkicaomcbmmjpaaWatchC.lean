/- Package watch: one that was made. Conditions: none. -/
import Derived.Test.YtkicaomcbmmjpaaWatchB
namespace Go.Proofs.Ytkicaomcbmmjpaa
open Go.RowKit Go.PlainAid

/-- A watch that was made: its counts, its ticks. -/
def Made (w : World) (b : Nat) (f : Nat → Int) (k : Int) : Prop :=
  w.cell? ⟨b, 0, none⟩ = some (.bool true) ∧ (∀ i, i < 4 → w.cell? ⟨b, 1 + i, none⟩ = some (.int .i64 (f i)) ∧ w.frozen? ⟨b, 1 + i, none⟩ = false) ∧
    w.cell? ⟨b, 5, none⟩ = some (.int .i64 k) ∧ w.frozen? ⟨b, 5, none⟩ = false

theorem Made.congr {w : World} {b : Nat} {f g : Nat → Int} {k : Int} (h : Made w b f k) (hg : ∀ i, i < 4 → f i = g i) : Made w b g k :=
  ⟨h.1, fun i hi => by rw [← hg i hi]; exact h.2.1 i hi, h.2.2⟩
theorem Made.set {w : World} {b : Nat} {f : Nat → Int} {k : Int} (h : Made w b f k) {i : Nat} (hi : i < 4) (y : Int) : Made (w.setCell ⟨b, 1 + i, none⟩ (.int .i64 y)) b (fun j => if j = i then y else f j) k := by
  obtain ⟨h0, h1, h2, h3⟩ := h
  refine ⟨?_, fun j hj => ?_, ?_, ?_⟩
  · rw [World.cell?_setCell_other _ _ _ _ (by first | (simp; done) | (simp; omega))]; exact h0
  · refine ⟨?_, ?_⟩
    · by_cases hji : j = i
      · subst hji
        rw [World.cell?_setCell_same _ _ _ (h1 j hi).1]; simp
      · rw [World.cell?_setCell_other _ _ _ _ (by first | (simp; done) | (simp; omega))]; show _ = some (Value.int .i64 (if j = i then y else f j)); rw [if_neg hji]; exact (h1 j hj).1
    · rw [World.frozen?_setCell]; exact (h1 j hj).2
  · rw [World.cell?_setCell_other _ _ _ _ (by first | (simp; done) | (simp; omega))]; exact h2
  · rw [World.frozen?_setCell]; exact h3
theorem Made.setTicks {w : World} {b : Nat} {f : Nat → Int} {k : Int} (h : Made w b f k) (y : Int) : Made (w.setCell ⟨b, 5, none⟩ (.int .i64 y)) b f y := by
  obtain ⟨h0, h1, h2, h3⟩ := h
  refine ⟨?_, fun j hj => ⟨?_, ?_⟩, ?_, ?_⟩
  · rw [World.cell?_setCell_other _ _ _ _ (by first | (simp; done) | (simp; omega))]; exact h0
  · rw [World.cell?_setCell_other _ _ _ _ (by first | (simp; done) | (simp; omega))]; exact (h1 j hj).1
  · rw [World.frozen?_setCell]; exact (h1 j hj).2
  · exact World.cell?_setCell_same _ _ _ h2
  · rw [World.frozen?_setCell]; exact h3
def bump (x : Int) : Int := if x < 1073741824 then x + 1 else x

set_option maxRecDepth 100000 in
set_option maxHeartbeats 800000 in
theorem has_made (b : Nat) (id : Int) (w : World) (hc : w.cell? ⟨b, 0, none⟩ = some (.bool true)) :
    Calls Try.prog 48 #[.pointer (some ⟨b, 0, none⟩), .int .i64 id] w fun e w' => e = .returned (.bool (decide (0 ≤ id) && decide (id < 4))) ∧ w = w' := by
  by_cases h0 : 0 ≤ id
  · by_cases h4 : id < 4
    · rw [decide_eq_true h0, decide_eq_true h4]
      go_enter Try.func48, Try.ntmps48
      go_wp2
      go_ret
      exact ⟨by first | rfl | simp, rfl⟩
    · rw [decide_eq_true h0, decide_eq_false h4]
      go_enter Try.func48, Try.ntmps48
      go_wp2
      go_ret
      exact ⟨by first | rfl | simp, rfl⟩
  · rw [decide_eq_false h0]
    go_enter Try.func48, Try.ntmps48
    go_wp2
    go_ret
    exact ⟨by first | rfl | simp, rfl⟩

set_option maxRecDepth 100000 in
set_option maxHeartbeats 800000 in
theorem count_made (b : Nat) (f : Nat → Int) (k : Int) (i : Nat) (w : World) (h : Made w b f k) (hi : i < 4) :
    Calls Try.prog 29 #[.pointer (some ⟨b, 0, none⟩), .int .i64 i] w fun e w' => e = .returned (.int .i64 (f i)) ∧ w = w' := by
  have H := Lib.hid h
  have hb0 : (decide ((0 : Int) ≤ (i : Int)) && decide ((i : Int) < 4)) = true := by simp; omega
  have HB := Lib.hid hb0
  clear h hb0
  go_enter Try.func29, Try.ntmps29
  go_wp2_with fail
  refine (has_made _ _ _ H.out.1).mono ?_
  rintro e w1 ⟨rfl, rfl⟩
  rw [HB.out]
  go_wp2_with fail
  refine (load64 _ _ _ _ (H.out.2.1 i hi).1).mono ?_
  rintro e w1 ⟨rfl, rfl⟩
  go_wp2
  go_ret
  exact ⟨rfl, rfl⟩

set_option maxRecDepth 100000 in
set_option maxHeartbeats 800000 in
theorem tick_made (b : Nat) (f : Nat → Int) (k : Int) (w : World) (h : Made w b f k) (hk : 0 ≤ k) (hk2 : k < 1073741824) (hf : ∀ i, i < 4 → 0 ≤ f i) :
    Calls Try.prog 22 #[.pointer (some ⟨b, 0, none⟩)] w fun e w' => e = .returned (.int .i64 (k + 1)) ∧ Made w' b (fun i => bump (f i)) (k + 1) ∧ ∀ B, B ≤ b → Below B w w' := by
  have H := Lib.hid h
  clear h
  go_enter Try.func22, Try.ntmps22
  go_wp2_with fail
  refine (has_made _ _ _ H.out.1).mono ?_
  rintro e w1 ⟨rfl, rfl⟩
  go_wp2_with fail
  go_loopg [7] 5 (fun g s7 wr => ∃ i : Nat, s7 = .int .i64 i ∧ i ≤ 4 ∧ 5 ≤ i + g ∧ Made wr b (fun j => if j < i then bump (f j) else f j) k ∧ ∀ B, B ≤ b → Below B w wr)
  case atStart => exact ⟨0, rfl, by omega, by omega, H.out.congr (fun j _ => by simp), fun B _ => Below.refl _ _⟩
  case round =>
    obtain ⟨i, rfl, hi, hg, hm, hbel⟩ := hrel
    have HM := Lib.hid hm; have HB := Lib.hid hbel
    clear hm hbel
    by_cases hlt : i < 4
    · have hc0 := (HM.out.2.1 i hlt).1
      simp only [if_neg (Nat.lt_irrefl i)] at hc0
      have HC0 := Lib.hid hc0
      have hfi := hf i hlt
      clear hc0 hf
      go_wp2_with fail
      refine (load64 _ _ (f i) _ HC0.out).mono ?_
      rintro e w1 ⟨rfl, rfl⟩
      by_cases hx : f i < 1073741824
      · go_wp2_with fail
        refine (add64 _ _ (f i) 1 _ HC0.out (HM.out.2.1 i hlt).2 (by omega) (by omega)).mono ?_
        rintro e w2 ⟨rfl, hw2⟩
        have hm2 := (HM.out.set hlt (f i + 1)).congr (g := fun j => if j < i + 1 then bump (f j) else f j) (fun j hj => by
          by_cases hji : j = i
          · subst hji; simp [bump, hx]
          · simp only [if_neg hji]
            by_cases h5 : j < i
            · rw [if_pos h5, if_pos (by omega)]
            · rw [if_neg h5, if_neg (by omega)])
        rw [← hw2] at hm2
        have hb2 : ∀ B, B ≤ b → Below B w w2 := fun B hB => by rw [hw2]; exact (HB.out B hB).setCell hB _
        have HM2 := Lib.hid hm2; have HB2 := Lib.hid hb2
        clear hm2 hb2 hw2
        go_wp2
        go_roundg (gk - 1)
        case rel => exact ⟨i + 1, by go_num, by omega, by omega, HM2.out, HB2.out⟩
        case measure => omega
      · have HM2 := Lib.hid (HM.out.congr (g := fun j => if j < i + 1 then bump (f j) else f j) (fun j hj => by
          by_cases hji : j = i
          · subst hji; simp [bump, hx]
          · by_cases h5 : j < i
            · rw [if_pos h5, if_pos (by omega)]
            · rw [if_neg h5, if_neg (by omega)]))
        go_wp2
        go_roundg (gk - 1)
        case rel => exact ⟨i + 1, by go_num, by omega, by omega, HM2.out, HB.out⟩
        case measure => omega
    · have HM4 := Lib.hid (HM.out.congr (g := fun j => bump (f j)) (fun j hj => by rw [if_pos (by omega)]))
      go_wp2_with fail
      refine (add64 _ _ k 1 _ HM4.out.2.2.1 HM4.out.2.2.2 (by omega) (by omega)).mono ?_
      rintro e w2 ⟨rfl, hw2⟩
      have HM5 := Lib.hid (HM4.out.setTicks (k + 1)); have HW2 := Lib.hid hw2
      clear hw2
      go_wp2
      go_ret
      exact ⟨rfl, by rw [HW2.out]; exact HM5.out, fun B hB => by rw [HW2.out]; exact (HB.out B hB).setCell hB _⟩

set_option maxRecDepth 100000 in
set_option maxHeartbeats 800000 in
theorem heard_made (b : Nat) (f : Nat → Int) (k : Int) (i : Nat) (w : World) (h : Made w b f k) (hi : i < 4) :
    Calls Try.prog 24 #[.pointer (some ⟨b, 0, none⟩), .int .i64 i] w fun e w' => e = .returned (.bool true) ∧ Made w' b (fun j => if j = i then 0 else f j) k ∧ ∀ B, B ≤ b → Below B w w' := by
  have H := Lib.hid h
  have hb0 : (decide ((0 : Int) ≤ (i : Int)) && decide ((i : Int) < 4)) = true := by simp; omega
  have HB := Lib.hid hb0
  clear h hb0
  go_enter Try.func24, Try.ntmps24
  go_wp2_with fail
  refine (has_made _ _ _ H.out.1).mono ?_
  rintro e w1 ⟨rfl, rfl⟩
  rw [HB.out]
  go_wp2_with fail
  refine (store64 _ _ _ 0 _ (H.out.2.1 i hi).1 (H.out.2.1 i hi).2).mono ?_
  rintro e w2 ⟨rfl, hw2⟩
  have HW := Lib.hid hw2; clear hw2
  go_wp2
  go_ret
  exact ⟨rfl, by rw [HW.out]; exact H.out.set hi 0, fun B hB => by rw [HW.out]; exact (Below.refl _ _).setCell hB _⟩
end Go.Proofs.Ytkicaomcbmmjpaa
