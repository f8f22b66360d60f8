/- Package watch and the document's own, any number, side by side. Conditions: none. -/
import Derived.Test.YtkicaomcbmmjpaaWatchK
import Derived.Test.YtkicaomcbmmjpaaBut
import Derived.Test.YtkicaomcbmmjpaaSameInts
namespace Go.Proofs.Ytkicaomcbmmjpaa
open Go.RowKit Go.PlainAid

def inr (c : Int) : Bool := decide (0 ≤ c) && decide (c < 4)
def cntOf (f : Nat → Int) (c : Int) : Int := if inr c = true then f c.toNat else -1
def setOf (f : Nat → Int) (c : Int) : Nat → Int := fun j => if (j : Int) = c then 0 else f j
theorem inr_nat {c : Int} (h : inr c = true) : ∃ i : Nat, i < 4 ∧ c = (i : Int) := by
  unfold inr at h; simp at h; exact ⟨c.toNat, by omega, by omega⟩
theorem inr_off {c : Int} (h : ¬ inr c = true) : (decide (0 ≤ c) && decide (c < 4)) = false := by
  cases hx : inr c with
  | true => exact absurd hx h
  | false => exact hx
theorem Made.but {S : Nat → Prop} {w w' : World} {b : Nat} {f : Nat → Int} {k : Int} (h : Made w b f k) (hb : But S w w') (hs : ¬ S b) : Made w' b f k := by
  have hl : b < w.heap.size := World.block_lt_of_cell? w _ h.1
  exact ⟨hb.cell hs h.1, fun i hi => ⟨hb.cell hs (h.2.1 i hi).1, by rw [hb.frozen hl hs]; exact (h.2.1 i hi).2⟩, hb.cell hs h.2.2.1, by rw [hb.frozen hl hs]; exact h.2.2.2⟩
theorem RMade.but {S : Nat → Prop} {w w' : World} {b : Nat} {f : Nat → Int} {k : Int} (h : RMade w b f k) (hb : But S w w') (hs : ¬ S b) : RMade w' b f k := by
  have hl : b < w.heap.size := World.block_lt_of_cell? w _ h.2.1
  exact ⟨fun i hi => ⟨hb.cell hs (h.1 i hi).1, by rw [hb.frozen hl hs]; exact (h.1 i hi).2⟩, hb.cell hs h.2.1, by rw [hb.frozen hl hs]; exact h.2.2⟩

set_option maxRecDepth 100000 in
set_option maxHeartbeats 800000 in
theorem count_num (b : Nat) (f : Nat → Int) (k : Int) (c : Int) (w : World) (h : Made w b f k) :
    Calls Try.prog 29 #[.pointer (some ⟨b, 0, none⟩), .int .i64 c] w fun e w' => e = .returned (.int .i64 (cntOf f c)) ∧ Below w.heap.size w w' := by
  by_cases hc : inr c = true
  · obtain ⟨i, hi, rfl⟩ := inr_nat hc
    refine (count_made b f k i w h hi).mono ?_
    rintro e w' ⟨rfl, rfl⟩
    exact ⟨by rw [cntOf, if_pos hc]; rfl, Below.refl _ _⟩
  · have H0 := Lib.hid h.1
    have HV := Lib.hid (show cntOf f c = -1 from if_neg hc)
    have HO := Lib.hid (inr_off hc)
    clear hc h
    go_enter Try.func29, Try.ntmps29
    go_wp2_with fail
    refine (has_made _ _ _ H0.out).mono ?_
    rintro e w1 ⟨rfl, rfl⟩
    rw [HO.out]
    go_wp2
    go_ret
    exact ⟨ret_int HV.out.symm, Below.refl _ _⟩
set_option maxRecDepth 100000 in
set_option maxHeartbeats 800000 in
theorem rcount_num (b : Nat) (f : Nat → Int) (k : Int) (c : Int) (w : World) (h : RMade w b f k) :
    Calls Try.prog 30 #[.pointer (some ⟨b, 0, none⟩), .int .i64 c] w fun e w' => e = .returned (.int .i64 (cntOf f c)) ∧ Below w.heap.size w w' := by
  by_cases hc : inr c = true
  · obtain ⟨i, hi, rfl⟩ := inr_nat hc
    refine (rcount_any b f k i w h hi).mono ?_
    rintro e w' ⟨rfl, hb⟩
    exact ⟨by rw [cntOf, if_pos hc]; rfl, hb⟩
  · have HV := Lib.hid (show cntOf f c = -1 from if_neg hc)
    have HO := Lib.hid (inr_off hc)
    clear hc h
    go_enter Try.func30, Try.ntmps30
    go_wp2_with fail
    refine (rhas_any _ _).mono ?_
    rintro e w1 ⟨rfl, rfl⟩
    rw [HO.out]
    go_wp2
    go_ret
    exact ⟨ret_int HV.out.symm, Below.refl _ _⟩

set_option maxRecDepth 100000 in
set_option maxHeartbeats 800000 in
theorem heard_num (b : Nat) (f : Nat → Int) (k : Int) (c : Int) (w : World) (h : Made w b f k) :
    Calls Try.prog 24 #[.pointer (some ⟨b, 0, none⟩), .int .i64 c] w fun e w' => e = .returned (.bool (inr c)) ∧ Made w' b (setOf f c) k ∧ But (fun x => x = b) w w' := by
  have H := Lib.hid h
  by_cases hc : inr c = true
  · obtain ⟨i, hi, rfl⟩ := inr_nat hc
    have HB := Lib.hid (show (decide ((0 : Int) ≤ (i : Int)) && decide ((i : Int) < 4)) = true from hc)
    have HI := Lib.hid hc
    clear h hc
    go_enter Try.func24, Try.ntmps24
    go_wp2_with fail
    refine (has_made _ _ _ H.out.1).mono ?_
    rintro e w1 ⟨rfl, rfl⟩
    rw [HB.out]
    go_wp2_with fail
    refine (store64 _ _ _ 0 _ (H.out.2.1 i hi).1 (H.out.2.1 i hi).2).mono ?_
    rintro e w2 ⟨rfl, hw2⟩
    have HW := Lib.hid hw2; clear hw2
    go_wp2
    go_ret
    refine ⟨ret_bool HI.out.symm, ?_, by rw [HW.out]; exact (But.refl _ _).store _ _⟩
    rw [HW.out]
    exact (H.out.set hi 0).congr (fun j _ => by
      unfold setOf
      by_cases hj : j = i
      · rw [if_pos hj, if_pos (by omega)]
      · rw [if_neg hj, if_neg (by omega)])
  · have HO := Lib.hid (inr_off hc)
    have HI : Hid (inr c = false) := Lib.hid (inr_off hc)
    have HN : Hid (∀ j, j < 4 → f j = setOf f c j) := Lib.hid (fun j hj => by
      unfold setOf
      rw [if_neg]
      intro e
      apply hc
      unfold inr
      simp; omega)
    clear h hc
    go_enter Try.func24, Try.ntmps24
    go_wp2_with fail
    refine (has_made _ _ _ H.out.1).mono ?_
    rintro e w1 ⟨rfl, rfl⟩
    rw [HO.out]
    go_wp2
    go_ret
    exact ⟨ret_bool HI.out.symm, H.out.congr HN.out, But.refl _ _⟩
set_option maxRecDepth 100000 in
set_option maxHeartbeats 800000 in
theorem rheard_num (b : Nat) (f : Nat → Int) (k : Int) (c : Int) (w : World) (h : RMade w b f k) :
    Calls Try.prog 25 #[.pointer (some ⟨b, 0, none⟩), .int .i64 c] w fun e w' => e = .returned (.bool (inr c)) ∧ RMade w' b (setOf f c) k ∧ But (fun x => x = b) w w' := by
  have H := Lib.hid h
  by_cases hc : inr c = true
  · obtain ⟨i, hi, rfl⟩ := inr_nat hc
    have HB := Lib.hid (show (decide ((0 : Int) ≤ (i : Int)) && decide ((i : Int) < 4)) = true from hc)
    have HI := Lib.hid hc
    have k0 := (h.1 i hi).1; have z0 := (h.1 i hi).2
    clear h hc
    go_enter Try.func25, Try.ntmps25
    go_wp2_with fail
    refine (rhas_any _ _).mono ?_
    rintro e w1 ⟨rfl, rfl⟩
    rw [HB.out]
    go_wp2_with fail
    refine (rhas_any _ _).mono ?_
    rintro e w1 ⟨rfl, rfl⟩
    rw [HB.out]
    go_wp2
    go_ret
    refine ⟨ret_bool HI.out.symm, ?_, (But.refl _ _).store _ _⟩
    exact (H.out.set hi 0).congr (fun j _ => by
      unfold setOf
      by_cases hj : j = i
      · rw [if_pos hj, if_pos (by omega)]
      · rw [if_neg hj, if_neg (by omega)])
  · have HO := Lib.hid (inr_off hc)
    have HI : Hid (inr c = false) := Lib.hid (inr_off hc)
    have HN : Hid (∀ j, j < 4 → f j = setOf f c j) := Lib.hid (fun j hj => by
      unfold setOf
      rw [if_neg]
      intro e
      apply hc
      unfold inr
      simp; omega)
    clear h hc
    go_enter Try.func25, Try.ntmps25
    go_wp2_with fail
    refine (rhas_any _ _).mono ?_
    rintro e w1 ⟨rfl, rfl⟩
    rw [HO.out]
    go_wp2_with fail
    refine (rhas_any _ _).mono ?_
    rintro e w1 ⟨rfl, rfl⟩
    rw [HO.out]
    go_wp2
    go_ret
    exact ⟨ret_bool HI.out.symm, H.out.congr HN.out, But.refl _ _⟩
end Go.Proofs.Ytkicaomcbmmjpaa
