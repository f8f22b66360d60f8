/- Package catenalaw02: awake. Conditions: none. -/
import Derived.Test.YtdeimkblfeenoaaWireF
import Derived.Test.YtdeimkblfeenoaaWireL
namespace Go.Proofs.Ytdeimkblfeenoaa
open Go.RowKit Go.PlainAid

theorem RE.ok {w : World} {b : Nat} {s : ByteArray} {a : Int} (h : RE w b s a 0) : Rd w b s a 0 := by unfold RE at h; rw [if_pos rfl] at h; exact h
def wsT : ByteArray := ⟨#[2, 97, 98, 1, 249, 1, 44]⟩
theorem aw1 : wText ⟨#[97, 98]⟩ ([], 0) = ([2, 97, 98], 0) := by decide
theorem aw2 : wFlag true ([2, 97, 98], 0) = ([2, 97, 98, 1], 0) := by decide
theorem aw3 : wNum 300 ([2, 97, 98, 1], 0) = ([2, 97, 98, 1, 249, 1, 44], 0) := by decide
theorem ar1 : textR ⟨#[2, 97, 98, 1, 249, 1, 44]⟩ 0 0 2 = (⟨#[97, 98]⟩, 3, 0) := by decide
theorem ar2 : flagR ⟨#[2, 97, 98, 1, 249, 1, 44]⟩ 3 0 = (true, 4, 0) := by decide
theorem ar3 : numR ⟨#[2, 97, 98, 1, 249, 1, 44]⟩ 4 0 300 = (300, 7, 0) := by decide
set_option maxRecDepth 100000 in
set_option maxHeartbeats 1600000 in
theorem awake_any (w : World) : Calls Try.prog 26 #[] w fun e w' => e = .returned (.bool true) ∧ Below w.heap.size w w' := by
  go_enter Try.func26, Try.ntmps26
  go_wp2_with fail
  refine (new_any _).mono ?_
  rintro e w1 ⟨rfl, hm, hb⟩
  have hbs : w.heap.size ≤ w1.heap.size := hb.size
  have HM := Lib.hid hm; have HB := Lib.hid hb; clear hm hb
  go_wp2_with fail
  refine (wText_any _ _ [] 0 ⟨#[97, 98]⟩ _ HM.out (by decide)).mono ?_
  rintro e w2 ⟨rfl, hm, hb⟩
  rw [aw1] at hm
  have HM2 := Lib.hid hm
  have HB2 := Lib.hid (below_but HB.out hb HB.out.size (fun k _ hk => by rcases hk with hk | hk <;> omega)); clear hm hb HM HB
  go_wp2_with fail
  refine (wFlag_any _ _ [2, 97, 98] 0 true _ HM2.out (by decide)).mono ?_
  rintro e w3 ⟨rfl, hm, hb⟩
  rw [aw2] at hm
  have HM3 := Lib.hid hm
  have HB3 := Lib.hid (below_but HB2.out hb HB2.out.size (fun k _ hk => by rcases hk with hk | hk <;> omega)); clear hm hb HM2 HB2
  go_wp2_with fail
  refine (wNum_any _ _ [2, 97, 98, 1] 0 300 _ HM3.out (by decide) (by decide)).mono ?_
  rintro e w4 ⟨rfl, hm, hb⟩
  rw [aw3] at hm
  have HM4 := Lib.hid hm
  have HB4 := Lib.hid (below_but HB3.out hb HB3.out.size (fun k _ hk => by rcases hk with hk | hk <;> omega)); clear hm hb HM3 HB3
  go_wp2_with fail
  refine (wDone_ok _ _ [2, 97, 98, 1, 249, 1, 44] _ HM4.out).mono ?_
  rintro e w5 ⟨rfl, rfl⟩
  clear HM4 hbs
  go_wp2_with fail
  refine (open_any ⟨#[2, 97, 98, 1, 249, 1, 44]⟩ _).mono ?_
  rintro e w5 ⟨rfl, hm, hb⟩
  have HR := Lib.hid hm
  have hbs : w.heap.size ≤ w4.heap.size := HB4.out.size
  have HB5 := Lib.hid (HB4.out.trans (hb.mono HB4.out.size)); clear hm hb HB4
  go_wp2_with fail
  refine (rText_any _ ⟨#[2, 97, 98, 1, 249, 1, 44]⟩ 0 0 2 _ HR.out (by decide) (by decide)).mono ?_
  rintro e w6 ⟨rfl, hm, hb⟩
  rw [ar1] at hm ⊢
  have HR2 := Lib.hid hm.ok
  have HB6 := Lib.hid (below_but HB5.out hb HB5.out.size (fun k _ hk => by unfold Own at hk; omega)); clear hm hb HR HB5
  go_wp2_with fail
  refine (rFlag_any _ ⟨#[2, 97, 98, 1, 249, 1, 44]⟩ 3 0 _ HR2.out (by decide) (by decide)).mono ?_
  rintro e w7 ⟨rfl, hm, hb⟩
  rw [ar2] at hm ⊢
  have HR3 := Lib.hid hm.ok
  have HB7 := Lib.hid (below_but HB6.out hb HB6.out.size (fun k _ hk => by unfold Own at hk; omega)); clear hm hb HR2 HB6
  go_wp2_with fail
  refine (rNum_any _ ⟨#[2, 97, 98, 1, 249, 1, 44]⟩ 4 0 300 _ HR3.out (by decide) (by decide)).mono ?_
  rintro e w8 ⟨rfl, hm, hb⟩
  rw [ar3] at hm ⊢
  have HR4 := Lib.hid hm.ok
  have HB8 := Lib.hid (below_but HB7.out hb HB7.out.size (fun k _ hk => by unfold Own at hk; omega)); clear hm hb HR3 HB7
  go_wp2_with fail
  refine (end_ok _ ⟨#[2, 97, 98, 1, 249, 1, 44]⟩ 7 _ HR4.out (by decide) (by decide)).mono ?_
  rintro e w9 ⟨rfl, hb⟩
  have HB9 := Lib.hid (HB8.out.trans (hb.mono HB8.out.size)); clear hb
  go_wp2
  go_ret
  exact ⟨rfl, HB9.out⟩
end Go.Proofs.Ytdeimkblfeenoaa
