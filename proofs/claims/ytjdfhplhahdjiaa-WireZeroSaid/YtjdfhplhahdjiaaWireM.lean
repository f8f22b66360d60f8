/- Package catenalaw02: awake, WireZero. Conditions: none. -/
import Derived.Test.YtjdfhplhahdjiaaWireF
import Derived.Test.YtjdfhplhahdjiaaWireL
namespace Go.Proofs.Ytjdfhplhahdjiaa
open Go.RowKit Go.PlainAid

theorem RE.ok {w : World} {b : Nat} {s : ByteArray} {a : Int} (h : RE w b s a 0) : Rd w b s a 0 := by unfold RE at h; rw [if_pos rfl] at h; exact h
def wsT : ByteArray := ⟨#[2, 97, 98, 1, 249, 1, 44]⟩
theorem aw1 : wText ⟨#[97, 98]⟩ ([], 0) = ([2, 97, 98], 0) := by decide
theorem aw2 : wFlag true ([2, 97, 98], 0) = ([2, 97, 98, 1], 0) := by decide
theorem aw3 : wNum 300 ([2, 97, 98, 1], 0) = ([2, 97, 98, 1, 249, 1, 44], 0) := by decide
theorem ar1 : textR ⟨#[2, 97, 98, 1, 249, 1, 44]⟩ 0 0 2 = (⟨#[97, 98]⟩, 3, 0) := by decide
theorem ar2 : flagR ⟨#[2, 97, 98, 1, 249, 1, 44]⟩ 3 0 = (true, 4, 0) := by decide
theorem ar3 : numR ⟨#[2, 97, 98, 1, 249, 1, 44]⟩ 4 0 300 = (300, 7, 0) := by decide
set_option maxRecDepth 100000 in
set_option maxHeartbeats 1600000 in
theorem awake_any (w : World) : Calls Try.prog 26 #[] w fun e w' => e = .returned (.bool true) ∧ Below w.heap.size w w' := by
  go_enter Try.func26, Try.ntmps26
  go_wp2_with fail
  refine (new_any _).mono ?_
  rintro e w1 ⟨rfl, hm, hb⟩
  have hbs : w.heap.size ≤ w1.heap.size := hb.size
  have HM := Lib.hid hm; have HB := Lib.hid hb; clear hm hb
  go_wp2_with fail
  refine (wText_any _ _ [] 0 ⟨#[97, 98]⟩ _ HM.out (by decide)).mono ?_
  rintro e w2 ⟨rfl, hm, hb⟩
  rw [aw1] at hm
  have HM2 := Lib.hid hm
  have HB2 := Lib.hid (below_but HB.out hb HB.out.size (fun k _ hk => by rcases hk with hk | hk <;> omega)); clear hm hb HM HB
  go_wp2_with fail
  refine (wFlag_any _ _ [2, 97, 98] 0 true _ HM2.out (by decide)).mono ?_
  rintro e w3 ⟨rfl, hm, hb⟩
  rw [aw2] at hm
  have HM3 := Lib.hid hm
  have HB3 := Lib.hid (below_but HB2.out hb HB2.out.size (fun k _ hk => by rcases hk with hk | hk <;> omega)); clear hm hb HM2 HB2
  go_wp2_with fail
  refine (wNum_any _ _ [2, 97, 98, 1] 0 300 _ HM3.out (by decide) (by decide)).mono ?_
  rintro e w4 ⟨rfl, hm, hb⟩
  rw [aw3] at hm
  have HM4 := Lib.hid hm
  have HB4 := Lib.hid (below_but HB3.out hb HB3.out.size (fun k _ hk => by rcases hk with hk | hk <;> omega)); clear hm hb HM3 HB3
  go_wp2_with fail
  refine (wDone_ok _ _ [2, 97, 98, 1, 249, 1, 44] _ HM4.out).mono ?_
  rintro e w5 ⟨rfl, rfl⟩
  clear HM4 hbs
  go_wp2_with fail
  refine (open_any ⟨#[2, 97, 98, 1, 249, 1, 44]⟩ _).mono ?_
  rintro e w5 ⟨rfl, hm, hb⟩
  have HR := Lib.hid hm
  have hbs : w.heap.size ≤ w4.heap.size := HB4.out.size
  have HB5 := Lib.hid (HB4.out.trans (hb.mono HB4.out.size)); clear hm hb HB4
  go_wp2_with fail
  refine (rText_any _ ⟨#[2, 97, 98, 1, 249, 1, 44]⟩ 0 0 2 _ HR.out (by decide) (by decide)).mono ?_
  rintro e w6 ⟨rfl, hm, hb⟩
  rw [ar1] at hm ⊢
  have HR2 := Lib.hid hm.ok
  have HB6 := Lib.hid (below_but HB5.out hb HB5.out.size (fun k _ hk => by unfold Own at hk; omega)); clear hm hb HR HB5
  go_wp2_with fail
  refine (rFlag_any _ ⟨#[2, 97, 98, 1, 249, 1, 44]⟩ 3 0 _ HR2.out (by decide) (by decide)).mono ?_
  rintro e w7 ⟨rfl, hm, hb⟩
  rw [ar2] at hm ⊢
  have HR3 := Lib.hid hm.ok
  have HB7 := Lib.hid (below_but HB6.out hb HB6.out.size (fun k _ hk => by unfold Own at hk; omega)); clear hm hb HR2 HB6
  go_wp2_with fail
  refine (rNum_any _ ⟨#[2, 97, 98, 1, 249, 1, 44]⟩ 4 0 300 _ HR3.out (by decide) (by decide)).mono ?_
  rintro e w8 ⟨rfl, hm, hb⟩
  rw [ar3] at hm ⊢
  have HR4 := Lib.hid hm.ok
  have HB8 := Lib.hid (below_but HB7.out hb HB7.out.size (fun k _ hk => by unfold Own at hk; omega)); clear hm hb HR3 HB7
  go_wp2_with fail
  refine (end_ok _ ⟨#[2, 97, 98, 1, 249, 1, 44]⟩ 7 _ HR4.out (by decide) (by decide)).mono ?_
  rintro e w9 ⟨rfl, hb⟩
  have HB9 := Lib.hid (HB8.out.trans (hb.mono HB8.out.size)); clear hb
  go_wp2
  go_ret
  exact ⟨rfl, HB9.out⟩
/-- Worlds behind the two zero ones. -/
def ZZ (w w' : World) : Prop := Below w.heap.size w w' ∧ NoWr w' (.pointer (some ⟨w.heap.size, 0, none⟩)) ∧ NoRd w' (.pointer (some ⟨w.heap.size + 1, 0, none⟩))
theorem ZZ.step {w w1 w2 : World} (h : ZZ w w1) (hb : Below w1.heap.size w1 w2) : ZZ w w2 := ⟨h.1.trans (hb.mono h.1.size), h.2.1.below hb, h.2.2.below hb⟩
theorem zz_lay (w : World) : ZZ w ((w.alloc (.cells #[.bool false, .slice none 0 0, .int .i64 0] 60)).alloc (.cells #[.bool false, .string ⟨#[]⟩, .int .i64 0, .int .i64 0] 62)) := by
  refine ⟨((Below.refl _ _).alloc (Nat.le_refl _) _).alloc (by simp) _, Or.inr ⟨_, rfl, by simp⟩, Or.inr ⟨_, rfl, by simp⟩⟩
set_option maxRecDepth 100000 in
set_option maxHeartbeats 1600000 in
theorem wireZero_any (n : Int) (s : ByteArray) (w : World) : Calls Try.prog 6 #[.int .i64 n, .string s] w fun e w' => e = .returned (.bool true) ∧ Below w.heap.size w w' := by
  have hcat : ∀ u, (Op.stringOp .add ⟨#[]⟩ ⟨#[]⟩).run Try.prog u = .ok (.string ⟨#[]⟩) u := fun u => concat_run ⟨#[]⟩ ⟨#[]⟩ (by decide) u
  have H0 := Lib.hid (zz_lay w)
  go_enter Try.func6, Try.ntmps6
  go_wp2_with fail
  refine (wNum_no (.pointer none) n _ (Or.inl rfl)).mono ?_
  rintro e w1 ⟨rfl, hb⟩
  have H1 := Lib.hid (H0.out.step hb); clear hb H0
  go_wp2_with fail
  refine (wText_no (.pointer none) s _ (Or.inl rfl)).mono ?_
  rintro e w2 ⟨rfl, hb⟩
  have H2 := Lib.hid (H1.out.step hb); clear hb H1
  go_wp2_with fail
  refine (wFlag_no (.pointer none) true _ (Or.inl rfl)).mono ?_
  rintro e w3 ⟨rfl, hb⟩
  have H3 := Lib.hid (H2.out.step hb); clear hb H2
  go_wp2_with fail
  refine (wBig_no (.pointer none) 3 _ (Or.inl rfl)).mono ?_
  rintro e w4 ⟨rfl, hb⟩
  have H4 := Lib.hid (H3.out.step hb); clear hb H3
  go_wp2_with fail
  refine (wDone_no (.pointer none) _ (Or.inl rfl)).mono ?_
  rintro e w54 ⟨rfl, rfl⟩
  go_wp2_with fail
  refine (wNum_no (.pointer (some ⟨w.heap.size, 0, none⟩)) n _ H4.out.2.1).mono ?_
  rintro e w5 ⟨rfl, hb⟩
  have H5 := Lib.hid (H4.out.step hb); clear hb H4
  go_wp2_with fail
  refine (wText_no (.pointer (some ⟨w.heap.size, 0, none⟩)) s _ H5.out.2.1).mono ?_
  rintro e w6 ⟨rfl, hb⟩
  have H6 := Lib.hid (H5.out.step hb); clear hb H5
  go_wp2_with fail
  refine (wFlag_no (.pointer (some ⟨w.heap.size, 0, none⟩)) true _ H6.out.2.1).mono ?_
  rintro e w7 ⟨rfl, hb⟩
  have H7 := Lib.hid (H6.out.step hb); clear hb H6
  go_wp2_with fail
  refine (wBig_no (.pointer (some ⟨w.heap.size, 0, none⟩)) 3 _ H7.out.2.1).mono ?_
  rintro e w8 ⟨rfl, hb⟩
  have H8 := Lib.hid (H7.out.step hb); clear hb H7
  go_wp2_with fail
  refine (wDone_no (.pointer (some ⟨w.heap.size, 0, none⟩)) _ H8.out.2.1).mono ?_
  rintro e w58 ⟨rfl, rfl⟩
  go_wp2_with fail
  refine (rNum_no (.pointer none) n _ (Or.inl rfl)).mono ?_
  rintro e w9 ⟨rfl, hb⟩
  have H9 := Lib.hid (H8.out.step hb); clear hb H8
  go_wp2_with fail
  refine (rNum_no (.pointer (some ⟨w.heap.size + 1, 0, none⟩)) n _ H9.out.2.2).mono ?_
  rintro e w10 ⟨rfl, hb⟩
  have H10 := Lib.hid (H9.out.step hb); clear hb H9
  go_wp2_with fail
  refine (left_no (.pointer none) _ (Or.inl rfl)).mono ?_
  rintro e w60 ⟨rfl, rfl⟩
  go_wp2_with fail
  refine (left_no (.pointer (some ⟨w.heap.size + 1, 0, none⟩)) _ H10.out.2.2).mono ?_
  rintro e w60 ⟨rfl, rfl⟩
  go_wp2_with fail
  refine (rBig_no (.pointer none) _ (Or.inl rfl)).mono ?_
  rintro e w11 ⟨rfl, hb⟩
  have H11 := Lib.hid (H10.out.step hb); clear hb H10
  go_wp2_with fail
  refine (rBig_no (.pointer (some ⟨w.heap.size + 1, 0, none⟩)) _ H11.out.2.2).mono ?_
  rintro e w12 ⟨rfl, hb⟩
  have H12 := Lib.hid (H11.out.step hb); clear hb H11
  go_wp2_with fail
  refine (rText_no (.pointer none) n _ (Or.inl rfl)).mono ?_
  rintro e w13 ⟨rfl, hb⟩
  have H13 := Lib.hid (H12.out.step hb); clear hb H12
  go_wp2_with fail
  refine (rText_no (.pointer (some ⟨w.heap.size + 1, 0, none⟩)) n _ H13.out.2.2).mono ?_
  rintro e w14 ⟨rfl, hb⟩
  have H14 := Lib.hid (H13.out.step hb); clear hb H13
  go_wp2_with fail
  refine (rFlag_no (.pointer none) _ (Or.inl rfl)).mono ?_
  rintro e w15 ⟨rfl, hb⟩
  have H15 := Lib.hid (H14.out.step hb); clear hb H14
  go_wp2_with fail
  refine (rFlag_no (.pointer (some ⟨w.heap.size + 1, 0, none⟩)) _ H15.out.2.2).mono ?_
  rintro e w16 ⟨rfl, hb⟩
  have H16 := Lib.hid (H15.out.step hb); clear hb H15
  go_wp2_with fail
  refine (err_no (.pointer none) _ (Or.inl rfl)).mono ?_
  rintro e w66 ⟨rfl, rfl⟩
  go_wp2_with fail
  refine (err_no (.pointer (some ⟨w.heap.size + 1, 0, none⟩)) _ H16.out.2.2).mono ?_
  rintro e w66 ⟨rfl, rfl⟩
  go_wp2_with fail
  refine (end_no (.pointer none) _ (Or.inl rfl)).mono ?_
  rintro e w66 ⟨rfl, rfl⟩
  go_wp2_with fail
  refine (end_no (.pointer (some ⟨w.heap.size + 1, 0, none⟩)) _ H16.out.2.2).mono ?_
  rintro e w66 ⟨rfl, rfl⟩
  go_wp2_with fail
  refine (awake_any _).mono ?_
  rintro e w17 ⟨rfl, hb⟩
  have H17 := Lib.hid (H16.out.step hb); clear hb H16
  go_wp2
  go_ret
  exact ⟨rfl, H17.out.1⟩
end Go.Proofs.Ytjdfhplhahdjiaa
