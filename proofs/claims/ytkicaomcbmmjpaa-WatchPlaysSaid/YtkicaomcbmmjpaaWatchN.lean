/- catenalaw24: WatchPlays. Conditions: none. -/
import Derived.Test.YtkicaomcbmmjpaaWatchM
import Derived.Deep.RegionHeld3
namespace Go.Proofs.Ytkicaomcbmmjpaa
open Go.RowKit Go.PlainAid

theorem rmade_new (w : World) (T : TypeId) : RMade (w.alloc (.cells #[.int .i64 0, .int .i64 0, .int .i64 0, .int .i64 0, .int .i64 0] T)) w.heap.size (fun _ => 0) 0 := by
  have h := alloc_at' w (.cells #[.int .i64 0, .int .i64 0, .int .i64 0, .int .i64 0, .int .i64 0] T)
  have hz : ∀ i, i < 5 → (w.alloc (.cells #[.int .i64 0, .int .i64 0, .int .i64 0, .int .i64 0, .int .i64 0] T)).frozen? ⟨w.heap.size, i, none⟩ = false := by
    intro i hi
    unfold World.frozen?
    rw [h]
    simp
  refine ⟨fun i hi => ⟨?_, hz i (by omega)⟩, cell_of_row _ _ 4 _ _ _ h, hz 4 (by omega)⟩
  rw [cell_of_row _ _ i _ _ _ h]
  match i, hi with
  | 0, _ => rfl
  | 1, _ => rfl
  | 2, _ => rfl
  | 3, _ => rfl

def okF (f : Nat → Int) (i : Nat) : Prop := ∀ j, j < 4 → 0 ≤ f j ∧ f j ≤ i
theorem okF.bump {f : Nat → Int} {i : Nat} (h : okF f i) (hi : i ≤ 200) : okF (fun j => f j + 1) (i + 1) ∧ ∀ j, j < 4 → bump (f j) = f j + 1 := by
  refine ⟨fun j hj => ?_, fun j hj => ?_⟩
  · have := h j hj
    show 0 ≤ f j + 1 ∧ f j + 1 ≤ _
    omega
  · have := h j hj
    unfold Go.Proofs.Ytkicaomcbmmjpaa.bump; rw [if_pos (by omega)]
theorem okF.set {f : Nat → Int} {i : Nat} (h : okF f i) (c : Int) : okF (setOf f c) (i + 1) := by
  intro j hj
  have := h j hj
  unfold setOf
  split <;> omega

/-- Both watches, as they stand in a world that came of w. -/
def Both (w : World) (b b' : Nat) (f : Nat → Int) (T : Int) (wr : World) : Prop := Made wr b f T ∧ RMade wr b' f T ∧ Below w.heap.size w wr
theorem Both.below {w : World} {b b' : Nat} {f : Nat → Int} {T : Int} {w1 w2 : World} (h : Both w b b' f T w1) (hb : Below w1.heap.size w1 w2) : Both w b b' f T w2 :=
  ⟨h.1.but (But.of_below (S := fun _ => False) hb) id, h.2.1.but (But.of_below (S := fun _ => False) hb) id, h.2.2.trans (hb.mono h.2.2.size)⟩
theorem keepB {w : World} {b b' : Nat} {f : Nat → Int} {T : Int} {w1 w2 : World} {a : Addr} {v : Value} (hb : Below w1.heap.size w1 w2) (h : w1.cell? a = some v ∧ Both w b b' f T w1) : w2.cell? a = some v ∧ Both w b b' f T w2 := ⟨cell_below hb h.1, h.2.below hb⟩
theorem fin_step {w : World} {b b' : Nat} {f : Nat → Int} {T : Int} {wr : World} {i : Nat} {p : Prop} (h : p ∧ Both w b b' f T wr) (h0 : 0 ≤ T) (h1 : T ≤ (i + 1 : Nat)) (hf : okF f (i + 1)) : Below w.heap.size w wr ∧ ∃ (f : Nat → Int) (T : Int), Made wr b f T ∧ RMade wr b' f T ∧ 0 ≤ T ∧ T ≤ (i + 1 : Nat) ∧ okF f (i + 1) :=
  ⟨h.2.2.2, f, T, h.2.1, h.2.2.1, h0, h1, hf⟩
theorem Both.drew {w : World} {b b' : Nat} {f : Nat → Int} {T : Int} {w1 : World} (h : Both w b b' f T w1) : Both w b b' f T w1.drew := ⟨h.1, h.2.1, h.2.2.drew⟩

set_option maxRecDepth 100000 in
set_option maxHeartbeats 1600000 in
theorem wplays_law (a : Option Addr) (len cap : Nat) (zs : List Int) (w : World) (hz : IsRow .i64 w a len cap zs) (_hc : cap * 8 ≤ 140737488351232) :
    Calls Try.prog 5 #[.slice a len cap] w fun e w' => e = .returned (.bool true) ∧ Below w.heap.size w w' := by
  obtain ⟨hs, hw⟩ := SliceOf.ints hz
  obtain ⟨l, hl⟩ : ∃ l, l = zs.take len := ⟨_, rfl⟩
  rw [← hl] at hs hw
  have HS := Lib.hid hs; have HW := Lib.hid hw
  clear hz _hc hl hw
  obtain ⟨ao, cp, hv, hcap, hcm, _, _⟩ := hs
  rw [hv]; rw [hv] at HS
  clear hv
  go_enter Try.func5, Try.ntmps5
  go_wp2_with fail
  refine (new_any _).mono ?_
  rintro e w1 ⟨rfl, hm, hb⟩
  have HM := Lib.hid hm; have HB := Lib.hid hb
  have hsz : w.heap.size < w1.heap.size := World.block_lt_of_cell? w1 _ hm.1
  obtain ⟨b, hbe⟩ : ∃ b, b = w.heap.size := ⟨_, rfl⟩
  obtain ⟨b', hbe'⟩ : ∃ b', b' = w1.heap.size := ⟨_, rfl⟩
  have HR : Hid (RMade (w1.alloc (.cells #[.int .i64 0, .int .i64 0, .int .i64 0, .int .i64 0, .int .i64 0] 44)) b' (fun _ => 0) 0) := Lib.hid (by rw [hbe']; exact rmade_new w1 _)
  have HM1 : Hid (Made (w1.alloc (.cells #[.int .i64 0, .int .i64 0, .int .i64 0, .int .i64 0, .int .i64 0] 44)) b (fun _ => 0) 0) := Lib.hid (by rw [hbe]; exact hm.but (But.of_below (S := fun _ => False) ((Below.refl _ _).alloc (Nat.le_refl _) _)) id)
  have HB1 : Hid (Below w.heap.size w (w1.alloc (.cells #[.int .i64 0, .int .i64 0, .int .i64 0, .int .i64 0, .int .i64 0] 44))) := Lib.hid (HB.out.alloc (by omega) _)
  have hbb : b < b' := by omega
  have hbs : w.heap.size ≤ b := by omega
  have HBE := Lib.hid hbe; have HBE' := Lib.hid hbe'
  clear hm hb HM HB hsz
  go_wp2_with fail
  rw [← HBE.out, ← HBE'.out]
  clear hbe hbe'
  go_loopg [5] 201 (fun g s3 wr => ∃ i : Nat, s3 = .int .i64 i ∧ i ≤ l.length ∧ i ≤ 200 ∧ 201 ≤ i + g ∧ Below w.heap.size w wr ∧ ∃ (f : Nat → Int) (T : Int), Made wr b f T ∧ RMade wr b' f T ∧ 0 ≤ T ∧ T ≤ i ∧ okF f i)
  case atStart => exact ⟨0, rfl, by omega, by omega, by omega, HB1.out, fun _ => 0, 0, HM1.out, HR.out, by omega, by omega, fun j _ => ⟨Int.le_refl 0, by show (0:Int) ≤ _; omega⟩⟩
  case round =>
    obtain ⟨i, rfl, hil, hi200, hg, hb, f, T, hm, hr, hT0, hT1, hf⟩ := hrel
    have HMr := Lib.hid hm; have HRr := Lib.hid hr; have HBr := Lib.hid hb; have HF := Lib.hid hf
    clear hm hr hb hf
    by_cases hlt : i < l.length
    · by_cases h200 : i < 200
      · obtain ⟨bb, off, rfl, hr⟩ : ∃ bb off, ao = some ⟨bb, off, none⟩ ∧ w.rangeAt bb (off + i * 1) (intE .i64 l[i]) := by
          obtain ⟨ao', cp', hv, _, _, _, hcell⟩ := HS.out
          simp only [Value.slice.injEq, true_and] at hv
          obtain ⟨bb, off, hb, hr⟩ := hcell i hlt
          exact ⟨bb, off, by rw [hv.1, hb], hr⟩
        have kc := hr 0 _ rfl
        rw [Nat.mul_one, Nat.add_zero] at kc
        have KC := Lib.hid kc
        obtain ⟨c, hce⟩ : ∃ c, c = l[i] := ⟨_, rfl⟩
        rw [← hce] at KC
        obtain ⟨m, hm4, hm⟩ : ∃ m : Nat, m < 4 ∧ (i : Int) % 4 = (m : Int) := ⟨i % 4, by omega, by omega⟩
        have HMod := Lib.hid hm
        clear hr kc hce hm
        have k0 := cell_below HBr.out KC.out
        have hbbw : bb < w.heap.size := World.block_lt_of_cell? w _ KC.out
        by_cases hc2 : c = -2
        · rw [hc2] at k0
          clear hc2
          go_wp2_with fail
          refine (tick_but b f T _ HMr.out (by omega) (by omega) (fun j hj => (HF.out j hj).1)).mono ?_
          rintro e w1 ⟨rfl, hm1, hb1⟩
          have HM1 := Lib.hid (hm1.congr (HF.out.bump hi200).2)
          have HR1 := Lib.hid (HRr.out.but hb1 (by omega))
          have HB1 := Lib.hid (below_but HBr.out hb1 HBr.out.size (fun x _ e => by subst e; omega))
          clear hm1 hb1
          go_wp2_with fail
          refine (rtick_but b' f T _ HR1.out (by omega) (by omega) (fun j hj => by have := HF.out j hj; omega)).mono ?_
          rintro e w2 ⟨rfl, hm2, hb2⟩
          have HR2 := Lib.hid hm2
          have HM2 := Lib.hid (HM1.out.but hb2 (by omega))
          have HB2 := Lib.hid (below_but HB1.out hb2 HB1.out.size (fun x _ e => by subst e; omega))
          have HF2 := Lib.hid (HF.out.bump hi200).1
          clear hm2 hb2 HM1 HR1 HB1 HMr HRr HBr HF k0
          have hT2 : T + 1 ≤ (i + 1 : Nat) := by omega
          have hT3 : 0 ≤ T + 1 := by omega
          obtain ⟨T2, hT2e⟩ : ∃ T2, T2 = T + 1 := ⟨_, rfl⟩
          obtain ⟨f2, hf2⟩ : ∃ f2 : Nat → Int, f2 = fun j => f j + 1 := ⟨_, rfl⟩
          rw [← hT2e] at HM2 HR2 hT2 hT3
          rw [← hf2] at HM2 HR2 HF2
          clear hT2e hf2 hT0 hT1
          have k1 := cell_below HB2.out KC.out
          have HS2 : Hid (Both w b b' f2 T2 w2) := Lib.hid ⟨HM2.out, HR2.out, HB2.out⟩
          clear HM2 HR2 HB2
          go_wp2_with fail
          go_region_held3 (fun w' => w'.cell? ⟨bb, off + i, none⟩ = some (.int .i64 c) ∧ Both w b b' f2 T2 w') (first | exact keepB hb (by assumption) | exact ⟨k1, HS2.out.drew⟩) (first | (go_at_call 27; refine (late_made b f2 T2 _ ((by assumption : _ ∧ Both _ _ _ _ _ _)).2.1).mono ?_; rintro e w4 ⟨v4, rfl, hown, hb⟩; have HL4 := Lib.hid (own_ints hown); clear hown) | (go_at_call 28; refine (rlate_any b' f2 T2 _ ((by assumption : _ ∧ Both _ _ _ _ _ _)).2.2.1).mono ?_; rintro e w5 ⟨v5, rfl, hown, hb⟩; have HL5 := Lib.hid (own_ints hown); have HK5 := Lib.hid (HL4.out.below hb); clear hown) | (go_at_call 26; refine (sameInts_eq _ _ _ _ HK5.out HL5.out).mono ?_; rintro e w6 ⟨rfl, hb⟩) | (go_at_call 29; refine (count_num b f2 T2 _ _ ((by assumption : _ ∧ Both _ _ _ _ _ _)).2.1).mono ?_; rintro e w7 ⟨rfl, hb⟩) | (go_at_call 30; refine (rcount_num b' f2 T2 _ _ ((by assumption : _ ∧ Both _ _ _ _ _ _)).2.2.1).mono ?_; rintro e w7 ⟨rfl, hb⟩))
          have HQ : Hid (Below w.heap.size w _ ∧ ∃ (f : Nat → Int) (T : Int), Made _ b f T ∧ RMade _ b' f T ∧ 0 ≤ T ∧ T ≤ (i + 1 : Nat) ∧ okF f (i + 1)) := Lib.hid (fin_step (by assumption : _ ∧ Both _ _ _ _ _ _) hT3 hT2 HF2.out)
          go_wp2
          go_roundg (gk - 1)
          case rel => exact ⟨i + 1, by go_num, by omega, by omega, by omega, HQ.out⟩
          case measure => omega
        · have hne : (c == -2) = false := by simpa using hc2
          clear hc2
          have HMd : Hid (Made wr.drew b f T) := Lib.hid HMr.out
          have HRd : Hid (RMade wr.drew b' f T) := Lib.hid HRr.out
          have HBd : Hid (Below w.heap.size w wr.drew) := Lib.hid HBr.out.drew
          clear HMr HRr HBr
          go_wp2_with fail
          go_region_held3 (fun w' => w'.cell? ⟨bb, off + i, none⟩ = some (.int .i64 c)) (first | exact hb.cell (by show ¬ (bb = _); omega) (by assumption) | exact k0) (first | (go_at_call 24; refine (heard_num b f T c _ HMd.out).mono ?_; rintro e w1 ⟨rfl, hm1, hb⟩; have HM1 := Lib.hid hm1; have HBB := Lib.hid hb; clear hm1) | (go_at_call 25; refine (rheard_num b' f T c _ (HRd.out.but HBB.out (by omega))).mono ?_; rintro e w2 ⟨rfl, hm2, hb⟩; have HR2 := Lib.hid hm2; have HM2 := Lib.hid (HM1.out.but hb (by omega)); have HB1 := Lib.hid (below_but HBd.out HBB.out HBd.out.size (fun x _ e => by subst e; omega)); have HB2 := Lib.hid (below_but HB1.out hb HB1.out.size (fun x _ e => by subst e; omega)); clear hm2))
          have HF2 := Lib.hid (HF.out.set c)
          have hT2 : T ≤ (i + 1 : Nat) := by omega
          obtain ⟨T2, hT2e⟩ : ∃ T2, T2 = T := ⟨_, rfl⟩
          obtain ⟨f2, hf2⟩ : ∃ f2 : Nat → Int, f2 = setOf f c := ⟨_, rfl⟩
          rw [← hT2e] at HM2 HR2 hT2 hT0
          rw [← hf2] at HM2 HR2 HF2
          clear hT2e hf2 hT1
          have hT3 := hT0
          clear hT0 HMd HRd HBd HF k0
          have k1 := cell_below HB2.out KC.out
          have HS2 : Hid (Both w b b' f2 T2 w2) := Lib.hid ⟨HM2.out, HR2.out, HB2.out⟩
          clear HM2 HR2 HB2
          go_wp2_with fail
          go_region_held3 (fun w' => w'.cell? ⟨bb, off + i, none⟩ = some (.int .i64 c) ∧ Both w b b' f2 T2 w') (first | exact keepB hb (by assumption) | exact ⟨k1, HS2.out.drew⟩) (first | (go_at_call 27; refine (late_made b f2 T2 _ ((by assumption : _ ∧ Both _ _ _ _ _ _)).2.1).mono ?_; rintro e w4 ⟨v4, rfl, hown, hb⟩; have HL4 := Lib.hid (own_ints hown); clear hown) | (go_at_call 28; refine (rlate_any b' f2 T2 _ ((by assumption : _ ∧ Both _ _ _ _ _ _)).2.2.1).mono ?_; rintro e w5 ⟨v5, rfl, hown, hb⟩; have HL5 := Lib.hid (own_ints hown); have HK5 := Lib.hid (HL4.out.below hb); clear hown) | (go_at_call 26; refine (sameInts_eq _ _ _ _ HK5.out HL5.out).mono ?_; rintro e w6 ⟨rfl, hb⟩) | (go_at_call 29; refine (count_num b f2 T2 _ _ ((by assumption : _ ∧ Both _ _ _ _ _ _)).2.1).mono ?_; rintro e w7 ⟨rfl, hb⟩) | (go_at_call 30; refine (rcount_num b' f2 T2 _ _ ((by assumption : _ ∧ Both _ _ _ _ _ _)).2.2.1).mono ?_; rintro e w7 ⟨rfl, hb⟩))
          have HQ : Hid (Below w.heap.size w _ ∧ ∃ (f : Nat → Int) (T : Int), Made _ b f T ∧ RMade _ b' f T ∧ 0 ≤ T ∧ T ≤ (i + 1 : Nat) ∧ okF f (i + 1)) := Lib.hid (fin_step (by assumption : _ ∧ Both _ _ _ _ _ _) hT3 hT2 HF2.out)
          go_wp2
          go_roundg (gk - 1)
          case rel => exact ⟨i + 1, by go_num, by omega, by omega, by omega, HQ.out⟩
          case measure => omega
      · go_wp2_with (go_at_call 31; refine (awake24 _).mono ?_; rintro e w11 ⟨rfl, hb11⟩)
        go_ret
        exact ⟨rfl, HBr.out.trans (hb11.mono HBr.out.size)⟩
    · go_wp2_with (go_at_call 31; refine (awake24 _).mono ?_; rintro e w11 ⟨rfl, hb11⟩)
      go_ret
      exact ⟨rfl, HBr.out.trans (hb11.mono HBr.out.size)⟩
end Go.Proofs.Ytkicaomcbmmjpaa
