/- catenalaw24: awake, WatchZero. Conditions: none. -/
import Derived.Test.YtkicaomcbmmjpaaWatchD
namespace Go.Proofs.Ytkicaomcbmmjpaa
open Go.RowKit Go.PlainAid

theorem alloc_at' (w : World) (o : Obj) : (w.alloc o).heap[w.heap.size]? = some o := by
  show (w.heap.push o)[w.heap.size]? = _
  simp
theorem made_new (w : World) (T : TypeId) : Made (w.alloc (.cells #[.bool true, .int .i64 0, .int .i64 0, .int .i64 0, .int .i64 0, .int .i64 0] T)) w.heap.size (fun _ => 0) 0 := by
  have h := alloc_at' w (.cells #[.bool true, .int .i64 0, .int .i64 0, .int .i64 0, .int .i64 0, .int .i64 0] T)
  have hz : ∀ i, i < 6 → (w.alloc (.cells #[.bool true, .int .i64 0, .int .i64 0, .int .i64 0, .int .i64 0, .int .i64 0] T)).frozen? ⟨w.heap.size, i, none⟩ = false := by
    intro i hi
    unfold World.frozen?
    rw [h]
    simp
  refine ⟨cell_of_row _ _ 0 _ _ _ h, fun i hi => ⟨?_, hz (1 + i) (by omega)⟩, cell_of_row _ _ 5 _ _ _ h, hz 5 (by omega)⟩
  rw [cell_of_row _ _ (1 + i) _ _ _ h]
  match i, hi with
  | 0, _ => rfl
  | 1, _ => rfl
  | 2, _ => rfl
  | 3, _ => rfl

set_option maxRecDepth 100000 in
set_option maxHeartbeats 800000 in
theorem new_any (w : World) :
    Calls Try.prog 21 #[] w fun e w' => e = .returned (.pointer (some ⟨w.heap.size, 0, none⟩)) ∧ Made w' w.heap.size (fun _ => 0) 0 ∧ Below w.heap.size w w' := by
  have HM := Lib.hid (made_new w 60)
  go_enter Try.func21, Try.ntmps21
  go_wp2
  go_ret
  exact ⟨rfl, HM.out, (Below.refl _ _).alloc (Nat.le_refl _) _⟩

set_option maxRecDepth 100000 in
set_option maxHeartbeats 800000 in
theorem awake24 (w : World) :
    Calls Try.prog 31 #[] w fun e w' => e = .returned (.bool true) ∧ Below w.heap.size w w' := by
  go_enter Try.func31, Try.ntmps31
  go_wp2_with fail
  refine (new_any _).mono ?_
  rintro e w1 ⟨rfl, hm, hb⟩
  have HM := Lib.hid hm; have HB := Lib.hid hb; clear hm hb
  go_wp2_with fail
  go_loopg [2] 7 (fun g s2 wr => ∃ i : Nat, s2 = .int .i64 i ∧ i ≤ 6 ∧ 7 ≤ i + g ∧ Made wr w.heap.size (fun j => if j = 1 then 0 else (i : Int)) i ∧ Below w.heap.size w wr)
  case atStart => exact ⟨0, rfl, by omega, by omega, HM.out.congr (fun j _ => by simp), HB.out⟩
  case round =>
    obtain ⟨i, rfl, hi, hg, hm, hb⟩ := hrel
    have HMr := Lib.hid hm; have HBr := Lib.hid hb; clear hm hb
    by_cases hlt : i < 6
    · go_wp2_with fail
      refine (tick_made _ _ _ _ HMr.out (by omega) (by omega) (fun j _ => by split <;> omega)).mono ?_
      rintro e w2 ⟨rfl, hm2, hb2⟩
      have HM2 := Lib.hid hm2; have HB2 := Lib.hid (HBr.out.trans (hb2 _ (Nat.le_refl _))); clear hm2 hb2
      go_wp2_with fail
      refine (heard_made _ _ _ 1 _ HM2.out (by omega)).mono ?_
      rintro e w3 ⟨rfl, hm3, hb3⟩
      have HM3 := Lib.hid (hm3.congr (g := fun j => if j = 1 then 0 else ((i + 1 : Nat) : Int)) (fun j _ => by
        by_cases hj : j = 1
        · simp [hj]
        · simp only [if_neg hj]; unfold bump; rw [if_pos (by omega)]; omega))
      have HB3 := Lib.hid (HB2.out.trans (hb3 _ (Nat.le_refl _))); clear hm3 hb3
      go_wp2
      go_roundg (gk - 1)
      case rel => exact ⟨i + 1, by go_num, by omega, by omega, by have := HM3.out; exact this, HB3.out⟩
      case measure => omega
    · obtain rfl : i = 6 := by omega
      have e1 : lateL (fun j => if j = 1 then 0 else ((6 : Nat) : Int)) 4 = [0, 2, 3] := by decide
      have E1 := Lib.hid e1; clear e1
      go_wp2_with fail
      refine (late_made _ _ _ _ HMr.out).mono ?_
      rintro e w2 ⟨v2, rfl, hown, hb2⟩
      rw [E1.out] at hown
      obtain ⟨g2, cp2, rfl, hg2, _⟩ := hown.form (by decide)
      have hbw : w.heap.size < wr.heap.size := World.block_lt_of_cell? wr _ HMr.out.1
      have HM2 : Hid (Made w2 w.heap.size (fun j => if j = 1 then 0 else ((6 : Nat) : Int)) ((6 : Nat) : Int)) := Lib.hid ⟨cell_below hb2 HMr.out.1, fun j hj => ⟨cell_below hb2 (HMr.out.2.1 j hj).1, by rw [hb2.frozen hbw]; exact (HMr.out.2.1 j hj).2⟩, cell_below hb2 HMr.out.2.2.1, by rw [hb2.frozen hbw]; exact HMr.out.2.2.2⟩
      have HB2 := Lib.hid (HBr.out.trans (hb2.mono HBr.out.size)); clear hb2 hown
      go_wp2_with fail
      refine (count_made _ _ _ 1 _ HM2.out (by omega)).mono ?_
      rintro e w3 ⟨rfl, rfl⟩
      go_wp2_with fail
      refine (count_made _ _ _ 0 _ HM2.out (by omega)).mono ?_
      rintro e w3 ⟨rfl, rfl⟩
      go_wp2
      go_ret
      exact ⟨rfl, HB2.out⟩
end Go.Proofs.Ytkicaomcbmmjpaa
