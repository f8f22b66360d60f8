/- catenalaw07: awake. Conditions: none. -/
import Derived.Test.YtghjhkojehlfmaaConfH
namespace Go.Proofs.Ytghjhkojehlfmaa
open Go.RowKit Go.PlainAid
set_option linter.unusedSimpArgs false

def putS (c : ConfT) : ByteArray := if chkC c.ep c.ms = 0 then ⟨(putC c.ep c.ms c.fl).toArray⟩ else ⟨#[]⟩
theorem cput_any (c : ConfT) (w : World) (h : ConfOk w c) :
    Calls Try.prog 25 #[confV c] w fun e w' => e = .returned (.tuple #[.string (putS c), .int .i64 (chkC c.ep c.ms)]) ∧ Below w.heap.size w w' := by
  by_cases hx : chkC c.ep c.ms = 0
  · unfold putS; rw [if_pos hx]
    have := put_ok c w h hx
    rw [hx]; exact this
  · unfold putS; rw [if_neg hx]; exact put_err c w h hx
theorem crput_any (c : ConfT) (w : World) (h : ConfOk w c) :
    Calls Try.prog 26 #[confV c] w fun e w' => e = .returned (.tuple #[.string (putS c), .int .i64 (chkC c.ep c.ms)]) ∧ Below w.heap.size w w' := by
  by_cases hx : chkC c.ep c.ms = 0
  · unfold putS; rw [if_pos hx]
    have := rput_ok c w h hx
    rw [hx]; exact this
  · unfold putS; rw [if_neg hx]; exact rput_err c w h hx
theorem aw_chk : chkC 3 [(2, 1), (0, 5)] = 0 := by decide
theorem aw_put : putC 3 [(2, 1), (0, 5)] 7 = [3, 2, 2, 1, 0, 5, 7] := by decide
theorem aw_head : idAtI [(2, 1), (0, 5)] 0 = 2 := by decide
theorem aw_tail : idAtI [(2, 1), (0, 5)] 1 = 0 := by decide
theorem aw_behind : behindI [(2, 1), (0, 5)] (2, 1) = 0 := by decide
def awC (n : Nat) : ConfT := ⟨3, .slice (some ⟨n, 0, none⟩) 2 2, [(2, 1), (0, 5)], 7⟩
theorem aw_putS (n : Nat) : putS (awC n) = ⟨#[3, 2, 2, 1, 0, 5, 7]⟩ := by
  unfold putS awC
  simp only
  rw [if_pos aw_chk, aw_put]
theorem aw_ok (w : World) : ConfOk ((w.alloc (.cells #[.int .i64 2, .int .i64 1, .int .i64 0, .int .i64 5] 45)).alloc (.cells #[.int .i64 3, .slice (some ⟨w.heap.size, 0, none⟩) 2 2, .int .u64 7] 43)) (awC w.heap.size) := by
  refine ⟨⟨some ⟨w.heap.size, 0, none⟩, 2, rfl, by simp [awC], by omega, by simp, fun j hj => ⟨w.heap.size, 0, rfl, fun i u hu => ?_⟩⟩, ?_, by simp [awC], by simp [awC], by simp [awC], by simp [awC]⟩
  · match j, hj with
    | 0, _ =>
      match i, hu with
      | 0, hu => simp [awC, memE] at hu; subst hu; simp
      | 1, hu => simp [awC, memE] at hu; subst hu; simp
    | 1, _ =>
      match i, hu with
      | 0, hu => simp [awC, memE] at hu; subst hu; simp
      | 1, hu => simp [awC, memE] at hu; subst hu; simp
  · intro m hm
    simp [awC] at hm
    rcases hm with rfl | rfl <;> simp [memOk]
set_option maxRecDepth 100000 in
set_option maxHeartbeats 3200000 in
theorem awake07 (w : World) : Calls Try.prog 24 #[] w fun e w' => e = .returned (.bool true) ∧ Below w.heap.size w w' := by
  have hok := aw_ok w
  obtain ⟨W, hW⟩ : ∃ W, W = ((w.alloc (.cells #[.int .i64 2, .int .i64 1, .int .i64 0, .int .i64 5] 45)).alloc (.cells #[.int .i64 3, .slice (some ⟨w.heap.size, 0, none⟩) 2 2, .int .u64 7] 43)) := ⟨_, rfl⟩
  have hb1 : Below w.heap.size w W := by rw [hW]; exact ((Below.refl _ _).alloc (Nat.le_refl _) _).alloc (by simp) _
  have hcf : CF (w.heap.size + 1) (awC w.heap.size) W := by rw [hW]; unfold CF awC; exact ⟨by simp, by simp, by simp⟩
  rw [← hW] at hok
  have HB := Lib.hid hb1; have HC := Lib.hid hcf; have HK := Lib.hid hok; have HW := Lib.hid hW
  clear hok hW hb1 hcf
  go_enter Try.func24, Try.ntmps24
  go_wp2_with fail
  rw [← HW.out]
  refine (cput_any (awC w.heap.size) _ HK.out).mono ?_
  rintro e w1 ⟨rfl, hb⟩
  rw [aw_putS, show chkC (awC w.heap.size).ep (awC w.heap.size).ms = 0 from aw_chk]
  have HB1 := Lib.hid (HB.out.trans (hb.mono HB.out.size)); have HK1 := Lib.hid (HK.out.below hb); have HC1 := Lib.hid (HC.out.below hb)
  have c10 : w1.cell? ⟨w.heap.size + 1, 0, none⟩ = some (.int .i64 3) := HC1.out.1
  have c11 : w1.cell? ⟨w.heap.size + 1, 1, none⟩ = some (.slice (some ⟨w.heap.size, 0, none⟩) 2 2) := HC1.out.2.1
  have c12 : w1.cell? ⟨w.heap.size + 1, 2, none⟩ = some (.int .u64 7) := HC1.out.2.2
  clear hb
  go_wp2_with fail
  refine (head_any (awC w.heap.size) _ HK1.out).mono ?_
  rintro e w2 ⟨rfl, hb⟩
  rw [show idAtI (awC w.heap.size).ms 0 = 2 from aw_head]
  have HB2 := Lib.hid (HB1.out.trans (hb.mono HB1.out.size)); have HK2 := Lib.hid (HK1.out.below hb); have HC2 := Lib.hid (HC1.out.below hb)
  have c20 : w2.cell? ⟨w.heap.size + 1, 0, none⟩ = some (.int .i64 3) := HC2.out.1
  have c21 : w2.cell? ⟨w.heap.size + 1, 1, none⟩ = some (.slice (some ⟨w.heap.size, 0, none⟩) 2 2) := HC2.out.2.1
  have c22 : w2.cell? ⟨w.heap.size + 1, 2, none⟩ = some (.int .u64 7) := HC2.out.2.2
  clear hb c10 c11 c12
  go_wp2_with fail
  refine (tail_any (awC w.heap.size) _ HK2.out).mono ?_
  rintro e w3 ⟨rfl, hb⟩
  rw [show idAtI (awC w.heap.size).ms (((awC w.heap.size).ms.length : Int) - 1) = 0 from aw_tail]
  have HB3 := Lib.hid (HB2.out.trans (hb.mono HB2.out.size)); have HK3 := Lib.hid (HK2.out.below hb); have HC3 := Lib.hid (HC2.out.below hb)
  have c30 : w3.cell? ⟨w.heap.size + 1, 0, none⟩ = some (.int .i64 3) := HC3.out.1
  have c31 : w3.cell? ⟨w.heap.size + 1, 1, none⟩ = some (.slice (some ⟨w.heap.size, 0, none⟩) 2 2) := HC3.out.2.1
  have c32 : w3.cell? ⟨w.heap.size + 1, 2, none⟩ = some (.int .u64 7) := HC3.out.2.2
  clear hb c20 c21 c22
  go_wp2_with fail
  refine (behind_any (awC w.heap.size) (2, 1) _ HK3.out).mono ?_
  rintro e w4 ⟨rfl, hb⟩
  rw [show behindI (awC w.heap.size).ms (2, 1) = 0 from aw_behind]
  have HB4 := Lib.hid (HB3.out.trans (hb.mono HB3.out.size))
  clear hb
  go_wp2
  go_ret
  exact ⟨rfl, HB4.out⟩
end Go.Proofs.Ytghjhkojehlfmaa
