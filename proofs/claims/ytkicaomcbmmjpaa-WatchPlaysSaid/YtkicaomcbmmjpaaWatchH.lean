/- catenaref24: counts as plain numbers. Conditions: none. -/
import Derived.Test.YtkicaomcbmmjpaaWatchE
namespace Go.Proofs.Ytkicaomcbmmjpaa
open Go.RowKit Go.PlainAid

/-- The document's own watch: its counts, its ticks. -/
def RMade (w : World) (b : Nat) (f : Nat → Int) (k : Int) : Prop :=
  (∀ i, i < 4 → w.cell? ⟨b, i, none⟩ = some (.int .i64 (f i)) ∧ w.frozen? ⟨b, i, none⟩ = false) ∧
    w.cell? ⟨b, 4, none⟩ = some (.int .i64 k) ∧ w.frozen? ⟨b, 4, none⟩ = false

set_option maxRecDepth 100000 in
set_option maxHeartbeats 800000 in
theorem rhas_any (id : Int) (w : World) :
    Calls Try.prog 52 #[.int .i64 id] w fun e w' => e = .returned (.bool (decide (0 ≤ id) && decide (id < 4))) ∧ w = w' := by
  by_cases h0 : 0 ≤ id
  · rw [decide_eq_true h0]
    go_enter Try.func52, Try.ntmps52
    go_wp2
    go_ret
    exact ⟨by first | rfl | simp, rfl⟩
  · rw [decide_eq_false h0]
    go_enter Try.func52, Try.ntmps52
    go_wp2
    go_ret
    exact ⟨by first | rfl | simp, rfl⟩

set_option maxRecDepth 100000 in
set_option maxHeartbeats 800000 in
theorem rcount_any (b : Nat) (f : Nat → Int) (k : Int) (i : Nat) (w : World) (h : RMade w b f k) (hi : i < 4) :
    Calls Try.prog 30 #[.pointer (some ⟨b, 0, none⟩), .int .i64 i] w fun e w' => e = .returned (.int .i64 (f i)) ∧ Below w.heap.size w w' := by
  have H := Lib.hid h
  have hb0 : (decide ((0 : Int) ≤ (i : Int)) && decide ((i : Int) < 4)) = true := by simp; omega
  have HB := Lib.hid hb0
  have k0 := (h.1 i hi).1
  clear h hb0
  go_enter Try.func30, Try.ntmps30
  go_wp2_with fail
  refine (rhas_any _ _).mono ?_
  rintro e w1 ⟨rfl, rfl⟩
  rw [HB.out]
  go_wp2
  go_ret
  exact ⟨rfl, Below.refl _ _⟩
end Go.Proofs.Ytkicaomcbmmjpaa
