/- catenaref10.SameInts of two lists that are one. Conditions: none. -/
import Derived.Test.YtcnahhobppnbbaaSl
namespace Go.Proofs.Ytcnahhobppnbbaa
open Go.RowKit Go.PlainAid

set_option maxRecDepth 100000 in
set_option maxHeartbeats 800000 in
theorem sameInts_eq (v v' : Value) (l : List Int) (w : World) (hs : SliceOf (intE .i64) 1 w v l) (hs' : SliceOf (intE .i64) 1 w v' l) :
    Calls Try.prog 66 #[v, v'] w fun e w' => e = .returned (.bool true) ∧ Below w.heap.size w w' := by
  obtain ⟨ao, cap, rfl, hcap, hcm, _, hcell⟩ := hs
  obtain ⟨ao', cap', rfl, hcap', hcm', _, hcell'⟩ := hs'
  have HC := Lib.hid hcell; have HC' := Lib.hid hcell'; clear hcell hcell'
  go_enter Try.func66, Try.ntmps66
  go_wp2
  go_loopg [5] (l.length + 1) (fun g s5 wr => ∃ i : Nat, s5 = .int .i64 i ∧ i ≤ l.length ∧ l.length + 1 ≤ i + g ∧ Below w.heap.size w wr)
  case atStart => exact ⟨0, rfl, by omega, by omega, Below.refl _ _⟩
  case round =>
    obtain ⟨i, rfl, hi, hg, hbel⟩ := hrel
    have HB := Lib.hid hbel; have hsz := hbel.size
    clear hbel
    by_cases hlt : i < l.length
    · obtain ⟨b, off, rfl, hr⟩ := HC.out i hlt
      obtain ⟨b', off', rfl, hr'⟩ := HC'.out i hlt
      obtain ⟨c, hc⟩ : ∃ c, c = l[i] := ⟨_, rfl⟩
      rw [← hc] at hr hr'
      have k0 : wr.cell? ⟨b, off + i, none⟩ = some (.int .i64 c) := by have := cell_below HB.out (hr 0 _ rfl); rw [Nat.mul_one, Nat.add_zero] at this; exact this
      have k0' : wr.cell? ⟨b', off' + i, none⟩ = some (.int .i64 c) := by have := cell_below HB.out (hr' 0 _ rfl); rw [Nat.mul_one, Nat.add_zero] at this; exact this
      clear hr hr' hc
      go_wp2_with fail
      go_quiet (fail)
      go_wp2
      go_roundg (gk - 1)
      case rel => exact ⟨i + 1, by go_num, by omega, by omega, below_draws HB.out _⟩
      case measure => omega
    · go_wp2
      go_ret
      exact ⟨rfl, HB.out⟩
theorem flat_ints (k : IntKind) : ∀ l : List Int, l.flatMap (intE k) = l.map (Value.int k)
  | [] => rfl
  | x :: l => by rw [List.flatMap_cons, flat_ints k l]; rfl
/-- A row of integers of the call's own, as a list. -/
theorem own_ints {w : World} {B : Nat} {e : TypeId} {v : Value} {k : IntKind} {l : List Int} (h : w.ownsRow B e 1 v l.length (l.map (Value.int k))) : SliceOf (intE k) 1 w v l :=
  SliceOf.own (B := B) (e := e) (by rw [flat_ints]; exact h) (fun _ _ => rfl)
end Go.Proofs.Ytcnahhobppnbbaa
