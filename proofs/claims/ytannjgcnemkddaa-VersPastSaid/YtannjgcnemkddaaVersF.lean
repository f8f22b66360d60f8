/- catenaref14.Same of two lists that are one. Conditions: none. -/
import Derived.Test.YtannjgcnemkddaaVersE
namespace Go.Proofs.Ytannjgcnemkddaa
open Go.RowKit Go.PlainAid

set_option maxRecDepth 100000 in
set_option maxHeartbeats 800000 in
theorem same_eq (v v' : Value) (l : List CellT) (w : World) (hs : SliceOf cellE 3 w v l) (hs' : SliceOf cellE 3 w v' l) :
    Calls Try.prog 34 #[v, v'] w fun e w' => e = .returned (.bool true) ∧ Below w.heap.size w w' := by
  obtain ⟨ao, cap, rfl, hcap, hcm, _, hcell⟩ := hs
  obtain ⟨ao', cap', rfl, hcap', hcm', _, hcell'⟩ := hs'
  have HC := Lib.hid hcell; have HC' := Lib.hid hcell'; clear hcell hcell'
  go_enter Try.func34, Try.ntmps34
  go_wp2
  go_loopg [5] (l.length + 1) (fun g s5 wr => ∃ i : Nat, s5 = .int .i64 i ∧ i ≤ l.length ∧ l.length + 1 ≤ i + g ∧ Below w.heap.size w wr)
  case atStart => exact ⟨0, rfl, by omega, by omega, Below.refl _ _⟩
  case round =>
    obtain ⟨i, rfl, hi, hg, hbel⟩ := hrel
    have HB := Lib.hid hbel; have hsz := hbel.size
    clear hbel
    by_cases hlt : i < l.length
    · obtain ⟨b, off, rfl, hr⟩ := HC.out i hlt
      obtain ⟨b', off', rfl, hr'⟩ := HC'.out i hlt
      obtain ⟨c, hc⟩ : ∃ c, c = l[i] := ⟨_, rfl⟩
      rw [← hc] at hr hr'
      obtain ⟨t, s, d⟩ := c
      have k0 : wr.cell? ⟨b, off + i * 3, none⟩ = some (.int .u64 t) := cell_below HB.out (hr 0 _ rfl)
      have k1 : wr.cell? ⟨b, off + i * 3 + 1, none⟩ = some (.string s) := cell_below HB.out (hr 1 _ rfl)
      have k2 : wr.cell? ⟨b, off + i * 3 + 2, none⟩ = some (.bool d) := cell_below HB.out (hr 2 _ rfl)
      have k0' : wr.cell? ⟨b', off' + i * 3, none⟩ = some (.int .u64 t) := cell_below HB.out (hr' 0 _ rfl)
      have k1' : wr.cell? ⟨b', off' + i * 3 + 1, none⟩ = some (.string s) := cell_below HB.out (hr' 1 _ rfl)
      have k2' : wr.cell? ⟨b', off' + i * 3 + 2, none⟩ = some (.bool d) := cell_below HB.out (hr' 2 _ rfl)
      clear hr hr' hc
      go_wp2_with fail
      go_quiet (fail)
      go_wp2
      go_roundg (gk - 1)
      case rel => exact ⟨i + 1, by go_num, by omega, by omega, below_draws HB.out _⟩
      case measure => omega
    · go_wp2
      go_ret
      exact ⟨rfl, HB.out⟩
end Go.Proofs.Ytannjgcnemkddaa
