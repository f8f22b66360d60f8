/- catenaref14.Right. Conditions: none. -/
import Derived.Test.YtannjgcnemkddaaVersM
namespace Go.Proofs.Ytannjgcnemkddaa
open Go.RowKit Go.PlainAid

theorem rises_take_mono {l : List CellT} {i : Nat} (h : i < l.length) (hb : rises 0 (l.take i) = true) : rises 0 (l.take (i + 1)) = decide (lastTs 0 (l.take i) < l[i].1) := by
  rw [take_rises h, hb, Bool.true_and]
theorem take_lastTs {l : List CellT} {i : Nat} (h : i < l.length) (h0 : 0 < i) : lastTs 0 (l.take i) = ts l (i - 1) := by
  obtain ⟨k, rfl⟩ : ∃ k, i = k + 1 := ⟨i - 1, by omega⟩
  rw [take_last (by omega), ts_get (by omega)]; rfl

theorem rises_last : ∀ (a : Int) (l : List CellT), rises a l = true → a ≤ lastTs a l
  | _, [], _ => by simp [lastTs]
  | a, c :: r, h => by
    simp only [rises, Bool.and_eq_true, decide_eq_true_eq] at h
    have := rises_last c.1 r h.2
    show a ≤ lastTs c.1 r
    omega
set_option maxRecDepth 100000 in
set_option maxHeartbeats 800000 in
theorem rright_any (v : Value) (l : List CellT) (w : World) (hs : SliceOf cellE 3 w v l) (hw : ∀ c ∈ l, cellOk c) :
    Calls Try.prog 33 #[v] w fun e w' => e = .returned (.bool (rises 0 l)) ∧ Below w.heap.size w w' := by
  obtain ⟨ao, cap, rfl, hcap, hcm, _, hcell⟩ := hs
  have HC := Lib.hid hcell; have HW := Lib.hid hw; clear hcell hw
  go_enter Try.func33, Try.ntmps33
  go_wp2
  go_loopg [3] (l.length + 1) (fun g s2 wr => ∃ i : Nat, s2 = .int .i64 i ∧ i ≤ l.length ∧ l.length + 1 ≤ i + g ∧ rises 0 (l.take i) = true ∧ Below w.heap.size w wr)
  case atStart => exact ⟨0, rfl, by omega, by omega, rfl, Below.refl _ _⟩
  case round =>
    obtain ⟨i, rfl, hi, hg, hri, hbel⟩ := hrel
    have HB := Lib.hid hbel; have hsz := hbel.size; have HRI := Lib.hid hri
    clear hbel hri
    by_cases hlt : i < l.length
    · obtain ⟨b, off, rfl, hr⟩ := HC.out i hlt
      have k0 : wr.cell? ⟨b, off + i * 3, none⟩ = some (.int .u64 (l[i].1)) := cell_below HB.out (hr 0 _ rfl)
      have h1 := rises_take_mono hlt HRI.out
      have hx0 := (wf_u64 (HW.out l[i] (List.getElem_mem hlt))).1
      obtain ⟨x, hxe⟩ : ∃ x, x = l[i].1 := ⟨_, rfl⟩
      rw [← hxe] at k0 h1 hx0
      have H1 := Lib.hid h1
      clear hr h1 hxe
      have hge := rises_last 0 _ HRI.out
      by_cases hx : x = 0
      · subst hx
        have HF : Hid (rises 0 l = false) := Lib.hid (rises_take (i + 1) (by rw [H1.out, decide_eq_false_iff_not]; omega))
        clear hge hx0
        go_wp2_with fail
        go_quiet (fail)
        go_wp2
        go_ret
        exact ⟨by rw [HF.out]; rfl, by have := HB.out; exact below_draws this _⟩
      · have hx1 : (x == 0) = false := by rw [beq_eq_false_iff_ne]; exact hx
        cases i with
        | zero =>
          have HN : Hid (rises 0 (l.take (0 + 1)) = true) := Lib.hid (by rw [H1.out, decide_eq_true_eq]; simp [lastTs]; omega)
          have k9 : wr.cell? ⟨b, off, none⟩ = some (.int .u64 x) := by simpa using k0
          clear hge k0
          go_wp2_with fail
          go_quiet (fail)
          go_wp2
          go_roundg (gk - 1)
          case rel => exact ⟨0 + 1, by go_num, by omega, by omega, HN.out, below_draws HB.out _⟩
          case measure => omega
        | succ k =>
          have hlk : k < l.length := by omega
          obtain ⟨b', off', hbo, hr'⟩ := HC.out k hlk
          cases hbo
          have k1 : wr.cell? ⟨b, off + k * 3, none⟩ = some (.int .u64 (ts l k)) := by rw [ts_get hlk]; exact cell_below HB.out (hr' 0 _ rfl)
          have hlast : lastTs 0 (l.take (k + 1)) = ts l k := take_lastTs hlt (by omega)
          rw [hlast] at hge
          have HLast := Lib.hid hlast
          have hwk : IntKind.i64.wrap (k : Int) = (k : Int) := IntWalk.i64_in _ ⟨by omega, by omega⟩
          clear hr' hlast
          by_cases hxy : x ≤ ts l k
          · have HF : Hid (rises 0 l = false) := Lib.hid (rises_take (k + 1 + 1) (by rw [H1.out, decide_eq_false_iff_not, HLast.out]; omega))
            have hd1 : decide (x ≤ ts l k) = true := decide_eq_true hxy
            clear hge hx hx0
            go_wp2_with fail
            go_quiet (fail)
            go_wp2
            go_ret
            exact ⟨by rw [HF.out]; rfl, by have := HB.out; exact below_draws this _⟩
          · have HN : Hid (rises 0 (l.take (k + 1 + 1)) = true) := Lib.hid (by rw [H1.out, decide_eq_true_eq, HLast.out]; omega)
            have hd1 : decide (x ≤ ts l k) = false := decide_eq_false hxy
            clear hge hx hx0
            go_wp2_with fail
            go_quiet (fail)
            go_wp2
            go_roundg (gk - 1)
            case rel => exact ⟨k + 1 + 1, by go_num, by omega, by omega, HN.out, below_draws HB.out _⟩
            case measure => omega
    · have HT := Lib.hid (show rises 0 l = true by have := HRI.out; rwa [List.take_of_length_le (by omega)] at this)
      go_wp2
      go_ret
      exact ⟨by rw [HT.out]; rfl, HB.out⟩
end Go.Proofs.Ytannjgcnemkddaa
