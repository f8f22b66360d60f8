/- catenaref14: the last place, At. Conditions: none. -/
import Derived.Test.YtannjgcnemkddaaVersM
namespace Go.Proofs.Ytannjgcnemkddaa
open Go.RowKit Go.PlainAid

set_option maxRecDepth 100000 in
set_option maxHeartbeats 400000 in
theorem rlast_same (v : Value) (l : List CellT) (t : Int) (w : World) (hs : SliceOf cellE 3 w v l) :
    Calls Try.prog 68 #[v, .int .u64 t] w fun e w' => e = .returned (.int .i64 (lastI l t)) ∧ w = w' := by
  obtain ⟨ao, cap, rfl, hcap, hcm, _, hcell⟩ := hs
  have HC := Lib.hid hcell; clear hcell
  go_enter Try.func68, Try.ntmps68
  go_wp2
  go_loopg [5] (l.length + 1) (fun g s5 wr => ∃ k : Nat, s5 = .int .i64 ((k : Int) - 1) ∧ k ≤ l.length ∧ k + 1 ≤ g ∧ lastI l t = down l t k ∧ w = wr)
  case atStart => exact ⟨l.length, rfl, by omega, by omega, rfl, rfl⟩
  case round =>
    obtain ⟨k, rfl, hk, hg, hd, rfl⟩ := hrel
    have HD := Lib.hid hd; clear hd
    by_cases h0 : 0 < k
    · obtain ⟨i, rfl⟩ : ∃ i, k = i + 1 := ⟨k - 1, by omega⟩
      have hi : i < l.length := by omega
      obtain ⟨b, off, rfl, hr⟩ := HC.out i hi
      have hc := hr 0 _ rfl
      rw [Nat.add_zero] at hc
      have hix : ((i + 1 : Nat) : Int) - 1 = (i : Int) := by omega
      have hx := ts_get hi
      obtain ⟨x, hxe⟩ : ∃ x, x = l[i].1 := ⟨_, rfl⟩
      rw [← hxe] at hc hx
      have HX := Lib.hid hx
      clear hr hx hxe
      by_cases hle : x ≤ t
      · have HF := Lib.hid (show lastI l t = i by rw [HD.out, down, HX.out, if_pos hle])
        clear HD
        go_wp2
        go_ret
        exact ⟨ret_int (by rw [HF.out]; omega), rfl⟩
      · have HF := Lib.hid (show lastI l t = down l t i by rw [HD.out, down, HX.out, if_neg hle])
        clear HD
        go_wp2
        go_roundg (gk - 1)
        case rel => exact ⟨i, rfl, by omega, by omega, HF.out, rfl⟩
        case measure => omega
    · obtain rfl : k = 0 := by omega
      have HF := Lib.hid (show lastI l t = -1 from HD.out)
      have hneg : ((0 : Nat) : Int) - 1 = -1 := by omega
      clear HD
      go_wp2
      go_ret
      exact ⟨by rw [HF.out]; rfl, rfl⟩
theorem rlast_any (v : Value) (l : List CellT) (t : Int) (w : World) (hs : SliceOf cellE 3 w v l) (_hw : ∀ c ∈ l, cellOk c) :
    Calls Try.prog 68 #[v, .int .u64 t] w fun e w' => e = .returned (.int .i64 (lastI l t)) ∧ Below w.heap.size w w' :=
  (rlast_same v l t w hs).mono fun e w' ⟨h, hw⟩ => ⟨h, hw ▸ Below.refl _ _⟩

set_option maxRecDepth 100000 in
set_option maxHeartbeats 400000 in
theorem rat_any (v : Value) (l : List CellT) (t : Int) (w : World) (hs : SliceOf cellE 3 w v l) (hw : ∀ c ∈ l, cellOk c) :
    Calls Try.prog 31 #[v, .int .u64 t] w fun e w' => e = .returned (.tuple #[.string (atS l t).1, .bool (atS l t).2]) ∧ Below w.heap.size w w' := by
  have HS := Lib.hid hs; have HW := Lib.hid hw
  obtain ⟨ao, cap, rfl, hcap, hcm, _, hcell⟩ := hs
  have HC := Lib.hid hcell; clear hcell hw
  have hbd := down_bd l t l.length
  by_cases h0 : lastI l t < 0
  · have HA := Lib.hid (atS_none h0)
    clear hbd
    go_enter Try.func31, Try.ntmps31
    go_wp2_with fail
    refine (rlast_any _ _ _ _ HS.out HW.out).mono ?_
    rintro e w1 ⟨rfl, hb1⟩
    have HB := Lib.hid hb1; clear hb1
    go_wp2
    go_ret2
    exact ⟨by rw [HA.out]; rfl, HB.out⟩
  · obtain ⟨k, hk⟩ := Int.eq_ofNat_of_zero_le (show 0 ≤ lastI l t by omega)
    have hkl : k < l.length := by have : lastI l t < l.length := hbd.2.1; omega
    have ha := atS_some hk
    have hg := cellAt_get hkl
    obtain ⟨b, off, rfl, hr⟩ := HC.out k hkl
    obtain ⟨c, hc⟩ : ∃ c, c = l[k] := ⟨_, rfl⟩
    rw [← hc] at hr hg
    rw [hg] at ha
    have HK := Lib.hid hk; have HR := Lib.hid hr
    clear hbd hk hg hc h0 hr
    cases hdel : c.2.2 with
    | true =>
      rw [hdel, if_pos rfl] at ha
      have HA := Lib.hid ha; have HDel := Lib.hid hdel
      clear ha hdel
      go_enter Try.func31, Try.ntmps31
      go_wp2_with fail
      refine (rlast_any _ _ _ _ HS.out HW.out).mono ?_
      rintro e w1 ⟨rfl, hb1⟩
      rw [HK.out]
      have k2 := cell_below hb1 (HR.out 2 _ rfl)
      rw [HDel.out] at k2
      have HB := Lib.hid hb1; clear hb1
      go_wp2
      go_ret2
      exact ⟨by rw [HA.out]; rfl, HB.out⟩
    | false =>
      rw [hdel, if_neg (by simp)] at ha
      have HA := Lib.hid ha; have HDel := Lib.hid hdel
      clear ha hdel
      go_enter Try.func31, Try.ntmps31
      go_wp2_with fail
      refine (rlast_any _ _ _ _ HS.out HW.out).mono ?_
      rintro e w1 ⟨rfl, hb1⟩
      rw [HK.out]
      have k2 := cell_below hb1 (HR.out 2 _ rfl)
      have k1 := cell_below hb1 (HR.out 1 _ rfl)
      rw [HDel.out] at k2
      have HB := Lib.hid hb1; clear hb1
      go_wp2
      go_ret2
      exact ⟨by rw [HA.out]; rfl, HB.out⟩

end Go.Proofs.Ytannjgcnemkddaa
