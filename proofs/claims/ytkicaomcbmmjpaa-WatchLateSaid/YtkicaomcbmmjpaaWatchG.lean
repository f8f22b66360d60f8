/- catenalaw24: WatchLate. Conditions: none. -/
import Derived.Test.YtkicaomcbmmjpaaWatchE
import Derived.Test.YtkicaomcbmmjpaaSl
namespace Go.Proofs.Ytkicaomcbmmjpaa
open Go.RowKit Go.PlainAid

theorem mem_lateL (f : Nat → Int) (j : Nat) : ∀ i, (j : Int) ∈ lateL f i ↔ j < i ∧ 6 ≤ f j
  | 0 => by simp [lateL]
  | i + 1 => by
    have ih := mem_lateL f j i
    rw [lateL]
    split
    · rename_i h
      rw [List.mem_append, ih]
      by_cases hj : j = i
      · subst hj; simp [h]
      · have : ¬ ((j : Int) ∈ [(i : Int)]) := by simp; omega
        simp only [this, or_false]
        constructor
        · intro h2; exact ⟨by omega, h2.2⟩
        · intro h2; exact ⟨by omega, h2.2⟩
    · rename_i h
      rw [ih]
      constructor
      · intro h2; exact ⟨by omega, h2.2⟩
      · intro h2
        refine ⟨?_, h2.2⟩
        by_cases hj : j = i
        · subst hj; exact absurd h2.2 h
        · omega

set_option maxRecDepth 100000 in
set_option maxHeartbeats 1600000 in
theorem wlate_law (id : Int) (a : Option Addr) (len cap : Nat) (zs : List Int) (w : World) (hid : (Lit.int .u8 id).wf = true) (hz : IsRow .u8 w a len cap zs) (_hc : cap * 1 ≤ 140737488351232) :
    Calls Try.prog 6 #[.int .u8 id, .slice a len cap] w fun e w' => e = .returned (.bool true) ∧ Below w.heap.size w w' := by
  obtain ⟨hs, hw⟩ := SliceOf.ints hz
  have hid0 := wf_u8 hid
  obtain ⟨k, hk4, hk⟩ : ∃ k : Nat, k < 4 ∧ id % 4 = (k : Int) := ⟨(id % 4).toNat, by omega, by omega⟩
  have hwi : IntKind.i64.wrap id = id := IntWalk.i64_in _ ⟨by omega, by omega⟩
  obtain ⟨l, hl⟩ : ∃ l, l = zs.take len := ⟨_, rfl⟩
  rw [← hl] at hs hw
  have HS := Lib.hid hs; have HW := Lib.hid hw
  clear hid hz _hc hl hw
  obtain ⟨ao, cp, hv, hcap, hcm, _, _⟩ := hs
  rw [hv]; rw [hv] at HS
  clear hv
  go_enter Try.func6, Try.ntmps6
  go_wp2_with fail
  refine (new_any _).mono ?_
  rintro e w1 ⟨rfl, hm, hb⟩
  have HM := Lib.hid hm; have HB := Lib.hid hb; clear hm hb
  go_wp2_with fail
  simp only [hk]
  clear hid0 hk
  go_loopg [7] 31 (fun g s7 wr => ∃ i : Nat, s7 = .int .i64 i ∧ i ≤ l.length ∧ i ≤ 30 ∧ 31 ≤ i + g ∧ Below w.heap.size w wr ∧ ∃ (f : Nat → Int) (T : Int), Made wr w.heap.size f T ∧ f k = 0 ∧ 0 ≤ T ∧ T ≤ 20 * i ∧ ∀ j, j < 4 → 0 ≤ f j ∧ f j ≤ 20 * i)
  case atStart => exact ⟨0, rfl, by omega, by omega, by omega, HB.out, fun _ => 0, 0, HM.out, rfl, by omega, by omega, fun j _ => ⟨Int.le_refl 0, by show (0:Int) ≤ _; omega⟩⟩
  case round =>
    obtain ⟨i, rfl, hil, hi30, hg, hb, f, T, hm, hfk, hT0, hT1, hf⟩ := hrel
    obtain ⟨gO, hgO⟩ : ∃ gO, gO = gk := ⟨_, rfl⟩
    have HMr := Lib.hid hm; have HBr := Lib.hid hb; have HF := Lib.hid hf; have HFK := Lib.hid hfk
    clear hm hb hf hfk
    by_cases hlt : i < l.length
    · by_cases h30 : i < 30
      · obtain ⟨b, off, rfl, hr⟩ : ∃ b off, ao = some ⟨b, off, none⟩ ∧ w.rangeAt b (off + i * 1) (intE .u8 l[i]) := by
          obtain ⟨ao', cp', hv, _, _, _, hcell⟩ := HS.out
          simp only [Value.slice.injEq, true_and] at hv
          obtain ⟨b, off, hb, hr⟩ := hcell i hlt
          exact ⟨b, off, by rw [hv.1, hb], hr⟩
        have k0 := cell_below HBr.out (hr 0 _ rfl)
        rw [Nat.mul_one, Nat.add_zero] at k0
        have hx0 := wf_u8 (HW.out l[i] (List.getElem_mem hlt))
        obtain ⟨x, hxe⟩ : ∃ x, x = l[i] := ⟨_, rfl⟩
        rw [← hxe] at k0 hx0
        obtain ⟨n, hn20, hn⟩ : ∃ n : Nat, n < 20 ∧ x % 20 = (n : Int) := ⟨(x % 20).toNat, by omega, by omega⟩
        have hwx : IntKind.i64.wrap x = x := IntWalk.i64_in _ ⟨by omega, by omega⟩
        clear hr hxe
        go_wp2_with fail
        have hd30 : decide ((i : Int) < 30) = true := decide_eq_true (by omega)
        simp only [hn, hd30]
        clear hn hd30 hx0
        go_loopg [9] (n + 1) (fun g s9 wr2 => ∃ t : Nat, s9 = .int .i64 t ∧ t ≤ n ∧ n + 1 ≤ t + g ∧ Below w.heap.size w wr2 ∧ ∃ (f' : Nat → Int) (T' : Int), Made wr2 w.heap.size f' T' ∧ f' k = t ∧ 0 ≤ T' ∧ T' ≤ 20 * i + t ∧ ∀ j, j < 4 → 0 ≤ f' j ∧ f' j ≤ 20 * i + t)
        case atStart => exact ⟨0, rfl, by omega, by omega, HBr.out, f, T, HMr.out, HFK.out, hT0, by omega, fun j hj => ⟨(HF.out j hj).1, by have := (HF.out j hj).2; omega⟩⟩
        case round =>
          obtain ⟨t, rfl, htn, hg2, hb2, f', T', hm2, hfk2, hT02, hT12, hf2⟩ := hrel
          have HM2 := Lib.hid hm2; have HB2 := Lib.hid hb2; have HF2 := Lib.hid hf2; have HFK2 := Lib.hid hfk2
          clear hm2 hb2 hf2 hfk2
          by_cases htl : t < n
          · go_wp2_with fail
            refine (tick_made _ _ _ _ HM2.out (by omega) (by omega) (fun j hj => (HF2.out j hj).1)).mono ?_
            rintro e w3 ⟨rfl, hm3, hb3⟩
            have HM3 := Lib.hid hm3; have HB3 := Lib.hid (HB2.out.trans (hb3 _ (Nat.le_refl _))); clear hm3 hb3
            go_wp2
            go_roundg (gk - 1)
            case rel =>
              refine ⟨t + 1, by go_num, by omega, by omega, HB3.out, _, _, HM3.out, ?_, by omega, by omega, fun j hj => ?_⟩
              · show bump (f' k) = _
                rw [HFK2.out]; unfold bump; rw [if_pos (by omega)]; omega
              · have h8 := HF2.out j hj
                show 0 ≤ bump (f' j) ∧ bump (f' j) ≤ _
                unfold bump; split <;> omega
            case measure => omega
          · have htn2 : t = n := by omega
            subst htn2
            go_wp2_with fail
            refine (late_made _ _ _ _ HM2.out).mono ?_
            rintro e w4 ⟨v4, rfl, hown, hb4⟩
            have hmem := mem_lateL f' k 4
            rw [HFK2.out] at hmem
            obtain ⟨L, hL⟩ : ∃ L, L = lateL f' 4 := ⟨_, rfl⟩
            have hL4 : L.length ≤ 4 := by rw [hL]; exact lateL_le f' 4
            rw [← hL] at hown hmem
            obtain ⟨ao4, cp4, rfl, _, hcells⟩ := row_view hown
            have HCells := Lib.hid hcells
            have hbw : w.heap.size < wr.heap.size := World.block_lt_of_cell? wr _ HM2.out.1
            have HM4 : Hid (Made w4 w.heap.size f' T') := Lib.hid ⟨cell_below hb4 HM2.out.1, fun j hj => ⟨cell_below hb4 (HM2.out.2.1 j hj).1, by rw [hb4.frozen hbw]; exact (HM2.out.2.1 j hj).2⟩, cell_below hb4 HM2.out.2.2.1, by rw [hb4.frozen hbw]; exact HM2.out.2.2.2⟩
            have HB4 := Lib.hid (HB2.out.trans (hb4.mono HB2.out.size))
            have HMem : Hid ((k : Int) ∈ L ↔ 6 ≤ (t : Int)) := Lib.hid ⟨fun h => (hmem.1 h).2, fun h => hmem.2 ⟨hk4, h⟩⟩
            clear hmem hL hown hcells hb4
            go_wp2_with fail
            go_loopg [11, 12] 5 (fun g s11 s12 wr3 => ∃ j : Nat, s12 = .int .i64 j ∧ j ≤ L.length ∧ L.length + 1 ≤ j + g ∧ s11 = .bool (decide ((k : Int) ∈ L.take j)) ∧ w4 = wr3)
            case atStart => exact ⟨0, rfl, by omega, by omega, by simp, rfl⟩
            case round =>
              obtain ⟨j, rfl, hjl, hg3, rfl, rfl⟩ := hrel
              by_cases hj : j < L.length
              · obtain ⟨g4, rfl, _, hcell⟩ := HCells.out j hj
                rw [List.getElem?_map, List.getElem?_eq_getElem hj] at hcell
                have hcell2 : w4.cell? ⟨g4, j, none⟩ = some (.int .i64 L[j]) := hcell
                have htake : ((k : Int) ∈ L.take (j + 1)) ↔ ((k : Int) ∈ L.take j ∨ (k : Int) = L[j]) := by
                  rw [List.take_succ_eq_append_getElem hj, List.mem_append, List.mem_singleton]
                obtain ⟨y, hy⟩ : ∃ y, y = L[j] := ⟨_, rfl⟩
                rw [← hy] at hcell2 htake
                have HT := Lib.hid htake
                clear hcell hy htake
                by_cases hin : (k : Int) ∈ L.take j
                · have HN := Lib.hid (decide_eq_true (HT.out.2 (Or.inl hin)))
                  rw [decide_eq_true hin]
                  clear hin
                  go_wp2
                  go_roundg (gk - 1)
                  case rel => exact ⟨j + 1, by go_num, by omega, by omega, by rw [HN.out], rfl⟩
                  case measure => omega
                · rw [decide_eq_false hin]
                  by_cases hyk : y = (k : Int)
                  · have HN := Lib.hid (decide_eq_true (HT.out.2 (Or.inr hyk.symm)))
                    have hyb : (y == (k : Int)) = true := by rw [beq_iff_eq]; exact hyk
                    clear hin hyk
                    go_wp2
                    go_roundg (gk - 1)
                    case rel => exact ⟨j + 1, by go_num, by omega, by omega, by rw [HN.out], rfl⟩
                    case measure => omega
                  · have HN := Lib.hid (decide_eq_false (fun h => (HT.out.1 h).elim hin (fun h2 => hyk h2.symm)))
                    have hyb : (y == (k : Int)) = false := by rw [beq_eq_false_iff_ne]; exact hyk
                    clear hin hyk
                    go_wp2
                    go_roundg (gk - 1)
                    case rel => exact ⟨j + 1, by go_num, by omega, by omega, by rw [HN.out], rfl⟩
                    case measure => omega
              · rw [List.take_of_length_le (by omega)]
                rw [show decide ((k : Int) ∈ L) = decide (6 ≤ (t : Int)) from decide_eq_decide.2 HMem.out]
                go_wp2_with fail
                refine (count_made _ _ _ k _ HM4.out hk4).mono ?_
                rintro e w5 ⟨rfl, rfl⟩
                rw [HFK2.out]
                go_wp2_with fail
                refine (heard_made _ _ _ k _ HM4.out hk4).mono ?_
                rintro e w6 ⟨rfl, hm6, hb6⟩
                have HM6 := Lib.hid hm6; have HB6 := Lib.hid (HB4.out.trans (hb6 _ (Nat.le_refl _)))
                clear hm6 hb6
                go_wp2
                go_roundg (gO - 1)
                case rel => exact ⟨i + 1, by go_num, by omega, by omega, by omega, HB6.out, _, _, HM6.out, by simp, hT02, by omega, fun j hj => by
                  have h8 := HF2.out j hj
                  show 0 ≤ (if j = k then 0 else f' j) ∧ (if j = k then 0 else f' j) ≤ _
                  split <;> omega⟩
                case measure => omega
      · obtain rfl : i = 30 := by omega
        go_wp2_with (go_at_call 31; refine (awake24 _).mono ?_; rintro e w11 ⟨rfl, hb11⟩)
        go_ret
        exact ⟨rfl, HBr.out.trans (hb11.mono HBr.out.size)⟩
    · go_wp2_with (go_at_call 31; refine (awake24 _).mono ?_; rintro e w11 ⟨rfl, hb11⟩)
      go_ret
      exact ⟨rfl, HBr.out.trans (hb11.mono HBr.out.size)⟩
end Go.Proofs.Ytkicaomcbmmjpaa
