/- catenalaw15.TreeFlat. Conditions: the acts read as l. -/
import Derived.Test.YthmljllgfigebaaTreeP
namespace Go.Proofs.Ythmljllgfigebaa
open Go.RowKit Go.Shelf
set_option linter.unusedVariables false
theorem insL_le {L : List Kv} {k : ByteArray} {v : Int} : (insL L k v).length ≤ L.length + 1 := by rw [insL_len]; split <;> omega
theorem delL_le {L : List Kv} {k : ByteArray} : (delL L k).length ≤ L.length := by have := delL_len (k := k) L; split at this <;> omega

set_option maxRecDepth 100000 in
set_option maxHeartbeats 4000000 in
theorem tflat_any (v : Value) (l : List TActT) (n : Int) (w : World) (hs : SliceOf tactE 4 w v l) (hl : ∀ p ∈ l, TActOk p) (hn : (Lit.int .u16 n).wf = true) :
    Calls Try.prog 4 #[v, .int .u16 n] w fun e w' => e = .returned (.bool true) ∧ Below w.heap.size w w' := by
  have hn' : 0 ≤ n ∧ n ≤ 65535 := by simpa [Lit.wf, IntKind.min, IntKind.max, IntKind.signed, IntKind.bits] using hn
  have HS := Lib.hid hs; have HL := Lib.hid hl
  obtain ⟨ao, cap, rfl, hcap, hcm, _, _⟩ := hs
  clear hl hn
  have hw : IntKind.i64.wrap n = n := IntWalk.i64_in _ ⟨by omega, by omega⟩
  go_enter Try.func4, Try.ntmps4
  go_wp2_with fail
  refine (tnew_any _).mono ?_
  rintro e w1 ⟨S, rfl, hO, hlo, hb⟩
  have HLO := Lib.hid hlo; have HB := Lib.hid hb; have HO := Lib.hid hO; clear hlo hb hO
  go_wp2
  go_loopg [6] (n.toNat + 1) (fun g s6 wr => ∃ (i : Nat) (L : List Kv) (d : Int) (S : Nat → Prop), s6 = .int .i64 i ∧ i ≤ 600 ∧ L.length ≤ i ∧ n + 1 ≤ i + g ∧ Hid (TrO S wr w.heap.size L d) ∧ Hid (∀ q, S q → w.heap.size ≤ q) ∧ Hid (Below w.heap.size w wr))
  case atStart => exact ⟨0, [], 0, S, rfl, by omega, by simp, by omega, HO, HLO, HB⟩
  case round =>
    obtain ⟨i, L, d, S, rfl, hi, hLi, hg, HO, HLO, HB⟩ := hrel
    obtain ⟨kk, hkk⟩ : ∃ kk, strOfNums [(i : Int) / 256, (i : Int) % 256] = kk := ⟨_, rfl⟩
    have hblk : Blk (wr.alloc (.cells #[.int .u8 ((i : Int) / 256), .int .u8 ((i : Int) % 256)] 5)) wr.heap.size 5 #[.int .u8 ((i : Int) / 256), .int .u8 ((i : Int) % 256)] := World.alloc_heap_new wr _
    have hconv : (convert 44 9 (.slice (some ⟨wr.heap.size, 0, none⟩) 2 2)).run Try.prog (wr.alloc (.cells #[.int .u8 ((i : Int) / 256), .int .u8 ((i : Int) % 256)] 5)) = .ok (.string kk) (wr.alloc (.cells #[.int .u8 ((i : Int) / 256), .int .u8 ((i : Int) % 256)] 5)) := by
      rw [← hkk]
      refine run_convert_bytes_arg _ 44 5 Try.underlying44 Try.underlying5 _ 0 2 2 _ (by simp) (fun j hj => ?_) 9 Try.underlying9
      have hj' : j = 0 ∨ j = 1 := by omega
      rcases hj' with rfl | rfl
      · exact hblk.cell (k := 0) rfl
      · exact hblk.cell (k := 1) rfl
    have hg1 := World.grownBy_alloc wr (.cells #[.int .u8 ((i : Int) / 256), .int .u8 ((i : Int) % 256)] 5) none
    have HO1 := Lib.hid (HO.out.gr hg1 (fun q e => nomatch e)); have HB1 := Lib.hid (hb_new HB.out hg1)
    clear hblk hkk hg1
    by_cases hin : (i : Int) < n % 600
    · have hd : decide ((i : Int) < n % 600) = true := decide_eq_true hin
      go_wp2_with fail
      refine (tput_any S _ _ L d kk i HO1.out (by omega)).mono ?_
      rintro e w2 ⟨d2, S2, rfl, hO2, hg2⟩
      have HO2 := Lib.hid hO2; have HB2 := Lib.hid (hbL HB1.out HLO.out hg2.but); have HLO2 := Lib.hid (hg2.lo HLO.out HB1.out.size); clear hO2 hg2 hconv
      go_wp2
      go_roundg (gk - 1)
      case rel => exact ⟨i + 1, _, d2, S2, by go_num, by omega, Nat.le_trans insL_le (by omega), by omega, HO2, HLO2, HB2⟩
      case measure => omega
    · have hd : decide ((i : Int) < n % 600) = false := decide_eq_false hin
      clear hconv HO1 HB1
      go_wp2
      go_loopg [7] (l.length + 1) (fun g s7 wr => ∃ (i : Nat) (L : List Kv) (d : Int) (S : Nat → Prop), s7 = .int .i64 i ∧ i ≤ 100 ∧ L.length ≤ 600 + i ∧ i ≤ l.length ∧ l.length + 1 ≤ i + g ∧ Hid (TrO S wr w.heap.size L d) ∧ Hid (∀ q, S q → w.heap.size ≤ q) ∧ Hid (Below w.heap.size w wr))
      case atStart => exact ⟨0, L, d, S, rfl, by omega, by omega, by omega, by omega, HO, HLO, HB⟩
      case round =>
        obtain ⟨i, L, d, S, rfl, hi, hLi, hil, hg, HO, HLO, HB⟩ := hrel
        by_cases hin : i < l.length ∧ i < 100
        · have hd1 : decide ((i : Int) < (l.length : Int)) = true := decide_eq_true (by omega)
          have hd2 : decide ((i : Int) < 100) = true := decide_eq_true (by omega)
          have HS2 := Lib.hid (HS.out.below HB.out)
          obtain ⟨b, off, rfl, k0, k1, k2, k3⟩ := tactAt HS2.out i hin.1
          obtain ⟨p, hp⟩ : ∃ p, p = l[i] := ⟨_, rfl⟩
          rw [← hp] at k0 k1 k2 k3
          clear hp k2
          by_cases hc : p.c = 2
          · rw [hc] at k0
            go_wp2_with fail
            refine (tdel_any S _ _ L d p.k HO.out (by omega)).mono ?_
            rintro e w2 ⟨d2, S2, rfl, hO2, hg2⟩
            have HO2 := Lib.hid hO2; have HB2 := Lib.hid (hbL HB.out HLO.out hg2.but); have HLO2 := Lib.hid (hg2.lo HLO.out HB.out.size)
            have hle : (delL L p.k).length ≤ 600 + i := Nat.le_trans delL_le (by omega)
            obtain ⟨f1, f2, f3, f4⟩ := hO2.flat (by omega)
            have F3 := Lib.hid f3; have F4 := Lib.hid f4
            obtain ⟨L2, hL2⟩ : ∃ L2, L2 = delL L p.k := ⟨_, rfl⟩
            rw [← hL2] at HO2 hle F3
            clear hO2 hg2 k0 k1 k3 f3 f4 hL2
            go_wp2_with fail
            refine (tdepth_any S2 _ _ _ d2 HO2.out).mono ?_
            rintro e w3 ⟨rfl, rfl⟩
            have e1 : decide (d2 < 0) = false := decide_eq_false (by omega)
            have e2 : decide (40 < d2) = false := decide_eq_false (by omega)
            go_wp2_with fail
            refine (tlen_any S2 _ _ _ d2 HO2.out).mono ?_
            rintro e w3 ⟨rfl, rfl⟩
            go_wp2_with fail
            refine (least15_any d2 _ f1 f2).mono ?_
            rintro e w3 ⟨rfl, rfl⟩
            obtain ⟨ld, hld⟩ : ∃ z : Int, z = ((lst d2.toNat : Nat) : Int) := ⟨_, rfl⟩
            have e3 : decide ((L2.length : Int) < ld) = false := decide_eq_false (by have := F3.out; omega)
            rw [← hld]; clear hld
            go_wp2
            go_roundg (gk - 1)
            case rel => exact ⟨i + 1, L2, d2, S2, by go_num, by omega, by omega, by omega, by omega, HO2, HLO2, HB2⟩
            case measure => omega
          · have hcd : decide (p.c = 2) = false := decide_eq_false hc
            have HW : Hid (∀ X, Dr wr X → Calls Try.prog 16 #[pt w.heap.size 0, .string p.k, .int .i64 p.v] X fun e w' => ∃ (d2 : Int) (S2 : Nat → Prop), e = .returned (.bool (hasL L p.k)) ∧ TrO S2 w' w.heap.size (insL L p.k p.v) d2 ∧ (∀ q, S2 q → w.heap.size ≤ q) ∧ Below w.heap.size w w') := Lib.hid fun X hX => by
              have hg := hX.grown
              refine (tput_any S X _ L d p.k p.v (HO.out.gr hg (fun q e => nomatch e)) (by omega)).mono ?_
              rintro e w2 ⟨d2, S2, rfl, hO2, hg2⟩
              have hb1 := hb_new HB.out hg
              exact ⟨d2, S2, rfl, hO2, hg2.lo HLO.out hb1.size, hbL hb1 HLO.out hg2.but⟩
            go_wp2_with fail
            go_region_law (first | (go_simp; go_at_call 16; refine Calls.mono (HW.out _ (by repeat (first | exact Dr.o | refine Dr.s ?_))) ?_; rintro e w2 ⟨d2, S2, rfl, hO2, hlo2, hb2⟩; have HO2 := Lib.hid hO2; have HLO2 := Lib.hid hlo2; have HB2 := Lib.hid hb2; clear hO2 hlo2 hb2))
            all_goals
              have hle : (insL L p.k p.v).length ≤ 600 + (i + 1) := Nat.le_trans insL_le (by omega)
              have hO2 := HO2.out
              obtain ⟨f1, f2, f3, f4⟩ := hO2.flat (by omega)
              have F3 := Lib.hid f3; have F4 := Lib.hid f4
              obtain ⟨L2, hL2⟩ : ∃ L2, L2 = insL L p.k p.v := ⟨_, rfl⟩
              rw [← hL2] at HO2 hle F3
              clear hO2 k0 k1 k3 f3 f4 hL2 HW
              go_wp2_with fail
              refine (tdepth_any S2 _ _ _ d2 HO2.out).mono ?_
              rintro e w3 ⟨rfl, rfl⟩
              have e1 : decide (d2 < 0) = false := decide_eq_false (by omega)
              have e2 : decide (40 < d2) = false := decide_eq_false (by omega)
              go_wp2_with fail
              refine (tlen_any S2 _ _ _ d2 HO2.out).mono ?_
              rintro e w3 ⟨rfl, rfl⟩
              go_wp2_with fail
              refine (least15_any d2 _ f1 f2).mono ?_
              rintro e w3 ⟨rfl, rfl⟩
              obtain ⟨ld, hld⟩ : ∃ z : Int, z = ((lst d2.toNat : Nat) : Int) := ⟨_, rfl⟩
              have e3 : decide ((L2.length : Int) < ld) = false := decide_eq_false (by have := F3.out; omega)
              rw [← hld]; clear hld
              go_wp2
              go_roundg (gk - 1)
              case rel => exact ⟨i + 1, L2, d2, S2, by go_num, by omega, by omega, by omega, by omega, HO2, HLO2, HB2⟩
              case measure => omega
        · have hd : ((decide ((i : Int) < (l.length : Int))) && (decide ((i : Int) < 100))) = false := by
            rcases Nat.lt_or_ge i l.length with q | q
            · have q2 : ¬ (i : Int) < 100 := by omega
              rw [decide_eq_false q2]; simp
            · have q2 : ¬ (i : Int) < (l.length : Int) := by omega
              rw [decide_eq_false q2]; rfl
          obtain ⟨f1, f2, f3, f4⟩ := HO.out.flat (by omega)
          have F4 := Lib.hid f4
          have e1 : decide (0 ≤ d) = true := decide_eq_true f1
          have e2 : decide (d ≤ 40) = true := decide_eq_true f2
          clear f4
          rcases Nat.lt_or_ge i l.length with q | q
          · have x1 : decide ((i : Int) < (l.length : Int)) = true := decide_eq_true (by omega)
            have x2 : decide ((i : Int) < 100) = false := decide_eq_false (by omega)
            clear hd hin
            go_wp2_with fail
            refine (tdepth_any S _ _ _ d HO.out).mono ?_
            rintro e w3 ⟨rfl, rfl⟩
            go_wp2_with fail
            refine (tlen_any S _ _ _ d HO.out).mono ?_
            rintro e w3 ⟨rfl, rfl⟩
            go_wp2_with fail
            refine (least15_any d _ f1 f2).mono ?_
            rintro e w3 ⟨rfl, rfl⟩
            obtain ⟨ld, hld⟩ : ∃ z : Int, z = ((lst d.toNat : Nat) : Int) := ⟨_, rfl⟩
            obtain ⟨ln, hln⟩ : ∃ z : Int, z = ((L.length : Nat) : Int) := ⟨_, rfl⟩
            have e3 : decide (ld ≤ ln) = true := decide_eq_true (by omega)
            have HLN := Lib.hid hln
            have e4 : (d == 0) = (ln == 0) := by rw [hln]; exact decide_eq_decide.2 F4.out
            rw [← hld, ← hln]; clear hld hln f3
            go_wp2_with fail
            refine (tlen_any S _ _ _ d HO.out).mono ?_
            rintro e w3 ⟨rfl, rfl⟩
            rw [← HLN.out]
            cases e5 : (ln == 0) with
            | true =>
              rw [e5] at e4
              go_wp2_with fail
              refine (awake15 _).mono ?_
              rintro e w5 ⟨rfl, hb5⟩
              have HB5 := Lib.hid (hb_call HB.out hb5); clear hb5
              go_wp2
              go_ret
              exact ⟨rfl, HB5.out⟩
            | false =>
              rw [e5] at e4
              go_wp2_with fail
              refine (awake15 _).mono ?_
              rintro e w5 ⟨rfl, hb5⟩
              have HB5 := Lib.hid (hb_call HB.out hb5); clear hb5
              go_wp2
              go_ret
              exact ⟨rfl, HB5.out⟩
          · have x1 : decide ((i : Int) < (l.length : Int)) = false := decide_eq_false (by omega)
            clear hd hin
            go_wp2_with fail
            refine (tdepth_any S _ _ _ d HO.out).mono ?_
            rintro e w3 ⟨rfl, rfl⟩
            go_wp2_with fail
            refine (tlen_any S _ _ _ d HO.out).mono ?_
            rintro e w3 ⟨rfl, rfl⟩
            go_wp2_with fail
            refine (least15_any d _ f1 f2).mono ?_
            rintro e w3 ⟨rfl, rfl⟩
            obtain ⟨ld, hld⟩ : ∃ z : Int, z = ((lst d.toNat : Nat) : Int) := ⟨_, rfl⟩
            obtain ⟨ln, hln⟩ : ∃ z : Int, z = ((L.length : Nat) : Int) := ⟨_, rfl⟩
            have e3 : decide (ld ≤ ln) = true := decide_eq_true (by omega)
            have HLN := Lib.hid hln
            have e4 : (d == 0) = (ln == 0) := by rw [hln]; exact decide_eq_decide.2 F4.out
            rw [← hld, ← hln]; clear hld hln f3
            go_wp2_with fail
            refine (tlen_any S _ _ _ d HO.out).mono ?_
            rintro e w3 ⟨rfl, rfl⟩
            rw [← HLN.out]
            cases e5 : (ln == 0) with
            | true =>
              rw [e5] at e4
              go_wp2_with fail
              refine (awake15 _).mono ?_
              rintro e w5 ⟨rfl, hb5⟩
              have HB5 := Lib.hid (hb_call HB.out hb5); clear hb5
              go_wp2
              go_ret
              exact ⟨rfl, HB5.out⟩
            | false =>
              rw [e5] at e4
              go_wp2_with fail
              refine (awake15 _).mono ?_
              rintro e w5 ⟨rfl, hb5⟩
              have HB5 := Lib.hid (hb_call HB.out hb5); clear hb5
              go_wp2
              go_ret
              exact ⟨rfl, HB5.out⟩
end Go.Proofs.Ythmljllgfigebaa
