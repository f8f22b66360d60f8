/- Package agree: its reference's Horizon; the laws 'any marks, any pins' and 'never back'. Conditions: none. -/
import Derived.Test.YtannjgcnemkddaaAgreeA
namespace Go.Proofs.Ytannjgcnemkddaa
open Go.RowKit Go.PlainAid

set_option maxRecDepth 100000 in
set_option maxHeartbeats 800000 in
theorem rhorizon_any (old : Int) (vm vp : Value) (marks : List Int) (pins : List (Int × Int × Int)) (w : World)
    (hm : SliceOf (intE .u64) 1 w vm marks) (hmu : ∀ n ∈ marks, U64 n) (hp : SliceOf pinE 3 w vp pins) :
    Calls Try.prog 64 #[.int .u64 old, vm, vp] w fun e w' => e = .returned (.int .u64 (hz old marks pins)) ∧ w = w' := by
  have HM := Lib.hid hm
  by_cases h0 : marks.length = 0
  · have HZ := Lib.hid (hz_none (old := old) (pins := pins) h0)
    have hb : decide (0 < marks.length) = false := decide_eq_false (by omega)
    clear hm hp h0
    go_enter Try.func64, Try.ntmps64
    go_wp2_with fail
    refine (rLeast_any _ _ _ HM.out).mono ?_
    rintro e w' ⟨rfl, rfl⟩
    unfold leastV
    rw [hb]
    go_wp2
    go_ret
    exact ⟨by rw [HZ.out]; rfl, rfl⟩
  · have HZ := Lib.hid (hz_some (old := old) (pins := pins) h0)
    have hb : decide (0 < marks.length) = true := decide_eq_true (by omega)
    have hu := mn_u64 hmu
    obtain ⟨M, hM⟩ : ∃ M, M = mn marks := ⟨_, rfl⟩
    rw [← hM] at hu
    obtain ⟨u0, u1⟩ := hu
    obtain ⟨S, hS⟩ : ∃ S, S = M - min M 2 := ⟨_, rfl⟩
    have HZ2 := Lib.hid (show hz old marks pins = max old (mn (S :: pins.map (·.2.1))) by rw [HZ.out, ← hM, hS])
    have HMn := Lib.hid hM
    obtain ⟨ao, cap, rfl, hcap, hcm, _, hcell⟩ := hp
    have HC := Lib.hid hcell
    have hcl : pins.length ≤ 9223372036854775807 := by omega
    clear hm h0 hM hcell HZ
    by_cases hM2 : M < 2
    · have hS0 : S = 0 := by omega
      subst hS0
      clear hS
      go_enter Try.func64, Try.ntmps64
      go_wp2_with fail
      refine (rLeast_any _ _ _ HM.out).mono ?_
      rintro e w' ⟨rfl, rfl⟩
      unfold leastV
      rw [hb, ← HMn.out]
      go_wp2
      go_loopg [7, 9] (pins.length + 1) (fun g s7 s9 wr => ∃ i : Nat, s9 = .int .i64 i ∧ i ≤ pins.length ∧ pins.length + 1 ≤ i + g ∧ s7 = .int .u64 (mn (0 :: (pins.map (·.2.1)).take i)) ∧ w = wr)
      case atStart => exact ⟨0, rfl, by omega, by omega, rfl, rfl⟩
      case round =>
        obtain ⟨i, rfl, hil, hg, rfl, rfl⟩ := hrel
        by_cases hlt : i < pins.length
        · obtain ⟨b, off, rfl, hr⟩ := HC.out i hlt
          have hc := hr 1 _ rfl
          have hts : (pins.map (·.2.1)).take (i + 1) = (pins.map (·.2.1)).take i ++ [pins[i].2.1] := by rw [take_snoc (by simpa using hlt), List.getElem_map]
          obtain ⟨x, hx⟩ : ∃ x, x = pins[i].2.1 := ⟨_, rfl⟩
          rw [← hx] at hc hts
          have hsn := mn_snoc (0 :: (pins.map (·.2.1)).take i) x (by simp)
          obtain ⟨m, hm⟩ : ∃ m, m = mn (0 :: (pins.map (·.2.1)).take i) := ⟨_, rfl⟩
          rw [← hm] at hsn
          rw [← hm]
          have HSN := Lib.hid (show mn (0 :: (pins.map (·.2.1)).take (i + 1)) = if x < m then x else m by rw [hts]; exact hsn)
          clear hm hsn hts hr hx
          by_cases hxm : x < m
          · go_wp2
            go_roundg (gk - 1)
            case rel => exact ⟨i + 1, by go_num, by omega, by omega, by rw [HSN.out, if_pos hxm], rfl⟩
            case measure => omega
          · go_wp2
            go_roundg (gk - 1)
            case rel => exact ⟨i + 1, by go_num, by omega, by omega, by rw [HSN.out, if_neg (by omega)], rfl⟩
            case measure => omega
        · obtain ⟨m, hm⟩ : ∃ m, m = mn (0 :: (pins.map (·.2.1)).take i) := ⟨_, rfl⟩
          have HZ3 := Lib.hid (show hz old marks pins = max old m by rw [HZ2.out, hm, List.take_of_length_le (by simp; omega)])
          rw [← hm]
          clear hm
          go_wp2
          all_goals go_ret
          all_goals exact ⟨ret_int (by rw [HZ3.out]; omega), rfl⟩
    · have hS0 : S = M - 2 := by omega
      have hM3 : 2 ≤ M := by omega
      subst hS0
      clear hS
      go_enter Try.func64, Try.ntmps64
      go_wp2_with fail
      refine (rLeast_any _ _ _ HM.out).mono ?_
      rintro e w' ⟨rfl, rfl⟩
      unfold leastV
      rw [hb, ← HMn.out]
      go_wp2
      go_loopg [7, 9] (pins.length + 1) (fun g s7 s9 wr => ∃ i : Nat, s9 = .int .i64 i ∧ i ≤ pins.length ∧ pins.length + 1 ≤ i + g ∧ s7 = .int .u64 (mn ((M - 2) :: (pins.map (·.2.1)).take i)) ∧ w = wr)
      case atStart => exact ⟨0, rfl, by omega, by omega, rfl, rfl⟩
      case round =>
        obtain ⟨i, rfl, hil, hg, rfl, rfl⟩ := hrel
        by_cases hlt : i < pins.length
        · obtain ⟨b, off, rfl, hr⟩ := HC.out i hlt
          have hc := hr 1 _ rfl
          have hts : (pins.map (·.2.1)).take (i + 1) = (pins.map (·.2.1)).take i ++ [pins[i].2.1] := by rw [take_snoc (by simpa using hlt), List.getElem_map]
          obtain ⟨x, hx⟩ : ∃ x, x = pins[i].2.1 := ⟨_, rfl⟩
          rw [← hx] at hc hts
          have hsn := mn_snoc ((M - 2) :: (pins.map (·.2.1)).take i) x (by simp)
          obtain ⟨m, hm⟩ : ∃ m, m = mn ((M - 2) :: (pins.map (·.2.1)).take i) := ⟨_, rfl⟩
          rw [← hm] at hsn
          rw [← hm]
          have HSN := Lib.hid (show mn ((M - 2) :: (pins.map (·.2.1)).take (i + 1)) = if x < m then x else m by rw [hts]; exact hsn)
          clear hm hsn hts hr hx
          by_cases hxm : x < m
          · go_wp2
            go_roundg (gk - 1)
            case rel => exact ⟨i + 1, by go_num, by omega, by omega, by rw [HSN.out, if_pos hxm], rfl⟩
            case measure => omega
          · go_wp2
            go_roundg (gk - 1)
            case rel => exact ⟨i + 1, by go_num, by omega, by omega, by rw [HSN.out, if_neg (by omega)], rfl⟩
            case measure => omega
        · obtain ⟨m, hm⟩ : ∃ m, m = mn ((M - 2) :: (pins.map (·.2.1)).take i) := ⟨_, rfl⟩
          have HZ3 := Lib.hid (show hz old marks pins = max old m by rw [HZ2.out, hm, List.take_of_length_le (by simp; omega)])
          rw [← hm]
          clear hm
          go_wp2
          all_goals go_ret
          all_goals exact ⟨ret_int (by rw [HZ3.out]; omega), rfl⟩
end Go.Proofs.Ytannjgcnemkddaa
