/- catenaref03: the sum bit by bit. Conditions: none. -/
import Derived.Test.YtlchdphgnmcaeaaDoorSumA
namespace Go.Proofs.YtlchdphgnmcaeaaDoor
open Go.RowKit Go.PlainAid

theorem bits_and_1 (a : Nat) (ha : a < 4294967296) : bits .and .u32 (a : Int) 1 = ((a % 2 : Nat) : Int) := by
  have h1 : (BitVec.ofInt 32 (a : Int)).toNat = a := by
    rw [BitVec.ofInt_natCast, BitVec.toNat_ofNat]; exact Nat.mod_eq_of_lt (by omega)
  show IntKind.u32.wrap ((BitVec.ofInt 32 (a : Int) &&& BitVec.ofInt 32 1).toNat : Int) = _
  have h2 : (BitVec.ofInt 32 1).toNat = 1 := by decide
  rw [BitVec.toNat_and, h1, h2, wrap_u32, show (1 : Nat) = 2 ^ 1 - 1 by rfl, Nat.and_two_pow_sub_one_eq_mod]
  omega
theorem lfn_succ : ∀ (k c : Nat), lfn (k + 1) c = lfs (lfn k c)
  | 0, _ => rfl
  | k + 1, c => by show lfn (k + 1) (lfs c) = _; rw [lfn_succ k (lfs c)]; rfl

set_option maxRecDepth 100000 in
set_option maxHeartbeats 1600000 in
theorem radd_any (c : Nat) (s : ByteArray) (w : World) (hc : c < 4294967296) (hs : s.size ≤ 9223372036854775807) :
    Calls Tryd.prog 24 #[.int .u32 c, .string s] w fun e w' => e = .returned (.int .u32 (addOf c s.data.toList : Nat)) ∧ w = w' := by
  have hnot := bits_not_u32 c hc
  have hcl := comp_lt c
  obtain ⟨c0, hc0⟩ : ∃ c0, c0 = comp c := ⟨_, rfl⟩
  rw [← hc0] at hcl hnot
  have HC0 := Lib.hid hc0
  clear hc0
  go_enter Tryd.func24, Tryd.ntmps24
  go_wp2
  clear hnot
  go_loopg [5, 6] (s.size + 1) (fun g s5 s6 wr => ∃ i c : Nat, s6 = .int .i64 i ∧ s5 = .int .u32 c ∧ i ≤ s.size ∧ s.size + 1 ≤ i + g ∧ Hid (c = run c0 (s.data.toList.take i)) ∧ c < 4294967296 ∧ w = wr)
  case atStart => exact ⟨0, c0, rfl, rfl, by omega, by omega, rfl, hcl, rfl⟩
  case round =>
    obtain ⟨i, x, rfl, rfl, hi, hg, hx, hxl, rfl⟩ := hrel
    obtain ⟨gO, hgO⟩ : ∃ gO, gO = gk := ⟨_, rfl⟩
    by_cases hlt : i < s.size
    · obtain ⟨y, hy⟩ : ∃ y : UInt8, y = s[i] := ⟨_, rfl⟩
      have hy8 := u8_lt y
      obtain ⟨z, hz⟩ : ∃ z : Nat, z = x ^^^ y.toNat := ⟨_, rfl⟩
      have hzl : z < 4294967296 := by rw [hz]; exact Nat.xor_lt_two_pow (n := 32) hxl (by omega)
      have h1 : ((s[i].toNat : Nat) : Int) % 4294967296 = ((s[i].toNat : Nat) : Int) := by rw [← hy]; omega
      have h2 : bits .xor .u32 (x : Int) ((s[i].toNat : Nat) : Int) = (z : Int) := by rw [← hy, hz]; exact bits_xor_u32 _ _ hxl (by omega)
      have HR : Hid (lfn 8 z = run c0 (s.data.toList.take (i + 1))) := Lib.hid (by rw [take_snoc s i hlt, run_snoc, ← hy, ← hx.out, hz])
      clear hz hy hx
      go_wp2
      clear h1 h2
      go_loopg [5, 7] 9 (fun g s5 s7 wr2 => ∃ k c : Nat, s7 = .int .i64 k ∧ s5 = .int .u32 c ∧ k ≤ 8 ∧ 9 ≤ k + g ∧ Hid (c = lfn k z) ∧ c < 4294967296 ∧ w = wr2)
      case atStart => exact ⟨0, z, rfl, rfl, by omega, by omega, rfl, hzl, rfl⟩
      case round =>
        obtain ⟨k, c, rfl, rfl, hk, hg2, hc2, hcl2, rfl⟩ := hrel
        by_cases hk8 : k < 8
        · obtain ⟨q, hq⟩ : ∃ q : Nat, (c : Int) / 2 = (q : Int) := ⟨c / 2, by omega⟩
          by_cases hodd : c % 2 = 1
          · have h1 : bits .and .u32 (c : Int) 1 = 1 := by rw [bits_and_1 c hcl2, hodd]; rfl
            obtain ⟨t, ht⟩ : ∃ t : Nat, t = q ^^^ 3988292384 := ⟨_, rfl⟩
            have htl : t < 4294967296 := by rw [ht]; exact Nat.xor_lt_two_pow (n := 32) (by omega) (by decide)
            have h2 : bits .xor .u32 (q : Int) 3988292384 = (t : Int) := by rw [ht]; exact bits_xor_u32 q 3988292384 (by omega) (by decide)
            have HZ : Hid (t = lfn (k + 1) z) := Lib.hid (by
              rw [lfn_succ, ← hc2.out, ht]; unfold lfs; rw [if_pos hodd, show c / 2 = q by omega])
            clear ht hc2 hodd
            go_wp2
            go_roundg (gk - 1)
            case rel => exact ⟨k + 1, t, by go_num, rfl, by omega, by omega, HZ.out, htl, rfl⟩
            case measure => omega
          · have h1 : bits .and .u32 (c : Int) 1 = 0 := by rw [bits_and_1 c hcl2, show c % 2 = 0 by omega]; rfl
            have HZ : Hid (q = lfn (k + 1) z) := Lib.hid (by
              rw [lfn_succ, ← hc2.out]; unfold lfs; rw [if_neg hodd, Nat.xor_zero]; omega)
            have hql : q < 4294967296 := by omega
            clear hc2 hodd
            go_wp2
            go_roundg (gk - 1)
            case rel => exact ⟨k + 1, q, by go_num, rfl, by omega, by omega, HZ.out, hql, rfl⟩
            case measure => omega
        · have hk9 : k = 8 := by omega
          subst hk9
          have HR2 : Hid (c = run c0 (s.data.toList.take (i + 1))) := Lib.hid (by rw [hc2.out]; exact HR.out)
          clear hc2 HR
          go_wp2
          go_roundg (gO - 1)
          case rel => exact ⟨i + 1, c, by go_num, rfl, by omega, by omega, HR2.out, hcl2, rfl⟩
          case measure => omega
    · have hi2 : i = s.size := by omega
      have HE : Hid (bits .xor .u32 IntKind.u32.max (x : Int) = ((addOf c s.data.toList : Nat) : Int)) := Lib.hid (by
        rw [bits_not_u32 x hxl]
        have e := hx.out
        rw [List.take_of_length_le (by simp; omega), HC0.out] at e
        rw [e]; rfl)
      clear hi2 hx
      go_wp2
      go_ret
      exact ⟨ret_int HE.out, rfl⟩
set_option maxRecDepth 100000 in
set_option maxHeartbeats 800000 in
theorem rsum_any (s : ByteArray) (w : World) (hs : s.size ≤ 9223372036854775807) :
    Calls Tryd.prog 18 #[.string s] w fun e w' => e = .returned (.int .u32 (addOf 0 s.data.toList : Nat)) ∧ w = w' := by
  go_enter Tryd.func18, Tryd.ntmps18
  go_wp2_with fail
  refine (radd_any 0 s _ (by decide) hs).mono ?_
  rintro e w1 ⟨rfl, rfl⟩
  go_wp2
  go_ret
  exact ⟨rfl, rfl⟩
end Go.Proofs.YtlchdphgnmcaeaaDoor
