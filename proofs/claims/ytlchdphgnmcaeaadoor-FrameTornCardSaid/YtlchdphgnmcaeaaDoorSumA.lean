/- Package sum: Sum, at every text. Conditions: the table reads as it is laid. -/
import Derived.Test.YtlchdphgnmcaeaaDoorLib
import Derived.Test.YtlchdphgnmcaeaaDoorCrc
namespace Go.Proofs.YtlchdphgnmcaeaaDoor
open Go.RowKit Go.PlainAid

/-- The table reads as it is laid. -/
def Tab (w : World) : Prop := ∀ i, i < 16 → w.cell? ⟨0, i, none⟩ = some (.int .u32 (lfn 4 i : Nat))
theorem wrap_u32 (n : Int) : IntKind.u32.wrap n = n % 4294967296 := by simp [IntKind.wrap, IntKind.bits, IntKind.signed]
theorem bits_xor_u32 (a b : Nat) (ha : a < 4294967296) (hb : b < 4294967296) : bits .xor .u32 (a : Int) (b : Int) = ((a ^^^ b : Nat) : Int) := by
  have hx : a ^^^ b < 2 ^ 32 := Nat.xor_lt_two_pow (by omega) (by omega)
  have h1 : (BitVec.ofInt 32 (a : Int)).toNat = a := by
    rw [BitVec.ofInt_natCast, BitVec.toNat_ofNat]; exact Nat.mod_eq_of_lt (by omega)
  have h2 : (BitVec.ofInt 32 (b : Int)).toNat = b := by
    rw [BitVec.ofInt_natCast, BitVec.toNat_ofNat]; exact Nat.mod_eq_of_lt (by omega)
  show IntKind.u32.wrap ((BitVec.ofInt 32 (a : Int) ^^^ BitVec.ofInt 32 (b : Int)).toNat : Int) = _
  rw [BitVec.toNat_xor, h1, h2, wrap_u32]
  omega

theorem bits_and_15 (a : Nat) (ha : a < 4294967296) : bits .and .u32 (a : Int) 15 = ((a % 16 : Nat) : Int) := by
  have h1 : (BitVec.ofInt 32 (a : Int)).toNat = a := by
    rw [BitVec.ofInt_natCast, BitVec.toNat_ofNat]; exact Nat.mod_eq_of_lt (by omega)
  show IntKind.u32.wrap ((BitVec.ofInt 32 (a : Int) &&& BitVec.ofInt 32 15).toNat : Int) = _
  have h2 : (BitVec.ofInt 32 15).toNat = 15 := by decide
  rw [BitVec.toNat_and, h1, h2, wrap_u32, show (15 : Nat) = 2 ^ 4 - 1 by rfl, Nat.and_two_pow_sub_one_eq_mod]
  omega
theorem bits_not_u32 (a : Nat) (ha : a < 4294967296) : bits .xor .u32 IntKind.u32.max (a : Int) = ((comp a : Nat) : Int) := by
  rw [comp_xor ha, Nat.xor_comm, ← bits_xor_u32 4294967295 a (by omega) ha]; rfl
/-- One half of a byte, as the walk spells it. -/
theorem half_step (x : Nat) (hx : x < 4294967296) : ∃ r q y : Nat, bits .and .u32 (x : Int) 15 = (r : Int) ∧ r < 16 ∧ (x : Int) / 16 = (q : Int) ∧ bits .xor .u32 (q : Int) ((lfn 4 r : Nat) : Int) = (y : Int) ∧ y = lfn 4 x ∧ y < 4294967296 :=
  ⟨x % 16, x / 16, lfn 4 x, bits_and_15 x hx, by omega, by omega, by
    rw [bits_xor_u32 _ _ (by omega) (lfn_lt 4 (by omega)), ← lfn_4], rfl, lfn_lt 4 hx⟩
theorem take_snoc (s : ByteArray) (k : Nat) (h : k < s.size) : s.data.toList.take (k + 1) = s.data.toList.take k ++ [s[k]] := by
  rw [List.take_succ_eq_append_getElem (by simpa using h)]; rfl

set_option maxRecDepth 100000 in
set_option maxHeartbeats 800000 in
theorem sum_any (s : ByteArray) (w : World) (ht : Tab w) (hs : s.size ≤ 9223372036854775807) :
    Calls Tryd.prog 15 #[.string s] w fun e w' => e = .returned (.int .u32 (addOf 0 s.data.toList : Nat)) ∧ w = w' := by
  have HT := Lib.hid ht; clear ht
  go_enter Tryd.func15, Tryd.ntmps15
  go_wp2
  go_loopg [3, 7] (s.size + 1) (fun g s3 s7 wr => ∃ i c : Nat, s7 = .int .i64 i ∧ s3 = .int .u32 c ∧ i ≤ s.size ∧ s.size + 1 ≤ i + g ∧ Hid (c = run 4294967295 (s.data.toList.take i)) ∧ c < 4294967296 ∧ w = wr)
  case atStart => exact ⟨0, 4294967295, rfl, rfl, by omega, by omega, rfl, by omega, rfl⟩
  case round =>
    obtain ⟨i, c, rfl, rfl, hi, hg, hc, hcl, rfl⟩ := hrel
    by_cases hlt : i < s.size
    · obtain ⟨b, hb⟩ : ∃ b : UInt8, b = s[i] := ⟨_, rfl⟩
      have hb8 := u8_lt b
      obtain ⟨x, hx⟩ : ∃ x : Nat, x = c ^^^ b.toNat := ⟨_, rfl⟩
      have hxl : x < 4294967296 := by rw [hx]; exact Nat.xor_lt_two_pow (n := 32) hcl (by omega)
      have h2 : bits .xor .u32 (c : Int) ((s[i].toNat : Nat) : Int) = (x : Int) := by rw [← hb, hx]; exact bits_xor_u32 _ _ hcl (by omega)
      have h1 : (((s[i].toNat : Nat) : Int)) % 4294967296 = ((s[i].toNat : Nat) : Int) := by rw [← hb]; omega
      obtain ⟨r, q, y, h3, hr, h4, h5, hy, hyl⟩ := half_step x hxl
      obtain ⟨r', q', z, h6, hr', h7, h8, hz, hzl⟩ := half_step y hyl
      have k1 := HT.out r hr
      have k2 := HT.out r' hr'
      have HZ : Hid (z = run 4294967295 (s.data.toList.take (i + 1))) := Lib.hid (by
        rw [take_snoc s i hlt, run_snoc, ← hb, ← hc.out, ← hx, hz, hy]; exact lfn_44 x)
      clear hx hy hz hb hc
      go_wp2
      go_roundg (gk - 1)
      case rel => exact ⟨i + 1, z, by go_num, rfl, by omega, by omega, HZ.out, hzl, rfl⟩
      case measure => omega
    · have hi2 : i = s.size := by omega
      have HE : Hid (bits .xor .u32 IntKind.u32.max (c : Int) = ((addOf 0 s.data.toList : Nat) : Int)) := Lib.hid (by
        rw [bits_not_u32 c hcl]
        have e := hc.out
        rw [List.take_of_length_le (by simp; omega)] at e
        rw [e]; rfl)
      clear hi2 hc
      go_wp2
      go_ret
      exact ⟨ret_int HE.out, rfl⟩
end Go.Proofs.YtlchdphgnmcaeaaDoor
