/- Package sum: Add. Conditions: none. -/
import Derived.Test.YtfjajahniocbkaaDoorSumD
namespace Go.Proofs.YtfjajahniocbkaaDoor
open Go.RowKit Go.PlainAid

theorem wrap_u8' (n : Int) : IntKind.u8.wrap n = n % 256 := by simp [IntKind.wrap, IntKind.bits, IntKind.signed]
theorem bits_xor_u8 (a b : Nat) (ha : a < 256) (hb : b < 256) : bits .xor .u8 (a : Int) (b : Int) = ((a ^^^ b : Nat) : Int) := by
  have hx : a ^^^ b < 2 ^ 8 := Nat.xor_lt_two_pow (by omega) (by omega)
  have h1 : (BitVec.ofInt 8 (a : Int)).toNat = a := by
    rw [BitVec.ofInt_natCast, BitVec.toNat_ofNat]; exact Nat.mod_eq_of_lt (by omega)
  have h2 : (BitVec.ofInt 8 (b : Int)).toNat = b := by
    rw [BitVec.ofInt_natCast, BitVec.toNat_ofNat]; exact Nat.mod_eq_of_lt (by omega)
  show IntKind.u8.wrap ((BitVec.ofInt 8 (a : Int) ^^^ BitVec.ofInt 8 (b : Int)).toNat : Int) = _
  rw [BitVec.toNat_xor, h1, h2, wrap_u8']
  omega
/-- One byte by the table, as the walk spells it. -/
theorem byte_step (c b : Nat) (hc : c < 4294967296) (hb : b < 256) : ∃ m t q z : Nat, (c : Int) % 256 = (m : Int) ∧ bits .xor .u8 (m : Int) (b : Int) = (t : Int) ∧ t < 256 ∧ (c : Int) / 256 = (q : Int) ∧ bits .xor .u32 (q : Int) ((lfn 8 t : Nat) : Int) = (z : Int) ∧ z = lfn 8 (c ^^^ b) ∧ z < 4294967296 := by
  have hx : c % 256 ^^^ b < 256 := Nat.xor_lt_two_pow (n := 8) (by omega) hb
  refine ⟨c % 256, c % 256 ^^^ b, c / 256, lfn 8 (c ^^^ b), by omega, bits_xor_u8 _ _ (by omega) hb, hx, by omega, ?_, rfl, lfn_lt 8 (Nat.xor_lt_two_pow (n := 32) hc (by omega))⟩
  have e1 : (c ^^^ b) / 256 = c / 256 := by
    have h := Nat.xor_div_two_pow (a := c) (b := b) (n := 8)
    rw [show (2 : Nat) ^ 8 = 256 by rfl, show b / 256 = 0 by omega, Nat.xor_zero] at h
    exact h
  have e2 : (c ^^^ b) % 256 = c % 256 ^^^ b := by
    have h := Nat.xor_mod_two_pow (a := c) (b := b) (n := 8)
    rw [show (2 : Nat) ^ 8 = 256 by rfl, show b % 256 = b by omega] at h
    exact h
  rw [bits_xor_u32 _ _ (by omega) (lfn_lt 8 (by omega)), lfn_8 (c ^^^ b), e1, e2]

set_option maxRecDepth 100000 in
set_option maxHeartbeats 1600000 in
theorem add_any (b : Nat) (d : Int) (T : Nat) (n : Int) (c : Nat) (s : ByteArray) (w : World) (h : Mk w b d 0 T n) (hd : d = 0 ∧ T = 0 ∨ d = 1 ∧ T = 256) (hn : 0 ≤ n) (hn2 : n < 1000000) (hc : c < 4294967296) (hs : s.size ≤ 9223372036854775807) :
    Calls Tryd.prog 11 #[.pointer (some ⟨b, 0, none⟩), .int .u32 c, .string s] w fun e w' => e = .returned (.int .u32 (addOf c s.data.toList : Nat)) ∧ Mk w' b 1 0 256 (n + 1) ∧ But (fun x => x = b) w w' := by
  have hmf : ∀ (fn : Fn) (first cap : Array Value) (w : World), (Instr.makeFunc fn first cap).run Tryd.prog w = .ok (.func fn first cap) w := fun _ _ _ _ => rfl
  have H := Lib.hid h
  have k0 := h.made
  have hnot := bits_not_u32 c hc
  have HD := Lib.hid hd
  clear h hd
  go_enter Tryd.func11, Tryd.ntmps11
  go_wp2_with fail
  refine (add64 _ _ n 1 _ H.out.used (H.out.fr 260) (by omega) (by omega)).mono ?_
  rintro e w1 ⟨rfl, hw1⟩
  have HM1 : Hid (Mk w1 b d 0 T (n + 1)) := Lib.hid (by rw [hw1]; exact H.out.setUsed _)
  have HB1 : Hid (But (fun x => x = b) w w1) := Lib.hid (by rw [hw1]; exact (But.refl _ _).store _ _)
  clear hw1 k0
  go_wp2_with fail
  refine (do_any b d T (n + 1) _ HM1.out HD.out).mono ?_
  rintro e w2 ⟨rfl, hm2, hb2⟩
  have HM2 := Lib.hid hm2; have HB2 := Lib.hid (HB1.out.trans hb2)
  clear hm2 hb2
  go_wp2_with fail
  have hcl := comp_lt c
  obtain ⟨c0, hc0⟩ : ∃ c0, c0 = comp c := ⟨_, rfl⟩
  rw [← hc0] at hcl
  simp only [← hc0]
  have HC0 := Lib.hid hc0
  clear hnot hc0
  go_loopg [1, 31] (s.size + 1) (fun g s1 s31 wr => ∃ i c : Nat, s31 = .int .i64 i ∧ s1 = .int .u32 c ∧ i ≤ s.size ∧ s.size + 1 ≤ i + g ∧ Hid (c = run c0 (s.data.toList.take i)) ∧ c < 4294967296 ∧ Mk wr b 1 0 256 (n + 1) ∧ But (fun x => x = b) w wr)
  case atStart => exact ⟨0, c0, rfl, rfl, by omega, by omega, rfl, hcl, HM2.out, HB2.out⟩
  case round =>
    obtain ⟨i, x, rfl, rfl, hi, hg, hx, hxl, hm, hb⟩ := hrel
    have HM := Lib.hid hm; have HB := Lib.hid hb; clear hm hb
    by_cases hlt : i < s.size
    · obtain ⟨y, hy⟩ : ∃ y : UInt8, y = s[i] := ⟨_, rfl⟩
      obtain ⟨m, t, q, z, h1, h2, ht, h3, h4, hz, hzl⟩ := byte_step x y.toNat hxl (u8_lt y)
      rw [hy] at h2
      obtain ⟨_, k1, k2⟩ := HM.out.tab t ht
      rw [k2 ht] at k1
      have HZ : Hid (z = run c0 (s.data.toList.take (i + 1))) := Lib.hid (by
        rw [take_snoc s i hlt, run_snoc, ← hy, ← hx.out, hz])
      clear hy hz hx k2
      go_wp2_with fail
      go_quiet (fail)
      have HM3 := Lib.hid HM.out
      go_wp2
      go_roundg (gk - 1)
      case rel => exact ⟨i + 1, z, by go_num, rfl, by omega, by omega, HZ.out, hzl, ⟨HM.out.made, HM.out.done, HM.out.lock, HM.out.tab, HM.out.used, HM.out.fr⟩, HB.out.draws _⟩
      case measure => omega
    · have hi2 : i = s.size := by omega
      have HE : Hid (bits .xor .u32 IntKind.u32.max (x : Int) = ((addOf c s.data.toList : Nat) : Int)) := Lib.hid (by
        rw [bits_not_u32 x hxl]
        have e := hx.out
        rw [List.take_of_length_le (by simp; omega), HC0.out] at e
        rw [e]; rfl)
      clear hi2 hx
      go_wp2
      go_ret
      exact ⟨ret_int HE.out, HM.out, HB.out⟩
end Go.Proofs.YtfjajahniocbkaaDoor
