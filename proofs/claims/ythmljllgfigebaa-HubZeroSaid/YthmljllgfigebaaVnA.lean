/- Package varnum: what Put, Len and the count of bytes answer for every number. Conditions: none. -/
import Derived.Test.YthmljllgfigebaaLib
namespace Go.Proofs.Ythmljllgfigebaa
open Go.RowKit

def wd (n : Int) : Int :=
  if n < 256 then 1 else if n < 65536 then 2 else if n < 16777216 then 3 else if n < 4294967296 then 4
  else if n < 1099511627776 then 5 else if n < 281474976710656 then 6 else if n < 72057594037927936 then 7 else 8

theorem wd_step (m : Int) (h : 0 ≤ m) (h1 : m < 18446744073709551616) (h2 : m / 256 ≠ 0) : wd m = 1 + wd (m / 256) := by
  unfold wd; repeat' split
  all_goals omega
theorem wd_bd (m : Int) : 1 ≤ wd m ∧ wd m ≤ 8 := by unfold wd; repeat' split
                                                    all_goals omega
theorem wd_end (m : Int) (h2 : m / 256 = 0) : wd m = 1 := by
  unfold wd; rw [if_pos (by omega)]
def lenOf (n : Int) : Int := if n < 248 then 1 else 1 + wd n
theorem lenOf_small (n : Int) (h : n < 248) : lenOf n = 1 := if_pos h
theorem lenOf_big (n : Int) (h : ¬ n < 248) : lenOf n = 1 + wd n := if_neg h

/-- k bytes of n, the most significant one first. -/
def be : Nat → Nat → List UInt8
  | 0, _ => []
  | k + 1, n => be k (n / 256) ++ [UInt8.ofNat n]
theorem be_len (k n : Nat) : (be k n).length = k := by
  induction k generalizing n with
  | zero => rfl
  | succ k ih => simp [be, ih]
def putL (n : Int) : List UInt8 := if n < 248 then [UInt8.ofNat n.toNat] else UInt8.ofNat (247 + wd n).toNat :: be (wd n).toNat n.toNat
theorem putL_small (n : Int) (h : n < 248) : putL n = [UInt8.ofNat n.toNat] := if_pos h
theorem putL_big (n : Int) (h : ¬ n < 248) : putL n = UInt8.ofNat (247 + wd n).toNat :: be (wd n).toNat n.toNat := if_neg h


set_option maxRecDepth 100000 in
set_option maxHeartbeats 1600000 in
theorem width_any (n : Int) (w : World) (h0 : 0 ≤ n) (h1 : n < 18446744073709551616) :
    Calls Try.prog 137 #[.int .u64 n] w fun e w' => e = .returned (.int .i64 (wd n)) ∧ w = w' := by
  go_enter Try.func137, Try.ntmps137
  go_wp2; go_step3; go_wp2; go_step3; go_wp2
  go_loopg [0, 3] 10 (fun g s0 s3 wr => ∃ (m : Int) (k : Nat), s0 = .int .u64 m ∧ s3 = .int .i64 k ∧ 0 ≤ m ∧ m < 18446744073709551616 ∧ k + g ≤ 11 ∧ 11 ≤ k + g ∧ 1 ≤ g ∧ wd n + 1 = k + wd m ∧ w = wr)
  case atStart => exact ⟨n, 1, rfl, rfl, h0, h1, by omega, by omega, by omega, by omega, rfl⟩
  case round =>
    obtain ⟨m, k, rfl, rfl, hm0, hm1, hk, hk2, hg, hw, rfl⟩ := hrel
    have hk8 : k ≤ 10 := by omega
    have H := Lib.hid hw; have H1 := Lib.hid hm1; clear hw h1 hm1
    go_wp2
    · have hz : m / 256 = 0 := by simpa using ‹(m / 256 == 0) = true›
      rw [Exit.noGoto_ret]; go_ret
      have := H.out; have := wd_end m hz
      exact ⟨ret_int (by omega), rfl⟩
    · have hz : m / 256 ≠ 0 := by simpa using ‹(m / 256 == 0) = false›
      have := H.out; have := wd_step m hm0 H1.out hz; have := wd_bd (m/256); have := wd_bd n; have := H1.out
      go_roundg (gk - 1)
      case rel => exact ⟨m / 256, k + 1, rfl, by go_num, by omega, by omega, by omega, by omega, by omega, by omega, rfl⟩
      case measure => omega

set_option maxRecDepth 100000 in
set_option maxHeartbeats 1600000 in
theorem len_any (n : Int) (w : World) (h0 : 0 ≤ n) (h1 : n < 18446744073709551616) :
    Calls Try.prog 139 #[.int .u64 n] w fun e w' => e = .returned (.int .i64 (lenOf n)) ∧ w = w' := by
  have := wd_bd n
  have H1 := Lib.hid h1; clear h1
  by_cases h : n < 248
  · rw [lenOf_small n h]
    go_enter Try.func139, Try.ntmps139
    go_wp2
    go_ret
    exact ⟨rfl, rfl⟩
  · rw [lenOf_big n h]
    go_enter Try.func139, Try.ntmps139
    go_wp2_with (go_at_call 137; refine (width_any _ _ h0 H1.out).mono ?_; rintro e w' ⟨rfl, rfl⟩)
    go_ret
    exact ⟨rfl, rfl⟩

def str (l : List UInt8) : Value := .string ⟨l.toArray⟩

set_option maxRecDepth 100000 in
set_option maxHeartbeats 1600000 in
theorem put_small (n : Int) (w : World) (h0 : 0 ≤ n) (h1 : n < 248) :
    Calls Try.prog 131 #[.int .u64 n] w fun e w' => e = .returned (.string ⟨(putL n).toArray⟩) ∧ Below w.heap.size w w' := by
  have hc := run_convert_bytes_back (P := Try.prog) (w.alloc (.cells #[.int .u8 n] 5)) 44 9 5 ⟨w.heap.size, 0, none⟩ 1 (putL n) Try.underlying44 Try.underlying5 Try.underlying9
    (by rw [putL_small n h1]; intro j hj; simp at hj; subst hj; rw [Addr.add_lit, World.cell?_alloc_mark]; simp; omega)
  rw [show (putL n).length = 1 by rw [putL_small n h1]; rfl] at hc
  go_enter Try.func131, Try.ntmps131
  go_wp2
  go_ret
  exact ⟨rfl, (Below.refl _ _).alloc (Nat.le_refl _) _⟩

theorem info_u8 : (Try.prog.info? 5).map (fun i => (i.zero, i.size, i.bytes)) = some (some (.int .u8 0), 1, 1) := by kernel_rfl

def bs (l : List UInt8) : List Value := l.map fun b => .int .u8 (b.toNat : Int)

theorem byte_at (n : Int) (h : 0 ≤ n) (j : Nat) : n / 2 ^ (8 * j) % 256 = ((UInt8.ofNat (n.toNat / 256 ^ j)).toNat : Int) := by
  obtain ⟨m, rfl⟩ := Int.eq_ofNat_of_zero_le h
  rw [Int.toNat_natCast, UInt8.toNat_ofNat', show (2 : Int) ^ (8 * j) = ((256 ^ j : Nat) : Int) by rw [Int.pow_mul]; norm_cast, show (2 : Nat) ^ 8 = 256 from rfl, Int.natCast_emod, Int.natCast_ediv]
  rfl
theorem u8_head (k : Nat) (h : k ≤ 8) : (247 + (k : Int)) = ((UInt8.ofNat (247 + k)).toNat : Int) := by
  rw [UInt8.toNat_ofNat']; omega
theorem be_snoc (n k i : Nat) (h : i < k) : be (i + 1) (n / 256 ^ (k - (i + 1))) = be i (n / 256 ^ (k - i)) ++ [UInt8.ofNat (n / 256 ^ (k - 1 - i))] := by
  rw [be]
  have e1 : k - (i + 1) = k - 1 - i := by omega
  have e2 : k - i = (k - 1 - i) + 1 := by omega
  rw [e1, e2, Nat.pow_succ, Nat.div_div_eq_div_mul]
theorem bs_len (l : List UInt8) : (bs l).length = l.length := by simp [bs]
theorem bs_one (l : List UInt8) : ∀ u ∈ bs l, u.oneCell' = true := by
  intro u hu; obtain ⟨b, _, rfl⟩ := List.mem_map.1 hu; rfl
theorem bs_at {l : List UInt8} {j : Nat} (hj : j < l.length) : (bs l)[j]? = some (.int .u8 (l[j].toNat : Int)) := by
  simp [bs, List.getElem?_eq_getElem hj]
set_option maxRecDepth 100000 in
set_option maxHeartbeats 1600000 in
theorem put_big (n : Int) (w : World) (h0 : 248 ≤ n) (h1 : n < 18446744073709551616) :
    Calls Try.prog 131 #[.int .u64 n] w fun e w' => e = .returned (.string ⟨(putL n).toArray⟩) ∧ Below w.heap.size w w' := by
  obtain ⟨i0, hi, hz0, hz1, hz2⟩ := info_parts info_u8
  obtain ⟨hk1, hk8⟩ := wd_bd n
  have H1 := Lib.hid h1; clear h1
  obtain ⟨k, hk⟩ : ∃ k : Nat, (k : Int) = wd n := ⟨(wd n).toNat, by omega⟩
  rw [← hk] at hk1 hk8
  have HK := Lib.hid hk; clear hk
  go_enter Try.func131, Try.ntmps131
  go_wp2_with (first
    | (go_at_call 137; refine (width_any _ _ (by omega) H1.out).mono ?_; rintro e w' ⟨rfl, rfl⟩; rw [← HK.out])
    | (at_make; go_loud (refine wpList_make_own _ rfl (.const (.int .i64 0)) (.tmp 15) 44 rfl w.heap.size 5 i0 (.int .u8 0) 1 Try.underlying44 hi hz0 hz1 .i64 .i64 (1 + (k : Int)) (k + 1) rfl rfl (by omega) (by rw [hz2]; omega) (by unfold maxLen; omega) (Nat.le_refl _) ?_); intro w1 hown1 hgr1)
    | (at_builtin; refine wpList_append_fits _ rfl (.tmp 17) (.tmp 21) 44 rfl w.heap.size 5 i0 1 Try.underlying44 hi hz1 w.heap.size 0 (k+1) [] rfl (hown1.alloc _) ⟨w1.heap.size, 0, none⟩ 1 1 [.int .u8 (247 + (k : Int))] rfl rfl (one_cell _ _ _) (by simp [Value.oneCell']) (by omega) ?_; intro w2 hown2 hgr2))
  have B1 : Below w.heap.size w w2 := ((((Below.refl _ _).grown hgr1 (Nat.le_refl _) (by intro k h; cases h)).alloc (by have := hgr1.size; simpa using this) _).grown hgr2 (by have := hgr1.size; simp; omega) (by intro k h; cases h; exact Nat.le_refl _))
  go_loopg [4, 24] (k + 1) (fun g s4 s24 wr => ∃ i : Nat, s4 = .slice (some ⟨w.heap.size, 0, none⟩) (i + 1) (k + 1) ∧ s24 = .int .i64 i ∧ i ≤ k ∧ i + g ≤ k + 1 ∧ k + 1 ≤ i + g ∧ 1 ≤ g ∧
    wr.ownsRow w.heap.size 5 1 s4 (i + 1) (bs (UInt8.ofNat (247 + k) :: be i (n.toNat / 256 ^ (k - i)))) ∧ Below w.heap.size w wr)
  case atStart => exact ⟨0, rfl, rfl, by omega, by omega, by omega, by omega, by have := hown2; rw [u8_head k (by omega)] at this; exact this, B1⟩
  case round =>
    clear hown2 hown1 hgr1 hgr2 B1
    obtain ⟨i, rfl, rfl, hik, hg1, hg2, hg3, hown, hbel⟩ := hrel
    have hsz := hbel.size
    have HO := Lib.hid hown; clear hown
    by_cases hlt : i < k
    · go_wp2_with (at_builtin; refine wpList_append_fits _ rfl (.tmp 27) (.tmp 36) 44 rfl w.heap.size 5 i0 1 Try.underlying44 hi hz1 w.heap.size (i + 1) (k+1) _ rfl (HO.out.alloc _) ⟨wr.heap.size, 0, none⟩ 1 1 [.int .u8 (n / 2 ^ (8 * (k - 1 - i)) % 256)] rfl rfl (one_cell _ _ _) (by simp [Value.oneCell']) (by omega) ?_; intro w3 hown3 hgr3)
      have hown4 := hown3
      rw [byte_at n (by omega)] at hown4
      have e : bs (UInt8.ofNat (247 + k) :: be i (n.toNat / 256 ^ (k - i))) ++ [.int .u8 ((UInt8.ofNat (n.toNat / 256 ^ (k - 1 - i))).toNat : Int)] = bs (UInt8.ofNat (247 + k) :: be (i + 1) (n.toNat / 256 ^ (k - (i + 1)))) := by
        rw [be_snoc _ _ _ hlt]; simp [bs]
      rw [e] at hown4
      clear hown3
      go_roundg (gk - 1)
      case rel => exact ⟨i + 1, rfl, by go_num, by omega, by omega, by omega, by omega, hown4, (hbel.alloc hsz _).grown hgr3 (by simp; omega) (by intro k h; cases h; exact Nat.le_refl _)⟩
      case measure => omega
    · obtain rfl : k = i := by omega
      have hl : (putL n).length = k + 1 := by rw [putL_big n (by omega)]; have := HK.out; simp [be_len]; omega
      have he : putL n = UInt8.ofNat (247 + k) :: be k (n.toNat / 256 ^ (k - k)) := by
        rw [putL_big n (by omega), ← HK.out, show (247 + (k : Int)).toNat = 247 + k by omega, Int.toNat_natCast, Nat.sub_self, Nat.pow_zero, Nat.div_one]
      have HO2 := HO.out
      rw [← he] at HO2
      have hc := run_convert_bytes_back (P := Try.prog) wr 44 9 5 ⟨w.heap.size, 0, none⟩ (k + 1) (putL n) Try.underlying44 Try.underlying5 Try.underlying9
        (by intro j hj; exact HO2.cells (g := w.heap.size) rfl j _ (bs_at hj))
      rw [hl] at hc
      have hb1 := wd_bd n
      clear HO HO2 he hl
      go_wp2
      go_ret
      exact ⟨rfl, hbel⟩

theorem put_any (n : Int) (w : World) (h0 : 0 ≤ n) (h1 : n < 18446744073709551616) :
    Calls Try.prog 131 #[.int .u64 n] w fun e w' => e = .returned (.string ⟨(putL n).toArray⟩) ∧ Below w.heap.size w w' := by
  by_cases h : n < 248
  · exact put_small n w h0 h
  · exact put_big n w (by omega) h1
end Go.Proofs.Ythmljllgfigebaa
