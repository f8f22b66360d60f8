/- The reference of package varnum (needs, Put, Get, All): it answers what the package does. Conditions: texts of at most 2^63-1 bytes, for All 2^43. -/
import Derived.Test.YthmljllgfigebaaVnD
namespace Go.Proofs.Ythmljllgfigebaa
open Go.RowKit Go.PlainAid

def wz (x : Int) : Int := if x = 0 then 0 else wd x
theorem wz_step (x : Int) (h : 0 < x) (h1 : x < 18446744073709551616) : wz x = 1 + wz (x / 256) := by
  have := wd_end x; have := wd_step x (by omega) h1
  unfold wz; rw [if_neg (by omega)]
  split
  · have := wd_end x ‹_›; omega
  · have := wd_step x (by omega) h1 ‹_›; omega
theorem wd_wz (x : Int) (h : 0 ≤ x) (h1 : x < 18446744073709551616) : wd x = 1 + wz (x / 256) := by
  unfold wz; split
  · have := wd_end x ‹_›; omega
  · have := wd_step x h h1 ‹_›; omega
theorem wz_bd (x : Int) : 0 ≤ wz x ∧ wz x ≤ 8 := by have := wd_bd x; unfold wz; split <;> omega

set_option maxHeartbeats 400000 in
theorem needs_any (n : Int) (w : World) (h0 : 0 ≤ n) (h1 : n < 18446744073709551616) :
    Calls Try.prog 132 #[.int .u64 n] w fun e w' => e = .returned (.int .i64 (wd n)) ∧ w = w' := by
  have hw0 := Lib.hid (wd_wz n h0 h1)
  have h2 : n ≤ 18446744073709551615 := by omega
  clear h1
  go_enter Try.func132, Try.ntmps132
  go_wp2
  go_loopg [3, 4] 10 (fun g s3 s4 wr => ∃ (m : Int) (k : Nat), s4 = .int .u64 m ∧ s3 = .int .i64 k ∧ 0 ≤ m ∧ m ≤ 18446744073709551615 ∧ k + g ≤ 11 ∧ 11 ≤ k + g ∧ 1 ≤ k ∧ 0 ≤ wz m ∧ wz m ≤ 8 ∧ wd n = k + wz m ∧ w = wr)
  case atStart => exact ⟨n / 256, 1, rfl, rfl, by omega, by omega, by omega, by omega, by omega, (wz_bd _).1, (wz_bd _).2, hw0.out, rfl⟩
  case round =>
    obtain ⟨m, k, rfl, rfl, hm0, hm1, hk, hk2, hk1, hz0, hz1, hw, rfl⟩ := hrel
    have H := Lib.hid hw
    have hb := wd_bd n
    have hk9 : k ≤ 8 := by omega
    have HZ := Lib.hid hz1
    clear hw hb hz1 hz0
    by_cases hp : 0 < m
    · have hs := Lib.hid (wz_step m hp (by omega))
      go_wp2
      go_roundg (gk - 1)
      case rel => exact ⟨m / 256, k + 1, rfl, by go_num, by omega, by omega, by omega, by omega, by omega, (wz_bd _).1, (wz_bd _).2, by have := hs.out; have := H.out; omega, rfl⟩
      case measure => have := hs.out; have := H.out; have := wz_bd (m / 256); have := wd_bd n; omega
    · have e : wz m = 0 := by unfold wz; rw [if_pos (by omega)]
      have HE := Lib.hid (show wd n = k by have := H.out; omega)
      clear e
      go_wp2
      go_ret
      exact ⟨ret_int (by have := HE.out; omega), rfl⟩

set_option maxHeartbeats 400000 in
theorem rput_small (n : Int) (w : World) (h0 : 0 ≤ n) (h1 : n < 248) :
    Calls Try.prog 114 #[.int .u64 n] w fun e w' => e = .returned (.string ⟨(putL n).toArray⟩) ∧ Below w.heap.size w w' := by
  have hc := run_convert_bytes_back (P := Try.prog) (w.alloc (.cells #[.int .u8 n] 5)) 44 9 5 ⟨w.heap.size, 0, none⟩ 1 (putL n) Try.underlying44 Try.underlying5 Try.underlying9
    (by rw [putL_small n h1]; intro j hj; simp at hj; subst hj; rw [Addr.add_lit, World.cell?_alloc_mark]; simp; omega)
  rw [show (putL n).length = 1 by rw [putL_small n h1]; rfl] at hc
  go_enter Try.func114, Try.ntmps114
  go_wp2
  go_ret
  exact ⟨rfl, (Below.refl _ _).alloc (Nat.le_refl _) _⟩

theorem be_cons (j n : Nat) : be (j + 1) n = UInt8.ofNat (n / 256 ^ j) :: be j n := by
  induction j generalizing n with
  | zero => simp [be]
  | succ j ih =>
    rw [be, ih, be, List.cons_append, Nat.div_div_eq_div_mul, Nat.pow_succ, Nat.mul_comm 256]
/-- The bytes while they are written: i of them are still zero. -/
def half (k i n : Nat) : List UInt8 := UInt8.ofNat (247 + k) :: (List.replicate i 0 ++ be (k - i) n)
theorem half_len (k i n : Nat) (h : i ≤ k) : (half k i n).length = k + 1 := by simp [half, be_len]; omega
theorem half_set (k i n : Nat) (h : i < k) : (bs (half k (i + 1) n)).set (i + 1) (.int .u8 ((UInt8.ofNat (n / 256 ^ (k - (i + 1)))).toNat : Int)) = bs (half k i n) := by
  unfold half bs
  rw [show k - i = (k - (i + 1)) + 1 by omega, be_cons, List.map_cons, List.set_cons_succ, List.map_cons, List.map_append, List.map_append, List.replicate_succ', List.map_append]
  congr 1
  rw [List.append_assoc, List.set_append_right _ _ (by simp)]
  simp
theorem half_zero (k n : Nat) : bs (half k k n) = (Value.int .u8 ((UInt8.ofNat (247 + k)).toNat : Int)) :: List.replicate k (.int .u8 0) := by
  simp [half, bs, be]
theorem byte_mod (n : Int) (h : 0 ≤ n) (j : Nat) : n / 256 ^ j % 256 = ((UInt8.ofNat (n.toNat / 256 ^ j)).toNat : Int) := by
  rw [← byte_at n h j, Int.pow_mul]; rfl

set_option maxRecDepth 100000 in
set_option maxHeartbeats 400000 in
theorem rput_big (n : Int) (w : World) (h0 : 248 ≤ n) (h1 : n < 18446744073709551616) :
    Calls Try.prog 114 #[.int .u64 n] w fun e w' => e = .returned (.string ⟨(putL n).toArray⟩) ∧ Below w.heap.size w w' := by
  obtain ⟨i0, hi, hz0, hz1, hz2⟩ := info_parts info_u8
  obtain ⟨hk1, hk8⟩ := wd_bd n
  have h2 : n ≤ 18446744073709551615 := by omega
  have H1 := Lib.hid h1; clear h1
  obtain ⟨k, hk⟩ : ∃ k : Nat, (k : Int) = wd n := ⟨(wd n).toNat, by omega⟩
  rw [← hk] at hk1 hk8
  have HK := Lib.hid hk; clear hk
  go_enter Try.func114, Try.ntmps114
  go_wp2_with (first
    | (go_at_call 132; refine (needs_any _ _ (by omega) H1.out).mono ?_; rintro e w' ⟨rfl, rfl⟩; rw [← HK.out])
    | (at_make; refine wpList_make_full _ rfl (.tmp 15) (.tmp 15) 44 rfl w.heap.size 5 i0 (.int .u8 0) 1 Try.underlying44 hi hz0 hz1 .i64 .i64 (k + 1 : Int) (k + 1 : Int) (k + 1) rfl rfl (by omega) (by omega) (by rw [hz2]; omega) (by unfold maxLen; omega) (Nat.le_refl _) ?_; intro w1 hown1 hgr1; rw [made_rep _ rfl, Nat.mul_one] at hown1; have hc0 : w1.cell? ⟨w.heap.size, 0, none⟩ = some (.int .u8 0) := (by rw [hown1.cellAt 0 (by omega)]; rfl); have hf0 := hown1.frozenAt 0))
  obtain ⟨hown2, hgr2⟩ := hown1.stored 0 (.int .u8 (247 + (k : Int)))
  rw [u8_head k (by omega), show (List.replicate (k + 1) (Value.int .u8 0)).set 0 (.int .u8 ((UInt8.ofNat (247 + k)).toNat : Int)) = bs (half k k n.toNat) by rw [half_zero]; rfl] at hown2
  rw [u8_head k (by omega)] at hgr2
  have hbel2 : Below w.heap.size w (w1.setCell ⟨w.heap.size, 0, none⟩ (.int .u8 ((UInt8.ofNat (247 + k)).toNat : Int))) :=
    ((Below.refl _ _).grown hgr1 (Nat.le_refl _) (by intro k h; cases h)).grown hgr2 (by have := hgr1.size; omega) (by intro k h; cases h; exact Nat.le_refl _)
  rw [u8_head k (by omega)]
  clear hown1 hgr1 hgr2 hc0 hf0
  go_loopg [0, 5] (k + 1) (fun g s0 s5 wr => ∃ (i : Nat) (m : Int), s0 = .int .u64 m ∧ s5 = .int .i64 i ∧ m = n / 256 ^ (k - i) ∧ 0 ≤ m ∧ m ≤ 18446744073709551615 ∧ i ≤ k ∧ i + 1 ≤ g ∧
    wr.ownsRow w.heap.size 5 1 (.slice (some ⟨w.heap.size, 0, none⟩) (k + 1) (k + 1)) (k + 1) (bs (half k i n.toNat)) ∧ Below w.heap.size w wr)
  case atStart => exact ⟨k, n, rfl, rfl, by simp, by omega, h2, by omega, by omega, hown2, hbel2⟩
  case round =>
    clear hown2 hbel2
    obtain ⟨i, m, rfl, rfl, hm, hm0, hm1, hik, hg, hown, hbel⟩ := hrel
    have hsz := hbel.size
    have HO := Lib.hid hown; have HM := Lib.hid hm
    clear hown hm
    by_cases hi0 : 0 < i
    · obtain ⟨j, rfl⟩ : ∃ j, i = j + 1 := ⟨i - 1, by omega⟩
      have hl := half_len k (j + 1) n.toNat hik
      obtain ⟨u, hc0⟩ : ∃ u, wr.cell? ⟨w.heap.size, j + 1, none⟩ = some u :=
        ⟨_, by rw [HO.out.cellAt (j + 1) (by omega)]; exact bs_at (show j + 1 < (half k (j + 1) n.toNat).length by omega)⟩
      have hf0 := HO.out.frozenAt (j + 1)
      clear hl
      go_wp2
      obtain ⟨hown3, hgr3⟩ := HO.out.stored (j + 1) (.int .u8 (m % 256))
      have hb3 := hbel.grown hgr3 hsz (by intro k h; cases h; exact Nat.le_refl _)
      have e : m % 256 = ((UInt8.ofNat (n.toNat / 256 ^ (k - (j + 1)))).toNat : Int) := by rw [HM.out]; exact byte_mod n (by omega) _
      have hown4 := hown3
      rw [e, half_set k j n.toNat (by omega), ← e] at hown4
      clear hown3
      go_roundg (gk - 1)
      case rel => exact ⟨j, m / 256, rfl, by go_num, by rw [HM.out, show k - j = k - (j + 1) + 1 by omega, Int.pow_succ, Int.ediv_ediv_of_nonneg (Int.pow_nonneg (by decide))], by omega, by omega, by omega, by omega, hown4, hb3⟩
      case measure => omega
    · obtain rfl : i = 0 := by omega
      have hl : (putL n).length = k + 1 := by rw [putL_big n (by omega)]; have := HK.out; simp [be_len]; omega
      have he : putL n = half k 0 n.toNat := by
        rw [putL_big n (by omega), ← HK.out, show (247 + (k : Int)).toNat = 247 + k by omega, Int.toNat_natCast]; rfl
      have HO2 := HO.out
      rw [← he] at HO2
      have hc := run_convert_bytes_back (P := Try.prog) wr 44 9 5 ⟨w.heap.size, 0, none⟩ (k + 1) (putL n) Try.underlying44 Try.underlying5 Try.underlying9
        (by intro j hj; exact HO2.cells (g := w.heap.size) rfl j _ (bs_at hj))
      rw [hl] at hc
      clear HO HO2 he hl
      go_wp2
      go_ret
      exact ⟨rfl, hbel⟩

theorem rput_any (n : Int) (w : World) (h0 : 0 ≤ n) (h1 : n < 18446744073709551616) :
    Calls Try.prog 114 #[.int .u64 n] w fun e w' => e = .returned (.string ⟨(putL n).toArray⟩) ∧ Below w.heap.size w w' := by
  by_cases h : n < 248
  · exact rput_small n w h0 h
  · exact rput_big n w (by omega) h1
end Go.Proofs.Ythmljllgfigebaa
