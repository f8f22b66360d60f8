/- Package varnum: what Get answers for every text and place; what was put is got. Conditions: texts of at most 2^63-1 bytes. -/
import Derived.Test.YthmljllgfigebaaVnA
namespace Go.Proofs.Ythmljllgfigebaa
open Go.RowKit Go.PlainAid

set_option maxRecDepth 100000 in
set_option maxHeartbeats 400000 in
theorem get_direct (s : ByteArray) (a : Nat) (w : World) (hs : s.size ≤ 9223372036854775807) (ha : a < s.size) (hd : bt s a < 248) :
    Calls Try.prog 138 #[.string s, .int .i64 a] w fun e w' => e = .returned (.tuple #[.int .u64 (bt s a), .int .i64 (a + 1), .int .i64 0]) ∧ w = w' := by
  have hb := get_bt s
  have hb0 := bt_nonneg s a
  have hne : ((a : Int) == (s.size : Int)) = false := by simp; omega
  go_enter Try.func138, Try.ntmps138
  go_wp2
  go_ret3
  exact ⟨rfl, rfl⟩

set_option maxRecDepth 100000 in
set_option maxHeartbeats 400000 in
theorem get_none (s : ByteArray) (a : Int) (w : World) (ha : a < 0 ∨ (s.size : Int) < a) :
    Calls Try.prog 138 #[.string s, .int .i64 a] w fun e w' => e = .returned (.tuple #[.int .u64 0, .int .i64 0, .int .i64 1]) ∧ w = w' := by
  rcases ha with ha | ha
  · go_enter Try.func138, Try.ntmps138
    go_wp2
    go_ret3
    exact ⟨rfl, rfl⟩
  · have h0 : ¬ a < 0 := by omega
    go_enter Try.func138, Try.ntmps138
    go_wp2
    go_ret3
    exact ⟨rfl, rfl⟩

set_option maxRecDepth 100000 in
set_option maxHeartbeats 400000 in
theorem get_end (s : ByteArray) (w : World) :
    Calls Try.prog 138 #[.string s, .int .i64 s.size] w fun e w' => e = .returned (.tuple #[.int .u64 0, .int .i64 0, .int .i64 2]) ∧ w = w' := by
  go_enter Try.func138, Try.ntmps138
  go_wp2
  go_ret3
  exact ⟨rfl, rfl⟩

set_option maxRecDepth 100000 in
set_option maxHeartbeats 400000 in
theorem get_short (s : ByteArray) (a : Nat) (w : World) (_hs : s.size ≤ 9223372036854775807) (ha : a < s.size) (hd : 248 ≤ bt s a) (hl : (s.size : Int) - a - 1 < bt s a - 247) :
    Calls Try.prog 138 #[.string s, .int .i64 a] w fun e w' => e = .returned (.tuple #[.int .u64 0, .int .i64 0, .int .i64 2]) ∧ w = w' := by
  have hb := get_bt s
  have hb0 := bt_le s a
  have hne : ((a : Int) == (s.size : Int)) = false := by simp; omega
  go_enter Try.func138, Try.ntmps138
  go_wp2
  go_ret3
  exact ⟨rfl, rfl⟩

/-- The number that k bytes of s behind place a make. -/
def val (s : ByteArray) (a : Nat) : Nat → Int
  | 0 => 0
  | k + 1 => val s a k * 256 + bt s (a + k)
theorem val_nonneg (s : ByteArray) (a k : Nat) : 0 ≤ val s a k := by
  induction k with
  | zero => simp [val]
  | succ k ih => have := bt_nonneg s (a + k); simp only [val]; omega
theorem val_lt (s : ByteArray) (a k : Nat) : val s a k < 256 ^ k := by
  induction k with
  | zero => simp [val]
  | succ k ih => have := bt_le s (a + k); simp only [val, Int.pow_succ]; omega

theorem or_low (v b : Int) (h0 : 0 ≤ v) (h1 : v ≤ 72057594037927935) (b0 : 0 ≤ b) (b1 : b ≤ 255) : bits .or .u64 (v * 256) b = v * 256 + b := by
  obtain ⟨x, rfl⟩ := Int.eq_ofNat_of_zero_le h0
  obtain ⟨y, rfl⟩ := Int.eq_ofNat_of_zero_le b0
  have e : ((x : Int) * 256) = ((x * 256 : Nat) : Int) := by omega
  rw [e, u64_or_nat _ _ (by omega) (by omega)]
  have h := Nat.two_pow_add_eq_or_of_lt (i := 8) (b := y) (by omega) x
  rw [show x * 256 = 2 ^ 8 * x by omega, ← h]
  omega
theorem val_56 (s : ByteArray) (a i : Nat) (h : i < 8) : val s a i ≤ 72057594037927935 := by
  have v1 := val_lt s a i
  have : (256 : Nat) ^ i ≤ 256 ^ 7 := Nat.pow_le_pow_right (by decide) (by omega)
  have e : ((256 : Int) ^ i) = ((256 ^ i : Nat) : Int) := by rw [Int.natCast_pow]; rfl
  have : (256 : Nat) ^ 7 = 72057594037927936 := by decide
  omega

def getLong (s : ByteArray) (a k : Nat) : Value :=
  if lenOf (val s (a + 1) k) = 1 + k then .tuple #[.int .u64 (val s (a + 1) k), .int .i64 (a + 1 + k), .int .i64 0] else .tuple #[.int .u64 0, .int .i64 0, .int .i64 4]
theorem getLong_yes {s : ByteArray} {a k : Nat} (h : lenOf (val s (a + 1) k) = 1 + k) : getLong s a k = .tuple #[.int .u64 (val s (a + 1) k), .int .i64 (a + 1 + k), .int .i64 0] := if_pos h
theorem getLong_no {s : ByteArray} {a k : Nat} (h : ¬ lenOf (val s (a + 1) k) = 1 + k) : getLong s a k = .tuple #[.int .u64 0, .int .i64 0, .int .i64 4] := if_neg h

set_option maxRecDepth 100000 in
set_option maxHeartbeats 400000 in
theorem get_long (s : ByteArray) (a k : Nat) (w : World) (hs : s.size ≤ 9223372036854775807) (ha : a < s.size) (hk0 : 1 ≤ k) (hk8 : k ≤ 8) (hd : bt s a = 247 + k) (hl : a + k < s.size) :
    Calls Try.prog 138 #[.string s, .int .i64 a] w fun e w' => e = .returned (getLong s a k) ∧ w = w' := by
  have hb := get_bt s
  have hne : ((a : Int) == (s.size : Int)) = false := by simp; omega
  go_enter Try.func138, Try.ntmps138
  have hsub : (247 + (k : Int) - 247) = k := by omega
  go_wp2
  go_loopg [8, 45] (k + 1) (fun g s8 s45 wr => ∃ i : Nat, s8 = .int .u64 (val s (a + 1) i) ∧ s45 = .int .i64 i ∧ i ≤ k ∧ i + g ≤ k + 1 ∧ k + 1 ≤ i + g ∧ 1 ≤ g ∧ w = wr)
  case atStart => exact ⟨0, rfl, rfl, by omega, by omega, by omega, by omega, rfl⟩
  case round =>
    obtain ⟨i, rfl, rfl, hik, hg1, hg2, hg3, rfl⟩ := hrel
    have v0 := val_nonneg s (a + 1) i
    have v1 := val_lt s (a + 1) i
    by_cases hlt : i < k
    · have v2 := val_56 s (a + 1) i (by omega)
      have b0 := bt_nonneg s (a + 1 + i)
      have b1 := bt_le s (a + 1 + i)
      have hor := or_low _ _ v0 v2 b0 b1
      clear v1
      go_wp2
      go_roundg (gk - 1)
      case rel => exact ⟨i + 1, by simp [val], by go_num, by omega, by omega, by omega, by omega, rfl⟩
      case measure => omega
    · obtain rfl : k = i := by omega
      have v3 : val s (a + 1) k < 18446744073709551616 := by
        have : (256 : Nat) ^ k ≤ 256 ^ 8 := Nat.pow_le_pow_right (by decide) (by omega)
        have e : ((256 : Int) ^ k) = ((256 ^ k : Nat) : Int) := by rw [Int.natCast_pow]; rfl
        have : (256 : Nat) ^ 8 = 18446744073709551616 := by decide
        omega
      have H3 := Lib.hid v3; clear v3 v1
      by_cases hle : lenOf (val s (a + 1) k) = 1 + k
      · have HL := Lib.hid (getLong_yes hle)
        have hb1 : (lenOf (val s (a + 1) k) != 1 + (k : Int)) = false := by simp [hle]
        clear hle
        go_wp2_with (go_at_call 139; refine (len_any _ _ v0 H3.out).mono ?_; rintro e w' ⟨rfl, rfl⟩)
        go_ret3
        exact ⟨by rw [HL.out]; rfl, rfl⟩
      · have HL := Lib.hid (getLong_no hle)
        have hb1 : (lenOf (val s (a + 1) k) != 1 + (k : Int)) = true := by simp [hle]
        clear hle
        go_wp2_with (go_at_call 139; refine (len_any _ _ v0 H3.out).mono ?_; rintro e w' ⟨rfl, rfl⟩)
        go_ret3
        exact ⟨by rw [HL.out]; rfl, rfl⟩

/-- What Get answers: the number, the place behind it, the error. -/
def getR (s : ByteArray) (a : Int) : Int × Int × Int :=
  if a < 0 ∨ (s.size : Int) < a then (0, 0, 1) else if a = s.size then (0, 0, 2)
  else if bt s a.toNat < 248 then (bt s a.toNat, a + 1, 0)
  else if (s.size : Int) - a - 1 < bt s a.toNat - 247 then (0, 0, 2)
  else if lenOf (val s (a.toNat + 1) (bt s a.toNat - 247).toNat) = bt s a.toNat - 246 then (val s (a.toNat + 1) (bt s a.toNat - 247).toNat, a + 1 + (bt s a.toNat - 247), 0)
  else (0, 0, 4)
def getV (r : Int × Int × Int) : Value := .tuple #[.int .u64 r.1, .int .i64 r.2.1, .int .i64 r.2.2]

theorem get_any (s : ByteArray) (a : Int) (w : World) (hs : s.size ≤ 9223372036854775807) :
    Calls Try.prog 138 #[.string s, .int .i64 a] w fun e w' => e = .returned (getV (getR s a)) ∧ w = w' := by
  by_cases h1 : a < 0 ∨ (s.size : Int) < a
  · rw [show getR s a = (0, 0, 1) from if_pos h1]; exact get_none s a w h1
  obtain ⟨n, rfl⟩ := Int.eq_ofNat_of_zero_le (show 0 ≤ a by omega)
  unfold getR
  rw [if_neg h1, Int.toNat_natCast]
  by_cases h2 : (n : Int) = s.size
  · rw [if_pos h2, h2]; exact get_end s w
  rw [if_neg h2]
  have hn : n < s.size := by omega
  by_cases h3 : bt s n < 248
  · rw [if_pos h3]; exact get_direct s n w hs hn h3
  rw [if_neg h3]
  have hb := bt_le s n
  by_cases h4 : (s.size : Int) - n - 1 < bt s n - 247
  · rw [if_pos h4]; exact get_short s n w hs hn (by omega) h4
  rw [if_neg h4]
  obtain ⟨k, hk⟩ := Int.eq_ofNat_of_zero_le (show 0 ≤ bt s n - 247 by omega)
  rw [show bt s n - 246 = 1 + k by omega, hk, Int.toNat_natCast]
  have := get_long s n k w hs hn (by omega) (by omega) (by omega) (by omega)
  unfold getLong at this
  by_cases h5 : lenOf (val s (n + 1) k) = 1 + k
  · rw [if_pos h5] at this ⊢; exact this
  · rw [if_neg h5] at this ⊢; exact this

theorem bt_data (s : ByteArray) (i : Nat) : bt s i = ((s.data.toList.getD i 0).toNat : Int) := by
  unfold bt
  by_cases h : i < s.size
  · rw [dif_pos h]
    have h' : i < s.data.toList.length := by simpa using h
    simp only [List.getD, List.getElem?_eq_getElem h', Option.getD_some]
    rfl
  · rw [dif_neg h]
    have h' : s.data.toList.length ≤ i := by simpa using h
    simp [List.getD, List.getElem?_eq_none h']
theorem lenOf_bd (n : Int) : 1 ≤ lenOf n ∧ lenOf n ≤ 9 := by unfold lenOf; have := wd_bd n; split <;> omega
theorem putL_len (n : Int) : ((putL n).length : Int) = lenOf n := by
  unfold putL lenOf; have := wd_bd n
  split
  · rfl
  · simp [be_len]; omega
/-- The bytes from place a on are those of l. -/
def has (s : ByteArray) (a : Nat) (l : List UInt8) : Prop := ∀ j (h : j < l.length), bt s (a + j) = (l[j].toNat : Int)
theorem has_app {s : ByteArray} {a : Nat} {l m : List UInt8} (h : has s a (l ++ m)) : has s a l ∧ has s (a + l.length) m := by
  refine ⟨fun j hj => ?_, fun j hj => ?_⟩
  · have := h j (by simp; omega); rw [List.getElem_append_left hj] at this; exact this
  · have := h (l.length + j) (by simp; omega); rw [List.getElem_append_right (by omega)] at this; simpa [Nat.add_assoc] using this
theorem val_be {s : ByteArray} {a : Nat} (k n : Nat) (h : has s a (be k n)) : val s a k = ((n % 256 ^ k : Nat) : Int) := by
  induction k generalizing n with
  | zero => simp [val, Nat.mod_one]
  | succ k ih =>
    rw [be] at h
    obtain ⟨h1, h2⟩ := has_app h
    have hb := h2 0 (by simp)
    rw [be_len] at hb
    simp only [Nat.add_zero, List.getElem_cons_zero, UInt8.toNat_ofNat', show (2 : Nat) ^ 8 = 256 from rfl] at hb
    rw [val, ih _ h1, hb]
    have e : n % 256 ^ (k + 1) = n / 256 % 256 ^ k * 256 + n % 256 := by
      rw [Nat.pow_succ, Nat.mul_comm (256 ^ k) 256, Nat.mod_mul]; omega
    rw [e]; omega
theorem wd_pow (n : Int) (h1 : n < 18446744073709551616) : n.toNat < 256 ^ (wd n).toNat := by
  unfold wd; repeat' split
  all_goals simp; omega
theorem get_put {s : ByteArray} {a : Nat} (n : Int) (h0 : 0 ≤ n) (h1 : n < 18446744073709551616) (hs : a + (putL n).length ≤ s.size) (h : has s a (putL n)) : getR s a = (n, a + lenOf n, 0) := by
  have hl := putL_len n
  have hl2 := lenOf_bd n
  have hw := wd_bd n
  unfold getR
  rw [if_neg (by omega), if_neg (by omega), Int.toNat_natCast]
  by_cases hn : n < 248
  · rw [putL_small n hn] at h
    have hb := h 0 (by simp)
    simp only [Nat.add_zero, List.getElem_cons_zero, UInt8.toNat_ofNat', show (2 : Nat) ^ 8 = 256 from rfl] at hb
    rw [if_pos (by omega), lenOf_small n hn]
    congr 1; omega
  · have hlo := lenOf_big n hn
    rw [putL_big n hn] at h
    have hb := h 0 (by simp)
    simp only [Nat.add_zero, List.getElem_cons_zero, UInt8.toNat_ofNat', show (2 : Nat) ^ 8 = 256 from rfl] at hb
    have hb2 : bt s a = 247 + wd n := by omega
    rw [if_neg (by omega), if_neg (by omega), show bt s a - 247 = wd n by omega]
    have hv := val_be (wd n).toNat n.toNat ((has_app (l := [_]) h).2)
    rw [Nat.mod_eq_of_lt (wd_pow n h1)] at hv
    have hv2 : val s (a + 1) (wd n).toNat = n := by simp only [List.length_cons, List.length_nil, Nat.zero_add] at hv; omega
    rw [hv2, if_pos (by omega), hlo]
    congr 2; omega
end Go.Proofs.Ythmljllgfigebaa
