/- Put together: VnBZt, VnDZt, VnFZt, FrameAZt, StrOpsZt, FrameBZt, CrcBZt, FrameDZt, BytesZt, FrameEaZt, FrameGZt, FrameLZt, FrameHZt, StrsZt, FrameIZt, ZwAZt, RfQZt, ZwBZt, ZwCZt, ZwDZt, ZwEZt, ZwFZt, ZdVZt, ZpAZt, ZwGZt, ZwHZt, ZpBZt, ZpCZt. Conditions: as each says. -/
import Derived.Test.YtfiplhnplmadmaaDoorZu1
import Derived.Laws.Concat
import Derived.Deep.RegionHeld3
import Derived.Laws.BytesArg
import Derived.Deep.OwnRows
import Derived.RangeFuncNested
import Derived.RangeFuncBound
import Derived.RangeFuncCalls
import Derived.RangeFuncLeaves
import Derived.RangeFuncBox
import Derived.Shelf.Abstract
import Derived.Shelf.RegionOpen
import Derived.WalkKit
import Derived.OwnWalkIn
import Derived.TacticsInMore
import Derived.LoopNIn
import Derived.LoopIn
import Derived.SliceStrings
import Derived.SizedLaws
import Derived.Maps.AppendAt
import Derived.ScopeJumps
import Derived.BigQuiet
/- Package varnum: what Get answers for every text and place; what was put is got. Conditions: texts of at most 2^63-1 bytes. -/
namespace Go.Proofs.YtfiplhnplmadmaaDoor
open Go.RowKit Go.PlainAid

set_option maxRecDepth 100000 in
set_option maxHeartbeats 400000 in
theorem get_direct (s : ByteArray) (a : Nat) (w : World) (hs : s.size ≤ 9223372036854775807) (ha : a < s.size) (hd : bt s a < 248) :
    Calls Tryd.prog 81 #[.string s, .int .i64 a] w fun e w' => e = .returned (.tuple #[.int .u64 (bt s a), .int .i64 (a + 1), .int .i64 0]) ∧ w = w' := by
  have hb := get_bt s
  have hb0 := bt_nonneg s a
  have hne : ((a : Int) == (s.size : Int)) = false := by simp; omega
  go_enter Tryd.func81, Tryd.ntmps81
  go_wp2
  go_ret3
  exact ⟨rfl, rfl⟩

set_option maxRecDepth 100000 in
set_option maxHeartbeats 400000 in
theorem get_none (s : ByteArray) (a : Int) (w : World) (ha : a < 0 ∨ (s.size : Int) < a) :
    Calls Tryd.prog 81 #[.string s, .int .i64 a] w fun e w' => e = .returned (.tuple #[.int .u64 0, .int .i64 0, .int .i64 1]) ∧ w = w' := by
  rcases ha with ha | ha
  · go_enter Tryd.func81, Tryd.ntmps81
    go_wp2
    go_ret3
    exact ⟨rfl, rfl⟩
  · have h0 : ¬ a < 0 := by omega
    go_enter Tryd.func81, Tryd.ntmps81
    go_wp2
    go_ret3
    exact ⟨rfl, rfl⟩

set_option maxRecDepth 100000 in
set_option maxHeartbeats 400000 in
theorem get_end (s : ByteArray) (w : World) :
    Calls Tryd.prog 81 #[.string s, .int .i64 s.size] w fun e w' => e = .returned (.tuple #[.int .u64 0, .int .i64 0, .int .i64 2]) ∧ w = w' := by
  go_enter Tryd.func81, Tryd.ntmps81
  go_wp2
  go_ret3
  exact ⟨rfl, rfl⟩

set_option maxRecDepth 100000 in
set_option maxHeartbeats 400000 in
theorem get_short (s : ByteArray) (a : Nat) (w : World) (_hs : s.size ≤ 9223372036854775807) (ha : a < s.size) (hd : 248 ≤ bt s a) (hl : (s.size : Int) - a - 1 < bt s a - 247) :
    Calls Tryd.prog 81 #[.string s, .int .i64 a] w fun e w' => e = .returned (.tuple #[.int .u64 0, .int .i64 0, .int .i64 2]) ∧ w = w' := by
  have hb := get_bt s
  have hb0 := bt_le s a
  have hne : ((a : Int) == (s.size : Int)) = false := by simp; omega
  go_enter Tryd.func81, Tryd.ntmps81
  go_wp2
  go_ret3
  exact ⟨rfl, rfl⟩

/-- The number that k bytes of s behind place a make. -/
def val (s : ByteArray) (a : Nat) : Nat → Int
  | 0 => 0
  | k + 1 => val s a k * 256 + bt s (a + k)
theorem val_nonneg (s : ByteArray) (a k : Nat) : 0 ≤ val s a k := by
  induction k with
  | zero => simp [val]
  | succ k ih => have := bt_nonneg s (a + k); simp only [val]; omega
theorem val_lt (s : ByteArray) (a k : Nat) : val s a k < 256 ^ k := by
  induction k with
  | zero => simp [val]
  | succ k ih => have := bt_le s (a + k); simp only [val, Int.pow_succ]; omega

theorem or_low (v b : Int) (h0 : 0 ≤ v) (h1 : v ≤ 72057594037927935) (b0 : 0 ≤ b) (b1 : b ≤ 255) : bits .or .u64 (v * 256) b = v * 256 + b := by
  obtain ⟨x, rfl⟩ := Int.eq_ofNat_of_zero_le h0
  obtain ⟨y, rfl⟩ := Int.eq_ofNat_of_zero_le b0
  have e : ((x : Int) * 256) = ((x * 256 : Nat) : Int) := by omega
  rw [e, u64_or_nat _ _ (by omega) (by omega)]
  have h := Nat.two_pow_add_eq_or_of_lt (i := 8) (b := y) (by omega) x
  rw [show x * 256 = 2 ^ 8 * x by omega, ← h]
  omega
theorem val_56 (s : ByteArray) (a i : Nat) (h : i < 8) : val s a i ≤ 72057594037927935 := by
  have v1 := val_lt s a i
  have : (256 : Nat) ^ i ≤ 256 ^ 7 := Nat.pow_le_pow_right (by decide) (by omega)
  have e : ((256 : Int) ^ i) = ((256 ^ i : Nat) : Int) := by rw [Int.natCast_pow]; rfl
  have : (256 : Nat) ^ 7 = 72057594037927936 := by decide
  omega

def getLong (s : ByteArray) (a k : Nat) : Value :=
  if lenOf (val s (a + 1) k) = 1 + k then .tuple #[.int .u64 (val s (a + 1) k), .int .i64 (a + 1 + k), .int .i64 0] else .tuple #[.int .u64 0, .int .i64 0, .int .i64 4]
theorem getLong_yes {s : ByteArray} {a k : Nat} (h : lenOf (val s (a + 1) k) = 1 + k) : getLong s a k = .tuple #[.int .u64 (val s (a + 1) k), .int .i64 (a + 1 + k), .int .i64 0] := if_pos h
theorem getLong_no {s : ByteArray} {a k : Nat} (h : ¬ lenOf (val s (a + 1) k) = 1 + k) : getLong s a k = .tuple #[.int .u64 0, .int .i64 0, .int .i64 4] := if_neg h

set_option maxRecDepth 100000 in
set_option maxHeartbeats 400000 in
theorem get_long (s : ByteArray) (a k : Nat) (w : World) (hs : s.size ≤ 9223372036854775807) (ha : a < s.size) (hk0 : 1 ≤ k) (hk8 : k ≤ 8) (hd : bt s a = 247 + k) (hl : a + k < s.size) :
    Calls Tryd.prog 81 #[.string s, .int .i64 a] w fun e w' => e = .returned (getLong s a k) ∧ w = w' := by
  have hb := get_bt s
  have hne : ((a : Int) == (s.size : Int)) = false := by simp; omega
  go_enter Tryd.func81, Tryd.ntmps81
  have hsub : (247 + (k : Int) - 247) = k := by omega
  go_wp2
  go_loopg [8, 45] (k + 1) (fun g s8 s45 wr => ∃ i : Nat, s8 = .int .u64 (val s (a + 1) i) ∧ s45 = .int .i64 i ∧ i ≤ k ∧ i + g ≤ k + 1 ∧ k + 1 ≤ i + g ∧ 1 ≤ g ∧ w = wr)
  case atStart => exact ⟨0, rfl, rfl, by omega, by omega, by omega, by omega, rfl⟩
  case round =>
    obtain ⟨i, rfl, rfl, hik, hg1, hg2, hg3, rfl⟩ := hrel
    have v0 := val_nonneg s (a + 1) i
    have v1 := val_lt s (a + 1) i
    by_cases hlt : i < k
    · have v2 := val_56 s (a + 1) i (by omega)
      have b0 := bt_nonneg s (a + 1 + i)
      have b1 := bt_le s (a + 1 + i)
      have hor := or_low _ _ v0 v2 b0 b1
      clear v1
      go_wp2
      go_roundg (gk - 1)
      case rel => exact ⟨i + 1, by simp [val], by go_num, by omega, by omega, by omega, by omega, rfl⟩
      case measure => omega
    · obtain rfl : k = i := by omega
      have v3 : val s (a + 1) k < 18446744073709551616 := by
        have : (256 : Nat) ^ k ≤ 256 ^ 8 := Nat.pow_le_pow_right (by decide) (by omega)
        have e : ((256 : Int) ^ k) = ((256 ^ k : Nat) : Int) := by rw [Int.natCast_pow]; rfl
        have : (256 : Nat) ^ 8 = 18446744073709551616 := by decide
        omega
      have H3 := Lib.hid v3; clear v3 v1
      by_cases hle : lenOf (val s (a + 1) k) = 1 + k
      · have HL := Lib.hid (getLong_yes hle)
        have hb1 : (lenOf (val s (a + 1) k) != 1 + (k : Int)) = false := by simp [hle]
        clear hle
        go_wp2_with (go_at_call 89; refine (len_any _ _ v0 H3.out).mono ?_; rintro e w' ⟨rfl, rfl⟩)
        go_ret3
        exact ⟨by rw [HL.out]; rfl, rfl⟩
      · have HL := Lib.hid (getLong_no hle)
        have hb1 : (lenOf (val s (a + 1) k) != 1 + (k : Int)) = true := by simp [hle]
        clear hle
        go_wp2_with (go_at_call 89; refine (len_any _ _ v0 H3.out).mono ?_; rintro e w' ⟨rfl, rfl⟩)
        go_ret3
        exact ⟨by rw [HL.out]; rfl, rfl⟩

/-- What Get answers: the number, the place behind it, the error. -/
def getR (s : ByteArray) (a : Int) : Int × Int × Int :=
  if a < 0 ∨ (s.size : Int) < a then (0, 0, 1) else if a = s.size then (0, 0, 2)
  else if bt s a.toNat < 248 then (bt s a.toNat, a + 1, 0)
  else if (s.size : Int) - a - 1 < bt s a.toNat - 247 then (0, 0, 2)
  else if lenOf (val s (a.toNat + 1) (bt s a.toNat - 247).toNat) = bt s a.toNat - 246 then (val s (a.toNat + 1) (bt s a.toNat - 247).toNat, a + 1 + (bt s a.toNat - 247), 0)
  else (0, 0, 4)
def getV (r : Int × Int × Int) : Value := .tuple #[.int .u64 r.1, .int .i64 r.2.1, .int .i64 r.2.2]

theorem get_any (s : ByteArray) (a : Int) (w : World) (hs : s.size ≤ 9223372036854775807) :
    Calls Tryd.prog 81 #[.string s, .int .i64 a] w fun e w' => e = .returned (getV (getR s a)) ∧ w = w' := by
  by_cases h1 : a < 0 ∨ (s.size : Int) < a
  · rw [show getR s a = (0, 0, 1) from if_pos h1]; exact get_none s a w h1
  obtain ⟨n, rfl⟩ := Int.eq_ofNat_of_zero_le (show 0 ≤ a by omega)
  unfold getR
  rw [if_neg h1, Int.toNat_natCast]
  by_cases h2 : (n : Int) = s.size
  · rw [if_pos h2, h2]; exact get_end s w
  rw [if_neg h2]
  have hn : n < s.size := by omega
  by_cases h3 : bt s n < 248
  · rw [if_pos h3]; exact get_direct s n w hs hn h3
  rw [if_neg h3]
  have hb := bt_le s n
  by_cases h4 : (s.size : Int) - n - 1 < bt s n - 247
  · rw [if_pos h4]; exact get_short s n w hs hn (by omega) h4
  rw [if_neg h4]
  obtain ⟨k, hk⟩ := Int.eq_ofNat_of_zero_le (show 0 ≤ bt s n - 247 by omega)
  rw [show bt s n - 246 = 1 + k by omega, hk, Int.toNat_natCast]
  have := get_long s n k w hs hn (by omega) (by omega) (by omega) (by omega)
  unfold getLong at this
  by_cases h5 : lenOf (val s (n + 1) k) = 1 + k
  · rw [if_pos h5] at this ⊢; exact this
  · rw [if_neg h5] at this ⊢; exact this

theorem bt_data (s : ByteArray) (i : Nat) : bt s i = ((s.data.toList.getD i 0).toNat : Int) := by
  unfold bt
  by_cases h : i < s.size
  · rw [dif_pos h]
    have h' : i < s.data.toList.length := by simpa using h
    simp only [List.getD, List.getElem?_eq_getElem h', Option.getD_some]
    rfl
  · rw [dif_neg h]
    have h' : s.data.toList.length ≤ i := by simpa using h
    simp [List.getD, List.getElem?_eq_none h']
theorem lenOf_bd (n : Int) : 1 ≤ lenOf n ∧ lenOf n ≤ 9 := by unfold lenOf; have := wd_bd n; split <;> omega
theorem putL_len (n : Int) : ((putL n).length : Int) = lenOf n := by
  unfold putL lenOf; have := wd_bd n
  split
  · rfl
  · simp [be_len]; omega
/-- The bytes from place a on are those of l. -/
def has (s : ByteArray) (a : Nat) (l : List UInt8) : Prop := ∀ j (h : j < l.length), bt s (a + j) = (l[j].toNat : Int)
theorem has_app {s : ByteArray} {a : Nat} {l m : List UInt8} (h : has s a (l ++ m)) : has s a l ∧ has s (a + l.length) m := by
  refine ⟨fun j hj => ?_, fun j hj => ?_⟩
  · have := h j (by simp; omega); rw [List.getElem_append_left hj] at this; exact this
  · have := h (l.length + j) (by simp; omega); rw [List.getElem_append_right (by omega)] at this; simpa [Nat.add_assoc] using this
theorem val_be {s : ByteArray} {a : Nat} (k n : Nat) (h : has s a (be k n)) : val s a k = ((n % 256 ^ k : Nat) : Int) := by
  induction k generalizing n with
  | zero => simp [val, Nat.mod_one]
  | succ k ih =>
    rw [be] at h
    obtain ⟨h1, h2⟩ := has_app h
    have hb := h2 0 (by simp)
    rw [be_len] at hb
    simp only [Nat.add_zero, List.getElem_cons_zero, UInt8.toNat_ofNat', show (2 : Nat) ^ 8 = 256 from rfl] at hb
    rw [val, ih _ h1, hb]
    have e : n % 256 ^ (k + 1) = n / 256 % 256 ^ k * 256 + n % 256 := by
      rw [Nat.pow_succ, Nat.mul_comm (256 ^ k) 256, Nat.mod_mul]; omega
    rw [e]; omega
theorem wd_pow (n : Int) (h1 : n < 18446744073709551616) : n.toNat < 256 ^ (wd n).toNat := by
  unfold wd; repeat' split
  all_goals simp; omega
theorem get_put {s : ByteArray} {a : Nat} (n : Int) (h0 : 0 ≤ n) (h1 : n < 18446744073709551616) (hs : a + (putL n).length ≤ s.size) (h : has s a (putL n)) : getR s a = (n, a + lenOf n, 0) := by
  have hl := putL_len n
  have hl2 := lenOf_bd n
  have hw := wd_bd n
  unfold getR
  rw [if_neg (by omega), if_neg (by omega), Int.toNat_natCast]
  by_cases hn : n < 248
  · rw [putL_small n hn] at h
    have hb := h 0 (by simp)
    simp only [Nat.add_zero, List.getElem_cons_zero, UInt8.toNat_ofNat', show (2 : Nat) ^ 8 = 256 from rfl] at hb
    rw [if_pos (by omega), lenOf_small n hn]
    congr 1; omega
  · have hlo := lenOf_big n hn
    rw [putL_big n hn] at h
    have hb := h 0 (by simp)
    simp only [Nat.add_zero, List.getElem_cons_zero, UInt8.toNat_ofNat', show (2 : Nat) ^ 8 = 256 from rfl] at hb
    have hb2 : bt s a = 247 + wd n := by omega
    rw [if_neg (by omega), if_neg (by omega), show bt s a - 247 = wd n by omega]
    have hv := val_be (wd n).toNat n.toNat ((has_app (l := [_]) h).2)
    rw [Nat.mod_eq_of_lt (wd_pow n h1)] at hv
    have hv2 : val s (a + 1) (wd n).toNat = n := by simp only [List.length_cons, List.length_nil, Nat.zero_add] at hv; omega
    rw [hv2, if_pos (by omega), hlo]
    congr 2; omega
end Go.Proofs.YtfiplhnplmadmaaDoor

/- Package varnum: the walk of the law 'there and back'. Conditions: texts within the form's own reach. -/
namespace Go.Proofs.YtfiplhnplmadmaaDoor
open Go.RowKit Go.PlainAid

theorem bt_app_left (a b : ByteArray) (i : Nat) (h : i < a.size) : bt (a ++ b) i = bt a i := by
  rw [bt_data, bt_data, ByteArray.data_append, Array.toList_append]
  simp only [List.getD, List.getElem?_append_left (show i < a.data.toList.length by simpa using h)]
theorem bt_app_right (a b : ByteArray) (i : Nat) : bt (a ++ b) (a.size + i) = bt b i := by
  rw [bt_data, bt_data, ByteArray.data_append, Array.toList_append]
  simp only [List.getD]
  rw [List.getElem?_append_right (show a.data.toList.length ≤ a.size + i by simp), show a.size + i - a.data.toList.length = i by simp]
theorem bt_lit (l : List UInt8) (i : Nat) (h : i < l.length) : bt ⟨l.toArray⟩ i = (l[i].toNat : Int) := by
  rw [bt_data]; simp [List.getD, List.getElem?_eq_getElem h]
theorem has_mid (a c : ByteArray) (l : List UInt8) : has (a ++ ⟨l.toArray⟩ ++ c) a.size l := by
  intro j hj
  rw [bt_app_left _ _ _ (by rw [ByteArray.size_append]; show _ < a.size + l.length; omega), bt_app_right, bt_lit _ _ hj]

theorem getR_go (s : ByteArray) (a : Nat) (h : (getR s a).2.2 = 0) : (a : Int) < (getR s a).2.1 ∧ (getR s a).2.1 ≤ s.size ∧ 0 ≤ (getR s a).1 ∧ (getR s a).1 < 18446744073709551616 := by
  unfold getR at h ⊢
  have b0 := bt_nonneg s (a : Int).toNat
  have b1 := bt_le s (a : Int).toNat
  split
  · rename_i h1; rw [if_pos h1] at h; simp at h
  rename_i h1; rw [if_neg h1] at h
  split
  · rename_i h2; rw [if_pos h2] at h; simp at h
  rename_i h2; rw [if_neg h2] at h
  split
  · simp only; omega
  rename_i h3; rw [if_neg h3] at h
  split
  · rename_i h4; rw [if_pos h4] at h; simp at h
  rename_i h4; rw [if_neg h4] at h
  split
  · have hv := val_nonneg s ((a : Int).toNat + 1) (bt s (a : Int).toNat - 247).toNat
    have hv1 := val_lt s ((a : Int).toNat + 1) (bt s (a : Int).toNat - 247).toNat
    have : (256 : Nat) ^ (bt s (a : Int).toNat - 247).toNat ≤ 256 ^ 8 := Nat.pow_le_pow_right (by decide) (by omega)
    have e : ((256 : Int) ^ (bt s (a : Int).toNat - 247).toNat) = ((256 ^ (bt s (a : Int).toNat - 247).toNat : Nat) : Int) := by rw [Int.natCast_pow]; rfl
    have : (256 : Nat) ^ 8 = 18446744073709551616 := by decide
    simp only; omega
  · rename_i h5; rw [if_neg h5] at h; simp at h

end Go.Proofs.YtfiplhnplmadmaaDoor

/- The reference of package varnum (needs, Put, Get, All): it answers what the package does. Conditions: texts of at most 2^63-1 bytes, for All 2^43. -/
namespace Go.Proofs.YtfiplhnplmadmaaDoor
open Go.RowKit Go.PlainAid

/-- The bytes while they are written: i of them are still zero. -/
def half (k i n : Nat) : List UInt8 := UInt8.ofNat (247 + k) :: (List.replicate i 0 ++ be (k - i) n)
end Go.Proofs.YtfiplhnplmadmaaDoor

/- Package frame, and the document's own: four bytes of a sum; Put. Conditions: the table reads as it is laid. -/
namespace Go.Proofs.YtfiplhnplmadmaaDoor
open Go.RowKit Go.PlainAid

def fourL (c : Nat) : List UInt8 := [UInt8.ofNat (c / 16777216), UInt8.ofNat (c / 65536), UInt8.ofNat (c / 256), UInt8.ofNat c]
def fourB (c : Nat) : ByteArray := ⟨(fourL c).toArray⟩
theorem four_cells (c : Nat) (w : World) (hc : c < 4294967296) : ∀ j (hj : j < (fourL c).length), (w.alloc (.cells #[.int .u8 ((c : Int) / 16777216), .int .u8 ((c : Int) / 65536 % 256), .int .u8 ((c : Int) / 256 % 256), .int .u8 ((c : Int) % 256)] 5)).cell? ((⟨w.heap.size, 0, none⟩ : Addr).add j) = some (.int .u8 ((fourL c)[j].toNat : Int)) := by
  intro j hj
  have h : (w.alloc (.cells #[.int .u8 ((c : Int) / 16777216), .int .u8 ((c : Int) / 65536 % 256), .int .u8 ((c : Int) / 256 % 256), .int .u8 ((c : Int) % 256)] 5)).heap[w.heap.size]? = some (.cells #[.int .u8 ((c : Int) / 16777216), .int .u8 ((c : Int) / 65536 % 256), .int .u8 ((c : Int) / 256 % 256), .int .u8 ((c : Int) % 256)] 5 (0, 0)) := by
    show (w.heap.push _)[w.heap.size]? = _
    simp
  have hj4 : j < 4 := hj
  rw [Addr.add_lit]
  unfold World.cell?
  rw [h]
  match j, hj4 with
  | 0, _ => simp [fourL]; omega
  | 1, _ => simp [fourL]
  | 2, _ => simp [fourL]
  | 3, _ => simp [fourL]
set_option maxHeartbeats 400000 in
theorem four_any (c : Nat) (w : World) (hc : c < 4294967296) :
    Calls Tryd.prog 49 #[.int .u32 c] w fun e w' => e = .returned (.string (fourB c)) ∧ Below w.heap.size w w' := by
  have hcv := run_convert_bytes_back (P := Tryd.prog) (w.alloc (.cells #[.int .u8 ((c : Int) / 16777216), .int .u8 ((c : Int) / 65536 % 256), .int .u8 ((c : Int) / 256 % 256), .int .u8 ((c : Int) % 256)] 5)) 75 9 5 ⟨w.heap.size, 0, none⟩ 4 (fourL c) Tryd.underlying75 Tryd.underlying5 Tryd.underlying9 (four_cells c w hc)
  rw [show (fourL c).length = 4 from rfl] at hcv
  go_enter Tryd.func49, Tryd.ntmps49
  go_wp2
  go_ret
  exact ⟨rfl, (Below.refl _ _).alloc (Nat.le_refl _) _⟩
theorem mk_size (l : List UInt8) : (⟨l.toArray⟩ : ByteArray).size = l.length := rfl
/-- A frame: how long the text is, the sum of that and the text, the text. -/
def numB (s : ByteArray) : ByteArray := ⟨(putL (s.size : Int)).toArray⟩
def frameB (s : ByteArray) : ByteArray := numB s ++ fourB (addOf 0 (numB s ++ s).data.toList) ++ s
theorem numB_size (s : ByteArray) : (numB s).size ≤ 9 := by
  have h := putL_len (s.size : Int)
  have h2 := lenOf_bd (s.size : Int)
  have : (numB s).size = (putL (s.size : Int)).length := mk_size _
  omega
def putR (s : ByteArray) : ByteArray × Int := if 65536 < s.size then (⟨#[]⟩, 3) else (frameB s, 0)
def putV (r : ByteArray × Int) : Value := .tuple #[.string r.1, .int .i64 r.2]

set_option maxRecDepth 100000 in
set_option maxHeartbeats 800000 in
theorem put_frame (s : ByteArray) (w : World) (ht : Tab w) (hs : s.size ≤ 140737488351232) :
    Calls Tryd.prog 32 #[.string s] w fun e w' => e = .returned (putV (putR s)) ∧ Below w.heap.size w w' := by
  by_cases h : 65536 < s.size
  · have HR := Lib.hid (show putR s = (⟨#[]⟩, 3) from if_pos h)
    rw [HR.out]
    clear ht
    go_enter Tryd.func32, Tryd.ntmps32
    go_wp2
    go_ret2
    exact ⟨rfl, Below.refl _ _⟩
  · have HR := Lib.hid (show putR s = (frameB s, 0) from if_neg h)
    rw [HR.out]
    have HT := Lib.hid ht
    have hnb := numB_size s
    have hsz : (numB s ++ s).size ≤ 9223372036854775807 := by rw [ByteArray.size_append]; omega
    have hn2 : ¬ (9223372036854775807 < (numB s).size + s.size) := by omega
    have hf4 : ∀ c, (fourB c).size = 4 := fun _ => rfl
    have hn3 : ¬ (9223372036854775807 < (numB s).size + (fourB (addOf 0 (numB s ++ s).data.toList)).size) := by rw [hf4]; omega
    have hn4 : ¬ (9223372036854775807 < (numB s ++ fourB (addOf 0 (numB s ++ s).data.toList)).size + s.size) := by rw [ByteArray.size_append, hf4]; omega
    obtain ⟨C, hC⟩ : ∃ C, addOf 0 (numB s ++ s).data.toList = C := ⟨_, rfl⟩
    have hCl : C < 4294967296 := by rw [← hC]; exact addOf_lt _ _
    rw [hC] at hn3 hn4
    have HF : Hid (frameB s = numB s ++ fourB C ++ s) := Lib.hid (by rw [← hC]; rfl)
    have HC := Lib.hid hC; have HSZ := Lib.hid hsz
    clear hC hsz hf4 ht
    have hwu : IntKind.u64.wrap (s.size : Int) = (s.size : Int) := u64_nonneg (by omega) (by omega)
    go_enter Tryd.func32, Tryd.ntmps32
    go_wp2_with fail
    refine (put_any (s.size : Int) _ (by omega) (by omega)).mono ?_
    rintro e w1 ⟨rfl, hb1⟩
    have HB1 := Lib.hid hb1; have HT1 := Lib.hid (HT.out.below hb1)
    clear hb1
    obtain ⟨nb, hnbe⟩ : ∃ nb, nb = numB s := ⟨_, rfl⟩
    have e1 : (⟨(putL (s.size : Int)).toArray⟩ : ByteArray) = nb := by rw [hnbe]; rfl
    rw [e1]
    rw [← hnbe] at hnb HSZ hn2 hn3 hn4 HC HF
    clear e1 hnbe hwu
    go_wp2_with fail
    refine (sum_is _ C _ HC.out HT1.out HSZ.out).mono ?_
    rintro e w2 ⟨rfl, rfl⟩
    go_wp2_with fail
    refine (four_any C _ hCl).mono ?_
    rintro e w2 ⟨rfl, hb2⟩
    have HB2 := Lib.hid (HB1.out.trans (hb2.mono HB1.out.size))
    clear hb2
    go_wp2
    go_ret2
    exact ⟨by rw [HF.out]; rfl, HB2.out⟩
end Go.Proofs.YtfiplhnplmadmaaDoor

/- Texts cut and put together: runs as equations. Conditions: none. -/
namespace Go.Proofs.YtfiplhnplmadmaaDoor
open Go.RowKit

theorem slice_run (s : ByteArray) (i j : Nat) (I J : Int) (hI : I = (i : Int)) (hJ : J = (j : Int)) (hij : i ≤ j) (hj : j ≤ s.size) (w : World) :
    (Instr.slice 9 (.string s) (some (.int .i64 I)) (some (.int .i64 J)) none).run Tryd.prog w = .ok (.string (s.extract i j)) w := by
  subst hI hJ
  rw [run_slice_string_if w 9 s .i64 .i64 (i : Int) (j : Int) Tryd.underlying9, if_pos ⟨by omega, by omega⟩, if_pos ⟨by omega, by omega⟩]
  simp
theorem concat_run (x y : ByteArray) (h : x.size + y.size ≤ 9223372036854775807) (w : World) : (Op.stringOp .add x y).run Tryd.prog w = .ok (.string (x ++ y)) w := run_string_add_sum w x y h
end Go.Proofs.YtfiplhnplmadmaaDoor

/- Package frame, and the document's own: Next. Conditions: the table reads as it is laid. -/
namespace Go.Proofs.YtfiplhnplmadmaaDoor
open Go.RowKit Go.PlainAid

def sumAt (s : ByteArray) (a b n : Nat) : Nat := addOf 0 (s.extract a b ++ s.extract (b + 4) (b + 4 + n)).data.toList
def nextG (s : ByteArray) (a b n : Nat) : ByteArray × Int × Int :=
  if 65536 < n then (⟨#[]⟩, 0, 3) else if s.size < b + (4 + n) then (⟨#[]⟩, 0, 2)
  else if ((fourB (sumAt s a b n)).toList == (s.extract b (b + 4)).toList) = true then (s.extract (b + 4) (b + 4 + n), ((b + 4 + n : Nat) : Int), 0) else (⟨#[]⟩, 0, 9)
def nextR (s : ByteArray) (a : Int) : ByteArray × Int × Int :=
  if (getR s a).2.2 = 0 then nextG s a.toNat (getR s a).2.1.toNat (getR s a).1.toNat else (⟨#[]⟩, 0, (getR s a).2.2)
def nextV (r : ByteArray × Int × Int) : Value := .tuple #[.string r.1, .int .i64 r.2.1, .int .i64 r.2.2]
def St (w wr : World) : Prop := Tab wr ∧ Below w.heap.size w wr
theorem St.below {w w1 w2 : World} (h : St w w1) (hb : Below w1.heap.size w1 w2) : St w w2 := ⟨h.1.below hb, h.2.trans (hb.mono h.2.size)⟩
theorem St.tab {w wr : World} (h : St w wr) : Tab wr := h.1
theorem St.since {w wr : World} (h : St w wr) : Below w.heap.size w wr := h.2
theorem St.start {w : World} (h : Tab w) : St w w.drew := ⟨h, (Below.refl _ _).drew⟩
theorem getR_nat (s : ByteArray) (a : Int) (h : (getR s a).2.2 = 0) : ∃ k : Nat, a = k := by
  refine ⟨a.toNat, ?_⟩
  by_cases h1 : a < 0 ∨ (s.size : Int) < a
  · rw [show getR s a = (0, 0, 1) from if_pos h1] at h; simp at h
  · omega

set_option maxRecDepth 100000 in
set_option maxHeartbeats 1600000 in
theorem next_err (s : ByteArray) (a : Int) (w : World) (hs : s.size ≤ 281474976710656) (h : ¬ (getR s a).2.2 = 0) :
    Calls Tryd.prog 64 #[.string s, .int .i64 a] w fun e w' => e = .returned (nextV (nextR s a)) ∧ Below w.heap.size w w' := by
  have HR := Lib.hid (show nextR s a = (⟨#[]⟩, 0, (getR s a).2.2) from if_neg h)
  rw [HR.out]
  obtain ⟨⟨n, b, e⟩, hg⟩ : ∃ g, g = getR s a := ⟨_, rfl⟩
  rw [← hg] at h ⊢
  have HG := Lib.hid hg.symm
  have hne : (e != 0) = true := by simpa using h
  clear hg h
  go_enter Tryd.func64, Tryd.ntmps64
  go_wp2_with fail
  refine (get_any s a _ (by omega)).mono ?_
  rintro e w1 ⟨rfl, rfl⟩
  rw [HG.out]
  unfold getV
  go_wp2
  go_ret3
  exact ⟨rfl, Below.refl _ _⟩
set_option maxRecDepth 100000 in
set_option maxHeartbeats 1600000 in
theorem next_good (s : ByteArray) (a b n : Nat) (w : World) (ht : Tab w) (hs : s.size ≤ 281474976710656) (h : getR s a = ((n : Int), (b : Int), 0)) (hab : a < b) (hbs : b ≤ s.size) (hn : n < 18446744073709551616) :
    Calls Tryd.prog 64 #[.string s, .int .i64 a] w fun e w' => e = .returned (nextV (nextG s a b n)) ∧ Below w.heap.size w w' := by
  have HG := Lib.hid h; have HT := Lib.hid ht
  clear h ht
  by_cases hbig : 65536 < n
  · have HR := Lib.hid (show nextG s a b n = (⟨#[]⟩, 0, 3) from if_pos hbig)
    rw [HR.out]
    go_enter Tryd.func64, Tryd.ntmps64
    go_wp2_with fail
    refine (get_any s a _ (by omega)).mono ?_
    rintro e w1 ⟨rfl, rfl⟩
    rw [HG.out]
    unfold getV
    go_wp2
    go_ret3
    exact ⟨rfl, Below.refl _ _⟩
  by_cases hsh : s.size < b + (4 + n)
  · have HR := Lib.hid (show nextG s a b n = (⟨#[]⟩, 0, 2) from by unfold nextG; rw [if_neg hbig, if_pos hsh])
    rw [HR.out]
    have hi : (s.size : Int) - (b : Int) < 4 + (n : Int) := by omega
    go_enter Tryd.func64, Tryd.ntmps64
    go_wp2_with fail
    refine (get_any s a _ (by omega)).mono ?_
    rintro e w1 ⟨rfl, rfl⟩
    rw [HG.out]
    unfold getV
    go_wp2
    go_ret3
    exact ⟨rfl, Below.refl _ _⟩
  have hi : ¬ ((s.size : Int) - (b : Int) < 4 + (n : Int)) := by omega
  have hR : nextG s a b n = if ((fourB (sumAt s a b n)).toList == (s.extract b (b + 4)).toList) = true then (s.extract (b + 4) (b + 4 + n), ((b + 4 + n : Nat) : Int), 0) else (⟨#[]⟩, 0, 9) := by unfold nextG; rw [if_neg hbig, if_neg hsh]
  have HR := Lib.hid hR
  obtain ⟨C, hC⟩ : ∃ C, addOf 0 (s.extract a b ++ s.extract (b + 4) (b + 4 + n)).data.toList = C := ⟨_, rfl⟩
  have hCl : C < 4294967296 := by rw [← hC]; exact addOf_lt _ _
  have hsz : (s.extract a b ++ s.extract (b + 4) (b + 4 + n)).size ≤ 9223372036854775807 := by rw [ByteArray.size_append, ByteArray.size_extract, ByteArray.size_extract]; omega
  have hsl1 := slice_run s a b a b rfl rfl (by omega) (by omega)
  have hsl2 := slice_run s b (b + 4) b ((b : Int) + 4) rfl (by omega) (by omega) (by omega)
  have hcat := concat_run (s.extract a b) (s.extract (b + 4) (b + 4 + n)) (by rw [ByteArray.size_append] at hsz; exact hsz)
  have HC := Lib.hid hC; have HSZ := Lib.hid hsz
  have HS : Hid (sumAt s a b n = C) := Lib.hid hC
  clear hC hR hsz
  go_enter Tryd.func64, Tryd.ntmps64
  go_wp2_with fail
  refine (get_any s a _ (by omega)).mono ?_
  rintro e w1 ⟨rfl, rfl⟩
  rw [HG.out]
  unfold getV
  go_wp2_with fail
  go_region_held3 (fun w' => St w w') (first | exact St.start HT.out | exact St.below (by assumption) hb8 | assumption) (first | (go_at_call 50; have ht9 : Tab _ := St.tab (by assumption : St w _); (with_reducible refine (sum_is _ C _ HC.out ht9 HSZ.out).mono ?_); rintro e w7 ⟨rfl, rfl⟩) | (go_at_call 49; (with_reducible refine (four_any C _ hCl).mono ?_); rintro e w8 ⟨rfl, hb8⟩))
  have hq : Below w.heap.size w _ := St.since (by assumption)
  go_wp2
  · have hway : (!(fourB C).toList == (s.extract b (b + 4)).toList) = true := by assumption
    have HV : Hid (nextG s a b n = (⟨#[]⟩, 0, 9)) := Lib.hid (by
      rw [HR.out, HS.out]
      rw [if_neg (by intro h; rw [h] at hway; simp at hway)])
    go_ret3
    exact ⟨by rw [HV.out]; rfl, hq⟩
  · have hway : (!(fourB C).toList == (s.extract b (b + 4)).toList) = false := by assumption
    have HV : Hid (nextG s a b n = (s.extract (b + 4) (b + 4 + n), ((b + 4 + n : Nat) : Int), 0)) := Lib.hid (by
      rw [HR.out, HS.out]
      rw [if_pos (by cases h : ((fourB C).toList == (s.extract b (b + 4)).toList) with | true => rfl | false => rw [h] at hway; simp at hway)])
    go_ret3
    exact ⟨by rw [HV.out]; rfl, hq⟩
theorem next_any (s : ByteArray) (a : Int) (w : World) (ht : Tab w) (hs : s.size ≤ 281474976710656) :
    Calls Tryd.prog 64 #[.string s, .int .i64 a] w fun e w' => e = .returned (nextV (nextR s a)) ∧ Below w.heap.size w w' := by
  by_cases h : (getR s a).2.2 = 0
  · obtain ⟨k, rfl⟩ := getR_nat s a h
    obtain ⟨h1, h2, h3, h4⟩ := getR_go s k h
    have hR : nextR s k = nextG s k (getR s k).2.1.toNat (getR s k).1.toNat := if_pos h
    rw [hR]
    refine next_good s k _ _ w ht hs ?_ (by omega) (by omega) (by omega)
    rw [Int.toNat_of_nonneg h3, Int.toNat_of_nonneg (by omega), ← h]
  · exact next_err s a w hs h
end Go.Proofs.YtfiplhnplmadmaaDoor

/- The sum as plain mathematics: a row of bits that is turned. Conditions: none. -/
namespace Go.Proofs.YtfiplhnplmadmaaDoor

/-- The bits of the pattern that were turned in the first i rounds; the first one is always. -/
def turned (p : Nat) : Nat → Nat
  | 0 => 0
  | i + 1 => if i = 0 ∨ p.testBit i = true then turned p i ^^^ 2 ^ i else turned p i
end Go.Proofs.YtfiplhnplmadmaaDoor

/- A frame among other bytes: what Next answers; texts as lists. Conditions: none. -/
namespace Go.Proofs.YtfiplhnplmadmaaDoor
open Go.RowKit Go.PlainAid

theorem bytes_eq {a b : ByteArray} (h : a.data.toList = b.data.toList) : a = b := by
  apply ByteArray.ext
  exact Array.toList_inj.1 h
theorem ext_list (x : ByteArray) (i j : Nat) : (x.extract i j).data.toList = (x.data.toList.take j).drop i := by
  simp [ByteArray.data_extract, List.drop_take]
theorem list_len (x : ByteArray) : x.data.toList.length = x.size := by simp
theorem app_list (x y : ByteArray) : (x ++ y).data.toList = x.data.toList ++ y.data.toList := by rw [ByteArray.data_append, Array.toList_append]
theorem mid_extract (p m q : ByteArray) : (p ++ m ++ q).extract p.size (p.size + m.size) = m := by
  apply bytes_eq
  rw [ext_list, app_list, app_list]
  have hp := list_len p; have hm := list_len m
  rw [List.take_append_of_le_length (by rw [List.length_append]; omega), List.take_of_length_le (by rw [List.length_append]; omega), List.drop_append_of_le_length (by omega), List.drop_of_length_le (by omega), List.nil_append]
theorem loop_list (bs : ByteArray) : ∀ (k i : Nat) (r : List UInt8), bs.size - i = k → ByteArray.toList.loop bs i r = r.reverse ++ bs.data.toList.drop i
  | 0, i, r, h => by
    unfold ByteArray.toList.loop
    rw [if_neg (by omega), List.drop_of_length_le (by rw [list_len]; omega), List.append_nil]
  | k + 1, i, r, h => by
    unfold ByteArray.toList.loop
    have hi : i < bs.size := by omega
    have hl : i < bs.data.toList.length := by rw [list_len]; exact hi
    rw [if_pos hi, loop_list bs k (i + 1) _ (by omega), List.reverse_cons, List.append_assoc, List.drop_eq_getElem_cons hl]
    congr 2
    simp [ByteArray.get!, hi]
theorem toList_data (bs : ByteArray) : bs.toList = bs.data.toList := by
  unfold ByteArray.toList
  rw [loop_list bs bs.size 0 [] rfl]
  simp
theorem toList_beq (a b : ByteArray) : ((a.toList == b.toList) = true) ↔ a = b := by
  rw [beq_iff_eq, toList_data, toList_data]
  exact ⟨fun h => bytes_eq h, fun h => by rw [h]⟩
theorem app_assoc (x y z : ByteArray) : x ++ y ++ z = x ++ (y ++ z) := ByteArray.append_assoc

/-- What Next answers where a number, four bytes and a text stand. -/
theorem next_parts (pre s four post : ByteArray) (h4 : four.size = 4) (n : Nat) (hn : n = s.size) (hs : n ≤ 65536) :
    nextR (pre ++ ⟨(putL (n : Int)).toArray⟩ ++ four ++ s ++ post) (pre.size : Int) = if fourB (addOf 0 ((⟨(putL (n : Int)).toArray⟩ : ByteArray) ++ s).data.toList) = four then (s, ((pre.size + (putL (n : Int)).length + 4 + n : Nat) : Int), 0) else (⟨#[]⟩, 0, 9) := by
  subst hn
  obtain ⟨nb, hnb⟩ : ∃ nb : ByteArray, nb = ⟨(putL (s.size : Int)).toArray⟩ := ⟨_, rfl⟩
  have hnl : nb.size = (putL (s.size : Int)).length := by rw [hnb]; exact mk_size _
  have hsz : (pre ++ nb ++ four ++ s ++ post).size = pre.size + nb.size + 4 + s.size + post.size := by
    simp only [ByteArray.size_append]; omega
  have hhas : has (pre ++ nb ++ four ++ s ++ post) pre.size (putL (s.size : Int)) := by
    rw [app_assoc, app_assoc, hnb]
    exact has_mid pre _ _
  have hg := get_put (s := pre ++ nb ++ four ++ s ++ post) (a := pre.size) (s.size : Int) (by omega) (by omega) (by rw [hsz, ← hnl]; omega) hhas
  have hll := putL_len (s.size : Int)
  have hlb := lenOf_bd (s.size : Int)
  rw [← hnb]
  have hR : nextR (pre ++ nb ++ four ++ s ++ post) (pre.size : Int) = nextG (pre ++ nb ++ four ++ s ++ post) pre.size (pre.size + nb.size) s.size := by
    have t1 : ((pre.size : Nat) : Int).toNat = pre.size := by omega
    have t2 : (((pre.size : Nat) : Int) + lenOf (s.size : Int)).toNat = pre.size + nb.size := by rw [hnl]; omega
    have t3 : ((s.size : Nat) : Int).toNat = s.size := by omega
    unfold nextR
    rw [hg]
    show (if (0 : Int) = 0 then nextG _ ((pre.size : Nat) : Int).toNat (((pre.size : Nat) : Int) + lenOf (s.size : Int)).toNat ((s.size : Nat) : Int).toNat else _) = _
    rw [if_pos rfl, t1, t2, t3]
  rw [hR]
  unfold nextG
  rw [if_neg (by omega), if_neg (by rw [hsz]; omega)]
  have e1 : (pre ++ nb ++ four ++ s ++ post).extract pre.size (pre.size + nb.size) = nb := by
    rw [app_assoc, app_assoc]; exact mid_extract pre nb _
  have e2 : (pre ++ nb ++ four ++ s ++ post).extract (pre.size + nb.size) (pre.size + nb.size + 4) = four := by
    rw [app_assoc]
    have := mid_extract (pre ++ nb) four (s ++ post)
    rw [ByteArray.size_append, h4] at this
    exact this
  have e3 : (pre ++ nb ++ four ++ s ++ post).extract (pre.size + nb.size + 4) (pre.size + nb.size + 4 + s.size) = s := by
    have := mid_extract (pre ++ nb ++ four) s post
    rw [ByteArray.size_append, ByteArray.size_append, h4] at this
    exact this
  have e4 : sumAt (pre ++ nb ++ four ++ s ++ post) pre.size (pre.size + nb.size) s.size = addOf 0 (nb ++ s).data.toList := by
    unfold sumAt; rw [e1, e3]
  rw [e4, e2, e3]
  by_cases h : fourB (addOf 0 (nb ++ s).data.toList) = four
  · rw [if_pos ((toList_beq _ _).2 h), if_pos h, hnl]
  · rw [if_neg (fun h2 => h ((toList_beq _ _).1 h2)), if_neg h]
theorem frameB_parts (s : ByteArray) : frameB s = ⟨(putL (s.size : Int)).toArray⟩ ++ fourB (addOf 0 (numB s ++ s).data.toList) ++ s := rfl
theorem frameB_size (s : ByteArray) : (frameB s).size = (putL (s.size : Int)).length + 4 + s.size := by
  rw [frameB_parts, ByteArray.size_append, ByteArray.size_append, mk_size]; rfl
/-- A frame, whatever stands ahead and behind. -/
theorem next_frame (pre s post : ByteArray) (hs : s.size ≤ 65536) : nextR (pre ++ frameB s ++ post) (pre.size : Int) = (s, ((pre.size + (frameB s).size : Nat) : Int), 0) := by
  have h := next_parts pre s (fourB (addOf 0 (numB s ++ s).data.toList)) post rfl s.size rfl hs
  have h2 := h.trans (if_pos rfl)
  rw [frameB_size, frameB_parts, ← app_assoc, ← app_assoc, h2, show pre.size + ((putL (s.size : Int)).length + 4 + s.size) = pre.size + (putL (s.size : Int)).length + 4 + s.size by omega]
end Go.Proofs.YtfiplhnplmadmaaDoor

/- A block of bytes of the call's own, and its text. Conditions: none. -/
namespace Go.Proofs.YtfiplhnplmadmaaDoor
open Go.RowKit

/-- Block b begins with the bytes f 0 .. f (n - 1); they may be written. -/
def Bytes (w : World) (b n : Nat) (f : Nat → UInt8) : Prop := ∀ j, j < n → w.cell? ⟨b, j, none⟩ = some (.int .u8 (f j).toNat) ∧ w.frozen? ⟨b, j, none⟩ = false
theorem Bytes.set {w : World} {b n : Nat} {f : Nat → UInt8} (h : Bytes w b n f) {i : Nat} (hi : i < n) (y : UInt8) : Bytes (w.setCell ⟨b, i, none⟩ (.int .u8 y.toNat)) b n (fun j => if j = i then y else f j) := by
  intro j hj
  refine ⟨?_, by rw [World.frozen?_setCell]; exact (h j hj).2⟩
  by_cases e : j = i
  · subst e
    rw [World.cell?_setCell_same _ _ _ (h j hi).1]
    show _ = some (Value.int .u8 ((if j = j then y else f j : UInt8).toNat : Nat))
    rw [if_pos rfl]
  · rw [World.cell?_setCell_other _ _ _ _ (by first | (simp; done) | (simp; omega))]
    show _ = some (Value.int .u8 ((if j = i then y else f j : UInt8).toNat : Nat))
    rw [if_neg e]; exact (h j hj).1
theorem Bytes.congr {w : World} {b n : Nat} {f g : Nat → UInt8} (h : Bytes w b n f) (hg : ∀ j, j < n → f j = g j) : Bytes w b n g := fun j hj => by rw [← hg j hj]; exact h j hj
theorem Bytes.below {w w' : World} {b n : Nat} {f : Nat → UInt8} (h : Bytes w b n f) (hb : Below w.heap.size w w') : Bytes w' b n f := fun j hj =>
  ⟨cell_below hb (h j hj).1, by rw [hb.frozen (World.block_lt_of_cell? w _ (h j hj).1)]; exact (h j hj).2⟩
theorem strOfNums_bytes (l : List UInt8) : strOfNums (l.map fun b => ((b.toNat : Nat) : Int)) = ⟨l.toArray⟩ := by
  apply ByteArray.ext
  apply Array.toList_inj.1
  rw [strOfNums_data, List.map_map]
  show _ = l
  have : ((fun n : Int => UInt8.ofNat n.toNat) ∘ fun b : UInt8 => ((b.toNat : Nat) : Int)) = id := by
    funext b
    simp
  rw [this, List.map_id]
/-- The text of such a block. -/
theorem Bytes.text {w : World} {b n cap : Nat} {f : Nat → UInt8} (h : Bytes w b n f) {P : Program} {src dst e : TypeId} (hs : P.underlying src = some (.slice e)) (he : P.underlying e = some (.int .u8)) (hd : P.underlying dst = some .string) :
    (convert src dst (.slice (some ⟨b, 0, none⟩) n cap)).run P w = .ok (.string ⟨((List.range n).map f).toArray⟩) w := by
  rw [← strOfNums_bytes]
  refine run_convert_bytes_arg w src e hs he b 0 n cap _ (by simp) (fun i hi => ?_) dst hd
  rw [Nat.zero_add, (h i hi).1]
  simp [List.getD, hi]
end Go.Proofs.YtfiplhnplmadmaaDoor

/- catenalaw04: awake. Conditions: the table reads as it is laid. -/
namespace Go.Proofs.YtfiplhnplmadmaaDoor
open Go.RowKit Go.PlainAid Go.Deep

theorem wf_u16 {a : Int} (h : (Lit.int .u16 a).wf = true) : ∃ c : Nat, a = c ∧ c < 65536 := by
  have : 0 ≤ a ∧ a ≤ 65535 := by simpa [Lit.wf, IntKind.min, IntKind.max, IntKind.signed, IntKind.bits] using h
  exact ⟨a.toNat, by omega, by omega⟩
end Go.Proofs.YtfiplhnplmadmaaDoor

/- Frames one behind the other, in numbers. No conditions. -/
namespace Go.Proofs.YtfiplhnplmadmaaDoor
open Go.RowKit

/-- l are the texts of the frames from a on, b is the place behind them. -/
def Run (s : ByteArray) : Int → List ByteArray → Int → Prop
  | a, [], b => b = a
  | a, t :: l, b => a < (s.size : Int) ∧ (nextR s a).2.2 = 0 ∧ t = (nextR s a).1 ∧ Run s (nextR s a).2.1 l b
/-- What is told where it stops. -/
def Ends (s : ByteArray) (b e : Int) : Prop := ((s.size : Int) ≤ b ∧ e = 0) ∨ (b < (s.size : Int) ∧ e = (nextR s b).2.2 ∧ e ≠ 0)
theorem Run.snoc {s : ByteArray} : ∀ {l : List ByteArray} {a b : Int}, Run s a l b → b < (s.size : Int) → (nextR s b).2.2 = 0 → Run s a (l ++ [(nextR s b).1]) (nextR s b).2.1
  | [], a, b, h, h1, h2 => by
    obtain rfl : b = a := h
    exact ⟨h1, h2, rfl, rfl⟩
  | t :: l, a, b, h, h1, h2 => ⟨h.1, h.2.1, h.2.2.1, Run.snoc h.2.2.2 h1 h2⟩
theorem run_det {s : ByteArray} : ∀ {l l' : List ByteArray} {a b b' e e' : Int}, Run s a l b → Ends s b e → Run s a l' b' → Ends s b' e' → l = l' ∧ b = b' ∧ e = e'
  | [], [], a, b, b', e, e', h, k, h', k' => by
    obtain rfl : b = a := h
    obtain rfl : b' = b := h'
    refine ⟨rfl, rfl, ?_⟩
    rcases k with ⟨k1, k2⟩ | ⟨k1, k2, k3⟩ <;> rcases k' with ⟨j1, j2⟩ | ⟨j1, j2, j3⟩ <;> omega
  | [], t :: l', a, b, b', e, e', h, k, h', k' => by
    obtain rfl : b = a := h
    obtain ⟨g1, g2, _, _⟩ := h'
    rcases k with ⟨k1, k2⟩ | ⟨k1, k2, k3⟩ <;> omega
  | t :: l, [], a, b, b', e, e', h, k, h', k' => by
    obtain rfl : b' = a := h'
    obtain ⟨g1, g2, _, _⟩ := h
    rcases k' with ⟨k1, k2⟩ | ⟨k1, k2, k3⟩ <;> omega
  | t :: l, t' :: l', a, b, b', e, e', h, k, h', k' => by
    obtain ⟨g1, g2, rfl, g4⟩ := h
    obtain ⟨f1, f2, rfl, f4⟩ := h'
    obtain ⟨r1, r2, r3⟩ := run_det g4 k f4 k'
    exact ⟨by rw [r1], r2, r3⟩
theorem next_adv (s : ByteArray) (a : Int) (h : (nextR s a).2.2 = 0) : 0 ≤ a ∧ a + 4 < (nextR s a).2.1 ∧ (nextR s a).2.1 ≤ (s.size : Int) := by
  by_cases hg : (getR s a).2.2 = 0
  · obtain ⟨k, rfl⟩ := getR_nat s a hg
    obtain ⟨h1, h2, h3, h4⟩ := getR_go s k hg
    have hR : nextR s k = nextG s k (getR s k).2.1.toNat (getR s k).1.toNat := if_pos hg
    rw [hR] at h ⊢
    unfold nextG at h ⊢
    split at h
    · simp at h
    · rename_i hn
      rw [if_neg hn]
      split at h
      · simp at h
      · rename_i hsz
        rw [if_neg hsz]
        split at h
        · rename_i hq
          rw [if_pos hq]
          refine ⟨by omega, ?_, ?_⟩
          · show (k : Int) + 4 < (((getR s k).2.1.toNat + 4 + (getR s k).1.toNat : Nat) : Int)
            omega
          · show (((getR s k).2.1.toNat + 4 + (getR s k).1.toNat : Nat) : Int) ≤ _
            omega
        · simp at h
  · rw [show nextR s a = (⟨#[]⟩, 0, (getR s a).2.2) from if_neg hg] at h
    exact absurd h hg
theorem Run.bound {s : ByteArray} : ∀ {l : List ByteArray} {a b : Int}, Run s a l b → 0 ≤ a → a ≤ (s.size : Int) → a + l.length ≤ b ∧ b ≤ (s.size : Int)
  | [], a, b, h, h0, h1 => by
    obtain rfl : b = a := h
    exact ⟨by simp, h1⟩
  | t :: l, a, b, h, h0, h1 => by
    obtain ⟨g1, g2, _, g4⟩ := h
    obtain ⟨n1, n2, n3⟩ := next_adv s a g2
    obtain ⟨m1, m2⟩ := Run.bound g4 (by omega) n3
    refine ⟨?_, m2⟩
    rw [List.length_cons]; omega
end Go.Proofs.YtfiplhnplmadmaaDoor

/- Frames of which the last is cut off, in numbers. No conditions. -/
namespace Go.Proofs.YtfiplhnplmadmaaDoor
open Go.RowKit Go.PlainAid

theorem two_parts {q : ByteArray} {l m : List UInt8} (h : q.data.toList = l ++ m) : q = ⟨l.toArray⟩ ++ ⟨m.toArray⟩ := by
  apply bytes_eq
  rw [app_list, h]
theorem frameB_list (s : ByteArray) : (frameB s).data.toList = putL (s.size : Int) ++ ((fourB (addOf 0 (numB s ++ s).data.toList)).data.toList ++ s.data.toList) := by
  rw [frameB_parts, app_list, app_list, List.append_assoc]
theorem next_torn (pre q x : ByteArray) (hx : x.size ≤ 65536) (hq : q.data.toList <+: (frameB x).data.toList) (h0 : 0 < q.size) (hlt : q.size < (frameB x).size) : (nextR (pre ++ q) (pre.size : Int)).2.2 = 2 := by
  have hfs := frameB_size x
  have hsz : (pre ++ q).size = pre.size + q.size := ByteArray.size_append
  have hql := list_len q
  rw [frameB_list] at hq
  have hpl := putL_len (x.size : Int)
  have hw := wd_bd (x.size : Int)
  by_cases hk : q.size < (putL (x.size : Int)).length
  · -- the number itself is cut off
    have hn : ¬ (x.size : Int) < 248 := by
      intro h
      have : (putL (x.size : Int)).length = 1 := by rw [putL_small _ h]; rfl
      omega
    have hpre : q.data.toList <+: putL (x.size : Int) := by
      obtain ⟨r, hr⟩ := hq
      refine List.prefix_of_prefix_length_le ⟨r, hr⟩ (List.prefix_append _ _) (by omega)
    have hb := putL_big (x.size : Int) hn
    have hlen : (putL (x.size : Int)).length = 1 + (wd (x.size : Int)).toNat := by rw [hb]; simp [be_len]; omega
    rw [hb] at hpre
    have hqc : ∃ q', q.data.toList = [UInt8.ofNat (247 + wd (x.size : Int)).toNat] ++ q' := by
      cases hql' : q.data.toList with
      | nil => rw [hql'] at hql; simp at hql; omega
      | cons b t =>
        rw [hql'] at hpre
        obtain ⟨r, hr⟩ := hpre
        simp only [List.cons_append, List.cons.injEq] at hr
        exact ⟨t, by rw [hr.1]; rfl⟩
    obtain ⟨q', hq'⟩ := hqc
    have hhas := has_mid pre ⟨q'.toArray⟩ [UInt8.ofNat (247 + wd (x.size : Int)).toNat]
    rw [app_assoc, ← two_parts hq'] at hhas
    have hbt := hhas 0 (by simp)
    simp only [Nat.add_zero, List.getElem_cons_zero, UInt8.toNat_ofNat', show (2 : Nat) ^ 8 = 256 from rfl] at hbt
    have hg : getR (pre ++ q) (pre.size : Int) = (0, 0, 2) := by
      unfold getR
      rw [if_neg (by omega), if_neg (by omega), Int.toNat_natCast, if_neg (by omega), if_pos (by omega)]
    rw [show nextR (pre ++ q) (pre.size : Int) = (⟨#[]⟩, 0, (getR (pre ++ q) (pre.size : Int)).2.2) from if_neg (by rw [hg]; simp), hg]
  · -- the number is whole
    have hqc : ∃ q', q.data.toList = putL (x.size : Int) ++ q' := by
      obtain ⟨r, hr⟩ := hq
      obtain ⟨t, ht⟩ := List.prefix_of_prefix_length_le (List.prefix_append (putL (x.size : Int)) _) ⟨r, hr⟩ (by omega)
      exact ⟨t, ht.symm⟩
    obtain ⟨q', hq'⟩ := hqc
    have hhas := has_mid pre ⟨q'.toArray⟩ (putL (x.size : Int))
    rw [app_assoc, ← two_parts hq'] at hhas
    have hg := get_put (s := pre ++ q) (a := pre.size) (x.size : Int) (by omega) (by omega) (by omega) hhas
    have hg0 : (getR (pre ++ q) (pre.size : Int)).2.2 = 0 := by rw [hg]
    rw [show nextR (pre ++ q) (pre.size : Int) = nextG (pre ++ q) (pre.size : Int).toNat (getR (pre ++ q) (pre.size : Int)).2.1.toNat (getR (pre ++ q) (pre.size : Int)).1.toNat from if_pos hg0, hg]
    unfold nextG
    rw [if_neg (by simp only [Int.toNat_natCast]; omega), if_pos (by simp only [Int.toNat_natCast]; omega)]
/-- Frames one behind the other. -/
def catF (l : List ByteArray) : ByteArray := l.foldl (fun s x => s ++ frameB x) ⟨#[]⟩
theorem catF_snoc (l : List ByteArray) (x : ByteArray) : catF (l ++ [x]) = catF l ++ frameB x := by simp [catF]
theorem catF_list (l m : List ByteArray) : ∃ r, (catF (l ++ m)).data.toList = (catF l).data.toList ++ r := by
  induction m generalizing l with
  | nil => exact ⟨[], by simp⟩
  | cons x m ih =>
    obtain ⟨r, hr⟩ := ih (l ++ [x])
    exact ⟨(frameB x).data.toList ++ r, by rw [show l ++ x :: m = l ++ [x] ++ m by simp, hr, catF_snoc, app_list, List.append_assoc]⟩
theorem catF_take (l : List ByteArray) (k : Nat) : (catF (l.take k)).data.toList <+: (catF l).data.toList := by
  obtain ⟨r, hr⟩ := catF_list (l.take k) (l.drop k)
  rw [List.take_append_drop] at hr
  exact ⟨r, hr.symm⟩
theorem cut_at {C P S : ByteArray} (hC : C.data.toList <+: S.data.toList) (hP : P.data.toList <+: S.data.toList) (h : P.size ≤ C.size) : ∃ q : ByteArray, C = P ++ q := by
  obtain ⟨r, hr⟩ := List.prefix_of_prefix_length_le hP hC (by rw [list_len, list_len]; exact h)
  exact ⟨⟨r.toArray⟩, bytes_eq (by rw [app_list, ← hr])⟩
theorem take_next {l : List ByteArray} {k : Nat} (h : k < l.length) : catF (l.take (k + 1)) = catF (l.take k) ++ frameB l[k] := by
  rw [List.take_succ_eq_append_getElem h, catF_snoc]
theorem run_cut (l : List ByteArray) (hl : ∀ x ∈ l, x.size ≤ 65536) (C : ByteArray) (hC : C.data.toList <+: (catF l).data.toList) : ∀ k, k ≤ l.length → (catF (l.take k)).size ≤ C.size → Run C 0 (l.take k) ((catF (l.take k)).size : Int)
  | 0, _, _ => by rw [List.take_zero]; exact rfl
  | k + 1, hk, hle => by
    have hk' : k < l.length := hk
    have hn := take_next hk'
    have hsz : (catF (l.take (k + 1))).size = (catF (l.take k)).size + (frameB l[k]).size := by rw [hn, ByteArray.size_append]
    have hf := frameB_size l[k]
    have hrun := run_cut l hl C hC k (by omega) (by omega)
    obtain ⟨q, hq⟩ := cut_at hC (catF_take l (k + 1)) hle
    rw [hn] at hq
    have hnx := next_frame (catF (l.take k)) l[k] q (hl _ (List.getElem_mem hk'))
    rw [← hq] at hnx
    have h := hrun.snoc (by omega) (by rw [hnx])
    rw [hnx] at h
    rw [List.take_succ_eq_append_getElem hk', ← List.take_succ_eq_append_getElem hk', hsz]
    rw [List.take_succ_eq_append_getElem hk']
    exact h
theorem all_cut (l : List ByteArray) (hl : ∀ x ∈ l, x.size ≤ 65536) (C : ByteArray) (hC : C.data.toList <+: (catF l).data.toList) (k : Nat) (hk : k ≤ l.length) (hle : (catF (l.take k)).size ≤ C.size)
    (hlast : k = l.length ∨ C.size < (catF (l.take (k + 1))).size) : Run C 0 (l.take k) ((catF (l.take k)).size : Int) ∧ Ends C ((catF (l.take k)).size : Int) (if (catF (l.take k)).size = C.size then 0 else 2) := by
  refine ⟨run_cut l hl C hC k hk hle, ?_⟩
  by_cases he : (catF (l.take k)).size = C.size
  · rw [if_pos he]; exact .inl ⟨by omega, rfl⟩
  · rw [if_neg he]
    refine .inr ⟨by omega, ?_, by omega⟩
    have hCl : C.size ≤ (catF l).size := by
      have := hC.length_le; rw [list_len, list_len] at this; exact this
    have hk' : k < l.length := by
      rcases Nat.lt_or_ge k l.length with h | h
      · exact h
      · have : l.take k = l := List.take_of_length_le h
        rw [this] at he hle; omega
    have hlt : C.size < (catF (l.take (k + 1))).size := by
      rcases hlast with h | h
      · omega
      · exact h
    obtain ⟨q, hq⟩ := cut_at hC (catF_take l k) hle
    have hn := take_next hk'
    have hpre : C.data.toList <+: (catF (l.take (k + 1))).data.toList := List.prefix_of_prefix_length_le hC (catF_take l (k + 1)) (by rw [list_len, list_len]; omega)
    rw [hn, app_list, hq, app_list] at hpre
    have hqp := (List.prefix_append_right_inj _).1 hpre
    have hqs : C.size = (catF (l.take k)).size + q.size := by rw [hq, ByteArray.size_append]
    have hns : (catF (l.take (k + 1))).size = (catF (l.take k)).size + (frameB l[k]).size := by rw [hn, ByteArray.size_append]
    have := next_torn (catF (l.take k)) q l[k] (hl _ (List.getElem_mem hk')) hqp (by omega) (by omega)
    rw [← hq] at this
    exact this.symm
end Go.Proofs.YtfiplhnplmadmaaDoor

/- Package frame: the iterator of All. Conditions: the table reads as it is laid. -/
namespace Go.Proofs.YtfiplhnplmadmaaDoor
open Go.RowKit Go.Shelf
attribute [local go_sem] Oper.semAt_some

abbrev Fnd := ByteArray × Int × Int
inductive FRun (s : ByteArray) : List Fnd → Int → Prop
  | nil : FRun s [] 0
  | snoc {l : List Fnd} {b : Int} : FRun s l b → b < (s.size : Int) → (nextR s b).2.2 = 0 → FRun s (l ++ [nextR s b]) (nextR s b).2.1
theorem FRun.run {s : ByteArray} {l : List Fnd} {b : Int} (h : FRun s l b) : Run s 0 (l.map fun x => x.1) b := by
  induction h with
  | nil => rfl
  | snoc h1 h2 h3 ih => rw [List.map_append]; exact ih.snoc h2 h3
theorem FRun.bound {s : ByteArray} {l : List Fnd} {b : Int} (h : FRun s l b) : (l.length : Int) ≤ b ∧ b ≤ (s.size : Int) := by
  have h1 := h.run.bound (by omega) (by omega)
  simpa using h1
def encF (x : Fnd) : Value := .agg #[.string x.1, .int .i64 x.2.1, .int .i64 x.2.2]
/-- What a round that goes on keeps. -/
def KpF (n₀ Bn : Nat) (s : ByteArray) (A B : World) : Prop := Below n₀ A B ∧ (A.cell? ⟨Bn, 0, none⟩ = some (.string s) → B.cell? ⟨Bn, 0, none⟩ = some (.string s))
theorem KpF.t {n₀ Bn : Nat} {s : ByteArray} {A B C : World} (h : KpF n₀ Bn s A B) (k : KpF n₀ Bn s B C) : KpF n₀ Bn s A C := ⟨h.1.trans k.1, fun c => k.2 (h.2 c)⟩
theorem KpF.b {n₀ Bn : Nat} {s : ByteArray} {w : World} (hn : n₀ ≤ w.heap.size) (W : World) (l : Nat) (o o' : Obj) (hl : w.heap.size ≤ l) (h : W.heap[l]? = some o) (hc : o.isCells = false) (hw : o.isWalk = false) : KpF n₀ Bn s W (W.putObj l o') :=
  ⟨belowK_b hn W l o o' hl h hc hw, fun c => cell_kept c (grownBy_putObj' W l o') (fun r e => by cases e; exact ⟨_, h, hc⟩)⟩
theorem grown_of_below {w w' : World} (h : Below w.heap.size w w') : w.grownBy w' none := ⟨h.os, h.tape, h.output, h.size, fun k hk _ => h.block k hk⟩
/-- All has come. -/
def AllF (s : ByteArray) (ys : List Fnd) : Prop := (∃ b, FRun s ys b ∧ (s.size : Int) ≤ b) ∨ ∃ ys' b, ys = ys' ++ [nextR s b] ∧ FRun s ys' b ∧ b < (s.size : Int) ∧ (nextR s b).2.2 ≠ 0
def PartF (s : ByteArray) (ys : List Fnd) : Prop := ∃ ys' b, ys = ys' ++ [nextR s b] ∧ FRun s ys' b ∧ b < (s.size : Int)

set_option maxRecDepth 100000 in
set_option maxHeartbeats 2000000 in
theorem iter_in (l Bn n₀ B : Nat) (s : ByteArray) (hs : s.size ≤ 281474976710656) (J Jx : List Fnd → World → Prop) (hJ : AbidesFrom B J)
    (hY : ∀ pre x W, J pre W → pre.length < s.size → YieldAt Fence.wide 1 Tryd.prog l #[encF x] W fun e W' =>
      (e = .returned (.bool true) ∧ J (pre ++ [x]) W' ∧ KpF n₀ Bn s W W') ∨ (e = .returned (.bool false) ∧ Jx (pre ++ [x]) W'))
    (W : World) (hn0 : 0 < n₀) (hBn : W.cell? ⟨Bn, 0, none⟩ = some (.string s)) (ht : Tab W) (h0 : J [] W) :
    CallsIn Fence.wide 2 Tryd.prog 63 #[.func (.yield l) #[] #[], .pointer (some ⟨Bn, 0, none⟩)] W fun e W' => (∃ v, e = .returned v) ∧
      ((∃ ys, AllF s ys ∧ J ys W') ∨ (∃ pre, PartF s pre ∧ Jx pre W')) := by
  refine callsIn_of_wp Tryd.func63 rfl trivial ?_ rfl
  simp only [Tryd.ntmps63, List.size_toArray, List.length_cons, List.length_nil, Nat.reduceAdd, Nat.reduceSub, Array.replicate_succ, Array.replicate_zero, List.push_toArray, List.append_toArray, List.nil_append, List.cons_append]
  have h1 : 1 ≤ (2 : Nat) := by omega
  gi_wp2
  gi_loopw [3] (fun p wr => ∃ (pre : List Fnd) (b : Int), p = .int .i64 b ∧ FRun s pre b ∧ J pre wr ∧ Tab wr ∧ wr.cell? ⟨Bn, 0, none⟩ = some (.string s))
    (fun p wr => s.size - (intOf p).toNat)
  case atStart =>
    exact ⟨[], 0, rfl, .nil, h0, ht, hBn⟩
  case round =>
    obtain ⟨pre, b, rfl, hrun, hJs, htr, hc⟩ := hrel
    obtain ⟨hb1, hb2⟩ := hrun.bound
    by_cases hlt : b < (s.size : Int)
    · obtain ⟨⟨t, nx, e⟩, hr⟩ : ∃ r, nextR s b = r := ⟨_, rfl⟩
      have HR := Lib.hid hr; have HRUN := Lib.hid hrun; have HY := Lib.hid hY; have HJ := Lib.hid hJ
      clear hr hrun hY hJ
      have hlen : pre.length < s.size := by omega
      by_cases he : e = 0
      · subst he
        gi_wp2_with (refine ⟨trivial, ?_⟩; gi_at_call 64; refine (callsIn_wide.2 (next_any s b _ htr (by omega))).mono ?_; rintro e9 w2 ⟨rfl, hb9⟩; rw [HR.out]; unfold nextV; have hJ2 : J pre w2 := HJ.out pre wr w2 none hJs (grown_of_below hb9) (fun _ e => nomatch e); obtain ⟨fn, tmps, assign, body, hy, hR⟩ := HY.out pre (t, nx, 0) w2 hJ2 hlen; dsimp only [encF] at hy)
        refine hR.mono ?_
        rintro e8 W3 (⟨rfl, hJ3, hk3⟩ | ⟨rfl, hJx3⟩)
        · have hr : nextR s b = (t, nx, 0) := HR.out
          have hadv := next_adv s b (by rw [hr])
          rw [hr] at hadv
          obtain ⟨ha1, ha2, ha3⟩ := hadv
          have ha2' : b + 4 < nx := ha2
          have ha3' : nx ≤ (s.size : Int) := ha3
          have hrun3 : FRun s (pre ++ [(t, nx, 0)]) nx := by
            have h := FRun.snoc HRUN.out hlt (by rw [hr])
            rw [hr] at h
            exact h
          have hc2 : w2.cell? ⟨Bn, 0, none⟩ = some (.string s) := (hb9.cell (p := ⟨Bn, 0, none⟩) (World.block_lt_of_cell? wr _ hc)).trans hc
          have ht3 : Tab W3 := (htr.below hb9).since hn0 hk3.1
          have hc3 := hk3.2 hc2
          clear ha1 ha2 ha3
          gi_wp2
          go_roundw
          case rel => exact ⟨pre ++ [(t, nx, 0)], nx, rfl, hrun3, hJ3, ht3, hc3⟩
          case measure =>
            show s.size - nx.toNat < s.size - b.toNat
            omega
        · gi_wp2
          refine bodyPost_ret (results_none rfl _ _ _) rfl ?_
          refine ⟨⟨_, rfl⟩, .inr ⟨pre ++ [(t, nx, 0)], ⟨pre, b, by rw [HR.out], HRUN.out, hlt⟩, hJx3⟩⟩
      · have hne : (e != 0) = true := by simpa using he
        have HE := Lib.hid he; clear he
        gi_wp2_with (refine ⟨trivial, ?_⟩; gi_at_call 64; refine (callsIn_wide.2 (next_any s b _ htr (by omega))).mono ?_; rintro e9 w2 ⟨rfl, hb9⟩; rw [HR.out]; unfold nextV; have hJ2 : J pre w2 := HJ.out pre wr w2 none hJs (grown_of_below hb9) (fun _ e => nomatch e); obtain ⟨fn, tmps, assign, body, hy, hR⟩ := HY.out pre (t, nx, e) w2 hJ2 hlen; dsimp only [encF] at hy)
        refine hR.mono ?_
        rintro e8 W3 (⟨rfl, hJ3, hk3⟩ | ⟨rfl, hJx3⟩)
        · gi_wp2
          refine bodyPost_ret (results_none rfl _ _ _) rfl ?_
          refine ⟨⟨_, rfl⟩, .inl ⟨pre ++ [(t, nx, e)], .inr ⟨pre, b, by rw [HR.out], HRUN.out, hlt, by rw [HR.out]; exact HE.out⟩, hJ3⟩⟩
        · gi_wp2
          refine bodyPost_ret (results_none rfl _ _ _) rfl ?_
          refine ⟨⟨_, rfl⟩, .inr ⟨pre ++ [(t, nx, e)], ⟨pre, b, by rw [HR.out], HRUN.out, hlt⟩, hJx3⟩⟩
    · have hge : ¬ b < (s.size : Int) := hlt
      gi_wp2
      go_end0
      exact ⟨⟨_, rfl⟩, .inl ⟨pre, .inl ⟨b, hrun, by omega⟩, hJs⟩⟩
theorem iter_stops (Bn n₀ : Nat) (s : ByteArray) (hs : s.size ≤ 281474976710656) (w : World) (hBn : Bn < w.heap.size) (hn0 : 0 < n₀) (hc : w.cell? ⟨Bn, 0, none⟩ = some (.string s)) (ht : Tab w) :
    SeqStopsK Fence.wide 2 Tryd.prog 63 #[.pointer (some ⟨Bn, 0, none⟩)] (fun x : Fnd => #[encF x]) (KpF n₀ Bn s) (AllF s) (PartF s) s.size w := fun l J Jx W hW hJ _ hY h0 =>
  iter_in l Bn n₀ W.heap.size s hs J Jx hJ hY W hn0 ((hW.cell (p := ⟨Bn, 0, none⟩) hBn).trans hc) (ht.below hW) h0

set_option maxHeartbeats 800000 in
theorem frames_any (s : ByteArray) (w : World) :
    CallsIn Fence.wide 2 Tryd.prog 47 #[.string s] w fun e w' => e = .returned (.func (.func 63) #[] #[.pointer (some ⟨w.heap.size, 0, none⟩)]) ∧ w' = w.alloc (.cells #[.string s] 9) := by
  refine callsIn_of_wp Tryd.func47 rfl trivial ?_ rfl
  simp only [Tryd.ntmps47, List.size_toArray, List.length_cons, List.length_nil, Nat.reduceAdd, Nat.reduceSub, Array.replicate_succ, Array.replicate_zero, List.push_toArray, List.append_toArray, List.nil_append, List.cons_append]
  gi_wp2
  go_ret
  exact ⟨rfl, rfl⟩
end Go.Proofs.YtfiplhnplmadmaaDoor

/- Slices of texts that came in. Conditions: none. -/
namespace Go.Proofs.YtfiplhnplmadmaaDoor
open Go.RowKit Go.ChangeShapes Go.WideShapes

/-- One text a cell. -/
def strE (s : ByteArray) : List Value := [.string s]
theorem weights_all_mem {H : Type} {P : Program} {e : TypeId} : ∀ {D : List (DataW H)} {d : DataW H}, d ∈ D → ∀ n ∈ d.weights P e, n ∈ DataW.weightsAll P e D
  | [], _, h, _, _ => absurd h (by simp)
  | x :: D, d, h, n, hn => by
    unfold DataW.weightsAll
    rcases List.mem_cons.1 h with rfl | h
    · exact List.mem_append_left _ hn
    · exact List.mem_append_right _ (weights_all_mem h n hn)
theorem weights_le {H : Type} {P : Program} {ts : List TypeId} {ds : List (DataW H)} (h : (DataW.weightsEach P ts ds).all (· ≤ reachBytes) = true) {j : Nat} {t : TypeId} {d : DataW H} (ht : ts[j]? = some t) (hd : ds[j]? = some d) : ∀ n ∈ d.weights P t, n ≤ reachBytes := fun n hn => by
  have := List.all_eq_true.1 h _ (DataW.weights_mem_each ht hd n hn)
  simpa using this
theorem SliceOf.mk' {α : Type} {enc : α → List Value} {sz : Nat} {w : World} {b off cap : Nat} {l : List α} (hc : l.length ≤ cap) (hm : cap ≤ 9223372036854775807) (h : ∀ j (hj : j < l.length), w.rangeAt b (off + j * sz) (enc l[j])) : SliceOf enc sz w (.slice (some ⟨b, off, none⟩) l.length cap) l :=
  ⟨_, cap, rfl, hc, hm, fun h => (by cases h), fun j hj => ⟨b, off, rfl, h j hj⟩⟩
theorem open_strs {H : Type} {enc : TypeId × Value → H} {P : Program} {w : World} {base : Nat} {spare : Nat → Bool} {held : Bool} {t e : TypeId} {fuel : Nat} {v : Value} {d : DataW H} {ps : List MemPlace}
    (ht : P.underlying t = some (.slice e)) (he : P.underlying e = some .string) (hc : P.cellsOf e = 1) (hby : P.bytesOf e = 16)
    (hsz : ∀ n ∈ d.weights P t, n ≤ reachBytes) (h : DataW.trod enc P w base spare held fuel t [v] = some (d, ps)) :
    ∃ l : List ByteArray, SliceOf strE 1 w v l ∧ l.length ≤ 8796093022208 ∧ ∀ s ∈ l, s.size ≤ 140737488351232 := by
  rcases open_strings ht he hc h with ⟨hcs, _⟩ | ⟨a, len, cap, ss, hcs, _, hl, hm, hss, hx, hcell, _⟩
  · obtain rfl : v = .slice none 0 0 := by simpa using hcs
    exact ⟨[], SliceOf.nil _ _ _, by simp, by simp⟩
  · obtain rfl : v = .slice (some a) len cap := by simpa using hcs
    simp only [Prod.mk.injEq] at hx
    obtain ⟨rfl, _⟩ := hx
    have hlen : len ≤ ss.length := by rw [hss]; split <;> omega
    have htl : (ss.take len).length = len := by rw [List.length_take]; omega
    have hw : ∀ n, n = ((strs (ss.take len) : List (DataW H)).length + (strs (ss.drop len) : List (DataW H)).length) * P.bytesOf e ∨ (n ∈ DataW.weightsAll P e (strs (ss.take len) : List (DataW H))) → n ≤ reachBytes := fun n hn => hsz n (by
      unfold DataW.weights
      rw [ht]
      simp only [List.mem_cons, List.mem_append]
      rcases hn with hn | hn
      · exact Or.inl hn
      · exact Or.inr (Or.inl hn))
    refine ⟨ss.take len, ?_, ?_, fun s hs => ?_⟩
    · obtain ⟨b, off, spot⟩ := a
      by_cases h0 : len = 0
      · subst h0
        refine ⟨some ⟨b, off, spot⟩, cap, by rw [List.take_zero]; rfl, by rw [List.take_zero]; exact Nat.zero_le _, by unfold maxLen at hm; omega, fun h => (by cases h), fun j hj => absurd hj (by simp)⟩
      · have hspot : spot = none := by
          have hc0 := hcell 0 (by omega)
          simpa [Addr.add] using World.cell?_spot hc0
        subst hspot
        have := SliceOf.mk' (enc := strE) (sz := 1) (w := w) (b := b) (off := off) (cap := cap) (l := ss.take len) (by omega) (by unfold maxLen at hm; omega) (fun j hj i u hu => by
          have hj' : j < len := by omega
          have hcj := hcell j (by omega)
          rw [Addr.add_lit] at hcj
          match i, hu with
          | 0, hu =>
            simp only [strE, List.getElem?_cons_zero, Option.some.injEq] at hu
            subst hu
            rw [Nat.mul_one, Nat.add_zero, hcj]
            simp [List.getD, List.getElem?_eq_getElem (show j < ss.length by omega)])
        rw [htl] at this
        exact this
    · have := hw _ (Or.inl rfl)
      simp only [strs, List.length_map, List.length_take, List.length_drop, hby, reachBytes] at this
      rw [htl]; omega
    · have := hw s.size (Or.inr (weights_all_mem (d := .lit (.string s.data.toList)) (by simp only [strs]; exact List.mem_map.2 ⟨s, hs, rfl⟩) _ (show s.size ∈ [s.data.toList.length] by rw [List.mem_singleton]; simp)))
      simpa [reachBytes] using this
end Go.Proofs.YtfiplhnplmadmaaDoor

/- Package frame: All. Conditions: the table reads as it is laid. -/
namespace Go.Proofs.YtfiplhnplmadmaaDoor
open Go.RowKit Go.Shelf
attribute [local go_sem] Oper.semAt_some

theorem info_strI : (Tryd.prog.info? 9).map (fun i => (i.zero, i.size, i.bytes)) = some (some (.string ⟨#[]⟩), 1, 16) := by kernel_rfl
def txt (l : List Fnd) : List ByteArray := l.map fun x => x.1
def lastAt (l : List Fnd) : Int := (l.getLast?.map fun x => x.2.1).getD 0
theorem txt_snoc (l : List Fnd) (x : Fnd) : txt (l ++ [x]) = txt l ++ [x.1] := by simp [txt]
theorem lastAt_snoc (l : List Fnd) (x : Fnd) : lastAt (l ++ [x]) = x.2.1 := by simp [lastAt]
theorem txt_len (l : List Fnd) : (txt l).length = l.length := by simp [txt]
theorem FRun.last {s : ByteArray} {l : List Fnd} {b : Int} (h : FRun s l b) : lastAt l = b := by
  cases h with
  | nil => rfl
  | snoc h1 h2 h3 => rw [lastAt_snoc]
/-- The variable of the loop. -/
def Fl (W : World) (B : Nat) (x : Fnd) : Prop := W.heap[B]? = some (.cells #[.string x.1, .int .i64 x.2.1, .int .i64 x.2.2] 90 (0, 0))
theorem Fl.lt {W : World} {B : Nat} {x : Fnd} (h : Fl W B x) : B < W.heap.size := (Array.getElem?_eq_some_iff.1 h).1
theorem Fl.cell {W : World} {B : Nat} {x : Fnd} (h : Fl W B x) : W.cell? ⟨B, 0, none⟩ = some (.string x.1) ∧ W.cell? ⟨B, 1, none⟩ = some (.int .i64 x.2.1) ∧ W.cell? ⟨B, 2, none⟩ = some (.int .i64 x.2.2) := by
  refine ⟨?_, ?_, ?_⟩ <;> simp [World.cell?, show W.heap[B]? = _ from h]
theorem Fl.kept {W W' : World} {row : Option Nat} {B : Nat} {x : Fnd} (h : Fl W B x) (hg : W.grownBy W' row) (hne : some B ≠ row) : Fl W' B x := (hg.block B h.lt hne).trans h
theorem Fl.own (B : Nat) (x : Fnd) : Own (fun (_ : Unit) W => Fl W B x) := fun _ X Y row hs hg hrow =>
  hs.kept hg (fun e' => by obtain ⟨o, ho, hc⟩ := hrow B e'.symm; rw [show X.heap[B]? = _ from hs] at ho; cases ho; cases hc)
theorem Fl.not_row {W : World} {B : Nat} {x : Fnd} (h : Fl W B x) {base k : Nat} {v : Value} {xs : List Value} (hr : W.ownsRow base 9 1 v k xs) : some B ≠ v.ownBlock := by
  rcases hr.2 with ⟨rfl, _⟩ | ⟨g, cap, cur, rfl, _, hgb, _⟩
  · simp [Value.ownBlock]
  · intro e'
    obtain rfl : B = g := by simpa [Value.ownBlock] using e'
    have := (show W.heap[B]? = _ from h).symm.trans hgb
    simp at this
theorem own_slice {W : World} {base : Nat} {e : TypeId} {size : Nat} {v : Value} {k : Nat} {xs : List Value} (h : W.ownsRow base e size v k xs) : ∃ ao n cap, v = .slice ao n cap := by
  rcases h.2 with ⟨rfl, _⟩ | ⟨g, cap, cur, rfl, _⟩
  · exact ⟨_, _, _, rfl⟩
  · exact ⟨_, _, _, rfl⟩
/-- What All tells. -/
def AllR (s : ByteArray) (l : List ByteArray) (b e : Int) : Prop := Run s 0 l b ∧ Ends s b e
abbrev IAll (N : Nat) (pre : List Fnd) (W : World) (e : Int) : Prop :=
  ((∃ v, Boxed W N 28 v ∧ W.ownsRow (N + 4) 9 1 v (txt pre).length ((txt pre).flatMap strE) ∧ True) ∧ Boxed W (N + 1) 3 (.int .i64 (lastAt pre))) ∧ Boxed W (N + 2) 29 (.int .i64 e)

theorem IAll.own (N : Nat) (e : Int) : Own (fun (pre : List Fnd) W => IAll N pre W e) := fun s X Y row hs hg hr =>
  ⟨⟨holdsRow_own (N + 4) N 28 9 1 (fun pre => (txt pre).length) (fun pre => (txt pre).flatMap strE) (fun _ _ => True) s X Y row hs.1.1 hg hr,
    boxed_own (N + 1) 3 (fun pre => .int .i64 (lastAt pre)) s X Y row hs.1.2 hg hr⟩, boxed_own (N + 2) 29 (fun _ => .int .i64 e) s X Y row hs.2 hg hr⟩
theorem IAll.alloc {N : Nat} {pre : List Fnd} {W : World} {e : Int} (h : IAll N pre W e) (o : Obj) : IAll N pre (W.alloc o) e :=
  IAll.own N e pre W (W.alloc o) none h (World.grownBy_alloc W o none) (fun _ e => nomatch e)
theorem own_blockI {w : World} {B : Nat} {e : TypeId} {k : Nat} {v : Value} {n : Nat} {xs : List Value} (h : w.ownsRow B e k v n xs) : ∀ g, v.ownBlock = some g → B ≤ g := by
  intro g hg
  rcases h.2 with ⟨rfl, _⟩ | ⟨g', cap, cur, rfl, hg', _⟩
  · simp [Value.ownBlock] at hg
  · simp [Value.ownBlock] at hg; omega
theorem own_lowI {w : World} {B B' : Nat} {e : TypeId} {k : Nat} {v : Value} {n : Nat} {xs : List Value} (h : w.ownsRow B e k v n xs) (hb : B' ≤ B) : w.ownsRow B' e k v n xs := by
  obtain ⟨h1, h2⟩ := h
  refine ⟨h1, ?_⟩
  rcases h2 with h2 | ⟨g, cap, cur, hv, hg, r⟩
  · exact Or.inl h2
  · exact Or.inr ⟨g, cap, cur, hv, Nat.le_trans hb hg, r⟩
theorem cell_far {W W' : World} {row : Option Nat} (hg : W.grownBy W' row) {k : Nat} (hk : some k ≠ row) {v : Value} (c : W.cell? ⟨k, 0, none⟩ = some v) : W'.cell? ⟨k, 0, none⟩ = some v :=
  (World.cell?_of_block (w := W) (hg.block k (World.block_lt_of_cell? W _ c) hk)).trans c
/-- The append, and what it leaves. -/
theorem appended {W w1 : World} {N Bx : Nat} {s : ByteArray} {pre : List Fnd} {v v' : Value} {x : Fnd} {e : Int} {m : Nat} {ys : List Value} {tmp : Obj} (hB : N + 4 ≤ W.heap.size)
    (hv : Boxed W N 28 v) (hrow : W.ownsRow (N + 4) 9 1 v (txt pre).length ((txt pre).flatMap strE)) (b1 : Boxed W (N + 1) 3 (.int .i64 (lastAt pre))) (b2 : Boxed W (N + 2) 29 (.int .i64 e)) (hx : Fl W Bx x) (hBx : N + 2 < Bx)
    (hown' : w1.ownsRow (N + 4) 9 1 v' m ys) (hgrow : (W.alloc tmp).grownBy w1 v.ownBlock) :
    (Boxed w1 N 28 v ∧ Boxed (w1.setCell ⟨N, 0, none⟩ v') N 28 v' ∧ (w1.setCell ⟨N, 0, none⟩ v').ownsRow (N + 4) 9 1 v' m ys ∧ KeepsOthers W (w1.setCell ⟨N, 0, none⟩ v') ∧ Below N W (w1.setCell ⟨N, 0, none⟩ v')) ∧
    Boxed (w1.setCell ⟨N, 0, none⟩ v') (N + 1) 3 (.int .i64 (lastAt pre)) ∧ Boxed (w1.setCell ⟨N, 0, none⟩ v') (N + 2) 29 (.int .i64 e) ∧ Fl (w1.setCell ⟨N, 0, none⟩ v') Bx x ∧
    (W.cell? ⟨N + 3, 0, none⟩ = some (.string s) → (w1.setCell ⟨N, 0, none⟩ v').cell? ⟨N + 3, 0, none⟩ = some (.string s)) := by
  obtain ⟨p1, p2, p3, p4, p5⟩ := hv.appended (by decide) (own_lowI hrow (B' := N) (by omega)) (by omega) (Nat.le_refl _) (own_lowI hown' (B' := N) (by omega)) hgrow
  refine ⟨⟨p1, p2, hown'.kept (grownBy_setCell' w1 N v') (.inr (p1.not_row (by decide) hown').symm), p4, p5⟩, ?_, ?_, ?_, ?_⟩
  · exact ((b1.alloc tmp).kept hgrow (b1.not_row (by decide) hrow)).other (by omega) v'
  · exact ((b2.alloc tmp).kept hgrow (b2.not_row (by decide) hrow)).other (by omega) v'
  · exact ((hx.kept (World.grownBy_alloc W tmp none) (fun h => nomatch h)).kept hgrow (hx.not_row hrow)).kept (grownBy_setCell' w1 N v') (fun h => by cases h; omega)
  · intro c
    refine cell_far (grownBy_setCell' w1 N v') (fun h => by cases h) (cell_far hgrow (fun h => ?_) (cell_far (World.grownBy_alloc W tmp none) (fun h => nomatch h) c))
    have := own_blockI hrow _ h.symm
    omega

set_option maxRecDepth 100000 in
set_option maxHeartbeats 4000000 in
theorem all_any (s : ByteArray) (w : World) (ht : Tab w) (hs : s.size ≤ 8796093022207) :
    Calls Tryd.prog 31 #[.string s] w fun e w' => ∃ v l b c, e = .returned (.tuple #[v, .int .i64 b, .int .i64 c]) ∧ AllR s l b c ∧ w'.ownsRow w.heap.size 9 1 v l.length (l.flatMap strE) ∧ Below w.heap.size w w' := by
  obtain ⟨i0, hi, hz0, hz1, hz2⟩ := info_parts info_strI
  obtain ⟨N, hN⟩ : ∃ N, N = w.heap.size := ⟨_, rfl⟩
  have hN0 : 0 < N := by rw [hN]; exact tab_pos ht
  refine (callsIn_wide (n := 3)).1 ?_
  refine callsIn_of_wp_marks Tryd.func31 rfl trivial ?_ rfl
  simp only [Tryd.ntmps31, List.size_toArray, List.length_cons, List.length_nil, Nat.reduceAdd, Nat.reduceSub, Array.replicate_succ, Array.replicate_zero, List.push_toArray, List.append_toArray, List.nil_append, List.cons_append]
  have h1 : 1 ≤ (3 : Nat) := by omega
  have hN0' : 0 < N := hN0
  rw [← hN]
  have HN := Lib.hid hN; clear hN
  gi_wp2
  refine wpIn_wide.2 ?_
  refine wp_scope_jumps 0 (fun a' w' => ∃ (D : Nat) (v : Value) (l : List ByteArray) (b c : Int), a' = { tmps := #[.string s, undef, .slice none 0 0, .int .i64 0, .int .i64 0, .pointer (some ⟨N, 0, none⟩), .pointer (some ⟨N + 1, 0, none⟩), .pointer (some ⟨N + 1 + 1, 0, none⟩), undef, .string s, .func (.func 63) #[] #[.pointer (some ⟨N + 1 + 1 + 1, 0, none⟩)], undef, undef, undef, undef, undef, undef, undef, undef, undef, undef, undef, undef, undef, undef, undef, undef], defers := [{ target := .collected D, args := #[] }] } ∧
      N < D ∧ w'.heap[D]? = some (.deferred (some [])) ∧ AllR s l b c ∧ Boxed w' N 28 v ∧ w'.ownsRow (N + 4) 9 1 v l.length (l.flatMap strE) ∧ Boxed w' (N + 1) 3 (.int .i64 b) ∧ Boxed w' (N + 1 + 1) 29 (.int .i64 c) ∧ Below N w w') (fun _ _ => 0) rfl ?first ?pass
  case pass =>
    rintro a' w' ⟨D, v, l, b, c, rfl, hD, hK, hR, hv, hrow, hb, hc, hB⟩
    obtain ⟨ao, n, cap, rfl⟩ := own_slice hrow
    have c0 := hv.cell; have c1 := hb.cell; have c2 := hc.cell
    have HR := Lib.hid hR; have HROW := Lib.hid hrow; have HB := Lib.hid hB; have HK := Lib.hid hK
    clear hR hrow hB hK
    go_wp2
    go_quiet (fail)
    go_wp2
    refine ⟨by simp, .inl ⟨_, _, rfl, run_takeDeferred (w := w'.drewN nq) HK.out, ?_⟩⟩
    exact ⟨_, results_tmp3 rfl _ _ _, _, l, b, c, rfl, HR.out, ownsRow_putObj (W := w'.drewN nq) (own_lowI HROW.out (by omega)) _ HK.out rfl, (below_draws HB.out nq).trans (belowK_b (w := w) (by have := HN.out; omega) (w'.drewN nq) D _ _ (by have := HN.out; omega) HK.out rfl rfl)⟩
  case first =>
    refine (wpIn_wide (n := 3)).1 ?_
    gi_wp2_with (refine ⟨trivial, ?_⟩; refine (frames_any s _).mono ?_; rintro e w' ⟨rfl, rfl⟩)
    have bL := ((Boxed.new w 28 (.slice none 0 0)).alloc (.cells #[.int .i64 0] 3)).alloc (.cells #[.int .i64 0] 29)
    have bA := (Boxed.new (w.alloc (.cells #[.slice none 0 0] 28)) 3 (.int .i64 0)).alloc (.cells #[.int .i64 0] 29)
    have bE := Boxed.new ((w.alloc (.cells #[.slice none 0 0] 28)).alloc (.cells #[.int .i64 0] 3)) 29 (.int .i64 0)
    have bL := bL.alloc (.cells #[.string s] 9)
    have bA := bA.alloc (.cells #[.string s] 9)
    have bE := bE.alloc (.cells #[.string s] 9)
    have bS := Boxed.new (((w.alloc (.cells #[.slice none 0 0] 28)).alloc (.cells #[.int .i64 0] 3)).alloc (.cells #[.int .i64 0] 29)) 9 (.string s)
    have hB0 : Below w.heap.size w ((((w.alloc (.cells #[.slice none 0 0] 28)).alloc (.cells #[.int .i64 0] 3)).alloc (.cells #[.int .i64 0] 29)).alloc (.cells #[.string s] 9)) := ((((Below.refl _ w).alloc (Nat.le_refl _) _).alloc (by simp) _).alloc (by simp; omega) _).alloc (by simp; omega) _
    have hsz : ((((w.alloc (.cells #[.slice none 0 0] 28)).alloc (.cells #[.int .i64 0] 3)).alloc (.cells #[.int .i64 0] 29)).alloc (.cells #[.string s] 9)).heap.size = w.heap.size + 4 := by simp
    have hT0 := ht.below hB0
    simp only [World.size_alloc] at bA bE bS ⊢
    rw [← HN.out] at bL bA bE bS hB0 hsz ⊢
    obtain ⟨W0, hW0⟩ : ∃ W0, ((((w.alloc (.cells #[.slice none 0 0] 28)).alloc (.cells #[.int .i64 0] 3)).alloc (.cells #[.int .i64 0] 29)).alloc (.cells #[.string s] 9)) = W0 := ⟨_, rfl⟩
    rw [hW0] at bL bA bE bS hB0 hsz hT0 ⊢
    clear hW0
    have hNW : N ≤ W0.heap.size := by omega
    refine wpIn_rangeFunc_ownH rfl h1 (gf := 63) (lb := #[.pointer (some ⟨N + 1 + 1 + 1, 0, none⟩)]) rfl trivial (enters_of Tryd.func63 (by kernel_rfl) rfl)
      (iter_stops (N + 1 + 1 + 1) N s (by omega) W0 (by omega) hN0 bS.cell hT0) KpF.t (KpF.b (by omega)) (Below.refl _ _) (fun _ => rfl)
      (fun pre W => (IAll N pre W 0 ∧ (∀ x ∈ pre, x.2.2 = 0)) ∧ Below N w W)
      (fun c pre W => (∃ pre' x, c = .goto 0 ∧ pre = pre' ++ [x] ∧ IAll N pre' W x.2.2 ∧ (∀ y ∈ pre', y.2.2 = 0) ∧ x.2.2 ≠ 0) ∧ Below N w W)
      ?hI ?hIx ?h0
      (fun x a' W => ∃ Bx, N + 2 < Bx ∧ Fl W Bx x ∧ a' = { tmps := #[.string s, undef, .slice none 0 0, .int .i64 0, .int .i64 0, .pointer (some ⟨N, 0, none⟩), .pointer (some ⟨N + 1, 0, none⟩), .pointer (some ⟨N + 1 + 1, 0, none⟩), .pointer (some ⟨Bx, 0, none⟩), .string s, .func (.func 63) #[] #[.pointer (some ⟨N + 1 + 1 + 1, 0, none⟩)], encF x, undef, undef, undef, undef, undef, undef, undef, undef, undef, undef, undef, undef, undef, undef, undef], defers := [] })
      (fun x a' _ X Y row hs hg hr => by obtain ⟨Bx, h1, h2, h3⟩ := hs; exact ⟨Bx, h1, Fl.own Bx x () X Y row h2 hg (fun r e => (hr r e).2), h3⟩)
      ?assign ?body ?done ?stop
    case hI => exact fun s' X Y row hs' hg hr => ⟨⟨IAll.own N 0 s' X Y row hs'.1.1 hg (fun r e => (hr r e).2), hs'.1.2⟩, ownFrom_below (by have := HN.out; omega) hNW s' X Y row hs'.2 hg hr⟩
    case hIx =>
      rintro c s' X Y row ⟨⟨pre', x, h1, h2, h3, h4⟩, h5⟩ hg hr
      exact ⟨⟨pre', x, h1, h2, IAll.own N x.2.2 pre' X Y row h3 hg (fun r e => (hr r e).2), h4⟩, ownFrom_below (by have := HN.out; omega) hNW s' X Y row h5 hg hr⟩
    case h0 => exact ⟨⟨⟨⟨⟨_, bL, World.ownsRow_nil _ _ _ _, trivial⟩, bA⟩, bE⟩, by simp⟩, hB0⟩
    case assign =>
      rintro l pre ⟨t, nx, e⟩ W K ⟨⟨hIA, hg⟩, hB⟩ hK
      have HG := Lib.hid hg; have HSZ := Lib.hid hsz; clear hg hsz
      have hlt2 : N + 2 < W.heap.size := hIA.2.lt
      dsimp only [encF]
      gi_wp2
      exact hK _ _ ((KeepsOthers.alloc _ _).from _) ⟨(Below.refl _ W).alloc (by omega) _, fun c => cell_far (World.grownBy_alloc W _ none) (fun h => nomatch h) c⟩ ⟨⟨hIA.alloc _, HG.out⟩, hB.alloc (by omega) _⟩ ⟨W.heap.size, hlt2, World.alloc_heap_new W _, rfl⟩
    case body =>
      rintro l pre ⟨t, nx, e⟩ a' W hl ⟨r, hr⟩ ⟨⟨⟨⟨⟨v, hv, hrow, -⟩, b1⟩, b2⟩, hg⟩, hB⟩ ⟨Bx, hBx, hx, rfl⟩ hlt
      obtain ⟨x0, x1, x2⟩ := hx.cell
      dsimp only at x0 x1 x2
      dsimp only [encF]
      have hBl := hx.lt
      have hB4 : N + 4 ≤ W.heap.size := by omega
      have hlt' : (txt pre).length < s.size := by rw [txt_len]; exact hlt
      have cv := hv.cell; have c1 := b1.cell; have f1 := b1.frozen; have c2 := b2.cell; have f2 := b2.frozen
      have HG := Lib.hid hg; have HSZ := Lib.hid hsz; have HBB := Lib.hid hB
      clear hg hsz hB
      by_cases he : e = 0
      · subst he
        gi_wp2_with (gi_at_builtin; refine wpListIn_append_own _ rfl _ _ 28 rfl (N + 4) 9 i0 (.string ⟨#[]⟩) 1 16 Tryd.underlying28 hi hz0 hz1 hz2 rfl (by decide) _ _ _ rfl (hrow.alloc _) ⟨W.heap.size, 0, none⟩ 1 1 [.string t] rfl rfl (cell_one_new _ _ _) (by simp [Value.oneCell']) (by unfold maxLen; omega) (by omega) (by simp; omega) ?_; intro v' w1 hown' hgrow _; obtain ⟨g', cap', rfl⟩ := ownsRow_succ hown'; obtain ⟨⟨p1, p2, p3, p4, p5⟩, q1, q2, q3, q4⟩ := appended (s := s) hB4 hv hrow b1 b2 hx hBx hown' hgrow; have hc1 := p1.cell; have hf1 := p1.frozen; have hc2 := q1.cell; have hf2 := q1.frozen; have hx1 := q3.cell.2.1; dsimp only at hx1)
        have g3 := grownBy_setCell' (w1.setCell ⟨N, 0, none⟩ (.slice (some ⟨g', 0, none⟩) ((txt pre).length + 1) cap')) (N + 1) (.int .i64 nx)
        have hb3 := p5.setCell (p := ⟨N + 1, 0, none⟩) (Nat.le_succ N) (.int .i64 nx)
        refine ⟨(p4.trans (KeepsOthers.setCell _ _ _)).from _, ⟨hb3, fun c => cell_far g3 (fun h => by cases h) (q4 c)⟩, ⟨⟨⟨⟨_, p2.other (by omega) _, ?_, trivial⟩, ?_⟩, q2.other (by omega) _⟩, ?_⟩, HBB.out.trans hb3⟩
        · rw [txt_snoc, List.length_append, List.flatMap_append]
          exact p3.kept g3 (.inr (q1.not_row (by decide) p3).symm)
        · rw [lastAt_snoc]; exact q1.set _
        · intro y hy
          rcases List.mem_append.1 hy with hy | hy
          · exact HG.out y hy
          · simp only [List.mem_singleton] at hy; subst hy; rfl
      · have hne : (e != 0) = true := by simpa using he
        have HE := Lib.hid he; clear he
        gi_wp2
        refine wpIn_goto ?_
        have g3 := grownBy_setCell' W (N + 2) (.int .i64 e)
        have hb3 := (Below.refl N W).setCell (p := ⟨N + 2, 0, none⟩) (by simp) (.int .i64 e)
        exact ⟨(KeepsOthers.setCell _ _ _).from _, ⟨pre, (t, nx, e), rfl, rfl, ⟨⟨⟨v, hv.other (by omega) _, hrow.kept g3 (.inr (b2.not_row (by decide) hrow).symm), trivial⟩, b1.other (by omega) _⟩, b2.set _⟩, HG.out, HE.out⟩, HBB.out.trans hb3⟩
    case done =>
      rintro D ys W hD hS ⟨⟨⟨⟨⟨v, hv, hrow, -⟩, b1⟩, b2⟩, hg⟩, hB⟩ hK
      have hR : AllR s (txt ys) (lastAt ys) 0 := by
        rcases hS with ⟨b, hrun, hge⟩ | ⟨ys', b, rfl, hrun, hlt, hne⟩
        · rw [hrun.last]; exact ⟨hrun.run, .inl ⟨hge, rfl⟩⟩
        · exact absurd (hg (nextR s b) (by simp)) hne
      have hDN : N < D := by omega
      obtain ⟨ao, n, cap, rfl⟩ := own_slice hrow
      have c0 := hv.cell; have c1 := b1.cell; have c2 := b2.cell
      have HR := Lib.hid hR; have HROW := Lib.hid hrow; have HB := Lib.hid hB; have HK := Lib.hid hK; have HSZ := Lib.hid hsz
      clear hR hrow hB hK hS hg hsz
      gi_wp2
      refine wpIn_label ?_
      gi_wp2
      refine wpIn_wide.2 ?_
      go_quiet (fail)
      gi_wp2
      refine ⟨by simp, .inl ⟨_, _, rfl, run_takeDeferred (w := W.drewN nq) HK.out, ?_⟩⟩
      exact ⟨_, results_tmp3 rfl _ _ _, _, txt ys, lastAt ys, 0, rfl, HR.out, ownsRow_putObj (W := W.drewN nq) (own_lowI HROW.out (by omega)) _ HK.out rfl, (below_draws HB.out nq).trans (belowK_b (w := w) (by have := HN.out; omega) (W.drewN nq) D _ _ (by have := HN.out; omega) HK.out rfl rfl)⟩
    case stop =>
      rintro D c pre W hD ⟨ys', b, rfl, hrun, hlt⟩ ⟨⟨pre', x, rfl, h2, ⟨⟨⟨v, hv, hrow, -⟩, b1⟩, b2⟩, hg, hne⟩, hB⟩ hK
      obtain ⟨rfl, h3⟩ := List.append_inj' h2 rfl
      obtain rfl : nextR s b = x := by simpa using h3
      refine wpIn_goto ?_
      exact ⟨rfl, D, v, txt ys', lastAt ys', _, rfl, by omega, hK, ⟨by rw [hrun.last]; exact hrun.run, by rw [hrun.last]; exact .inr ⟨hlt, rfl, hne⟩⟩, hv, hrow, b1, b2, hB⟩
end Go.Proofs.YtfiplhnplmadmaaDoor

/- Package wal, pure: a log's segments on a disk; what an append and a crash make of them. Conditions: none. -/
namespace Go.Proofs.YtfiplhnplmadmaaDoor
open Go.RowKit Go.PlainAid
set_option linter.unusedVariables false

/-- A segment: its texts, and what is torn behind them. -/
structure WSeg where
  T : List ByteArray
  q : ByteArray
def WSeg.b (y : WSeg) : ByteArray := catF y.T ++ y.q
def SegOk (y : WSeg) : Prop := (∀ x ∈ y.T, x.size ≤ 65536) ∧ ∃ x : ByteArray, x.size ≤ 65536 ∧ y.q.data.toList <+: (frameB x).data.toList ∧ y.q.size < (frameB x).size
theorem bsz_app (a b : ByteArray) : (a ++ b).size = a.size + b.size := by rw [← list_len, app_list, List.length_append, list_len, list_len]
theorem frameB_pos (x : ByteArray) : 4 < (frameB x).size := by
  have h := frameB_size x
  have h2 : 0 < (putL (x.size : Int)).length := by
    rcases hl : putL (x.size : Int) with _ | ⟨a, r⟩
    · exfalso; revert hl; unfold putL; split <;> simp
    · simp
  omega
theorem seg_all {y : WSeg} (h : SegOk y) : AllR y.b y.T ((catF y.T).size : Int) (if y.q.size = 0 then 0 else 2) := by
  obtain ⟨h1, x, h2, h3, h4⟩ := h
  have hsz : y.b.size = (catF y.T).size + y.q.size := bsz_app _ _
  have hpre : y.b.data.toList <+: (catF (y.T ++ [x])).data.toList := by
    rw [catF_snoc]; unfold WSeg.b; rw [app_list, app_list]
    exact (List.prefix_append_right_inj _).2 h3
  have ht : (y.T ++ [x]).take y.T.length = y.T := by simp
  have ht2 : (y.T ++ [x]).take (y.T.length + 1) = y.T ++ [x] := List.take_of_length_le (by simp)
  have h := all_cut (y.T ++ [x]) (by intro z hz; rcases List.mem_append.1 hz with hz | hz; exact h1 z hz; simp at hz; subst hz; exact h2) y.b hpre y.T.length (by simp) (by rw [ht]; omega) (.inr (by rw [ht2, catF_snoc, bsz_app]; omega))
  rw [ht] at h
  refine ⟨h.1, ?_⟩
  have e : (if (catF y.T).size = y.b.size then (0 : Int) else 2) = if y.q.size = 0 then 0 else 2 := by
    by_cases hq : y.q.size = 0
    · rw [if_pos hq, if_pos (by omega)]
    · rw [if_neg hq, if_neg (by omega)]
  rw [← e]; exact h.2
def fullS (y : WSeg) : Bool := decide (256 ≤ y.b.size) || decide (y.q.size ≠ 0)
def txtA (A : List WSeg) : List ByteArray := A.flatMap (·.T)
/-- The place, in the list, at which one writes on. -/
def atA (A : List WSeg) : Nat := match A.getLast? with
  | some y => if fullS y = true then A.length else A.length - 1
  | none => 0
/-- x is written behind the rest of it: whole, or (q) its beginning. -/
def putA (A : List WSeg) (f : WSeg → WSeg) : List WSeg := if atA A < A.length then A.set (atA A) (f (A.getD (atA A) ⟨[], ⟨#[]⟩⟩)) else A ++ [f ⟨[], ⟨#[]⟩⟩]
def appS (x : ByteArray) (y : WSeg) : WSeg := ⟨y.T ++ [x], ⟨#[]⟩⟩
def appA (A : List WSeg) (x : ByteArray) : List WSeg := putA A (appS x)
theorem bempty {q : ByteArray} (h : q.size = 0) : q = ⟨#[]⟩ := by apply bytes_eq; apply List.length_eq_zero_iff.1; rw [list_len]; exact h
theorem at_lt {A : List WSeg} (h : atA A < A.length) : ∃ y, A[atA A]? = some y ∧ atA A + 1 = A.length ∧ y.q = ⟨#[]⟩ ∧ y.b.size < 256 := by
  unfold atA at h ⊢
  cases hl : A.getLast? with
  | none => rw [List.getLast?_eq_none_iff] at hl; subst hl; simp at h
  | some y =>
    rw [hl] at h
    dsimp only at h ⊢
    by_cases hf : fullS y = true
    · rw [if_pos hf] at h; omega
    · have hne : A ≠ [] := by intro e; subst e; simp at hl
      have h0 : 0 < A.length := List.length_pos_iff.2 hne
      have e1 : (if fullS y = true then A.length else A.length - 1) = A.length - 1 := if_neg hf
      rw [e1]
      refine ⟨y, ?_, by omega, ?_, ?_⟩
      · rw [List.getLast?_eq_getElem?] at hl; exact hl
      · exact bempty (by unfold fullS at hf; rw [Bool.or_eq_true, decide_eq_true_iff, decide_eq_true_iff] at hf; omega)
      · unfold fullS at hf; rw [Bool.or_eq_true, decide_eq_true_iff, decide_eq_true_iff] at hf; omega
theorem at_le (A : List WSeg) : atA A ≤ A.length := by unfold atA; split <;> (try split) <;> omega
theorem putA_get (A : List WSeg) (f : WSeg → WSeg) (k : Nat) : (putA A f)[k]? = if k = atA A then some (f ((A[atA A]?).getD ⟨[], ⟨#[]⟩⟩)) else A[k]? := by
  unfold putA
  have hle := at_le A
  by_cases h : atA A < A.length
  · rw [if_pos h, List.getElem?_set]
    by_cases hk : k = atA A
    · subst hk; rw [if_pos rfl, if_pos h, if_pos rfl, List.getD_eq_getElem?_getD]
    · rw [if_neg (fun e => hk e.symm), if_neg hk]
  · rw [if_neg h]
    have e : atA A = A.length := by omega
    rw [e]
    by_cases hk : k = A.length
    · subst hk; rw [if_pos rfl, List.getElem?_append_right (Nat.le_refl _)]; simp
    · rw [if_neg hk]
      by_cases hlt : k < A.length
      · rw [List.getElem?_append_left hlt]
      · rw [List.getElem?_eq_none (by simp; omega), List.getElem?_eq_none (by omega)]
theorem putA_len (A : List WSeg) (f : WSeg → WSeg) : (putA A f).length = if atA A < A.length then A.length else A.length + 1 := by
  unfold putA; split <;> simp
theorem putA_mem {A : List WSeg} {f : WSeg → WSeg} {z : WSeg} (h : z ∈ putA A f) : z ∈ A ∨ z = f ((A[atA A]?).getD ⟨[], ⟨#[]⟩⟩) := by
  obtain ⟨k, hk⟩ := List.getElem?_of_mem h
  rw [putA_get] at hk
  split at hk
  · cases hk; exact .inr rfl
  · exact .inl (List.mem_of_getElem? hk)
theorem at_none {A : List WSeg} (h : ¬ atA A < A.length) : (A[atA A]?).getD ⟨[], ⟨#[]⟩⟩ = ⟨[], ⟨#[]⟩⟩ := by rw [List.getElem?_eq_none (by omega)]; rfl
theorem at_seg (A : List WSeg) : ∃ y, (A[atA A]?).getD ⟨[], ⟨#[]⟩⟩ = y ∧ y.q = ⟨#[]⟩ ∧ ((A[atA A]? = some y ∧ atA A + 1 = A.length) ∨ (y = ⟨[], ⟨#[]⟩⟩ ∧ atA A = A.length)) := by
  by_cases h : atA A < A.length
  · obtain ⟨y, h1, h2, h3, -⟩ := at_lt h
    exact ⟨y, by rw [h1]; rfl, h3, .inl ⟨h1, h2⟩⟩
  · exact ⟨_, at_none h, rfl, .inr ⟨rfl, by have := at_le A; omega⟩⟩
def OkA (A : List WSeg) : Prop := ∀ y ∈ A, SegOk y
theorem bapp_nil (a : ByteArray) : a ++ (⟨#[]⟩ : ByteArray) = a := by apply bytes_eq; rw [app_list]; simp
theorem segOk_whole {T : List ByteArray} (h : ∀ x ∈ T, x.size ≤ 65536) : SegOk ⟨T, ⟨#[]⟩⟩ := ⟨h, ⟨#[]⟩, by decide, List.nil_prefix, by have := frameB_pos ⟨#[]⟩; show 0 < _; omega⟩
theorem OkA.at {A : List WSeg} (h : OkA A) : ∀ x ∈ ((A[atA A]?).getD ⟨[], ⟨#[]⟩⟩).T, x.size ≤ 65536 := by
  cases hA : A[atA A]? with
  | none => intro x hx; simp at hx
  | some y => exact (h y (List.mem_of_getElem? hA)).1
theorem OkA.app {A : List WSeg} (h : OkA A) {x : ByteArray} (hx : x.size ≤ 65536) : OkA (appA A x) := fun z hz => by
  rcases putA_mem hz with h1 | rfl
  · exact h z h1
  · exact segOk_whole fun t ht => by
      rcases List.mem_append.1 ht with h2 | h2
      · exact h.at t h2
      · simp at h2; subst h2; exact hx
theorem txt_put {A : List WSeg} {f : WSeg → WSeg} {m : List ByteArray} (hf : ∀ y, (f y).T = y.T ++ m) : txtA (putA A f) = txtA A ++ m := by
  unfold txtA putA
  by_cases h : atA A < A.length
  · obtain ⟨y, h1, h2, -, -⟩ := at_lt h
    rw [if_pos h]
    obtain ⟨hi, e⟩ := List.getElem?_eq_some_iff.1 h1
    have e1 : A = A.take (atA A) ++ [y] := by
      have := List.take_append_drop (atA A) A
      rw [List.drop_eq_getElem_cons hi, e, List.drop_eq_nil_of_le (by omega)] at this
      exact this.symm
    have hl : (A.take (atA A)).length = atA A := by rw [List.length_take]; omega
    have e2 : A.set (atA A) (f (A.getD (atA A) ⟨[], ⟨#[]⟩⟩)) = A.take (atA A) ++ [f y] := by
      rw [List.getD_eq_getElem?_getD, h1]
      show A.set (atA A) (f y) = _
      rw [List.set_eq_take_append_cons_drop, if_pos hi, List.drop_eq_nil_of_le (by omega)]
    rw [e2]
    generalize hg : A.take (atA A) = B at e1
    rw [e1]
    simp [hf, List.append_assoc]
  · rw [if_neg h]; simp [hf]
theorem txt_app (A : List WSeg) (x : ByteArray) : txtA (appA A x) = txtA A ++ [x] := txt_put fun y => rfl
theorem txt_run (xs : List ByteArray) (A : List WSeg) : txtA (xs.foldl appA A) = txtA A ++ xs := by
  induction xs generalizing A with
  | nil => simp
  | cons x xs ih => rw [List.foldl_cons, ih, txt_app, List.append_assoc]; rfl
theorem OkA.run {A : List WSeg} (h : OkA A) {xs : List ByteArray} (hx : ∀ x ∈ xs, x.size ≤ 65536) : OkA (xs.foldl appA A) := by
  induction xs generalizing A with
  | nil => exact h
  | cons x xs ih => exact ih (h.app (hx x (List.mem_cons_self ..))) (fun z hz => hx z (List.mem_cons_of_mem _ hz))
/-- The bytes of the k-th. -/
def bytA (A : List WSeg) (k : Nat) : List UInt8 := ((A[k]?).map fun y => y.b.data.toList).getD []
theorem byt_app (A : List WSeg) (x : ByteArray) (k : Nat) : bytA (appA A x) k = if k = atA A then bytA A k ++ (frameB x).data.toList else bytA A k := by
  unfold bytA appA
  rw [putA_get]
  by_cases hk : k = atA A
  · subst hk
    rw [if_pos rfl, if_pos rfl]
    obtain ⟨y, h1, h2, h3⟩ := at_seg A
    rw [h1]
    show (appS x y).b.data.toList = _
    unfold appS WSeg.b
    rw [bapp_nil, catF_snoc, app_list]
    rcases h3 with ⟨h3, -⟩ | ⟨h3, h4⟩
    · rw [h3]; show _ = y.b.data.toList ++ _; unfold WSeg.b; rw [h2, bapp_nil]
    · rw [List.getElem?_eq_none (by omega), h3]; rfl
  · rw [if_neg hk, if_neg hk]
theorem some_put (A : List WSeg) (f : WSeg → WSeg) (k : Nat) : ((putA A f)[k]?).isSome = (decide (k = atA A) || (A[k]?).isSome) := by
  rw [putA_get]; by_cases hk : k = atA A <;> simp [hk]
/-- A disk's files: the k-th has the bytes of A's, is safe as far as C's bytes go, and stays if C has it. -/
def flW (first : Int) (A C : List WSeg) (k : Int) : Option FileM := if first ≤ k then (if (A[(k - first).toNat]?).isSome = true then some (bytA A (k - first).toNat, ((bytA C (k - first).toNat).length : Int), (C[(k - first).toNat]?).isSome) else none) else none
/-- A disk that has just such files. -/
def OnD (fm : Int → Option FileM) (first : Int) (A C : List WSeg) : Prop := ∀ k, fm k = flW first A C k
theorem OnD.get {fm : Int → Option FileM} {first : Int} {A C : List WSeg} (h : OnD fm first A C) (i : Nat) : fm (first + (i : Int)) = if (A[i]?).isSome = true then some (bytA A i, ((bytA C i).length : Int), (C[i]?).isSome) else none := by
  rw [h, flW, if_pos (by omega), show (first + (i : Int) - first).toNat = i by omega]
def hereA (first : Int) (A : List WSeg) : Int := first + (atA A : Int)
theorem OnD.getF {fm : Int → Option FileM} {first : Int} {A C : List WSeg} (h : OnD fm first A C) (hC : ∀ i : Nat, (C[i]?).isSome = true → (A[i]?).isSome = true) (i : Nat) : getF fm (first + (i : Int)) = (bytA A i, ((bytA C i).length : Int), (C[i]?).isSome) := by
  unfold Go.Proofs.YtfiplhnplmadmaaDoor.getF; rw [h.get]
  by_cases hi : (A[i]?).isSome = true
  · rw [if_pos hi]; rfl
  · rw [if_neg hi]
    have h1 : A[i]? = none := by simpa using hi
    have h2 : C[i]? = none := by cases hc : C[i]? with
      | none => rfl
      | some y => exact absurd (hC i (by rw [hc]; rfl)) hi
    unfold bytA; rw [h1, h2]; rfl
theorem OnD.put {fm : Int → Option FileM} {first : Int} {A C : List WSeg} (h : OnD fm first A C) {f : WSeg → WSeg} {t : List UInt8} (hC : ∀ i : Nat, (C[i]?).isSome = true → (A[i]?).isSome = true) (hf : ∀ k, bytA (putA A f) k = if k = atA A then bytA A k ++ t else bytA A k) :
    OnD (putF fm (hereA first A) ((Go.Proofs.YtfiplhnplmadmaaDoor.getF fm (hereA first A)).1 ++ t, (Go.Proofs.YtfiplhnplmadmaaDoor.getF fm (hereA first A)).2)) first (putA A f) C := fun k => by
  unfold putF hereA
  rw [h.getF hC]
  by_cases hk : k = first + (atA A : Int)
  · rw [if_pos hk, flW, if_pos (by omega), show (k - first).toNat = atA A by omega, some_put, if_pos (by simp), hf, if_pos rfl]
  · rw [if_neg hk, h]
    unfold flW
    by_cases hl : first ≤ k
    · have hne : ¬ (k - first).toNat = atA A := by omega
      have e1 : ((putA A f)[(k - first).toNat]?).isSome = (A[(k - first).toNat]?).isSome := by rw [some_put]; simp [hne]
      have e2 : bytA (putA A f) (k - first).toNat = bytA A (k - first).toNat := by rw [hf, if_neg hne]
      rw [if_pos hl, if_pos hl, e1, e2]
    · rw [if_neg hl, if_neg hl]
/-- The pieces of what is appended. -/
def pcsA (first : Int) : List WSeg → List ByteArray → List PcT
  | _, [] => []
  | A, x :: r => (hereA first A, ((frameB x).size : Int)) :: pcsA first (appA A x) r
theorem pcs_snoc (first : Int) (xs : List ByteArray) (x : ByteArray) (A : List WSeg) : pcsA first A (xs ++ [x]) = pcsA first A xs ++ [(hereA first (xs.foldl appA A), ((frameB x).size : Int))] := by
  induction xs generalizing A with
  | nil => rfl
  | cons y r ih => simp only [List.cons_append, pcsA, ih, List.foldl_cons]
/-- A disk on which xs came behind what was safe. -/
structure WSt (s : DkS) (first : Int) (A : List WSeg) (xs : List ByteArray) : Prop where
  on : OnD s.fm first (xs.foldl appA A) A
  ps : s.ps = pcsA first A xs
  ok : OkA A
  tx : ∀ x ∈ xs, x.size ≤ 65536
theorem some_run (xs : List ByteArray) (A : List WSeg) (i : Nat) (h : (A[i]?).isSome = true) : ((xs.foldl appA A)[i]?).isSome = true := by
  induction xs generalizing A with
  | nil => exact h
  | cons x r ih => exact ih _ (by unfold appA; rw [some_put, h]; simp)
theorem fapp_snoc (xs : List ByteArray) (x : ByteArray) (A : List WSeg) : (xs ++ [x]).foldl appA A = appA (xs.foldl appA A) x := by rw [List.foldl_append]; rfl
theorem WSt.write {s : DkS} {first : Int} {A : List WSeg} {xs : List ByteArray} (h : WSt s first A xs) {x : ByteArray} (hx : x.size ≤ 65536) (hn : wrE (hereA first (xs.foldl appA A)) = 0) : WSt (wrS s (hereA first (xs.foldl appA A)) (frameB x)) first A (xs ++ [x]) := by
  unfold wrS; rw [if_pos hn]
  refine ⟨?_, ?_, h.ok, fun z hz => ?_⟩
  · rw [fapp_snoc]
    exact h.on.put (fun i hi => some_run xs A i hi) (fun k => byt_app _ x k)
  · show s.ps ++ _ = _
    rw [h.ps, pcs_snoc]
  · rcases List.mem_append.1 hz with hz | hz
    · exact h.tx z hz
    · simp at hz; subst hz; exact hx
/-- On a disk whose files have A's bytes, C's bytes are safe. -/
def SafeD (fm : Int → Option FileM) (first : Int) (A C : List WSeg) : Prop := OnD fm first A C ∧ (∀ i : Nat, (C[i]?).isSome = true → (A[i]?).isSome = true) ∧ ∀ i : Nat, bytA C i <+: bytA A i
theorem SafeD.step {fm : Int → Option FileM} {first : Int} {A C : List WSeg} (h : SafeD fm first A C) {f : WSeg → WSeg} {t : List UInt8} (hf : ∀ k, bytA (putA C f) k = if k = atA C then bytA C k ++ t else bytA C k) (ha : (A[atA C]?).isSome = true) (hp : bytA C (atA C) ++ t <+: bytA A (atA C)) {kp : Int} (hk : kp = (t.length : Int)) :
    SafeD (putF fm (hereA first C) ((getF fm (hereA first C)).1, (getF fm (hereA first C)).2.1 + kp, true)) first A (putA C f) := by
  obtain ⟨h1, h2, h3⟩ := h
  refine ⟨fun k => ?_, fun i hi => ?_, fun i => ?_⟩
  · unfold putF hereA
    rw [h1.getF h2]
    by_cases hk2 : k = first + (atA C : Int)
    · rw [if_pos hk2, flW, if_pos (by omega), show (k - first).toNat = atA C by omega, if_pos ha, some_put, hf, if_pos rfl]
      simp [List.length_append, hk]
    · rw [if_neg hk2, h1]
      unfold flW
      by_cases hl : first ≤ k
      · have hne : ¬ (k - first).toNat = atA C := by omega
        have e1 : ((putA C f)[(k - first).toNat]?).isSome = (C[(k - first).toNat]?).isSome := by rw [some_put]; simp [hne]
        have e2 : bytA (putA C f) (k - first).toNat = bytA C (k - first).toNat := by rw [hf, if_neg hne]
        rw [if_pos hl, if_pos hl, e1, e2]
      · rw [if_neg hl, if_neg hl]
  · rw [some_put] at hi
    by_cases e : i = atA C
    · rw [e]; exact ha
    · simp [e] at hi; exact h2 i (by simpa using hi)
  · rw [hf]; split
    · rename_i e; rw [e]; exact hp
    · exact h3 i
theorem ext_take (t : ByteArray) (j : Nat) : (t.extract 0 j).data.toList = t.data.toList.take j := by rw [ext_list]; rfl
theorem WSt.sync {s : DkS} {first : Int} {A : List WSeg} {xs : List ByteArray} (h : WSt s first A xs) : WSt (synS s) first (xs.foldl appA A) [] := by
  have hpc : ∀ (xs : List ByteArray) (A : List WSeg) (i : Nat), ((xs.foldl appA A)[i]?).isSome = ((A[i]?).isSome || decide (∃ p ∈ pcsA first A xs, p.1 = first + (i : Int))) ∧ ((¬ ∃ p ∈ pcsA first A xs, p.1 = first + (i : Int)) → bytA (xs.foldl appA A) i = bytA A i) := by
    intro xs
    induction xs with
    | nil => intro A i; simp [pcsA]
    | cons x r ih =>
      intro A i
      obtain ⟨i1, i2⟩ := ih (appA A x) i
      rw [List.foldl_cons]
      have hm : (∃ p ∈ pcsA first A (x :: r), p.1 = first + (i : Int)) ↔ (i = atA A ∨ ∃ p ∈ pcsA first (appA A x) r, p.1 = first + (i : Int)) := by
        constructor
        · rintro ⟨p, hp, he⟩
          rcases List.mem_cons.1 hp with rfl | hp
          · have he : first + (atA A : Int) = first + (i : Int) := he
            exact .inl (by omega)
          · exact .inr ⟨p, hp, he⟩
        · rintro (rfl | ⟨p, hp, he⟩)
          · exact ⟨_, List.mem_cons_self .., rfl⟩
          · exact ⟨p, List.mem_cons_of_mem _ hp, he⟩
      refine ⟨?_, fun hn => ?_⟩
      · have hs : ((appA A x)[i]?).isSome = (decide (i = atA A) || (A[i]?).isSome) := some_put A (appS x) i
        rw [i1, Bool.eq_iff_iff, Bool.or_eq_true, Bool.or_eq_true, decide_eq_true_iff, decide_eq_true_iff, hm, hs, Bool.or_eq_true, decide_eq_true_iff]
        constructor
        · rintro ((k | k) | k)
          · exact .inr (.inl k)
          · exact .inl k
          · exact .inr (.inr k)
        · rintro (k | k | k)
          · exact .inl (.inr k)
          · exact .inl (.inl k)
          · exact .inr k
      · rw [hm] at hn
        rw [i2 (fun hx => hn (.inr hx)), byt_app, if_neg (fun e => hn (.inl e))]
  have hpl : ∀ (xs : List ByteArray) (A : List WSeg), ∀ p ∈ pcsA first A xs, first ≤ p.1 := by
    intro xs
    induction xs with
    | nil => intro A p hp; cases hp
    | cons x r ih => intro A p hp; rcases List.mem_cons.1 hp with rfl | hp; show first ≤ first + (atA A : Int); omega; exact ih _ p hp
  refine ⟨fun k => ?_, rfl, h.ok.run h.tx, fun x hx => by cases hx⟩
  obtain ⟨g1, g2, g3⟩ := syn_get s.ps s.fm k
  show synF s.fm s.ps k = flW first (xs.foldl appA A) (xs.foldl appA A) k
  rw [h.ps] at g1 g2 g3 ⊢
  have hk := h.on k
  by_cases hl : first ≤ k
  · obtain ⟨i, rfl⟩ : ∃ i : Nat, k = first + (i : Int) := ⟨(k - first).toNat, by omega⟩
    obtain ⟨c1, c2⟩ := hpc xs A i
    unfold flW; rw [if_pos hl, show (first + (i : Int) - first).toNat = i by omega]
    rw [flW, if_pos hl, show (first + (i : Int) - first).toNat = i by omega] at hk
    by_cases hp : ∃ p ∈ pcsA first A xs, p.1 = first + (i : Int)
    · have hsome : ((xs.foldl appA A)[i]?).isSome = true := by rw [c1]; simp [hp]
      have e2 := g2 hp
      have hg : getF s.fm (first + (i : Int)) = (bytA (xs.foldl appA A) i, ((bytA A i).length : Int), (A[i]?).isSome) := by unfold getF; rw [hk, if_pos hsome]; rfl
      rw [hg] at e2 g1
      rw [if_pos hsome]
      have hs : (synF s.fm (pcsA first A xs) (first + (i : Int))).isSome = true := by
        cases hq : synF s.fm (pcsA first A xs) (first + (i : Int)) with
        | some m => rfl
        | none => unfold getF at e2; rw [hq] at e2; simp [mz] at e2
      obtain ⟨m, hm⟩ := Option.isSome_iff_exists.1 hs
      unfold getF at g1 e2; rw [hm] at g1 e2
      rw [hm, hsome]
      obtain ⟨m1, m2⟩ := m
      simp only [Option.getD_some] at g1 e2
      rw [g1, e2]
    · obtain ⟨e2, e3⟩ := g3 hp
      rw [e3, hk]
      by_cases hsome : ((xs.foldl appA A)[i]?).isSome = true
      · rw [if_pos hsome, if_pos hsome]
        have hA : (A[i]?).isSome = true := by rw [c1] at hsome; simpa [hp] using hsome
        rw [hsome, hA, c2 hp]
      · rw [if_neg hsome, if_neg hsome]
  · have hp : ¬ ∃ p ∈ pcsA first A xs, p.1 = k := by rintro ⟨p, hp, rfl⟩; exact hl (hpl xs A p hp)
    rw [(g3 hp).2, hk]; unfold flW; rw [if_neg hl, if_neg hl]
end Go.Proofs.YtfiplhnplmadmaaDoor

/- A range over a function that may be left, whose iterator turns what the caller told it of (Qp). Conditions: none. -/
namespace Go.Proofs.YtfiplhnplmadmaaDoor
open Go.RowKit Go.Shelf
set_option linter.unusedVariables false

/-- What a block that is neither cells nor a map leaves as it was. -/
def ShutQ {β : Type} (B : Nat) (I : β → World → Prop) : Prop :=
  ∀ s W W' row, I s W → W.grownBy W' row → (∀ r, row = some r → B ≤ r ∧ ∃ o : Obj, W.heap[r]? = some o ∧ o.isCells = false ∧ o.isWalk = false) → I s W'
/-- It yields the first of such a list, up to whoever stops it. -/
def SeqQ {α : Type} (P : Program) (gf : Nat) (lb : Array Value) (encs : α → Array Value) (Kp Qp : World → World → Prop) (ks : List α → Prop) (w : World) : Prop :=
  ∀ (l : Nat) (J Jx : List α → World → Prop) (W : World), Below w.heap.size w W → w.heap.size + 2 ≤ W.heap.size →
    (∀ pre A B, J pre A → A.grownBy B none → J pre B) → (∀ pre A B, Jx pre A → A.grownBy B none → Jx pre B) → (∀ pre A B, J pre A → Qp A B → J pre B) →
    (∀ pre x A ys, J pre A → ks ys → (pre ++ [x]) <+: ys → YieldAt Fence.wide 1 P l (encs x) A fun e B => (e = .returned (.bool true) ∧ J (pre ++ [x]) B ∧ Kp A B) ∨ (e = .returned (.bool false) ∧ Jx (pre ++ [x]) B)) →
    J [] W → CallsIn Fence.wide 2 P gf (#[.func (.yield l) #[] #[]] ++ lb) W fun e B => (∃ v, e = .returned v) ∧ ((∃ ys, ks ys ∧ J ys B) ∨ ∃ ys pre, ks ys ∧ pre <+: ys ∧ Jx pre B)
theorem rf_q {α : Type} {P : Program} {n : Nat} {g : Operand} {ps : Array Tmp} {assign body : Code} {Q : Exit → Act → World → Prop} {a : Act} {w : World} {gf : Nat} {lb : Array Value} (hg : a.eval g = .func (.func gf) #[] lb)
    (eg : ∀ args w, (callFunc gf args).run P w = .ok (.enter gf args) w) {encs : α → Array Value} {Kp Qp : World → World → Prop} {ks : List α → Prop} (hseq : SeqQ P gf lb encs Kp Qp ks w) (hps : ∀ x, (encs x).size = ps.size)
    (hKt : ∀ {A B C : World}, Kp A B → Kp B C → Kp A C) (hKb : ∀ (W : World) (o o' : Obj), W.heap[w.heap.size + 1]? = some o → o.isCells = false → o.isWalk = false → Kp W (W.putObj (w.heap.size + 1) o'))
    (hQ : ∀ (A B : World), Qp A B → ∀ (k : Nat) (o : Obj), A.heap[k]? = some o → o.isCells = false → o.isWalk = false → B.heap[k]? = some o)
    (I : List α → World → Prop) (Ix : Code → List α → World → Prop) (hI : ShutQ w.heap.size I) (hIQ : ∀ pre A B, I pre A → Qp A B → I pre B) (hIx : ∀ c, ShutQ w.heap.size (Ix c)) (h0 : I [] w) (Ax : α → Act → World → Prop) (hAx : ∀ x a', ShutQ w.heap.size (fun (_ : Unit) W => Ax x a' W))
    (hassign : ∀ (l : Nat) (pre : List α) (x : α) (W : World) (K : Act → World → Prop), w.heap.size + 1 < W.heap.size → I pre W → (∀ a' W', KeepsFrom w.heap.size W W' → Kp W W' → I pre W' → Ax x a' W' → K a' W') →
      assign.wpIn (Fence.wide.inRound l) 1 P (Exit.then K (fun _ _ _ => False)) { tmps := (ps.zip (encs x)).foldl (fun t (p, v) => t.setIfInBounds p v) a.tmps, defers := [] } W)
    (hbody : ∀ (l : Nat) (pre : List α) (x : α) (a' : Act) (W : World), w.heap.size + 1 = l → (∃ r, W.heap[l]? = some (.loop r)) → I pre W → Ax x a' W → (∃ ys, ks ys ∧ (pre ++ [x]) <+: ys) → body.wpIn (Fence.wide.inRound l) 1 P (ownPostG w.heap.size Kp I Ix (pre ++ [x]) W) a' W)
    (hdone : ∀ (D : Nat) (ys : List α) (W : World), w.heap.size ≤ D → ks ys → I ys W → W.heap[D]? = some (.deferred (some [])) → Q .normal { a with defers := { target := .collected D, args := #[] } :: a.defers } W)
    (hstop : ∀ (D : Nat) (c : Code) (pre ys : List α) (W : World), w.heap.size ≤ D → ks ys → pre <+: ys → Ix c pre W → W.heap[D]? = some (.deferred (some [])) → c.wpIn Fence.wide n P Q { a with defers := { target := .collected D, args := #[] } :: a.defers } W) :
    (Code.rangeFunc g ps assign body).wpIn Fence.wide n P Q a w := by
  refine wpIn_rangeFunc fun fn hfn => ?_
  obtain ⟨rec, hrec⟩ : ∃ rec : LoopState → Option Code → Loop, rec = fun st pe => { state := st, pending := pe, fn := fn, tmps := a.tmps, params := ps, assign := assign, body := body, defers := w.heap.size } := ⟨_, rfl⟩
  obtain ⟨V, hV⟩ : ∃ V, V = (w.alloc (.deferred (some []))).alloc (.loop (rec .ready none)) := ⟨_, rfl⟩
  have vL : V.heap[w.heap.size + 1]? = some (.loop (rec .ready none)) := by rw [hV]; have := World.alloc_heap_new (w.alloc (.deferred (some []))) (.loop (rec .ready none)); rwa [World.size_alloc] at this
  have vD : V.heap[w.heap.size]? = some (.deferred (some [])) := by rw [hV]; exact (Below.heap_alloc _ _ _ (by simp)).trans (World.alloc_heap_new w _)
  have vS : V.heap.size = w.heap.size + 2 := by rw [hV]; simp
  have vI : I [] V := by rw [hV]; exact hI _ _ _ none (hI _ _ _ none h0 (World.grownBy_alloc _ _ _) (fun _ e => nomatch e)) (World.grownBy_alloc _ _ _) (fun _ e => nomatch e)
  have vB : Below w.heap.size w V := by rw [hV]; exact ((Below.refl _ w).alloc (Nat.le_refl _) _).alloc (by simp) _
  refine ⟨w.heap.size + 1, [{ target := .collected w.heap.size, args := #[] }], V, { target := .fn (.func gf) lb, args := #[.func (.yield (w.heap.size + 1)) #[] #[]] }, V, gf,
    #[.func (.yield (w.heap.size + 1)) #[] #[]] ++ lb, V, by rw [hV, hrec]; exact run_enterLoop_outer _ _ _ _ _, by simp only [resolve, hg]; simp [go_sem], (fun f' hf' => by simp [Target.leads] at hf'; subst hf'; trivial), by simp [invoke, go_sem, eg], (fun h => by cases h), ?_⟩
  have put : ∀ {s : List α} {W : World} {r : Loop} (o' : Obj) {I2 : List α → World → Prop}, ShutQ w.heap.size I2 → I2 s W → W.heap[w.heap.size + 1]? = some (.loop r) → I2 s (W.putObj (w.heap.size + 1) o') :=
    fun {s W r} o' {I2} h hs hl => h s W _ (some (w.heap.size + 1)) hs (grownBy_putObj' W _ o') (fun k e => by cases e; exact ⟨Nat.le_succ _, _, hl, rfl, rfl⟩)
  have same0 : ∀ {A B : World}, A.grownBy B none → ∀ {k : Nat} {o : Obj}, A.heap[k]? = some o → B.heap[k]? = some o :=
    fun {A B} hg' {k o} h => (hg'.block _ (Array.getElem?_eq_some_iff.1 h).1 (fun e => nomatch e)).trans h
  refine (callsIn_wide.2 (callsIn_wide.1 (hseq (w.heap.size + 1) (fun pre W => I pre W ∧ W.heap[w.heap.size + 1]? = some (.loop (rec .ready none)) ∧ W.heap[w.heap.size]? = some (.deferred (some [])))
    (fun pre W => ∃ c, Ix c pre W ∧ W.heap[w.heap.size + 1]? = some (.loop (rec .done (some c))) ∧ W.heap[w.heap.size]? = some (.deferred (some []))) V vB (by omega) ?_ ?_ ?_ ?_ ⟨vI, vL, vD⟩))).mono ?_
  · rintro pre A B ⟨h1, h2, h3⟩ hg'
    exact ⟨hI pre A B none h1 hg' (fun r e => nomatch e), same0 hg' h2, same0 hg' h3⟩
  · rintro pre A B ⟨c, h1, h2, h3⟩ hg'
    exact ⟨c, hIx c pre A B none h1 hg' (fun r e => nomatch e), same0 hg' h2, same0 hg' h3⟩
  · rintro pre A B ⟨h1, h2, h3⟩ hq
    exact ⟨hIQ pre A B h1 hq, hQ A B hq _ _ h2 rfl rfl, hQ A B hq _ _ h3 rfl rfl⟩
  · rintro pre x A ys ⟨h1, h2, h3⟩ hks hp
    have hlt0 : w.heap.size + 1 < A.heap.size := (Array.getElem?_eq_some_iff.1 h2).1
    have hy := run_yield (P := P) (args := encs x) h2 (by rw [hrec]; exact hps x)
    rw [hrec] at hy
    refine ⟨fn, _, assign, body, hy, ?_⟩
    refine roundIn_of_wpIn hfn ?_
    refine hassign _ pre x A _ hlt0 h1 fun a' B kf kp h1' hax => ?_
    have b2 := kf.same _ _ (by omega) h2 rfl
    have b3 := kf.same _ _ (Nat.le_refl _) h3 rfl
    have hlt : w.heap.size + 1 < B.heap.size := (Array.getElem?_eq_some_iff.1 b2).1
    refine ⟨_, run_beginRound b2 (by rw [hrec]), ?_⟩
    have c2 : (B.putObj (w.heap.size + 1) (.loop { rec .ready none with state := .busy })).heap[w.heap.size + 1]? = some (.loop { rec .ready none with state := .busy }) := World.putObj_heap_same hlt
    have c3 : (B.putObj (w.heap.size + 1) (.loop { rec .ready none with state := .busy })).heap[w.heap.size]? = some (.deferred (some [])) := (World.putObj_heap_other (by omega)).trans b3
    have hw2 : Kp B (B.putObj (w.heap.size + 1) (.loop { rec .ready none with state := .busy })) := hKb _ _ _ b2 rfl rfl
    have ax2 : Ax x a' (B.putObj (w.heap.size + 1) (.loop { rec .ready none with state := .busy })) := hAx x a' () B _ (some (w.heap.size + 1)) hax (grownBy_putObj' B _ _) (fun k e => by cases e; exact ⟨Nat.le_succ _, _, b2, rfl, rfl⟩)
    refine wpIn_mono (hbody _ pre x a' _ rfl ⟨_, c2⟩ (put _ hI h1' b2) ax2 ⟨ys, hks, hp⟩) ?_
    have fin : ∀ (jump : Option Code) (W3 : World), KeepsFrom w.heap.size (B.putObj (w.heap.size + 1) (.loop { rec .ready none with state := .busy })) W3 →
        (Instr.endRound (w.heap.size + 1) jump).run P W3 = .ok (.bool jump.isNone) (W3.putObj (w.heap.size + 1) (.loop (rec (if jump.isNone then .ready else .done) jump))) ∧
        W3.heap[w.heap.size + 1]? = some (.loop { rec .ready none with state := .busy }) ∧
        (W3.putObj (w.heap.size + 1) (.loop (rec (if jump.isNone then .ready else .done) jump))).heap[w.heap.size + 1]? = some (.loop (rec (if jump.isNone then .ready else .done) jump)) ∧
        (W3.putObj (w.heap.size + 1) (.loop (rec (if jump.isNone then .ready else .done) jump))).heap[w.heap.size]? = some (.deferred (some [])) := fun jump W3 hk3 => by
      have hl3 := hk3.same _ _ (by omega) c2 rfl
      have := run_endRound (P := P) jump hl3
      rw [hrec] at this ⊢
      exact ⟨this, by rw [hrec] at hl3; exact hl3, World.putObj_heap_same (Array.getElem?_eq_some_iff.1 hl3).1, (World.putObj_heap_other (by omega)).trans (hk3.same _ _ (Nat.le_refl _) c3 rfl)⟩
    rintro e a3 W3 hq
    cases e with
    | normal =>
      obtain ⟨hk3, hkp3, hi3⟩ := hq
      obtain ⟨hr, hl3, hl4, hk4⟩ := fin none W3 hk3
      exact ⟨_, _, hr, .inl ⟨rfl, ⟨put _ hI hi3 hl3, hl4, hk4⟩, hKt kp (hKt (hKt hw2 hkp3) (hKb _ _ _ hl3 rfl rfl))⟩⟩
    | ret =>
      obtain ⟨hk3, hi3⟩ := hq
      obtain ⟨hr, hl3, hl4, hk4⟩ := fin (some .ret) W3 hk3
      exact ⟨_, _, hr, .inr ⟨rfl, .ret, put _ (hIx _) hi3 hl3, hl4, hk4⟩⟩
    | exit id =>
      obtain ⟨hk3, hi3⟩ := hq
      obtain ⟨hr, hl3, hl4, hk4⟩ := fin (some (.exit id)) W3 hk3
      exact ⟨_, _, hr, .inr ⟨rfl, .exit id, put _ (hIx _) hi3 hl3, hl4, hk4⟩⟩
    | goto t =>
      obtain ⟨hk3, hi3⟩ := hq
      obtain ⟨hr, hl3, hl4, hk4⟩ := fin (some (.goto t)) W3 hk3
      exact ⟨_, _, hr, .inr ⟨rfl, .goto t, put _ (hIx _) hi3 hl3, hl4, hk4⟩⟩
    | panic ch => exact hq.elim
    | outgrown => exact hq.elim
  · rintro e B ⟨⟨v, rfl⟩, (⟨ys, hks, h1, h2, h3⟩ | ⟨ys, pre, hks, hpre, c, h1, h2, h3⟩)⟩
    · exact ⟨none, _, by have := run_endLoop (P := P) h2 (by rw [hrec]; simp); rw [hrec] at this; exact this, hdone _ ys _ (Nat.le_refl _) hks (put _ hI h1 h2) ((World.putObj_heap_other (by omega)).trans h3)⟩
    · exact ⟨some c, _, by have := run_endLoop (P := P) h2 (by rw [hrec]; simp); rw [hrec] at this; exact this, hstop _ c pre ys _ (Nat.le_refl _) hks hpre (put _ (hIx c) h1 h2) ((World.putObj_heap_other (by omega)).trans h3)⟩
end Go.Proofs.YtfiplhnplmadmaaDoor

/- Package wal: filesFrom as an iterator; segments. Conditions: at most 1000 segments. -/
namespace Go.Proofs.YtfiplhnplmadmaaDoor
open Go.RowKit Go.Shelf
attribute [local go_sem] Oper.semAt_some
set_option linter.unusedVariables false

/-- The files from first on are A's. -/
def Logs (fm : Int → Option FileM) (first : Int) (A : List WSeg) : Prop := OkA A ∧ ∀ i : Nat, (fm (first + (i : Int))).isSome = (A[i]?).isSome ∧ (getF fm (first + (i : Int))).1 = bytA A i
theorem OnD.logs {fm : Int → Option FileM} {first : Int} {A C : List WSeg} (h : OnD fm first A C) (hC : ∀ i : Nat, (C[i]?).isSome = true → (A[i]?).isSome = true) (hA : OkA A) : Logs fm first A :=
  ⟨hA, fun i => ⟨by rw [h.get]; by_cases e : (A[i]?).isSome = true <;> simp [e], by rw [h.getF hC]⟩⟩
theorem WSt.logs {s : DkS} {first : Int} {A : List WSeg} {xs : List ByteArray} (h : WSt s first A xs) : Logs s.fm first (xs.foldl appA A) := h.on.logs (fun i hi => some_run xs A i hi) (h.ok.run h.tx)
def segN (first : Int) (n : Nat) : List Int := (List.range n).map fun i : Nat => first + (i : Int)
theorem segN_len (first : Int) (n : Nat) : (segN first n).length = n := by simp [segN]
theorem segN_snoc (first : Int) (n : Nat) : segN first (n + 1) = segN first n ++ [first + (n : Int)] := by simp [segN, List.range_succ]
theorem segN_get (first : Int) (n i : Nat) (h : i < n) : (segN first n)[i]? = some (first + (i : Int)) := by simp [segN, h]
theorem segN_mem {first : Int} {n : Nat} {k : Int} : k ∈ segN first n ↔ first ≤ k ∧ k < first + (n : Int) := by
  simp only [segN, List.mem_map, List.mem_range]
  constructor
  · rintro ⟨i, hi, rfl⟩; omega
  · rintro ⟨h1, h2⟩; exact ⟨(k - first).toNat, by omega, by omega⟩
theorem segN_rises (first : Int) (n : Nat) : (segN first n).Pairwise (· < ·) := by
  rw [segN, List.pairwise_map]
  exact List.pairwise_lt_range.imp (fun h => by omega)
theorem rises_eq : ∀ {a b : List Int}, a.Pairwise (· < ·) → b.Pairwise (· < ·) → (∀ k, k ∈ a ↔ k ∈ b) → a = b
  | [], [], _, _, _ => rfl
  | [], y :: b, _, _, h => by have := (h y).2 (List.mem_cons_self ..); cases this
  | x :: a, [], _, _, h => by have := (h x).1 (List.mem_cons_self ..); cases this
  | x :: a, y :: b, ha, hb, h => by
    obtain ⟨a1, a2⟩ := List.pairwise_cons.1 ha
    obtain ⟨b1, b2⟩ := List.pairwise_cons.1 hb
    have e : x = y := by
      have h1 := (h x).1 (List.mem_cons_self ..)
      have h2 := (h y).2 (List.mem_cons_self ..)
      rcases List.mem_cons.1 h1 with e | e
      · exact e
      · rcases List.mem_cons.1 h2 with e2 | e2
        · exact e2.symm
        · have := a1 y e2; have := b1 x e; omega
    subst e
    rw [rises_eq a2 b2 fun k => ?_]
    constructor
    · intro hk
      rcases List.mem_cons.1 ((h k).1 (List.mem_cons_of_mem _ hk)) with e | e
      · subst e; have := a1 k hk; omega
      · exact e
    · intro hk
      rcases List.mem_cons.1 ((h k).2 (List.mem_cons_of_mem _ hk)) with e | e
      · subst e; have := b1 k hk; omega
      · exact e
/-- What the iterator yields: the numbers not below first. -/
def FilK (fm : Int → Option FileM) (first : Int) (c : Nat) (ys : List Int) : Prop := ∃ zs, KeysF fm zs ∧ zs.length ≤ c ∧ ys = zs.filter (fun z => decide (first ≤ z))
theorem Logs.fil {fm : Int → Option FileM} {first : Int} {A : List WSeg} (h : Logs fm first A) {c : Nat} {ys : List Int} (hf : FilK fm first c ys) : ys = segN first A.length := by
  obtain ⟨zs, ⟨h1, h2⟩, h3, rfl⟩ := hf
  refine rises_eq (h1.filter _) (segN_rises _ _) fun k => ?_
  rw [List.mem_filter, h2, segN_mem, decide_eq_true_iff]
  constructor
  · rintro ⟨h4, h5⟩
    refine ⟨h5, ?_⟩
    have h6 := (h.2 (k - first).toNat).1
    rw [show first + ((k - first).toNat : Int) = k by omega, h4] at h6
    have := (List.getElem?_eq_some_iff.1 (Option.isSome_iff_exists.1 h6.symm).choose_spec).1
    omega
  · rintro ⟨h4, h5⟩
    refine ⟨?_, h4⟩
    have h6 := (h.2 (k - first).toNat).1
    rw [show first + ((k - first).toNat : Int) = k by omega] at h6
    rw [h6, List.getElem?_eq_getElem (by omega)]; rfl
theorem flat_ints (k : IntKind) (ys : List Int) : ys.flatMap (intE k) = ys.map (fun y => Value.int k y) := by
  induction ys with
  | nil => rfl
  | cons y r ih => rw [List.flatMap_cons, ih]; rfl
/-- The block of the row that the box N holds. -/
def ownN (N : Nat) (W : World) : Option Nat := (W.cell? ⟨N, 0, none⟩).bind Value.ownBlock
/-- What a round turns: the boxes N and N + 1, the row that N holds. -/
structure KpW (N : Nat) (A B : World) : Prop where
  sz : A.heap.size ≤ B.heap.size
  keep : ∀ k cs T fr, A.heap[k]? = some (.cells cs T fr) → k ≠ N → k ≠ N + 1 → ownN N A ≠ some k → B.heap[k]? = A.heap[k]?
  own : ∀ k, ownN N B = some k → ownN N A = some k ∨ A.heap.size ≤ k
theorem KpW.trans {N : Nat} {A B C : World} (h : KpW N A B) (g : KpW N B C) : KpW N A C := by
  refine ⟨Nat.le_trans h.sz g.sz, fun k cs T fr hk h1 h2 h3 => ?_, fun k hk => ?_⟩
  · have e := h.keep k cs T fr hk h1 h2 h3
    have hl := (Array.getElem?_eq_some_iff.1 hk).1
    rw [← e]
    refine g.keep k cs T fr (e.trans hk) h1 h2 (fun ho => ?_)
    rcases h.own k ho with q | q
    · exact h3 q
    · omega
  · rcases g.own k hk with q | q
    · exact h.own k q
    · exact .inr (Nat.le_trans h.sz q)
theorem KpW.refl (N : Nat) (A : World) : KpW N A A := ⟨Nat.le_refl _, fun _ _ _ _ _ _ _ _ => rfl, fun _ h => .inl h⟩
theorem ownN_eq {N : Nat} {A B : World} (h : B.heap[N]? = A.heap[N]?) : ownN N B = ownN N A := by unfold ownN; rw [World.cell?_of_block (a := ⟨N, 0, none⟩) h]
theorem KpW.putObj {N r : Nat} {W : World} {o o' : Obj} (h : W.heap[r]? = some o) (hc : o.isCells = false) (hr : N ≠ r) : KpW N W (W.putObj r o') := by
  refine ⟨by simp [World.putObj], fun k cs T fr hk _ _ _ => World.putObj_heap_other (fun e => ?_), fun k hk => .inl ?_⟩
  · subst e; rw [h] at hk; cases hk; cases hc
  · rw [← hk]; exact (ownN_eq (World.putObj_heap_other hr)).symm
theorem KpW.grown {N : Nat} {A B : World} (hg : A.grownBy B none) (hN : N < A.heap.size) : KpW N A B := by
  refine ⟨hg.size, fun k cs T fr hk _ _ _ => hg.block k (Array.getElem?_eq_some_iff.1 hk).1 (fun e => nomatch e), fun k hk => .inl ?_⟩
  rw [← hk]; exact (ownN_eq (hg.block N hN (fun e => nomatch e))).symm
theorem Boxed.blkW {W : World} {B : Nat} {t : TypeId} {v : Value} (h : Boxed W B t v) : Blk W B t #[v] := h
theorem ownN_of {N : Nat} {W : World} {T : TypeId} {v : Value} (h : Boxed W N T v) : ownN N W = v.ownBlock := by unfold ownN; rw [h.cell]; rfl
def QpD (base : Zn) (d c : Nat) (s : DkS) (A B : World) : Prop := ButD base A B ∧ DObj base B d c s
theorem QpD.keep {base : Zn} {d c : Nat} {s : DkS} {A B : World} (h : QpD base d c s A B) (k : Nat) (o : Obj) (ho : A.heap[k]? = some o) (h1 : o.isCells = false) (h2 : o.isWalk = false) : B.heap[k]? = some o := by
  rw [← ho]
  refine h.1.block k (Array.getElem?_eq_some_iff.1 ho).1 (fun hs => ?_)
  rcases hs.2 with ⟨cs, T, fr, e, _⟩ | ⟨es, cl, e⟩
  · rw [ho] at e; cases e; cases h1
  · rw [ho] at e; cases e; cases h2
theorem int_off : offD 3 := by decide
theorem boxD {base : Zn} {w x : World} {B : Nat} {T : TypeId} {v : Value} (h : Boxed w B T v) (hT : offD T) (hb : ButD base w x) : Boxed x B T v := blkD (h : Blk w B T #[v]) hT hb

set_option maxRecDepth 100000 in
set_option maxHeartbeats 4000000 in
theorem ff_in {base : Zn} {d c : Nat} {s : DkS} (l N : Nat) (first : Int) (Bd Bf : Nat) (J Jx : List Int → World → Prop) (hc : c ≤ 1000000)
    (hJ : ∀ pre A B, J pre A → A.grownBy B none → J pre B) (hJQ : ∀ pre A B, J pre A → QpD base d c s A B → J pre B)
    (hY : ∀ pre x A ys, J pre A → FilK s.fm first c ys → (pre ++ [x]) <+: ys → YieldAt Fence.wide 1 Tryd.prog l #[.int .i64 x] A fun e B => (e = .returned (.bool true) ∧ J (pre ++ [x]) B ∧ KpW N A B) ∨ (e = .returned (.bool false) ∧ Jx (pre ++ [x]) B))
    (W : World) (hN : N + 1 < W.heap.size) (hNo : ownN N W = none) (hNt : ∃ T v, offD T ∧ Boxed W N T v) (hBd : Boxed W Bd 25 (pt d 0)) (hBf : Boxed W Bf 3 (.int .i64 first)) (hf1 : Bf ≠ N ∧ Bf ≠ N + 1) (hD : DObj base W d c s) (h0 : J [] W) :
    CallsIn Fence.wide 2 Tryd.prog 62 #[.func (.yield l) #[] #[], .pointer (some ⟨Bd, 0, none⟩), .pointer (some ⟨Bf, 0, none⟩)] W fun e B => (∃ v, e = .returned v) ∧ ((∃ ys, FilK s.fm first c ys ∧ J ys B) ∨ ∃ ys pre, FilK s.fm first c ys ∧ pre <+: ys ∧ Jx pre B) := by
  have cd := hBd.cell
  simp only [pt] at cd
  have HJ := Lib.hid hJ; have HJQ := Lib.hid hJQ; have HY := Lib.hid hY; have HNO := Lib.hid hNo; have HNT := Lib.hid hNt; have HBD := Lib.hid hBd; have HBF := Lib.hid hBf; have HF1 := Lib.hid hf1; have HD := Lib.hid hD; have H0 := Lib.hid h0
  clear hJ hJQ hY hNo hNt hBd hBf hf1 hD h0
  refine callsIn_of_wp Tryd.func62 rfl trivial ?_ rfl
  simp only [Tryd.ntmps62, List.size_toArray, List.length_cons, List.length_nil, Nat.reduceAdd, Nat.reduceSub, Array.replicate_succ, Array.replicate_zero, List.push_toArray, List.append_toArray, List.nil_append, List.cons_append]
  have h1 : 1 ≤ (2 : Nat) := by omega
  gi_wp2_with fail
  refine ⟨trivial, ?_⟩
  gi_at_call 26
  refine (callsIn_wide.2 (tFiles W HD.out hc)).mono ?_
  rintro e9 w2 ⟨ys, u, rfl, hrow, hK, hlen, hD2, hb9⟩
  obtain ⟨ao, cap, hu, hmax, hat⟩ := row_view hrow
  subst hu
  have HROW := Lib.hid hrow; have HK := Lib.hid hK; have HD2 := Lib.hid hD2; have HB9 := Lib.hid hb9; have HAT := Lib.hid hat
  clear hrow hK hD2 hb9 hat
  gi_wp2_with fail
  gi_loopw [9] (fun p wr => ∃ i : Nat, p = .int .i64 (i : Int) ∧ i ≤ ys.length ∧ J ((ys.take i).filter (fun z => decide (first ≤ z))) wr ∧ wr.ownsRow W.heap.size 3 1 (.slice ao ys.length cap) ys.length (ys.flatMap (intE .i64)) ∧ Boxed wr Bf 3 (.int .i64 first) ∧ (∀ k, ownN N wr = some k → w2.heap.size ≤ k) ∧ w2.heap.size ≤ wr.heap.size)
    (fun p wr => ys.length - (intOf p).toNat)
  case atStart =>
    have hb9 := HB9.out
    have hN2 : ownN N w2 = none := by
      obtain ⟨T, v, hT, hv⟩ := HNT.out
      have h2 := boxD hv hT hb9
      have e1 := ownN_of h2; have e2 := ownN_of hv
      rw [e1, ← e2]; exact HNO.out
    exact ⟨0, rfl, Nat.zero_le _, by simpa using HJQ.out [] W w2 H0.out ⟨hb9, HD2.out⟩, HROW.out, boxD HBF.out int_off hb9, fun k hk => (by rw [hN2] at hk; cases hk), Nat.le_refl _⟩
  case round =>
    obtain ⟨i, rfl, hi, hJi, hrow, hbf, hown, hsz⟩ := hrel
    have hf9 := hbf.cell
    by_cases hlt : i < ys.length
    · obtain ⟨y, hy⟩ : ∃ y, ys[i]? = some y := ⟨_, List.getElem?_eq_getElem hlt⟩
      have hcell : ∃ g, ao = some ⟨g, 0, none⟩ ∧ wr.cell? ⟨g, i, none⟩ = some (.int .i64 y) := by
        obtain ⟨ao', c', e, -, h9⟩ := row_view hrow
        cases e
        obtain ⟨g, e1, -, e2⟩ := h9 i hlt
        exact ⟨g, e1, by rw [e2, flat_ints, List.getElem?_map, hy]; rfl⟩
      obtain ⟨g, rfl, hg⟩ := hcell
      have HY1 := Lib.hid hy; have HJI := Lib.hid hJi; have HR := Lib.hid hrow; have HBF1 := Lib.hid hbf; have HOW := Lib.hid hown; have HSZ := Lib.hid hsz
      clear hy hJi hrow hbf hown
      have hsn : (ys.take (i + 1)).filter (fun z => decide (first ≤ z)) = (ys.take i).filter (fun z => decide (first ≤ z)) ++ (if first ≤ y then [y] else []) := by
        rw [List.take_add_one, HY1.out, List.filter_append]
        congr 1
        by_cases h : first ≤ y <;> simp [h]
      by_cases hfy : first ≤ y
      · rw [if_pos hfy] at hsn
        have hpre : ((ys.take i).filter (fun z => decide (first ≤ z))) ++ [y] <+: ys.filter (fun z => decide (first ≤ z)) := by
          rw [← hsn]; exact (List.take_prefix _ _).filter _
        obtain ⟨fn, tmps, asg, body, hy9, hR⟩ := HY.out _ y wr _ HJI.out ⟨ys, HK.out, hlen, rfl⟩ hpre
        have HSN := Lib.hid hsn; clear hsn hpre
        gi_wp2
        refine hR.mono ?_
        rintro e8 W3 (⟨rfl, hJ3, hk3⟩ | ⟨rfl, hJx3⟩)
        · have HJ3 := Lib.hid hJ3; have HK3 := Lib.hid hk3; clear hJ3 hk3 hy9
          gi_wp2
          go_roundw
          case rel =>
            have hk := HK3.out
            have hrow := HR.out
            have hr3 : W3.ownsRow W.heap.size 3 1 (.slice (some ⟨g, 0, none⟩) ys.length cap) ys.length (ys.flatMap (intE .i64)) := by
              refine row_same hrow hk.sz (fun j hj => ?_)
              obtain ⟨cs, hcs⟩ := rowblk hrow hj
              have h2 := ((HROW.out).lt j hj)
              exact hk.keep j cs _ _ hcs (by omega) (by omega) (fun ho => by have := HOW.out j ho; omega)
            have hf3 : Boxed W3 Bf 3 (.int .i64 first) := by
              have h2 := (HBF.out).lt
              have h3 := HBF1.out
              unfold Boxed at h3 ⊢
              rw [hk.keep Bf _ _ _ h3 HF1.out.1 HF1.out.2 (fun ho => by have := HOW.out Bf ho; have := (HB9.out).size; omega)]; exact h3
            exact ⟨i + 1, rfl, by omega, by rw [HSN.out]; exact HJ3.out, hr3, hf3, fun k hk2 => (by rcases hk.own k hk2 with q | q; exact HOW.out k q; have := HSZ.out; omega), by have := hk.sz; have := HSZ.out; omega⟩
          case measure =>
            show ys.length - (((i : Int) + 1).toNat) < ys.length - (i : Int).toNat
            omega
        · have HX := Lib.hid hJx3; clear hJx3 hy9
          gi_wp2
          refine bodyPost_ret (results_none rfl _ _ _) rfl ?_
          exact ⟨⟨_, rfl⟩, .inr ⟨_, _, ⟨ys, HK.out, hlen, rfl⟩, by rw [← HSN.out]; exact (List.take_prefix _ _).filter _, HX.out⟩⟩
      · rw [if_neg hfy, List.append_nil] at hsn
        have HSN := Lib.hid hsn; clear hsn
        gi_wp2
        all_goals refine ⟨by first | trivial | exact fun _ h => (by cases h), ?_⟩
        all_goals gi_wp2
        refine ⟨⟨i + 1, rfl, by omega, by rw [HSN.out]; exact HJI.out, HR.out, HBF1.out, HOW.out, HSZ.out⟩, ?_⟩
        show ys.length - (((i : Int) + 1).toNat) < ys.length - (i : Int).toNat
        omega
    · have hq : i = ys.length := by omega
      subst hq
      rw [List.take_length] at hJi
      have HJI := Lib.hid hJi; clear hJi hrow hbf hown
      gi_wp2
      go_end0
      exact ⟨⟨_, rfl⟩, .inl ⟨_, ⟨ys, HK.out, hlen, rfl⟩, HJI.out⟩⟩
end Go.Proofs.YtfiplhnplmadmaaDoor

/- Package wal: segments. Conditions: at most 1000 segments. -/
namespace Go.Proofs.YtfiplhnplmadmaaDoor
open Go.RowKit Go.Shelf
attribute [local go_sem] Oper.semAt_some
set_option linter.unusedVariables false

theorem filesFrom_any (d : Nat) (first : Int) (w : World) :
    CallsIn Fence.wide 2 Tryd.prog 46 #[.pointer (some ⟨d, 0, none⟩), .int .i64 first] w fun e w' => e = .returned (.func (.func 62) #[] #[.pointer (some ⟨w.heap.size, 0, none⟩), .pointer (some ⟨w.heap.size + 1, 0, none⟩)]) ∧
      w' = (w.alloc (.cells #[.pointer (some ⟨d, 0, none⟩)] 25)).alloc (.cells #[.int .i64 first] 3) := by
  refine callsIn_of_wp Tryd.func46 rfl trivial ?_ rfl
  simp only [Tryd.ntmps46, List.size_toArray, List.length_cons, List.length_nil, Nat.reduceAdd, Nat.reduceSub, Array.replicate_succ, Array.replicate_zero, List.push_toArray, List.append_toArray, List.nil_append, List.cons_append]
  gi_wp2
  go_ret
  exact ⟨rfl, rfl⟩
theorem ff_seq {base : Zn} {d c : Nat} {s : DkS} (N : Nat) (first : Int) (Bd Bf : Nat) (hc : c ≤ 1000000) (w : World) (hN : N + 1 < w.heap.size) (hNo : ownN N w = none) (hNt : ∃ T v, offD T ∧ Boxed w N T v) (hBd : Boxed w Bd 25 (pt d 0)) (hBf : Boxed w Bf 3 (.int .i64 first)) (hf1 : Bf ≠ N ∧ Bf ≠ N + 1) (hD : DObj base w d c s) :
    SeqQ Tryd.prog 62 #[.pointer (some ⟨Bd, 0, none⟩), .pointer (some ⟨Bf, 0, none⟩)] (fun y : Int => #[.int .i64 y]) (KpW N) (QpD base d c s) (FilK s.fm first c) w := by
  intro l J Jx W hW hsz hJ hJx hJQ hY h0
  have hg := below_grown hW
  have kp : ∀ {B T v}, Boxed w B T v → Boxed W B T v := fun h => Boxed.kept h hg (fun e => nomatch e)
  refine ff_in l N first Bd Bf J Jx hc hJ hJQ hY W (by omega) ?_ ?_ (kp hBd) (kp hBf) hf1 (hD.call hW) h0
  · rw [ownN_eq (hW.block N (by omega))]; exact hNo
  · obtain ⟨T, v, h1, h2⟩ := hNt; exact ⟨T, v, h1, kp h2⟩
theorem wpListIn_append_went {F : Fence} {n : Nat} {P : Program} (w : World) {ops : Array Oper} {rest : List Oper} {o : Oper} {a : Act} {Q : Exit → Act → World → Prop}
    (hg : o.guard = none) (s x : Operand) (t : TypeId) (hop : o.op = Op.call { callee := Callee.builtin Builtin.append, args := #[s, x], argTypes := #[t, t] })
    (B0 : Nat) (e : TypeId) (i : TypeInfo) (z : Value) (size bytes : Nat) (h1 : P.underlying t = some (.slice e)) (h2 : P.info? e = some i) (h3 : i.zero = some z) (h4 : i.size = size) (h5 : i.bytes = bytes) (h6 : z.cells.size = size) (h7 : 0 < size)
    (v : Value) (k : Nat) (xs : List Value) (hs : a.eval s = v) (hown : w.ownsRow B0 e size v k xs) (ad : Addr) (m c : Nat) (news : List Value) (hx : a.eval x = .slice (some ad) m c) (hn : news.length = m * size)
    (hc : ∀ j u, news[j]? = some u → w.cell? (ad.add j) = some u) (h1c : ∀ u ∈ news, u.oneCell' = true) (b1 : k + m ≤ maxLen) (b2 : (k + m) * bytes ≤ 140737488355328) (b3 : B0 ≤ w.heap.size)
    (hK : ∀ v' w', w'.ownsRow B0 e size v' (k + m) (xs ++ news) → w.grownBy w' v.ownBlock → Went w v v' → wpListIn F n P ops Q rest (a.put o.dst v') w') :
    wpListIn F n P ops Q (o :: rest) a w := by
  refine wpListIn_plain hg fun K hK' => ?_
  obtain ⟨v', w', hrun, r1, r2, r3⟩ := run_append_went (P := P) w B0 t o.type e i z size bytes h1 h2 h3 h4 h5 h6 h7 v k xs hown ad m c news hn hc h1c b1 b2 b3
  unfold Oper.wpIn
  refine ⟨?_, ?_⟩
  · simp [Oper.about, hop, resolve, Target.leads, Sem.run_pure]
  · rw [Oper.semAt_plain F _ _ (by rw [hop]; intro c hc'; cases hc')]
    simp [execOp, hop, resolve, invoke, builtin, hs, hx, hrun, Result.andThen]
    exact hK' _ _ (hK v' w' r1 r2 r3)
/-- What the walk of segments holds between rounds. -/
structure SgI (base : Zn) (d c : Nat) (s : DkS) (first : Int) (w : World) (N : Nat) (pre : List Int) (W : World) : Prop where
  row : ∃ v, Boxed W N 53 v ∧ W.ownsRow (N + 2) 3 1 v pre.length (pre.flatMap (intE .i64))
  nxt : Boxed W (N + 1) 3 (.int .i64 (first + (pre.length : Int)))
  obj : DObj base W d c s
  but : ButD base w W
theorem noty_of {W : World} {r : Nat} {o : Obj} (h : W.heap[r]? = some o) (h1 : o.isCells = false) (h2 : o.isWalk = false) : ¬ TyS W r := by
  rintro (⟨cs, T, fr, e, _⟩ | ⟨es, cl, e⟩)
  · rw [h] at e; cases e; cases h1
  · rw [h] at e; cases e; cases h2
theorem But.grown {S : Nat → Prop} {w W W' : World} {row : Option Nat} (h : But S w W) (hg : W.grownBy W' row) (hr : ∀ r, row = some r → w.heap.size ≤ r) : But S w W' :=
  ⟨hg.os.trans h.os, hg.tape.trans h.tape, hg.output.trans h.output, Nat.le_trans h.size hg.size, fun k hk hs => (hg.block k (Nat.lt_of_lt_of_le hk h.size) (fun e => by have := hr k e.symm; omega)).trans (h.block k hk hs)⟩
theorem row_noncells {W W' : World} {row : Option Nat} {B sz k : Nat} {e : TypeId} {v : Value} {xs : List Value} (h : W.ownsRow B e sz v k xs) (hg : W.grownBy W' row) (hr : ∀ r, row = some r → ∃ o : Obj, W.heap[r]? = some o ∧ o.isCells = false) : W'.ownsRow B e sz v k xs := by
  refine row_same h hg.size (fun i hi => hg.block i (h.lt i hi).2 (fun e1 => ?_))
  obtain ⟨o, h1, h2⟩ := hr i e1.symm
  obtain ⟨cs, h3⟩ := rowblk h hi
  rw [h3] at h1; cases h1; cases h2
theorem info_intS : (Tryd.prog.info? 3).map (fun i => (i.zero, i.size, i.bytes)) = some (some (.int .i64 0), 1, 8) := by kernel_rfl
theorem boxed_non {W W' : World} {row : Option Nat} {B : Nat} {T : TypeId} {v : Value} (h : Boxed W B T v) (hg : W.grownBy W' row) (hr : ∀ r, row = some r → ∃ o : Obj, W.heap[r]? = some o ∧ o.isCells = false) : Boxed W' B T v :=
  h.kept hg (fun e => by
    obtain ⟨o, ho, hc⟩ := hr B e.symm
    unfold Boxed at h; rw [h] at ho; cases ho; cases hc)
theorem SgI.shut {base : Zn} {d c : Nat} {s : DkS} {first : Int} {w : World} {N B : Nat} (hB : w.heap.size ≤ B) : ShutQ B (SgI base d c s first w N) := by
  rintro pre W W' row ⟨⟨v, h1, h2⟩, h3, h4, h5⟩ hg hr
  have hr2 : ∀ r, row = some r → ∃ o : Obj, W.heap[r]? = some o ∧ o.isCells = false := fun r e => by obtain ⟨_, o, ho, hc, _⟩ := hr r e; exact ⟨o, ho, hc⟩
  exact ⟨⟨v, boxed_non h1 hg hr2, row_noncells h2 hg hr2⟩, boxed_non h3 hg hr2,
    h4.gr hg (fun r e => by obtain ⟨_, o, ho, hc, hw⟩ := hr r e; exact noty_of ho hc hw), h5.grown hg (fun r e => by have := (hr r e).1; omega)⟩
theorem butD_tr {base : Zn} {w A B : World} (h : ButD base w A) (g : ButD base A B) : ButD base w B :=
  h.trans' g (fun i hi hs => ⟨hs.1, by
    by_cases ht : TyS w i
    · exact ht
    · have e := h.block i hi (fun hq => ht hq.2)
      have h2 := hs.2
      unfold TyS at h2; rw [e] at h2; exact h2⟩)
theorem SgI.turn {base : Zn} {d c : Nat} {s : DkS} {first : Int} {w : World} {N : Nat} {pre : List Int} {A B : World} (h : SgI base d c s first w N pre A) (hq : QpD base d c s A B) : SgI base d c s first w N pre B := by
  obtain ⟨⟨v, h1, h2⟩, h3, h4, h5⟩ := h
  exact ⟨⟨v, boxD h1 (by decide) hq.1, rowD h2 int_off hq.1⟩, boxD h3 int_off hq.1, hq.2, butD_tr h5 hq.1⟩
set_option maxRecDepth 100000 in
set_option maxHeartbeats 4000000 in
theorem segments_any {base : Zn} {d c : Nat} {s : DkS} (first : Int) (A : List WSeg) (w : World) (hD : DObj base w d c s) (hc : c ≤ 1000000) (hL : Logs s.fm first A) (h1 : 1 ≤ first ∧ first ≤ 1073741824) (hA : A.length ≤ 100000) :
    Calls Tryd.prog 30 #[pt d 0, .int .i64 first] w fun e w' => ∃ u, e = .returned u ∧ w'.ownsRow w.heap.size 3 1 u A.length ((segN first A.length).flatMap (intE .i64)) ∧ DObj base w' d c s ∧ ButD base w w' := by
  obtain ⟨N, hN⟩ : ∃ N, N = w.heap.size := ⟨_, rfl⟩
  refine (callsIn_wide (n := 3)).1 ?_
  refine callsIn_of_wp_marks Tryd.func30 rfl trivial ?_ rfl
  simp only [pt, Tryd.ntmps30, List.size_toArray, List.length_cons, List.length_nil, Nat.reduceAdd, Nat.reduceSub, Array.replicate_succ, Array.replicate_zero, List.push_toArray, List.append_toArray, List.nil_append, List.cons_append]
  have h1' : 1 ≤ (3 : Nat) := by omega
  rw [← hN]
  have HN := Lib.hid hN; have HD := Lib.hid hD; have HL := Lib.hid hL
  clear hN hD hL
  gi_wp2
  refine wpIn_wide.2 ?_
  go_step3
  go_wp2
  go_step3
  go_wp2_with fail
  refine ((callsIn_wide (n := 2)).1 (filesFrom_any d first _)).mono ?_
  rintro e w' ⟨rfl, rfl⟩
  go_wp2_with fail
  obtain ⟨i0, hi, hz0, hz1, hz2⟩ := info_parts info_intS
  have bL := (((Boxed.new w 53 (.slice none 0 0)).alloc (.cells #[.int .i64 first] 3)).alloc (.cells #[.pointer (some ⟨d, 0, none⟩)] 25)).alloc (.cells #[.int .i64 first] 3)
  have bN := ((Boxed.new (w.alloc (.cells #[.slice none 0 0] 53)) 3 (.int .i64 first)).alloc (.cells #[.pointer (some ⟨d, 0, none⟩)] 25)).alloc (.cells #[.int .i64 first] 3)
  have bD := (Boxed.new ((w.alloc (.cells #[.slice none 0 0] 53)).alloc (.cells #[.int .i64 first] 3)) 25 (.pointer (some ⟨d, 0, none⟩))).alloc (.cells #[.int .i64 first] 3)
  have bF := Boxed.new (((w.alloc (.cells #[.slice none 0 0] 53)).alloc (.cells #[.int .i64 first] 3)).alloc (.cells #[.pointer (some ⟨d, 0, none⟩)] 25)) 3 (.int .i64 first)
  have hB0 : Below w.heap.size w ((((w.alloc (.cells #[.slice none 0 0] 53)).alloc (.cells #[.int .i64 first] 3)).alloc (.cells #[.pointer (some ⟨d, 0, none⟩)] 25)).alloc (.cells #[.int .i64 first] 3)) := ((((Below.refl _ w).alloc (Nat.le_refl _) _).alloc (by simp) _).alloc (by simp; omega) _).alloc (by simp; omega) _
  have hsz : ((((w.alloc (.cells #[.slice none 0 0] 53)).alloc (.cells #[.int .i64 first] 3)).alloc (.cells #[.pointer (some ⟨d, 0, none⟩)] 25)).alloc (.cells #[.int .i64 first] 3)).heap.size = w.heap.size + 4 := by simp
  simp only [World.size_alloc] at bN bD bF ⊢
  rw [← HN.out] at bL bN bD bF hB0 hsz ⊢
  obtain ⟨W0, hW0⟩ : ∃ W0, ((((w.alloc (.cells #[.slice none 0 0] 53)).alloc (.cells #[.int .i64 first] 3)).alloc (.cells #[.pointer (some ⟨d, 0, none⟩)] 25)).alloc (.cells #[.int .i64 first] 3)) = W0 := ⟨_, rfl⟩
  rw [hW0] at bL bN bD bF hB0 hsz ⊢
  clear hW0
  rw [HN.out] at hB0
  have hD0 := HD.out.call hB0
  have hwN : w.heap.size = N := HN.out.symm
  refine (wpIn_wide (n := 3)).1 ?_
  refine rf_q (gf := 62) (lb := #[.pointer (some ⟨N + 1 + 1, 0, none⟩), .pointer (some ⟨N + 1 + 1 + 1, 0, none⟩)]) rfl (enters_of Tryd.func62 (by kernel_rfl) rfl)
    (ff_seq (base := base) (d := d) (c := c) (s := s) N first (N + 1 + 1) (N + 1 + 1 + 1) hc W0 (by omega) (by rw [ownN_of bL]; rfl) ⟨_, _, by decide, bL⟩ bD bF (by omega) hD0) (fun _ => rfl) KpW.trans (fun W o o' h h1 h2 => KpW.putObj h h1 (by omega)) (fun A B h => h.keep)
    (SgI base d c s first w N) (fun _ _ _ => False) (SgI.shut (by omega)) (fun pre A B h hq => h.turn hq) (fun _ _ _ _ _ h => h.elim)
    ⟨⟨_, bL, World.ownsRow_nil _ _ _ _⟩, by simpa using bN, hD0, But.of_below hB0⟩
    (fun x a' _ => a' = { tmps := #[.pointer (some ⟨d, 0, none⟩), .int .i64 first, undef, undef, .slice none 0 0, .pointer (some ⟨N, 0, none⟩), .pointer (some ⟨N + 1, 0, none⟩), .int .i64 x, .int .i64 first, .pointer (some ⟨d, 0, none⟩), .int .i64 first, .func (.func 62) #[] #[.pointer (some ⟨N + 1 + 1, 0, none⟩), .pointer (some ⟨N + 1 + 1 + 1, 0, none⟩)], .int .i64 x, undef, undef, undef, undef, undef, undef, undef, undef, undef, undef], defers := [] })
    (fun _ _ _ _ _ _ h _ _ => h) ?assign ?body ?done ?stop
  case assign =>
    intro l pre x W K hlt hI hK
    gi_wp2
    exact hK _ _ (KeepsFrom.refl _ _) (KpW.refl _ _) hI rfl
  case stop => intro D c' pre ys W _ _ _ h; exact h.elim
  case body =>
    rintro l pre x a' W rfl ⟨r, hr⟩ ⟨⟨v, hv, hrow⟩, hn, hobj, hbut⟩ rfl ⟨ys, hks, hp⟩
    have hys := HL.out.fil hks
    subst hys
    have hlt : pre.length < A.length := by have := hp.length_le; rw [List.length_append, segN_len] at this; simp at this; omega
    have hx : x = first + (pre.length : Int) := by
      obtain ⟨tl, htl⟩ := hp
      have h1 : (segN first A.length)[pre.length]? = some x := by rw [← htl, List.append_assoc, List.getElem?_append_right (Nat.le_refl _)]; simp
      rw [segN_get _ _ _ hlt] at h1; exact (Option.some.inj h1).symm
    subst hx
    have hWs : N + 5 < W.heap.size := by have := (Array.getElem?_eq_some_iff.1 hr).1; omega
    have cv := hv.cell; have cn := hn.cell; have fv := hv.frozen; have fn := hn.frozen
    have HOB := Lib.hid hobj; have HBU := Lib.hid hbut; have HP := Lib.hid hp; have HKS := Lib.hid hks
    clear hobj hbut hp hks
    gi_wp2_with (gi_at_builtin; refine wpListIn_append_went _ rfl _ _ 53 rfl (N + 2) 3 i0 (.int .i64 0) 1 8 Tryd.underlying53 hi hz0 hz1 hz2 rfl (by decide) _ _ _ rfl (hrow.alloc _) ⟨W.heap.size, 0, none⟩ 1 1 [.int .i64 (first + (pre.length : Int))] rfl rfl (cell_one_new _ _ _) (by simp [Value.oneCell']) (by unfold maxLen; omega) (by omega) (by simp; omega) ?_; intro v' w1 hown' hgrow hwent; obtain ⟨g', cap', rfl⟩ := ownsRow_succ hown'; replace hwent : Went (W.alloc (.cells #[.int .i64 (first + (pre.length : Int))] 3)) v (.slice (some ⟨g', 0, none⟩) (pre.length + 1) cap') := hwent; replace hgrow : (W.alloc (.cells #[.int .i64 (first + (pre.length : Int))] 3)).grownBy w1 v.ownBlock := hgrow; obtain ⟨p1, p2, p3, p4, p5⟩ := hv.appended (by decide) (own_lowI hrow (B' := N) (by omega)) (by omega) (Nat.le_refl _) (own_lowI hown' (B' := N) (by omega)) hgrow; have hn1 := ((hn.alloc (.cells #[.int .i64 (first + (pre.length : Int))] 3)).kept hgrow (fun e => by have := own_blockI hrow _ e.symm; omega)).other (B' := N) (by omega) (.slice (some ⟨g', 0, none⟩) (pre.length + 1) cap'); have hc1 := p1.cell; have hf1 := p1.frozen; have hc2 := hn1.cell; have hf2 := hn1.frozen)
    have g3 := grownBy_setCell' (w1.setCell ⟨N, 0, none⟩ (.slice (some ⟨g', 0, none⟩) (pre.length + 1) cap')) (N + 1) (.int .i64 (first + (pre.length : Int) + 1))
    have hsz1 : W.heap.size ≤ w1.heap.size := by have := hgrow.size; simp at this; omega
    have hblk : ∀ k, k < W.heap.size → k ≠ N → k ≠ N + 1 → v.ownBlock ≠ some k → ((w1.setCell ⟨N, 0, none⟩ (.slice (some ⟨g', 0, none⟩) (pre.length + 1) cap')).setCell ⟨N + 1, 0, none⟩ (.int .i64 (first + (pre.length : Int) + 1))).heap[k]? = W.heap[k]? := by
      intro k hk h1 h2 h3
      rw [g3.block k (by simp; omega) (by simpa using h2), (grownBy_setCell' w1 N _).block k (by omega) (by simpa using h1), hgrow.block k (by simp; omega) (fun e => h3 e.symm)]
      exact (World.grownBy_alloc W _ none).block k hk (fun e => nomatch e)
    have p3' := (hown'.kept (grownBy_setCell' w1 N (.slice (some ⟨g', 0, none⟩) (pre.length + 1) cap')) (.inr (p1.not_row (by decide) hown').symm)).kept g3 (.inr (fun e => by have := own_blockI hown' _ e; omega))
    have hl1 : (pre ++ [first + (pre.length : Int)]).length = pre.length + 1 := by simp
    refine ⟨(p4.trans (KeepsOthers.setCell _ _ _)).from _, ⟨by simp; omega, fun k cs T fr hk h1 h2 h3 => hblk k (Array.getElem?_eq_some_iff.1 hk).1 h1 h2 (fun e => h3 ((ownN_of hv).trans e)), fun k hk => ?_⟩, ⟨⟨_, p2.other (by omega) _, ?_⟩, ?_, ?_, ?_⟩⟩
    · rw [ownN_of (p2.other (by omega) _)] at hk
      rcases hwent with e | e
      · exact .inl ((ownN_of hv).trans (e ▸ hk))
      · have := e k hk; simp at this; exact .inr (by omega)
    · rw [hl1, List.flatMap_append]; exact p3'
    · rw [hl1, show first + ((pre.length + 1 : Nat) : Int) = first + (pre.length : Int) + 1 by omega]; exact hn1.set _
    · refine (((HOB.out.gr (World.grownBy_alloc W _ none) (fun r e => nomatch e)).gr hgrow (fun r e => ?_)).gr (grownBy_setCell' w1 N _) (fun r e => ?_)).gr g3 (fun r e => ?_)
      · obtain ⟨cs, h3⟩ := rowblk (hrow.alloc (.cells #[.int .i64 (first + (pre.length : Int))] 3)) e
        exact not_ty h3 int_off
      · cases e; exact not_ty (p1 : _ = _) (by decide)
      · cases e; exact not_ty (hn1 : _ = _) int_off
    · refine (((HBU.out.grown (World.grownBy_alloc W _ none) (fun r e => nomatch e)).grown hgrow (fun r e => ?_)).grown (grownBy_setCell' w1 N _) (fun r e => ?_)).grown g3 (fun r e => ?_)
      · have := own_blockI hrow _ e; omega
      · cases e; omega
      · cases e; omega
  case done =>
    rintro D ys W hDw hks ⟨⟨v, hv, hrow⟩, hn, hobj, hbut⟩ hdef
    have hys := HL.out.fil hks
    subst hys
    obtain ⟨ao, n, cap, rfl⟩ := own_slice hrow
    have cv := hv.cell
    have HROW := Lib.hid hrow; have HOB := Lib.hid hobj; have HBU := Lib.hid hbut; have HDF := Lib.hid hdef; have HV := Lib.hid hv
    clear hrow hobj hbut hn hks hdef
    go_wp2
    rw [Exit.noGoto_ret]
    refine ⟨by simp, .inl ⟨_, _, rfl, run_takeDeferred (w := W) HDF.out, ?_⟩⟩
    have hg := fun (o : Obj) => grownBy_putObj' W D o
    have hnt : ¬ TyS W D := noty_of HDF.out rfl rfl
    refine ⟨_, results_tmp rfl _ _ _, _, rfl, ?_, HOB.out.gr (hg _) (fun r e => by cases e; exact hnt), HBU.out.grown (hg _) (fun r e => by cases e; omega)⟩
    have h := ownsRow_putObj (W := W) (own_lowI HROW.out (B' := w.heap.size) (by omega)) (.deferred none) HDF.out rfl
    rw [segN_len, hwN] at h
    exact h
end Go.Proofs.YtfiplhnplmadmaaDoor

/- Package wal: here, Open, Append, Last, Read. Conditions: files of at most 2^43 bytes; at most 100000 segments. -/
namespace Go.Proofs.YtfiplhnplmadmaaDoor
open Go.RowKit Go.PlainAid Go.Shelf
set_option linter.unusedVariables false

theorem tab_butD {base : Zn} {w x : World} (h : Tab w) (hb : ButD base w x) (h0 : ¬ base.P 0) : Tab x := fun i hi => by
  have h1 := h i hi
  rw [← h1]; exact World.cell?_of_block (hb.block 0 (World.block_lt_of_cell? w _ h1) (fun hs => h0 hs.1))
theorem tab_nat {w : World} (h : Tab w) : ¬ (Zn.nat w.heap.size).P 0 := by have := tab_pos h; show ¬ (w.heap.size ≤ 0); omega
theorem dat_seg {fm : Int → Option FileM} {first : Int} {A : List WSeg} (h : Logs fm first A) {i : Nat} {y : WSeg} (hy : A[i]? = some y) : datF fm (first + (i : Int)) = y.b := by
  apply bytes_eq
  unfold datF
  rw [(h.2 i).2]; unfold bytA; rw [hy]; rfl
theorem hereA_snoc {first : Int} {A : List WSeg} {y : WSeg} (hy : A[A.length - 1]? = some y) (h0 : A ≠ []) : hereA first A = if fullS y = true then first + (A.length : Int) else first + ((A.length - 1 : Nat) : Int) := by
  unfold hereA atA
  rw [List.getLast?_eq_getElem?, hy]
  show first + (((if fullS y = true then A.length else A.length - 1) : Nat) : Int) = _
  split <;> rfl
/-- What is asked of a log to be read. -/
structure LogR (base : Zn) (d c : Nat) (s : DkS) (first : Int) (A : List WSeg) (w : World) : Prop where
  obj : DObj base w d c s
  c6 : c ≤ 1000000
  log : Logs s.fm first A
  fst : 1 ≤ first ∧ first ≤ 1073741824
  len : A.length ≤ 100000
  sz : ∀ y ∈ A, y.b.size ≤ 1000000000
  txt : (txtA A).length ≤ 1000000
  tab : Tab w
  b0 : ¬ base.P 0
theorem LogR.turn {base : Zn} {d c : Nat} {s : DkS} {first : Int} {A : List WSeg} {w x : World} (h : LogR base d c s first A w) (hD : DObj base x d c s) (hb : ButD base w x) : LogR base d c s first A x :=
  ⟨hD, h.c6, h.log, h.fst, h.len, h.sz, h.txt, tab_butD h.tab hb h.b0, h.b0⟩
theorem LogR.below {base : Zn} {d c : Nat} {s : DkS} {first : Int} {A : List WSeg} {w x : World} (h : LogR base d c s first A w) (hb : Below w.heap.size w x) : LogR base d c s first A x := h.turn (h.obj.call hb) (But.of_below hb)
set_option maxRecDepth 100000 in
set_option maxHeartbeats 2000000 in
theorem here_any {base : Zn} {d c : Nat} {s : DkS} (first : Int) (A : List WSeg) (w : World) (hR : LogR base d c s first A w) :
    Calls Tryd.prog 33 #[pt d 0, .int .i64 first] w fun e w' => e = .returned (.int .i64 (hereA first A)) ∧ DObj base w' d c s ∧ ButD base w w' := by
  have hlen := hR.len
  have HRR := Lib.hid hR; clear hR
  go_enter Tryd.func33, Tryd.ntmps33
  simp only [pt]
  go_wp2_with fail
  refine (segments_any first A w HRR.out.obj HRR.out.c6 HRR.out.log HRR.out.fst HRR.out.len).mono ?_
  rintro e w1 ⟨u, rfl, hrow, hD1, hb1⟩
  obtain ⟨ao, cap, rfl, hm, hat⟩ := row_view hrow
  have HR1 := Lib.hid (HRR.out.turn hD1 hb1); have HB1 := Lib.hid hb1
  clear hrow hD1 hb1
  have hf := HRR.out.fst
  obtain ⟨fst1, fst2⟩ := hf
  by_cases h0 : A = []
  · subst h0
    have HAT := Lib.hid hat; clear hat
    go_wp2
    go_ret
    exact ⟨ret_int (by simp [hereA, atA]), HR1.out.obj, HB1.out⟩
  · have hpos : 0 < A.length := List.length_pos_iff.2 h0
    obtain ⟨y, hy⟩ : ∃ y, A[A.length - 1]? = some y := ⟨_, List.getElem?_eq_getElem (by omega)⟩
    obtain ⟨g, rfl, -, hg⟩ := hat (A.length - 1) (by omega)
    rw [flat_ints, List.getElem?_map, segN_get _ _ _ (by omega)] at hg
    replace hg : w1.cell? ⟨g, A.length - 1, none⟩ = some (.int .i64 (first + ((A.length - 1 : Nat) : Int))) := hg
    have hne : ((A.length : Int) == 0) = false := by simp; omega
    have e1 : (A.length : Int) - 1 = ((A.length - 1 : Nat) : Int) := by omega
    have hyb := HRR.out.sz y (List.mem_of_getElem? hy)
    obtain ⟨p, hp⟩ : ∃ p : Int, p = first + ((A.length - 1 : Nat) : Int) := ⟨_, rfl⟩
    rw [← hp] at hg
    have HY := Lib.hid hy; have HP := Lib.hid hp; have H0 := Lib.hid h0; have HAT := Lib.hid hat; have HA := Lib.hid hlen
    have hp1 : p ≤ 2000000000 := by omega
    have hp2 : 0 ≤ p := by omega
    clear hy hp h0 hat
    have hdat : datF s.fm p = y.b := by rw [HP.out]; exact dat_seg HRR.out.log HY.out
    have hhere := hereA_snoc (first := first) HY.out H0.out
    have HDT := Lib.hid hdat; have HH := Lib.hid hhere
    clear hdat hhere hyb hlen
    go_wp2_with fail
    clear e1 hne
    refine (tData w1 p HR1.out.obj).mono ?_
    rintro e w2 ⟨rfl, hD2, hb2⟩
    rw [HDT.out]
    have HR2 := Lib.hid (HR1.out.turn hD2 hb2); have HB2 := Lib.hid (butD_tr HB1.out hb2)
    have hyb := HRR.out.sz y (List.mem_of_getElem? HY.out)
    have hS := seg_all (HRR.out.log.1 y (List.mem_of_getElem? HY.out))
    obtain ⟨B, hB⟩ : ∃ B, B = y.b := ⟨_, rfl⟩
    obtain ⟨cQ, hcQ⟩ : ∃ cQ : Int, cQ = if y.q.size = 0 then 0 else 2 := ⟨_, rfl⟩
    rw [← hB] at hyb hS ⊢
    rw [← hcQ] at hS
    have hE : hereA first A = if 256 ≤ B.size ∨ cQ ≠ 0 then p + 1 else p := by
      rw [HH.out]
      have e2 : (fullS y = true) ↔ (256 ≤ B.size ∨ cQ ≠ 0) := by
        unfold fullS; rw [Bool.or_eq_true, decide_eq_true_iff, decide_eq_true_iff, hB, hcQ]
        by_cases hq : y.q.size = 0
        · rw [if_pos hq]; simp [hq]
        · rw [if_neg hq]; simp [hq]
      by_cases hf : fullS y = true
      · rw [if_pos hf, if_pos (e2.1 hf), HP.out]; omega
      · rw [if_neg hf, if_neg (fun h => hf (e2.2 h)), HP.out]
    have HE := Lib.hid hE; have HS := Lib.hid hS; have HSZ := Lib.hid hyb
    clear hD2 hb2 hB hcQ hyb hS hE
    by_cases hbig : (256 : Int) ≤ (B.size : Int)
    · have hb1 : decide ((256 : Int) ≤ (B.size : Int)) = true := decide_eq_true hbig
      go_wp2
      go_ret
      exact ⟨ret_int (by rw [HE.out, if_pos (.inl (by omega))]), HR2.out.obj, HB2.out⟩
    · have hb1 : decide ((256 : Int) ≤ (B.size : Int)) = false := decide_eq_false hbig
      go_wp2_with fail
      have hyb := HSZ.out
      refine (all_any B w2 HR2.out.tab (by omega)).mono ?_
      rintro e w3 ⟨v, l, b, c3, rfl, hAll, hrow3, hb3⟩
      obtain ⟨-, -, hc3⟩ := run_det hAll.1 hAll.2 HS.out.1 HS.out.2
      subst hc3
      have HR3 := Lib.hid (HR2.out.below hb3); have HB3 := Lib.hid (butD_tr HB2.out (But.of_below hb3)); have HBG := Lib.hid hbig
      clear hAll hrow3 hb3 hyb hb1 hbig
      by_cases hq : c3 = 0
      · subst hq
        go_wp2
        go_ret
        exact ⟨ret_int (by rw [HE.out, if_neg (by have := HBG.out; omega)]), HR3.out.obj, HB3.out⟩
      · have hne : (c3 != 0) = true := by simpa using hq
        have HQ := Lib.hid hq; clear hq
        go_wp2
        go_ret
        exact ⟨ret_int (by rw [HE.out, if_pos (.inr HQ.out)]), HR3.out.obj, HB3.out⟩
end Go.Proofs.YtfiplhnplmadmaaDoor

/- Package wal: Open. Conditions: as for here. -/
namespace Go.Proofs.YtfiplhnplmadmaaDoor
open Go.RowKit Go.PlainAid Go.Shelf
set_option linter.unusedVariables false
theorem strE_oneW (z : ByteArray) : ∀ u ∈ strE z, u.oneCell' = true := by intro u hu; simp [strE] at hu; subst hu; rfl
theorem txtA_take {A : List WSeg} {i : Nat} {y : WSeg} (h : A[i]? = some y) : txtA (A.take (i + 1)) = txtA (A.take i) ++ y.T := by
  unfold txtA; rw [List.take_add_one, h]; simp
theorem txtA_len {A : List WSeg} {i : Nat} : (txtA (A.take i)).length ≤ (txtA A).length := by
  conv => rhs; rw [← List.take_append_drop i A]
  unfold txtA; rw [List.flatMap_append, List.length_append]; omega
set_option maxRecDepth 100000 in
set_option maxHeartbeats 4000000 in
theorem wopen_any {base : Zn} {d c : Nat} {s : DkS} (first : Int) (A : List WSeg) (w : World) (hR : LogR base d c s first A w) :
    Calls Tryd.prog 11 #[pt d 0, .int .i64 first] w fun e w' => ∃ (N : Nat) (u : Value), e = .returned (.tuple #[pt N 0, u, .int .i64 0]) ∧ (Blk w' N 41 #[.bool true, pt d 0, .int .i64 first] ∧ w.heap.size ≤ N) ∧ w'.ownsRow w.heap.size 9 1 u (txtA A).length ((txtA A).flatMap strE) ∧ DObj base w' d c s ∧ ButD base w w' := by
  have hlen := hR.len; have htx := hR.txt
  obtain ⟨fst1, fst2⟩ := hR.fst
  obtain ⟨i0, hinf, hz0, hz1, hz2⟩ := info_parts info_strI
  have HRR := Lib.hid hR; clear hR
  go_enter Tryd.func11, Tryd.ntmps11
  simp only [pt]
  go_wp2_with fail
  refine (segments_any first A w HRR.out.obj HRR.out.c6 HRR.out.log HRR.out.fst HRR.out.len).mono ?_
  rintro e w1 ⟨u, rfl, hrow, hD1, hb1⟩
  obtain ⟨ao, cap, rfl, hm, hat⟩ := row_view hrow
  have HR1 := Lib.hid (HRR.out.turn hD1 hb1); have HB1 := Lib.hid hb1; have HROW := Lib.hid hrow
  clear hrow hD1 hb1 hat
  go_wp2_with fail
  go_loopg [7, 27] (A.length + 1) (fun g s7 s27 wr => ∃ i : Nat, s27 = .int .i64 i ∧ i ≤ A.length ∧ A.length + 1 ≤ i + g ∧ Hid (wr.ownsRow w.heap.size 9 1 s7 (txtA (A.take i)).length ((txtA (A.take i)).flatMap strE)) ∧ Hid (wr.ownsRow w.heap.size 3 1 (.slice ao A.length cap) A.length ((segN first A.length).flatMap (intE .i64))) ∧ Hid (LogR base d c s first A wr) ∧ Hid (ButD base w wr))
  case atStart => exact ⟨0, rfl, by omega, by omega, Lib.hid (World.ownsRow_nil _ _ _ _), HROW, HR1, HB1⟩
  case round =>
    obtain ⟨i, rfl, hi, hg, HT, HN, HL, HB⟩ := hrel
    by_cases hlt : i < A.length
    · obtain ⟨y, hy⟩ : ∃ y, A[i]? = some y := ⟨_, List.getElem?_eq_getElem hlt⟩
      obtain ⟨ao', c', e, -, hat⟩ := row_view HN.out
      cases e
      obtain ⟨g2, rfl, -, hg2⟩ := hat i hlt
      rw [flat_ints, List.getElem?_map, segN_get _ _ _ hlt] at hg2
      replace hg2 : wr.cell? ⟨g2, i, none⟩ = some (.int .i64 (first + (i : Int))) := hg2
      obtain ⟨p, hp⟩ : ∃ p : Int, p = first + (i : Int) := ⟨_, rfl⟩
      rw [← hp] at hg2
      have hdat : datF s.fm p = y.b := by rw [hp]; exact dat_seg HRR.out.log hy
      have hyb := HRR.out.sz y (List.mem_of_getElem? hy)
      have HDT := Lib.hid hdat; have HY := Lib.hid hy; have HP := Lib.hid hp; have HAT := Lib.hid hat
      clear hdat hy hp hat
      go_wp2_with fail
      refine (tData wr p HL.out.obj).mono ?_
      rintro e w2 ⟨rfl, hD2, hb2⟩
      rw [HDT.out]
      have HL2 := Lib.hid (HL.out.turn hD2 hb2); have HB2 := Lib.hid (butD_tr HB.out hb2); have HT2 := Lib.hid (rowD HT.out (by decide) hb2); have HN2 := Lib.hid (rowD HN.out int_off hb2)
      clear hD2 hb2
      go_wp2_with fail
      refine (all_any y.b w2 HL2.out.tab (by omega)).mono ?_
      rintro e w3 ⟨v, l, b, c3, rfl, hAll, hrow3, hb3⟩
      have hS := seg_all (HRR.out.log.1 y (List.mem_of_getElem? HY.out))
      obtain ⟨hl3, -, -⟩ := run_det hAll.1 hAll.2 hS.1 hS.2
      subst hl3
      have HL3 := Lib.hid (HL2.out.below hb3); have HB3 := Lib.hid (butD_tr HB2.out (But.of_below hb3)); have HT3 := Lib.hid (row_below HT2.out hb3); have HN3 := Lib.hid (row_below HN2.out hb3)
      have htk := txtA_take HY.out
      have htl := txtA_len (A := A) (i := i + 1)
      have hsz3 := HB3.out.size
      have HTK := Lib.hid htk; have HROW3 := Lib.hid hrow3
      rw [htk, List.length_append] at htl
      clear hAll hS hb3 htk hrow3
      obtain ⟨a7, n7, c7, rfl⟩ := own_slice HT3.out
      obtain ⟨a8, n8, c8, rfl⟩ := own_slice HROW3.out
      go_wp2_with (at_builtin; go_loud (refine wpList_append_src rfl (.tmp 39) (.tmp 40) 28 rfl w.heap.size 9 i0 (.string ⟨#[]⟩) 1 16 Tryd.underlying28 hinf hz0 hz1 hz2 rfl (by decide) (.slice a7 n7 c7) (txtA (A.take i)).length ((txtA (A.take i)).flatMap strE) rfl HT3.out strE y.T (.slice a8 n8 c8) rfl (SliceOf.own HROW3.out (fun _ _ => rfl)) (fun z _ => ⟨rfl, strE_oneW z⟩) (by unfold maxLen; omega) (by omega) (by omega) ?_); intro v' w4 hown' hgrow)
      have hD4 := HL3.out.obj.row HT3.out (by decide) hgrow
      have hB4 : ButD base w w4 := HB3.out.grown hgrow (fun r e => own_blockI HT3.out _ e)
      have HB4 := Lib.hid hB4; have HL4 := Lib.hid (HRR.out.turn hD4 hB4); have HN4 := Lib.hid (row_kept_row HN3.out HT3.out hgrow (by decide))
      have HT4 : Hid (w4.ownsRow w.heap.size 9 1 v' (txtA (A.take (i + 1))).length ((txtA (A.take (i + 1))).flatMap strE)) := Lib.hid (by rw [HTK.out, List.length_append, List.flatMap_append]; exact hown')
      clear hD4 hB4 hgrow hown'
      go_roundg (gk - 1)
      case rel => exact ⟨i + 1, by go_num, by omega, by omega, HT4, HN4, HL4, HB4⟩
      case measure => omega
    · have hq : i = A.length := by omega
      subst hq
      rw [List.take_length] at HT
      have hb := HB.out
      obtain ⟨ao2, n2, cap2, rfl⟩ := own_slice HT.out
      go_wp2
      go_ret3
      have hg := World.grownBy_alloc wr (.cells #[.bool true, .pointer (some ⟨d, 0, none⟩), .int .i64 first] 41) none
      exact ⟨_, _, rfl, ⟨World.alloc_heap_new wr _, HB.out.size⟩, row_kept_new HT.out hg, HL.out.obj.new hg, HB.out.grown hg (fun r e => nomatch e)⟩
theorem Blk.grW {w x : World} {N : Nat} {T : TypeId} {cs : Array Value} (h : Blk w N T cs) (hT : offD T) {base : Zn} (hb : ButD base w x) : Blk x N T cs := blkD h hT hb
end Go.Proofs.YtfiplhnplmadmaaDoor

/- Package wal: a disk that bears a log, as one object; what calls make of it. Conditions: at most 900 calls. -/
namespace Go.Proofs.YtfiplhnplmadmaaDoor
open Go.RowKit Go.PlainAid Go.Shelf
set_option linter.unusedVariables false

theorem nodup_le : ∀ {l K : List Int}, l.Nodup → (∀ a ∈ l, a ∈ K) → l.length ≤ K.length
  | [], K, _, _ => Nat.zero_le _
  | a :: r, K, hn, hs => by
    obtain ⟨h1, h2⟩ := List.nodup_cons.1 hn
    have ha := hs a (List.mem_cons_self ..)
    have h3 := nodup_le (K := K.erase a) h2 (fun b hb => (List.mem_erase_of_ne (fun e => h1 (by rw [← e]; exact hb))).2 (hs b (List.mem_cons_of_mem _ hb)))
    have h4 := List.length_erase_of_mem ha
    have h5 : 0 < K.length := List.length_pos_iff.2 (List.ne_nil_of_mem ha)
    rw [List.length_cons]; omega
theorem DObj.tight {base : Zn} {d c : Nat} {s : DkS} {w : World} (h : DObj base w d c s) {K : List Int} (hK : ∀ k, (s.fm k).isSome = true → k ∈ K) : DObj base w d K.length s := by
  obtain ⟨M, pv, g, c', hc, hP⟩ := h
  refine ⟨M, pv, g, K.length, ⟨Nat.le_refl _, hc.2⟩, { hP with map := ?_ }⟩
  obtain ⟨l, h1, h2, h3⟩ := hP.map
  refine ⟨l, h1, h2, ?_⟩
  have hnd : (l.map (·.1)).Nodup := h1.keys
  have h4 := nodup_le (K := K) hnd (fun a ha => by
    obtain ⟨p, hp, rfl⟩ := List.mem_map.1 ha
    have h5 := (getK_mem l p.1 p.2 hnd).2 hp
    rw [h2] at h5
    refine hK _ ?_
    rw [← hP.rel p.1]
    cases hg : g p.1 with
    | none => rw [hg] at h5; cases h5
    | some f => rfl)
  rwa [List.length_map] at h4
theorem run_len (xs : List ByteArray) (A : List WSeg) : (xs.foldl appA A).length ≤ A.length + xs.length := by
  induction xs generalizing A with
  | nil => simp
  | cons x r ih =>
    rw [List.foldl_cons, List.length_cons]
    have h1 := ih (appA A x)
    have h2 : (appA A x).length ≤ A.length + 1 := by unfold appA; rw [putA_len]; split <;> omega
    omega
theorem OnD.keys {fm : Int → Option FileM} {first : Int} {A C : List WSeg} (h : OnD fm first A C) : ∀ k, (fm k).isSome = true → k ∈ segN first A.length := fun k hk => by
  rw [h k] at hk; unfold flW at hk
  rw [segN_mem]
  by_cases hl : first ≤ k
  · rw [if_pos hl] at hk
    by_cases hs : (A[(k - first).toNat]?).isSome = true
    · have := (List.getElem?_eq_some_iff.1 (Option.isSome_iff_exists.1 hs).choose_spec).1; omega
    · rw [if_neg hs] at hk; cases hk
  · rw [if_neg hl] at hk; cases hk
/-- A disk that bears just a log: A's segments are safe, xs came since; m calls at most. -/
def WlO (base : Zn) (w : World) (d m : Nat) (first : Int) (A : List WSeg) (xs : List ByteArray) : Prop :=
  ∃ s, DObj base w d (xs.foldl appA A).length s ∧ WSt s first A xs ∧ DkI s m ∧ 0 ≤ s.boots ∧ s.boots ≤ (m : Int) + 1 ∧ A.length + xs.length ≤ m ∧ (txtA A).length + xs.length ≤ m ∧ 1 ≤ first ∧ first ≤ 1000000000
section
variable {base : Zn} {d m N : Nat} {n0 : Int} {first : Int} {A : List WSeg} {xs : List ByteArray} {w x : World}
theorem WlO.new (h : WlO base w d m first A xs) (hg : w.grownBy x none) : WlO base x d m first A xs := by obtain ⟨s, h1, h2⟩ := h; exact ⟨s, h1.new hg, h2⟩
theorem WlO.call (h : WlO base w d m first A xs) (hb : Below w.heap.size w x) : WlO base x d m first A xs := by obtain ⟨s, h1, h2⟩ := h; exact ⟨s, h1.call hb, h2⟩
theorem WlO.at {T : TypeId} {cs : Array Value} (h : WlO base w d m first A xs) (hb : Blk w N T cs) (hT : offD T) (hg : w.grownBy x (some N)) : WlO base x d m first A xs := by obtain ⟨s, h1, h2⟩ := h; exact ⟨s, h1.at hb hT hg, h2⟩
theorem WlO.row {B sz k : Nat} {e : TypeId} {v : Value} {ys : List Value} (h : WlO base w d m first A xs) (hr : w.ownsRow B e sz v k ys) (hT : offD e) (hg : w.grownBy x v.ownBlock) : WlO base x d m first A xs := by obtain ⟨s, h1, h2⟩ := h; exact ⟨s, h1.row hr hT hg, h2⟩
theorem WlO.up {m' : Nat} (h : WlO base w d m first A xs) (hm : m ≤ m') : WlO base w d m' first A xs := by
  obtain ⟨s, h1, h2, h3, h4, h5, h6, h7, h8⟩ := h; exact ⟨s, h1, h2, h3.up hm, h4, by omega, by omega, by omega, h8⟩
theorem WlO.eq {A' : List WSeg} {xs' : List ByteArray} (h : WlO base w d m first A xs) (e1 : A = A') (e2 : xs = xs') : WlO base w d m first A' xs' := by subst e1 e2; exact h
theorem WlO.len (h : WlO base w d m first A xs) : A.length + xs.length ≤ m ∧ (txtA A).length + xs.length ≤ m := by obtain ⟨s, h1, h2, h3, h4, h5, h6, h7, h8⟩ := h; exact ⟨h6, h7⟩
def WlX (base : Zn) (w : World) (d m : Nat) (first : Int) (A : List WSeg) (xs : List ByteArray) (s : DkS) : Prop :=
  DObj base w d (xs.foldl appA A).length s ∧ WSt s first A xs ∧ DkI s m ∧ 0 ≤ s.boots ∧ s.boots ≤ (m : Int) + 1 ∧ A.length + xs.length ≤ m ∧ (txtA A).length + xs.length ≤ m ∧ 1 ≤ first ∧ first ≤ 1000000000
theorem WlX.logR {s : DkS} (h : WlX base w d m first A xs s) (hm : m ≤ 900) (ht : Tab w) (hb : ¬ base.P 0) : LogR base d (xs.foldl appA A).length s first (xs.foldl appA A) w ∧ hereA first (xs.foldl appA A) ≤ first + (m : Int) := by
  obtain ⟨h1, h2, h3, h4, h5, h6, h7, h8, h9⟩ := h
  have hl := run_len xs A
  refine ⟨⟨h1, by omega, h2.logs, ⟨h8, by omega⟩, by omega, fun y hy => ?_, ?_, ht, hb⟩, ?_⟩
  · obtain ⟨i, hi⟩ := List.getElem?_of_mem hy
    have h10 := h3.len (first + (i : Int))
    rw [((h2.logs).2 i).2] at h10
    unfold bytA at h10
    rw [hi] at h10
    have h11 : ((y.b.data.toList.length : Nat) : Int) ≤ m * 1048576 := h10
    rw [list_len] at h11
    omega
  · rw [txt_run, List.length_append]; omega
  · have := at_le (xs.foldl appA A); unfold hereA; omega
theorem here_ok (h1 : 1 ≤ first) (h : hereA first A ≤ 1073741824) : wrE (hereA first A) = 0 := by
  unfold wrE; rw [if_neg]; unfold hereA at h ⊢; omega
theorem wlNew (base : Zn) (first : Int) (w : World) (hb : base.top ≤ w.heap.size) (hf : 1 ≤ first ∧ first ≤ 1000000000) : Calls Tryd.prog 10 #[] w fun e w' => ∃ N, e = .returned (pt N 0) ∧ WlO base w' N 0 first [] [] ∧ Below w.heap.size w w' :=
  (tNew base w hb).mono fun e x ⟨N, h1, h2, h3⟩ => ⟨N, h1, ⟨s0D, h2, ⟨fun k => by unfold flW; simp [s0D], rfl, (fun y hy => by cases hy), (fun y hy => by cases hy)⟩, s0_I, by decide, by decide, Nat.le_refl _, Nat.le_refl _, hf⟩, h3⟩
theorem wlOpen2 (w : World) (h : WlO base w d m first A xs) (hm : m ≤ 900) (ht : Tab w) (hb : ¬ base.P 0) : Calls Tryd.prog 11 #[pt d 0, .int .i64 first] w fun e w' => ∃ (N : Nat) (u : Value), e = .returned (.tuple #[pt N 0, u, .int .i64 0]) ∧ (Blk w' N 41 #[.bool true, pt d 0, .int .i64 first] ∧ w.heap.size ≤ N) ∧ w'.ownsRow w.heap.size 9 1 u (txtA A ++ xs).length ((txtA A ++ xs).flatMap strE) ∧ WlO base w' d m first A xs ∧ ButD base w w' := by
  obtain ⟨s, hX⟩ := h
  have hX : WlX base w d m first A xs s := hX
  obtain ⟨hR, -⟩ := hX.logR hm ht hb
  refine (wopen_any first _ w hR).mono ?_
  rintro e x ⟨N, u, k1, k2, k3, k4, k5⟩
  rw [txt_run] at k3
  exact ⟨N, u, k1, k2, k3, ⟨s, k4, hX.2⟩, k5⟩
theorem wlOpen (w : World) (h : WlO base w d m first A xs) (hm : m ≤ 900) (ht : Tab w) (hb : ¬ base.P 0) : Calls Tryd.prog 11 #[pt d 0, .int .i64 first] w fun e w' => ∃ (N : Nat) (u : Value), e = .returned (.tuple #[pt N 0, u, .int .i64 0]) ∧ Blk w' N 41 #[.bool true, pt d 0, .int .i64 first] ∧ w'.ownsRow w.heap.size 9 1 u (txtA A ++ xs).length ((txtA A ++ xs).flatMap strE) ∧ WlO base w' d m first A xs ∧ ButD base w w' :=
  (wlOpen2 w h hm ht hb).mono fun e x ⟨N, u, k1, k2, k⟩ => ⟨N, u, k1, k2.1, k⟩
theorem wlHere (w : World) (h : WlO base w d m first A xs) (hm : m ≤ 900) (ht : Tab w) (hb : ¬ base.P 0) : Calls Tryd.prog 33 #[pt d 0, .int .i64 first] w fun e w' => e = .returned (.int .i64 (hereA first (xs.foldl appA A))) ∧ WlO base w' d m first A xs ∧ ButD base w w' := by
  obtain ⟨s, hX⟩ := h
  have hX : WlX base w d m first A xs s := hX
  obtain ⟨hR, -⟩ := hX.logR hm ht hb
  exact (here_any first _ w hR).mono fun e x ⟨k1, k2, k3⟩ => ⟨k1, ⟨s, k2, hX.2⟩, k3⟩
theorem frameB_le {t : ByteArray} (ht : t.size ≤ 65536) : (frameB t).size ≤ 65600 := by
  have h1 := numB_size t
  have h2 : (frameB t).size = (numB t).size + 4 + t.size := by
    unfold frameB; rw [bsz_app, bsz_app]; rfl
  omega
theorem wlWrite (w : World) (t : ByteArray) (h : WlO base w d m first A xs) (hm : m ≤ 800) (ht : t.size ≤ 65536) : Calls Tryd.prog 28 #[pt d 0, .int .i64 (hereA first (xs.foldl appA A)), .string (frameB t)] w fun e w' => e = .returned (.int .i64 0) ∧ WlO base w' d (m + 1) first A (xs ++ [t]) ∧ ButD base w w' := by
  obtain ⟨s, h1, h2, h3, h4, h5, h6, h7, h8, h9⟩ := h
  have hfr := frameB_le ht
  have hh : hereA first (xs.foldl appA A) ≤ first + (m : Int) := by have := at_le (xs.foldl appA A); have := run_len xs A; unfold hereA; omega
  have hw := here_ok h8 (A := xs.foldl appA A) (by omega)
  refine (tWrite w (hereA first (xs.foldl appA A)) (frameB t) h1 (h3.hsz (by omega) _ (by omega)) (h3.hpl (by omega))).mono ?_
  rintro e x ⟨k1, k2, k3⟩
  rw [hw] at k1
  have h2' := h2.write ht hw
  have hk := k2.tight (h2'.on.keys)
  rw [segN_len] at hk
  refine ⟨k1, ⟨_, hk, h2', h3.write _ _ (by omega), ?_, ?_, by simp; omega, by simp; omega, h8, h9⟩, k3⟩
  · unfold wrS; split <;> exact h4
  · have : (wrS s (hereA first (xs.foldl appA A)) (frameB t)).boots = s.boots := by unfold wrS; split <;> rfl
    rw [this]; omega
end
end Go.Proofs.YtfiplhnplmadmaaDoor

/- Package disk: Drop where nothing is pending. Conditions: nothing is pending. -/
namespace Go.Proofs.YtfiplhnplmadmaaDoor
open Go.RowKit Go.PlainAid
set_option linter.unusedVariables false
set_option linter.unusedSimpArgs false


set_option maxRecDepth 100000 in
theorem pidx0 (v F : Value) (w : World) (l : List PcT) (h : SliceOf pieceE 2 w v l) (hl : l.length = 0) : Calls Tryd.prog 82 #[v, F] w fun e w' => e = .returned (.int .i64 (-1)) ∧ w = w' := by
  obtain ⟨ao, cap, rfl, _⟩ := h
  rw [hl]
  go_enter Tryd.func82, Tryd.ntmps82
  go_wp2
  go_loopg [8] 1 (fun g s8 wr => s8 = .int .i64 0 ∧ w = wr)
  case atStart => exact ⟨rfl, rfl⟩
  case round =>
    obtain ⟨rfl, rfl⟩ := hrel
    go_wp2
    go_ret
    exact ⟨rfl, rfl⟩
set_option maxRecDepth 100000 in
theorem pdel0 (v F : Value) (w : World) (l : List PcT) (h : SliceOf pieceE 2 w v l) (hl : l.length = 0) : Calls Tryd.prog 68 #[v, F] w fun e w' => e = .returned v ∧ w = w' := by
  have H := Lib.hid h; have HL := Lib.hid hl
  obtain ⟨ao, cap, rfl, _⟩ := h
  clear hl
  obtain ⟨n, hn⟩ : ∃ n, n = l.length := ⟨_, rfl⟩
  rw [← hn] at H ⊢
  have HN := Lib.hid hn; clear hn
  go_enter Tryd.func68, Tryd.ntmps68
  go_wp2_with fail
  refine (pidx0 _ F w l H.out HL.out).mono ?_
  rintro e w1 ⟨rfl, rfl⟩
  go_wp2
  go_ret
  exact ⟨rfl, rfl⟩
def dpE (s : DkS) (n : Int) : Int := if (s.fm n).isSome = true then 0 else 7
def dpS (s : DkS) (n : Int) : DkS := ⟨fun b => if b = n then none else s.fm b, s.ps, s.ser, s.boots⟩
theorem dp_no {s : DkS} {n : Int} (h : (s.fm n).isSome = false) : dpE s n = 7 ∧ dpS s n = s := by
  refine ⟨by unfold dpE; rw [h]; rfl, ?_⟩
  obtain ⟨fm, ps, a, b⟩ := s
  unfold dpS
  congr 1
  funext b
  by_cases e : b = n
  · rw [if_pos e, e]; exact (by simpa using h : fm n = none).symm
  · rw [if_neg e]
theorem dp_ok {s : DkS} {n : Int} (h : (s.fm n).isSome = true) : dpE s n = 0 := by unfold dpE; rw [if_pos h]
theorem dp_rel {g : Int → Option FileG} {s : DkS} {n : Int} (h : ∀ k, (g k).map (·.2) = s.fm k) : ∀ k, ((fun b => if b = n then none else g b) k).map (·.2) = (dpS s n).fm k := fun k => by
  show Option.map _ (if k = n then none else g k) = if k = n then none else s.fm k
  by_cases e : k = n
  · rw [if_pos e, if_pos e]; rfl
  · rw [if_neg e, if_neg e]; exact h k
theorem sm_of {g : Int → Option FileG} {fm : Int → Option FileM} (h : ∀ k, (g k).map (·.2) = fm k) {a : Int} {b : Bool} (hb : (g a).isSome = b) : (fm a).isSome = b := by rw [← h a, Option.isSome_map]; exact hb

set_option maxRecDepth 100000 in
set_option maxHeartbeats 1600000 in
theorem dDrop_any (w0 : World) (S : Nat → Prop) (d : Nat) (M : Nat) (pv : Value) (g : Int → Option FileG) (c : Nat) (s : DkS) (number : Int) (w : World) (hbw : But S w0 w) (hO : DkP S w0.heap.size w d M pv g c s) (hps : s.ps.length = 0) :
    Calls Tryd.prog 58 #[pt d 0, .int .i64 number] w fun e w' => ∃ (pv' : Value) (g' : Int → Option FileG) (c' : Nat), e = .returned (.int .i64 (dpE s number)) ∧ DkP S w0.heap.size w' d M pv' g' c' (dpS s number) ∧ c' ≤ c ∧ But (S) w0 w' := by
 have hB0 := hbw;have hz0 := hbw.size;have hz0 := hbw.size;have hl1 := hO.blk.lt;have hl2 := hO.map.lt;have hne3 := blk_ne_map hO.blk hO.map;have hl4 := sl_len (row_sl hO.row pieceE_len);refine co_enter (n := 34) Tryd.func58 rfl rfl rfl [(0, pt d 0), (1, .int .i64 number)] rfl (fun a o => ?_);refine q2 ?_;refine pw o rfl (op_new (v := fun N => pt N 0) (T := 3) (cs := #[.int .i64 number]) (by kernel_rfl) (by kernel_rfl) (by kernel_rfl)) ?_;rintro _ w6 a5 ⟨N7, rfl, hN10, hz11, hk9, hg8⟩ o;have ha12 := row_fresh hO.row hN10;have hu13 := row_under hO.row hN10;have hz14 := hg8.size
 try dsimp only at o
 refine pk0 (v := .int .i64 0) o rfl fun _ o => q6 ?_;refine pk0 (v := pt d 0) o rfl fun _ o => ?_;have hk19 := hO.blk.kept hg8 (by simp);refine pw o rfl (op_call (args := #[pt d 0]) (R := fun res xw => res = .bool false ∧ w6 = xw) rfl rfl rfl (by kernel_rfl) (by kernel_rfl) (Tryd.call34 _ _) (dzero_any d M pv s.ser s.boots w6 hk19) (by rintro e x ⟨rfl, rfl⟩; exact ⟨_, rfl, ⟨rfl, rfl⟩⟩)) ?_;rintro _ _ a17 ⟨rfl, rfl⟩ o;refine q1 ?_;refine co_false o rfl <| q0 <| co_seq <| co_seq ?_;refine dr_gen (fun x => But (S) w0 x ∧ Blk x d 66 #[.bool true, .map (some M), pv, .int .i64 s.ser, .int .i64 s.boots] ∧ Blk x N7 3 #[.int .i64 number]) (by kernel_rfl) (fun w21 hg22 => ?_) (fun w21 hg22 => ?_)
 ·
  have hz23 := hg22.size;have hB24 := fbU_new hB0 hg8;have hB25 := fbU_new hB24 hg22;have hk26 := hk19.kept hg22 (by simp);have hk27 := hk9.kept hg22 (by simp);exact ⟨hB25, hk26, hk27⟩
 have hz28 := hg22.size;have hB29 := fbU_new hB0 hg8;have hB30 := fbU_new hB29 hg22;have hk31 := hk19.kept hg22 (by simp);have hk32 := hk9.kept hg22 (by simp);refine dk0 0 (v := pt d 0) o rfl rfl ⟨hB30, hk31, hk32⟩ fun _ o => ?_;refine dk0 1 (v := pt d 0) o rfl rfl ⟨hB30, hk31, hk32⟩ fun _ o => ?_;refine dk0 2 (v := pt d 1) o rfl rfl ⟨hB30, hk31, hk32⟩ fun _ o => ?_;refine dk 3 (v := .map (some M)) o rfl rfl ⟨hB30, hk31, hk32⟩ (fun x hx => (rn_load1 rfl rfl Tryd.isAgg63 (hx.2.1.cell rfl))) fun _ o => ?_;refine dk 4 (v := .int .i64 number) o rfl rfl ⟨hB30, hk31, hk32⟩ (fun x hx => (rn_load1 rfl rfl Tryd.isAgg3 (hx.2.2.cell rfl))) fun _ o => ?_;refine dr_many [5, 9] (by kernel_rfl) (by simp) ⟨?_, ?_, trivial⟩
 ·
  have hF41 := hO.fam.new hg8;have hF42 := hF41.new hg22;have hM49 := hO.map.kept hg8 (by simp);have hM50 := hM49.kept hg22 (by simp);obtain ⟨f38, hf39⟩ : ∃ z, (g number).getD fz = z := ⟨_, rfl⟩;have hA40 := hF42.at hf39;have hl43 := sl_len (row_sl hA40.1 u8E_len);have hgf44 := getF_eq hO.rel hf39;have hgl45 : f38.2.1.length = (getF s.fm number).1.length := by rw [hgf44]
  have hgs46 : f38.2.2.1 = (getF s.fm number).2.1 := by rw [hgf44]
  obtain ⟨b47, hb48⟩ : ∃ z, (g number).isSome = z := ⟨_, rfl⟩;refine dr_opVal (i := 5) (v := .tuple #[.agg #[f38.1, .int .i64 f38.2.2.1, .bool f38.2.2.2], .bool b47]) o rfl rfl rfl rfl (by kernel_rfl) rfl (rn_lookOT (a := number) (f := f38) (b := b47) (intKL Tryd.underlying3) rfl rfl rfl Tryd.underlying63 filez hM50 hf39 hb48) ⟨hB30, hk31, hk32⟩ (fun _ o => ?_);refine dk0 6 (v := .tuple #[.agg #[f38.1, .int .i64 f38.2.2.1, .bool f38.2.2.2], .bool b47]) o rfl rfl ⟨hB30, hk31, hk32⟩ fun _ o => ?_;refine dk0 7 (v := .agg #[f38.1, .int .i64 f38.2.2.1, .bool f38.2.2.2]) o rfl rfl ⟨hB30, hk31, hk32⟩ fun _ o => ?_;refine dk0 8 (v := .bool b47) o rfl rfl ⟨hB30, hk31, hk32⟩ fun _ o => ?_;refine d1 9 o rfl rfl (op_new (v := fun N => pt N 0) (T := 77) (cs := #[.slice none 0 0, .int .i64 0, .bool false]) (by kernel_rfl) (by kernel_rfl) (by kernel_rfl)) ?_ ?_
  ·
   rintro _ w56 ⟨N57, rfl, hN60, hz61, hk59, hg58⟩;have hr63 := row_kept_new hO.row hg8;have hr64 := row_kept_new hr63 hg22;have ha62 := row_fresh hr64 hN60;have hu65 := row_under hr64 hN60;have ha66 := row_fresh hA40.1 hN60;have hu67 := row_under hA40.1 hN60;have hz68 := hg58.size;have hB69 := fbU_new hB30 hg58;have hk70 := hk31.kept hg58 (by simp);have hk71 := hk32.kept hg58 (by simp);exact ⟨hB69, hk70, hk71⟩
  rintro _ w56 a55 ⟨N57, rfl, hN60, hz61, hk59, hg58⟩ o;have hr63 := row_kept_new hO.row hg8;have hr64 := row_kept_new hr63 hg22;have ha62 := row_fresh hr64 hN60;have hu65 := row_under hr64 hN60;have ha66 := row_fresh hA40.1 hN60;have hu67 := row_under hA40.1 hN60;have hz68 := hg58.size
  try dsimp only at o
  have hB69 := fbU_new hB30 hg58;have hk70 := hk31.kept hg58 (by simp);have hk71 := hk32.kept hg58 (by simp);have hr77 := row_kept_new hA40.1 hg58;refine d1D 10 o rfl rfl (op_storeN rfl rfl rfl (all_cons (row_one hr77) (all_cons rfl (all_cons rfl all_nil))) (by kernel_rfl) hk59 rfl) ?_ ?_
  ·
   rintro _ w73 ⟨hk74, hz75, hg76⟩;have hk74' : Blk w73 N57 77 #[f38.1, .int .i64 f38.2.2.1, .bool f38.2.2.2] := hk74;have hz78 := hg76.size;have hB79 := fbU_at hB69 hg76 (fun hlt => absurd hlt (by omega));have hk80 := hk70.kept hg76 (by simp; omega);have hk81 := hk71.kept hg76 (by simp; omega);exact ⟨hB79, hk80, hk81⟩
  rintro _ w73 a72 ⟨hk74, hz75, hg76⟩ o;have hk74' : Blk w73 N57 77 #[f38.1, .int .i64 f38.2.2.1, .bool f38.2.2.2] := hk74;have hz78 := hg76.size;have hB79 := fbU_at hB69 hg76 (fun hlt => absurd hlt (by omega));have hk80 := hk70.kept hg76 (by simp; omega);have hk81 := hk71.kept hg76 (by simp; omega);refine dk0 11 (v := .bool b47) o rfl rfl ⟨hB79, hk80, hk81⟩ fun _ o => ?_;refine dr_done (by kernel_rfl) ?_;refine co_then <| q2 ?_;refine pk0 (v := .bool b47) o rfl fun _ o => ?_;have hM85 := hM50.kept hg58 (by simp);have hM86 := hM85.kept hg76 (by simp; omega);have hr87 := row_kept_new hr64 hg58;have hr88 := row_kept_at hr87 hg76 (ha62);have hF89 := hF42.new hg58;have hF90 := hF89.blk hk59 (by decide) hg76;cases hc84 : (b47)
  ·
   rw [hc84] at o;refine pk0 (v := .bool true) o rfl fun _ o => q1 ?_;refine co_true o rfl <| q2 ?_;refine pk0 (v := .int .i64 7) o rfl fun _ o => q5 ?_;refine co_ret1 o rfl rfl ?_;have hb9 := sm_of hO.rel hb48;have hW := dp_no (s := s) (n := number) (by rw [hb9]; assumption);exact ⟨pv, g, c, by rw [hW.1], by rw [hW.2]; exact ⟨hk80, hM86, hr88, hF90, hO.sd, hO.sM, hO.sp, hO.rel⟩, by omega, hB79⟩
  rw [hc84] at o;refine pk0 (v := .bool false) o rfl fun _ o => q1 ?_;refine co_false o rfl <| q0 <| co_seq ?_;refine dr_gen (fun x => But (S) w0 x ∧ Blk x d 66 #[.bool true, .map (some M), pv, .int .i64 s.ser, .int .i64 s.boots] ∧ Blk x N7 3 #[.int .i64 number]) (by kernel_rfl) (fun w94 hg95 => ?_) (fun w94 hg95 => ?_)
  ·
   have hz96 := hg95.size;have hB97 := fbU_new hB79 hg95;have hk98 := hk80.kept hg95 (by simp);have hk99 := hk81.kept hg95 (by simp);exact ⟨hB97, hk98, hk99⟩
  have hz100 := hg95.size;have hB101 := fbU_new hB79 hg95;have hk102 := hk80.kept hg95 (by simp);have hk103 := hk81.kept hg95 (by simp);refine dk0 0 (v := pt d 0) o rfl rfl ⟨hB101, hk102, hk103⟩ fun _ o => ?_;refine dk0 1 (v := pt d 0) o rfl rfl ⟨hB101, hk102, hk103⟩ fun _ o => ?_;refine dk0 2 (v := pt d 1) o rfl rfl ⟨hB101, hk102, hk103⟩ fun _ o => ?_;refine dk 3 (v := .map (some M)) o rfl rfl ⟨hB101, hk102, hk103⟩ (fun x hx => (rn_load1 rfl rfl Tryd.isAgg63 (hx.2.1.cell rfl))) fun _ o => ?_;refine dk 4 (v := .int .i64 number) o rfl rfl ⟨hB101, hk102, hk103⟩ (fun x hx => (rn_load1 rfl rfl Tryd.isAgg3 (hx.2.2.cell rfl))) fun _ o => ?_;have hM114 := hM86.kept hg95 (by simp);refine d1D 5 o rfl rfl (op_deleteO (a := number) (intKL Tryd.underlying3) rfl rfl rfl Tryd.underlying63 hM114) ?_ ?_
  ·
   rintro _ w110 ⟨hm111, hz112, hg113⟩;have hF116 := hF90.new hg95;have hF115 := hF116.del number;have hz117 := hg113.size;have hl118 := hm111.lt;have hB119 := fbU_at hB101 hg113 (fun hlt => by rcases hO.sM with hq | hq; exact hq; omega);have hk120 := hk102.kept hg113 (by simp; omega);have hk121 := hk103.kept hg113 (by simp; omega);exact ⟨hB119, hk120, hk121⟩
  rintro _ w110 a109 ⟨hm111, hz112, hg113⟩ o;have hF116 := hF90.new hg95;have hF115 := hF116.del number;have hz117 := hg113.size;have hl118 := hm111.lt;refine dr_done (by kernel_rfl) ?_;refine co_then <| q2 ?_;refine pk0 (v := pt d 0) o rfl fun _ o => ?_;refine pk0 (v := pt d 0) o rfl fun _ o => ?_;refine pk0 (v := pt d 0) o rfl fun _ o => ?_;refine pk0 (v := pt d 2) o rfl fun _ o => ?_;have hk123 := hk102.kept hg113 (by simp; omega);refine pk (v := pv) o rfl (rn_load1 rfl rfl Tryd.isAgg64 (hk123.cell rfl)) fun _ o => ?_;refine pk0 (v := .func (.func 69) #[] #[pt N7 0]) o rfl fun _ o => ?_;have hB128 := fbU_at hB101 hg113 (fun hlt => by rcases hO.sM with hq | hq; exact hq; omega);have hr129 := row_kept_new hr88 hg95;have hr130 := row_kept_at hr129 hg113 (hM114.row hr129);have hr131 := row_kept_at hr77 hg76 (ha66);have hr132 := row_kept_new hr131 hg95;have hr133 := row_kept_at hr132 hg113 (hM114.row hr132);have hk134 := hk74'.kept hg95 (by simp);have hk135 := hk134.kept hg113 (by simp; omega);refine pw o rfl (op_call (args := #[pv, .func (.func 69) #[] #[pt N7 0]]) (R := fun res xw => pv = res ∧ w110 = xw) rfl rfl rfl (by kernel_rfl) (by kernel_rfl) (Tryd.call68 _ _) (pdel0 pv (.func (.func 69) #[] #[pt N7 0]) w110 s.ps (row_sl hr130 pieceE_len) hps) (by rintro e x ⟨rfl, h⟩; exact ⟨_, rfl, rfl, h⟩)) ?_;rintro _ _ a126 ⟨rfl, rfl⟩ o;refine pk0 (v := pt d 0) o rfl fun _ o => ?_;refine pk0 (v := pt d 2) o rfl fun _ o => ?_;refine pwD o rfl (op_store1 rfl rfl rfl (row_one hr130) Tryd.sizeOf64 hk123 rfl) ?_;rintro _ w139 a138 ⟨hk140, hz141, hg142⟩ o;have hk140' : Blk w139 d 66 #[.bool true, .map (some M), pv, .int .i64 s.ser, .int .i64 s.boots] := hk140;have hz143 := hg142.size;refine q3 ?_;refine pk0 (v := .int .i64 0) o rfl fun _ o => q4 ?_;refine co_ret1 o rfl rfl ?_;have hM145 := hm111.kept hg142 (by simp; omega);have hr146 := row_kept_at hr130 hg142 (own_neT hr130 hk123 (by decide));have hF147 := hF115.map hM114 hg113;have hF148 := hF147.blk hk123 (by decide) hg142;have hB149 := fbU_at hB128 hg142 (fun hlt => by rcases hO.sd with hq | hq; exact hq; omega);have hb9 := sm_of hO.rel hb48;have hW := dp_ok (s := s) (n := number) (by rw [hb9]; assumption);exact ⟨_, _, _, by rw [hW], ⟨hk140', hM145, hr146, hF148, hO.sd, hO.sM, hO.sp, dp_rel hO.rel⟩, by omega, hB149⟩
 refine dr_op (i := 9) o rfl rfl rfl rfl (op_new (v := fun N => pt N 0) (T := 77) (cs := #[.slice none 0 0, .int .i64 0, .bool false]) (by kernel_rfl) (by kernel_rfl) (by kernel_rfl)) ?_ ?_
 ·
  rintro _ w151 ⟨N152, rfl, hN155, hz156, hk154, hg153⟩;have hr158 := row_kept_new hO.row hg8;have hr159 := row_kept_new hr158 hg22;have ha157 := row_fresh hr159 hN155;have hu160 := row_under hr159 hN155;have hz161 := hg153.size;have hB162 := fbU_new hB30 hg153;have hk163 := hk31.kept hg153 (by simp);have hk164 := hk32.kept hg153 (by simp);exact ⟨hB162, hk163, hk164⟩
 rintro _ w151 a150 ⟨N152, rfl, hN155, hz156, hk154, hg153⟩ o;have hr158 := row_kept_new hO.row hg8;have hr159 := row_kept_new hr158 hg22;have ha157 := row_fresh hr159 hN155;have hu160 := row_under hr159 hN155;have hz161 := hg153.size
 try dsimp only at o
 have hB162 := fbU_new hB30 hg153;have hk163 := hk31.kept hg153 (by simp);have hk164 := hk32.kept hg153 (by simp);refine dr_many [5] (by kernel_rfl) (by simp) ⟨?_, trivial⟩;have hF168 := hO.fam.new hg8;have hF169 := hF168.new hg22;have hF170 := hF169.new hg153;have hM177 := hO.map.kept hg8 (by simp);have hM178 := hM177.kept hg22 (by simp);have hM179 := hM178.kept hg153 (by simp);obtain ⟨f165, hf166⟩ : ∃ z, (g number).getD fz = z := ⟨_, rfl⟩;have hA167 := hF170.at hf166;have hl171 := sl_len (row_sl hA167.1 u8E_len);have hgf172 := getF_eq hO.rel hf166;have hgl173 : f165.2.1.length = (getF s.fm number).1.length := by rw [hgf172]
 have hgs174 : f165.2.2.1 = (getF s.fm number).2.1 := by rw [hgf172]
 obtain ⟨b175, hb176⟩ : ∃ z, (g number).isSome = z := ⟨_, rfl⟩;refine dr_opVal (i := 5) (v := .tuple #[.agg #[f165.1, .int .i64 f165.2.2.1, .bool f165.2.2.2], .bool b175]) o rfl rfl rfl rfl (by kernel_rfl) rfl (rn_lookOT (a := number) (f := f165) (b := b175) (intKL Tryd.underlying3) rfl rfl rfl Tryd.underlying63 filez hM179 hf166 hb176) ⟨hB162, hk163, hk164⟩ (fun _ o => ?_);refine dk0 6 (v := .tuple #[.agg #[f165.1, .int .i64 f165.2.2.1, .bool f165.2.2.2], .bool b175]) o rfl rfl ⟨hB162, hk163, hk164⟩ fun _ o => ?_;refine dk0 7 (v := .agg #[f165.1, .int .i64 f165.2.2.1, .bool f165.2.2.2]) o rfl rfl ⟨hB162, hk163, hk164⟩ fun _ o => ?_;refine dk0 8 (v := .bool b175) o rfl rfl ⟨hB162, hk163, hk164⟩ fun _ o => ?_;refine d1D 10 o rfl rfl (op_storeN rfl rfl rfl (all_cons (row_one hA167.1) (all_cons rfl (all_cons rfl all_nil))) (by kernel_rfl) hk154 rfl) ?_ ?_
 ·
  rintro _ w185 ⟨hk186, hz187, hg188⟩;have hk186' : Blk w185 N152 77 #[f165.1, .int .i64 f165.2.2.1, .bool f165.2.2.2] := hk186;have hz189 := hg188.size;have hB190 := fbU_at hB162 hg188 (fun hlt => absurd hlt (by omega));have hk191 := hk163.kept hg188 (by simp; omega);have hk192 := hk164.kept hg188 (by simp; omega);exact ⟨hB190, hk191, hk192⟩
 rintro _ w185 a184 ⟨hk186, hz187, hg188⟩ o;have hk186' : Blk w185 N152 77 #[f165.1, .int .i64 f165.2.2.1, .bool f165.2.2.2] := hk186;have hz189 := hg188.size;have hB190 := fbU_at hB162 hg188 (fun hlt => absurd hlt (by omega));have hk191 := hk163.kept hg188 (by simp; omega);have hk192 := hk164.kept hg188 (by simp; omega);refine dk0 11 (v := .bool b175) o rfl rfl ⟨hB190, hk191, hk192⟩ fun _ o => ?_;refine dr_done (by kernel_rfl) ?_;refine co_then <| q2 ?_;refine pk0 (v := .bool b175) o rfl fun _ o => ?_;have hr196 := row_kept_new hr159 hg153;have hr197 := row_kept_at hr196 hg188 (ha157);cases hc195 : (b175)
 ·
  rw [hc195] at o;refine pk0 (v := .bool true) o rfl fun _ o => q1 ?_;refine co_true o rfl <| q2 ?_;refine pk0 (v := .int .i64 7) o rfl fun _ o => q5 ?_;refine co_ret1 o rfl rfl ?_;have hM200 := hM179.kept hg188 (by simp; omega);have hF201 := hF170.blk hk154 (by decide) hg188;have hb9 := sm_of hO.rel hb176;have hW := dp_no (s := s) (n := number) (by rw [hb9]; assumption);exact ⟨pv, g, c, by rw [hW.1], by rw [hW.2]; exact ⟨hk191, hM200, hr197, hF201, hO.sd, hO.sM, hO.sp, hO.rel⟩, by omega, hB190⟩
 rw [hc195] at o;refine pk0 (v := .bool false) o rfl fun _ o => q1 ?_;refine co_false o rfl <| q0 <| co_seq ?_;refine dr_gen (fun x => But (S) w0 x ∧ Blk x d 66 #[.bool true, .map (some M), pv, .int .i64 s.ser, .int .i64 s.boots] ∧ Blk x N7 3 #[.int .i64 number]) (by kernel_rfl) (fun w203 hg204 => ?_) (fun w203 hg204 => ?_)
 ·
  have hz205 := hg204.size;have hB206 := fbU_new hB190 hg204;have hk207 := hk191.kept hg204 (by simp);have hk208 := hk192.kept hg204 (by simp);exact ⟨hB206, hk207, hk208⟩
 have hz209 := hg204.size;have hB210 := fbU_new hB190 hg204;have hk211 := hk191.kept hg204 (by simp);have hk212 := hk192.kept hg204 (by simp);refine dk0 0 (v := pt d 0) o rfl rfl ⟨hB210, hk211, hk212⟩ fun _ o => ?_;refine dk0 1 (v := pt d 0) o rfl rfl ⟨hB210, hk211, hk212⟩ fun _ o => ?_;refine dk0 2 (v := pt d 1) o rfl rfl ⟨hB210, hk211, hk212⟩ fun _ o => ?_;refine dk 3 (v := .map (some M)) o rfl rfl ⟨hB210, hk211, hk212⟩ (fun x hx => (rn_load1 rfl rfl Tryd.isAgg63 (hx.2.1.cell rfl))) fun _ o => ?_;refine dk 4 (v := .int .i64 number) o rfl rfl ⟨hB210, hk211, hk212⟩ (fun x hx => (rn_load1 rfl rfl Tryd.isAgg3 (hx.2.2.cell rfl))) fun _ o => ?_;have hM223 := hM179.kept hg188 (by simp; omega);have hM224 := hM223.kept hg204 (by simp);refine d1D 5 o rfl rfl (op_deleteO (a := number) (intKL Tryd.underlying3) rfl rfl rfl Tryd.underlying63 hM224) ?_ ?_
 ·
  rintro _ w219 ⟨hm220, hz221, hg222⟩;have hF226 := hF170.blk hk154 (by decide) hg188;have hF227 := hF226.new hg204;have hF225 := hF227.del number;have hz228 := hg222.size;have hl229 := hm220.lt;have hB230 := fbU_at hB210 hg222 (fun hlt => by rcases hO.sM with hq | hq; exact hq; omega);have hk231 := hk211.kept hg222 (by simp; omega);have hk232 := hk212.kept hg222 (by simp; omega);exact ⟨hB230, hk231, hk232⟩
 rintro _ w219 a218 ⟨hm220, hz221, hg222⟩ o;have hF226 := hF170.blk hk154 (by decide) hg188;have hF227 := hF226.new hg204;have hF225 := hF227.del number;have hz228 := hg222.size;have hl229 := hm220.lt;refine dr_done (by kernel_rfl) ?_;refine co_then <| q2 ?_;refine pk0 (v := pt d 0) o rfl fun _ o => ?_;refine pk0 (v := pt d 0) o rfl fun _ o => ?_;refine pk0 (v := pt d 0) o rfl fun _ o => ?_;refine pk0 (v := pt d 2) o rfl fun _ o => ?_;have hk234 := hk211.kept hg222 (by simp; omega);refine pk (v := pv) o rfl (rn_load1 rfl rfl Tryd.isAgg64 (hk234.cell rfl)) fun _ o => ?_;refine pk0 (v := .func (.func 69) #[] #[pt N7 0]) o rfl fun _ o => ?_;have hB239 := fbU_at hB210 hg222 (fun hlt => by rcases hO.sM with hq | hq; exact hq; omega);have hr240 := row_kept_new hr197 hg204;have hr241 := row_kept_at hr240 hg222 (hM224.row hr240);have hr242 := row_kept_at hA167.1 hg188 (own_neT hA167.1 hk154 (by decide));have hr243 := row_kept_new hr242 hg204;have hr244 := row_kept_at hr243 hg222 (hM224.row hr243);have hk245 := hk186'.kept hg204 (by simp);have hk246 := hk245.kept hg222 (by simp; omega);refine pw o rfl (op_call (args := #[pv, .func (.func 69) #[] #[pt N7 0]]) (R := fun res xw => pv = res ∧ w219 = xw) rfl rfl rfl (by kernel_rfl) (by kernel_rfl) (Tryd.call68 _ _) (pdel0 pv (.func (.func 69) #[] #[pt N7 0]) w219 s.ps (row_sl hr241 pieceE_len) hps) (by rintro e x ⟨rfl, h⟩; exact ⟨_, rfl, rfl, h⟩)) ?_;rintro _ _ a237 ⟨rfl, rfl⟩ o;refine pk0 (v := pt d 0) o rfl fun _ o => ?_;refine pk0 (v := pt d 2) o rfl fun _ o => ?_;refine pwD o rfl (op_store1 rfl rfl rfl (row_one hr241) Tryd.sizeOf64 hk234 rfl) ?_;rintro _ w250 a249 ⟨hk251, hz252, hg253⟩ o;have hk251' : Blk w250 d 66 #[.bool true, .map (some M), pv, .int .i64 s.ser, .int .i64 s.boots] := hk251;have hz254 := hg253.size;refine q3 ?_;refine pk0 (v := .int .i64 0) o rfl fun _ o => q4 ?_;refine co_ret1 o rfl rfl ?_;have hM256 := hm220.kept hg253 (by simp; omega);have hr257 := row_kept_at hr241 hg253 (own_neT hr241 hk234 (by decide));have hF258 := hF225.map hM224 hg222;have hF259 := hF258.blk hk234 (by decide) hg253;have hB260 := fbU_at hB239 hg253 (fun hlt => by rcases hO.sd with hq | hq; exact hq; omega);have hb9 := sm_of hO.rel hb176;have hW := dp_ok (s := s) (n := number) (by rw [hb9]; assumption);exact ⟨_, _, _, by rw [hW], ⟨hk251', hM256, hr257, hF259, hO.sd, hO.sM, hO.sp, dp_rel hO.rel⟩, by omega, hB260⟩

theorem tDrop {base : Zn} {d c : Nat} {s : DkS} (w : World) (n : Int) (h : DObj base w d c s) (hps : s.ps.length = 0) : Calls Tryd.prog 58 #[pt d 0, .int .i64 n] w fun e w' => e = .returned (.int .i64 (dpE s n)) ∧ DObj base w' d c (dpS s n) ∧ ButD base w w' := by
  have hlo := h.lo
  obtain ⟨M, pv, g, c', hc, hP⟩ := h
  exact (dDrop_any w (SD base w) d M pv g c' s n w (But.refl _ _) hP.up hps).mono fun e x ⟨pv', g', c2, h1, h2, h3, h4⟩ => ⟨h1, ⟨M, pv', g', c2, ⟨by omega, Nat.le_trans hlo h4.size⟩, h2.dn hlo⟩, h4⟩

end Go.Proofs.YtfiplhnplmadmaaDoor

/- Package point, pure: checkpoints in a log; a log beside other files. Conditions: none. -/
namespace Go.Proofs.YtfiplhnplmadmaaDoor
open Go.RowKit Go.PlainAid
set_option linter.unusedVariables false

def tT (s : ByteArray) : ByteArray := (⟨#[84]⟩ : ByteArray) ++ s
def hdP (n : Nat) : ByteArray := (⟨#[80]⟩ : ByteArray) ++ ⟨(putL (n : Int)).toArray⟩
def isT (s : ByteArray) : Bool := decide (0 < s.size) && ((s.extract 0 1).toList == (⟨#[84]⟩ : ByteArray).toList)
def ownB (l : List ByteArray) : List ByteArray := l.filterMap fun s => if isT s = true then some (s.extract 1 s.size) else none
theorem ext_one (c : UInt8) (s : ByteArray) : (((⟨#[c]⟩ : ByteArray) ++ s).extract 0 1) = ⟨#[c]⟩ := by
  apply bytes_eq; rw [ext_list, app_list]; simp
theorem one_size (c : UInt8) (s : ByteArray) : ((⟨#[c]⟩ : ByteArray) ++ s).size = s.size + 1 := by rw [bsz_app]; show 1 + s.size = s.size + 1; omega
theorem ext_rest1 (c : UInt8) (s : ByteArray) : (((⟨#[c]⟩ : ByteArray) ++ s).extract 1 ((⟨#[c]⟩ : ByteArray) ++ s).size) = s := by
  apply bytes_eq; rw [ext_list, one_size, app_list]
  have : ((⟨#[c]⟩ : ByteArray).data.toList ++ s.data.toList).length = s.size + 1 := by rw [List.length_append, list_len]; show 1 + s.size = _; omega
  rw [List.take_of_length_le (by omega)]
  rfl
theorem isT_tT (s : ByteArray) : isT (tT s) = true := by
  unfold isT tT; rw [ext_one, decide_eq_true (by rw [one_size]; omega)]; simp
theorem isT_hd (n : Nat) : isT (hdP n) = false := by
  unfold isT hdP; rw [ext_one]
  have : ((⟨#[80]⟩ : ByteArray).toList == (⟨#[84]⟩ : ByteArray).toList) = false := by rw [toList_data, toList_data]; decide
  rw [this]; simp
theorem own_app (a b : List ByteArray) : ownB (a ++ b) = ownB a ++ ownB b := by unfold ownB; rw [List.filterMap_append]
theorem own_tT (L : List ByteArray) : ownB (L.map tT) = L := by
  induction L with
  | nil => rfl
  | cons x r ih =>
    have : ownB (tT x :: r.map tT) = (tT x).extract 1 (tT x).size :: ownB (r.map tT) := by
      unfold ownB; rw [List.filterMap_cons, if_pos (isT_tT x)]
    rw [List.map_cons, this, ih]; unfold tT; rw [ext_rest1]
theorem own_hd (n : Nat) (l : List ByteArray) : ownB (hdP n :: l) = ownB l := by
  unfold ownB; rw [List.filterMap_cons, if_neg (by rw [isT_hd]; decide)]
theorem own_log (n : Nat) (L : List ByteArray) : ownB (hdP n :: L.map tT) = L := by rw [own_hd, own_tT]
def isP (s : ByteArray) : Bool := decide (0 < s.size) && ((s.extract 0 1).toList == (⟨#[80]⟩ : ByteArray).toList)
/-- What a text tells of a checkpoint. -/
def cntB (s : ByteArray) : Int × Bool := if isP s = true then ((getR s 1).1, decide ((getR s 1).2.2 = 0) && decide ((getR s 1).2.1 = (s.size : Int))) else (0, false)
theorem isP_hd (n : Nat) : isP (hdP n) = true := by
  unfold isP hdP; rw [ext_one, decide_eq_true (by rw [one_size]; omega)]; simp
theorem isP_tT (s : ByteArray) : isP (tT s) = false := by
  unfold isP tT; rw [ext_one]
  have : ((⟨#[84]⟩ : ByteArray).toList == (⟨#[80]⟩ : ByteArray).toList) = false := by rw [toList_data, toList_data]; decide
  rw [this]; simp
theorem hd_size (n : Nat) : ((hdP n).size : Int) = 1 + lenOf (n : Int) := by
  unfold hdP; rw [one_size]
  have h : (⟨(putL (n : Int)).toArray⟩ : ByteArray).size = (putL (n : Int)).length := by simp [ByteArray.size]
  have := putL_len (n : Int)
  omega
theorem cnt_hd (n : Nat) (hn : n < 1000000) : cntB (hdP n) = ((n : Int), true) := by
  unfold cntB; rw [if_pos (isP_hd n)]
  have hs := hd_size n
  have hp := putL_len (n : Int)
  have hh : has (hdP n) 1 (putL (n : Int)) := fun j hj => by
    rw [bt_data]
    unfold hdP; rw [app_list, List.getD_eq_getElem?_getD, List.getElem?_append_right (by show 1 ≤ 1 + j; omega)]
    show ((((putL (n : Int)).toArray.toList)[1 + j - 1]?.getD 0).toNat : Int) = _
    rw [show 1 + j - 1 = j by omega]
    simp [hj]
  have h := get_put (s := hdP n) (a := 1) (n : Int) (by omega) (by omega) (by omega) hh
  have h : getR (hdP n) 1 = ((n : Int), 1 + lenOf (n : Int), 0) := h
  rw [h, hs]; simp
theorem cnt_tT (s : ByteArray) : cntB (tT s) = (0, false) := by unfold cntB; rw [if_neg (by rw [isP_tT]; decide)]
/-- What a file tells of a checkpoint. -/
def begB (y : WSeg) : Int × Bool := match y.T with
  | [] => (0, false)
  | x :: _ => cntB x
theorem seg_next {y : WSeg} (h : SegOk y) : begB y = (if (nextR y.b 0).2.2 = 0 then cntB (nextR y.b 0).1 else (0, false)) := by
  obtain ⟨hr, he⟩ := seg_all h
  unfold begB
  cases hT : y.T with
  | nil =>
    rw [hT] at hr he
    show (0, false) = _
    rw [if_neg]
    have h0 : ((catF ([] : List ByteArray)).size : Int) = 0 := rfl
    rw [h0] at he
    rcases he with ⟨h1, h2⟩ | ⟨h1, h2, h3⟩
    · intro hz
      have := next_adv y.b 0 hz
      omega
    · rw [← h2]; exact h3
  | cons x r =>
    rw [hT] at hr
    obtain ⟨h1, h2, h3, h4⟩ := hr
    show cntB x = _
    rw [if_pos h2, h3]
/-- A disk's files from first on are A's (C's bytes are safe); below first they are as old says. -/
structure WSG (s : DkS) (first : Int) (A : List WSeg) (xs : List ByteArray) (old : Int → Option FileM) (p0 : List PcT) : Prop where
  on : ∀ k, s.fm k = if first ≤ k then flW first (xs.foldl appA A) A k else old k
  ps : s.ps = p0 ++ pcsA first A xs
  lo : ∀ p ∈ p0, p.1 < first
  ok : OkA A
  tx : ∀ x ∈ xs, x.size ≤ 65536
def fmR (fm : Int → Option FileM) (first : Int) : Int → Option FileM := fun k => if first ≤ k then fm k else none
theorem WSG.onD {s : DkS} {first : Int} {A : List WSeg} {xs : List ByteArray} {old : Int → Option FileM} {p0 : List PcT} (h : WSG s first A xs old p0) : OnD (fmR s.fm first) first (xs.foldl appA A) A := fun k => by
  unfold fmR
  by_cases hl : first ≤ k
  · rw [if_pos hl, h.on k, if_pos hl]
  · rw [if_neg hl]; unfold flW; rw [if_neg hl]
theorem WSG.logs {s : DkS} {first : Int} {A : List WSeg} {xs : List ByteArray} {old : Int → Option FileM} {p0 : List PcT} (h : WSG s first A xs old p0) : Logs s.fm first (xs.foldl appA A) := by
  obtain ⟨h1, h2⟩ := h.onD.logs (fun i hi => some_run xs A i hi) (h.ok.run h.tx)
  refine ⟨h1, fun i => ?_⟩
  have h3 := h2 i
  have e : fmR s.fm first (first + (i : Int)) = s.fm (first + (i : Int)) := by unfold fmR; rw [if_pos (by omega)]
  rw [e] at h3
  refine ⟨h3.1, ?_⟩
  have := h3.2
  unfold getF at this ⊢
  rw [e] at this; exact this
theorem WSG.toW {s : DkS} {first : Int} {A : List WSeg} {xs : List ByteArray} {old : Int → Option FileM} (h : WSG s first A xs old []) (ho : ∀ k, k < first → old k = none) : WSt s first A xs :=
  ⟨fun k => by (rw [h.on k]; by_cases hl : first ≤ k; exact if_pos hl; rw [if_neg hl, ho k (by omega)]; unfold flW; rw [if_neg hl]), h.ps, h.ok, h.tx⟩
/-- Another log begins behind all files of a disk. -/
theorem WSG.new {s : DkS} {first : Int} (hf : ∀ k, first ≤ k → s.fm k = none) (hp : ∀ p ∈ s.ps, p.1 < first) : WSG s first [] [] s.fm s.ps :=
  ⟨fun k => by (by_cases hl : first ≤ k; (rw [if_pos hl, hf k hl]; unfold flW; simp); exact (if_neg hl).symm), by simp [pcsA], hp, fun y hy => (by cases hy), fun y hy => (by cases hy)⟩
theorem WSG.write {s : DkS} {first : Int} {A : List WSeg} {xs : List ByteArray} {old : Int → Option FileM} {p0 : List PcT} (h : WSG s first A xs old p0) {x : ByteArray} (hx : x.size ≤ 65536) (hn : wrE (hereA first (xs.foldl appA A)) = 0) : WSG (wrS s (hereA first (xs.foldl appA A)) (frameB x)) first A (xs ++ [x]) old p0 := by
  have hge : first ≤ hereA first (xs.foldl appA A) := by unfold hereA; omega
  have hD := h.onD.put (f := appS x) (t := (frameB x).data.toList) (fun i hi => some_run xs A i hi) (fun k => byt_app _ x k)
  unfold wrS; rw [if_pos hn]
  refine ⟨fun k => ?_, ?_, h.lo, h.ok, fun z hz => ?_⟩
  · show putF s.fm _ _ k = _
    have e0 : getF (fmR s.fm first) (hereA first (xs.foldl appA A)) = getF s.fm (hereA first (xs.foldl appA A)) := by unfold getF fmR; rw [if_pos hge]
    rw [e0] at hD
    have h1 := hD k
    by_cases hl : first ≤ k
    · rw [if_pos hl, fapp_snoc]
      rw [show appA (xs.foldl appA A) x = putA (xs.foldl appA A) (appS x) from rfl, ← h1]
      unfold putF fmR
      by_cases hk : k = hereA first (xs.foldl appA A)
      · rw [if_pos hk, if_pos hk]
      · rw [if_neg hk, if_neg hk, if_pos hl]
    · rw [if_neg hl]
      unfold putF; rw [if_neg (by omega), h.on k, if_neg hl]
  · show s.ps ++ _ = _
    rw [h.ps, pcs_snoc, List.append_assoc]
  · rcases List.mem_append.1 hz with hz | hz
    · exact h.tx z hz
    · simp at hz; subst hz; exact hx
theorem getF_R (fm : Int → Option FileM) {first k : Int} (h : first ≤ k) : getF (fmR fm first) k = getF fm k := by unfold getF fmR; rw [if_pos h]
theorem syn_R (ps : List PcT) (fm : Int → Option FileM) (first : Int) : ∀ k, first ≤ k → synF fm ps k = synF (fmR fm first) (ps.filter fun p => decide (first ≤ p.1)) k := by
  induction ps generalizing fm with
  | nil => intro k hk; show fm k = fmR fm first k; unfold fmR; rw [if_pos hk]
  | cons p r ih =>
    intro k hk
    show synF (putF fm p.1 _) r k = _
    rw [ih _ k hk]
    by_cases hp : first ≤ p.1
    · rw [List.filter_cons_of_pos (by simpa using hp)]
      show _ = synF (putF (fmR fm first) p.1 _) _ k
      congr 1
      funext j
      unfold fmR putF
      by_cases hj : first ≤ j
      · rw [if_pos hj]
        by_cases e : j = p.1
        · rw [if_pos e, if_pos e]; rw [show getF (fun k => if first ≤ k then fm k else none) p.1 = getF fm p.1 from getF_R fm hp]
        · rw [if_neg e, if_neg e]; exact (if_pos hj).symm
      · rw [if_neg hj, if_neg (by intro e; omega)]; exact (if_neg hj).symm
    · rw [List.filter_cons_of_neg (by simpa using hp)]
      congr 1
      funext j
      unfold fmR putF
      by_cases hj : first ≤ j
      · rw [if_pos hj, if_pos hj, if_neg (by intro e; omega)]
      · rw [if_neg hj, if_neg hj]
theorem WSG.sync {s : DkS} {first : Int} {A : List WSeg} {xs : List ByteArray} {old : Int → Option FileM} {p0 : List PcT} (h : WSG s first A xs old p0) : WSG (synS s) first (xs.foldl appA A) [] (fun k => if first ≤ k then none else synF s.fm s.ps k) [] := by
  have hpl : ∀ (xs : List ByteArray) (A : List WSeg), ∀ p ∈ pcsA first A xs, first ≤ p.1 := by
    intro xs
    induction xs with
    | nil => intro A p hp; cases hp
    | cons x r ih => intro A p hp; rcases List.mem_cons.1 hp with rfl | hp; show first ≤ first + (atA A : Int); omega; exact ih _ p hp
  have hW : WSt ⟨fmR s.fm first, pcsA first A xs, s.ser, s.boots⟩ first A xs := ⟨h.onD, rfl, h.ok, h.tx⟩
  have hS := hW.sync
  refine ⟨fun k => ?_, rfl, fun p hp => (by cases hp), hS.ok, fun p hp => (by cases hp)⟩
  show synF s.fm s.ps k = _
  by_cases hl : first ≤ k
  · rw [if_pos hl]
    have h1 := hS.on k
    have h2 := syn_R s.ps s.fm first k hl
    have h3 : s.ps.filter (fun p => decide (first ≤ p.1)) = pcsA first A xs := by
      rw [h.ps, List.filter_append, List.filter_eq_nil_iff.2 (fun p hp => by have := h.lo p hp; simp; omega), List.nil_append, List.filter_eq_self.2 (fun p hp => by have := hpl xs A p hp; simpa using this)]
    rw [h2, h3]
    exact h1
  · rw [if_neg hl, if_neg hl]
theorem pcs_lt (first : Int) (xs : List ByteArray) (A : List WSeg) : ∀ p ∈ pcsA first A xs, p.1 < first + ((xs.foldl appA A).length : Int) := by
  induction xs generalizing A with
  | nil => intro p hp; cases hp
  | cons x r ih =>
    intro p hp
    rcases List.mem_cons.1 hp with rfl | hp
    · show first + (atA A : Int) < first + (((x :: r).foldl appA A).length : Int)
      have h1 : ((appA A x)[atA A]?).isSome = true := by unfold appA; rw [some_put]; simp
      have h2 := some_run r (appA A x) (atA A) h1
      have h3 := (List.getElem?_eq_some_iff.1 (Option.isSome_iff_exists.1 h2).choose_spec).1
      rw [List.foldl_cons]; omega
    · exact ih _ p hp
/-- The next log of a disk that bears just one. -/
theorem WSt.next {s : DkS} {first : Int} {A : List WSeg} {xs : List ByteArray} (h : WSt s first A xs) : WSG s (first + ((xs.foldl appA A).length : Int)) [] [] s.fm s.ps := by
  refine WSG.new (fun k hk => ?_) (fun p hp => ?_)
  · rw [h.on k]; unfold flW
    rw [if_pos (by omega), if_neg]
    intro hs
    have := (List.getElem?_eq_some_iff.1 (Option.isSome_iff_exists.1 hs).choose_spec).1
    omega
  · rw [h.ps] at hp; exact pcs_lt first xs A p hp
end Go.Proofs.YtfiplhnplmadmaaDoor

/- Package wal: Append, Last, Read on a log. Conditions: at most 800 calls. -/
namespace Go.Proofs.YtfiplhnplmadmaaDoor
open Go.RowKit Go.PlainAid Go.Shelf
set_option linter.unusedVariables false
section
variable {base : Zn} {d m N : Nat} {first : Int} {A : List WSeg} {xs : List ByteArray} {w x : World}
set_option maxRecDepth 100000 in
set_option maxHeartbeats 4000000 in
theorem wlLast (w : World) (hW : Blk w N 41 #[.bool true, pt d 0, .int .i64 first]) (h : WlO base w d m first A xs) (hm : m ≤ 900) (ht : Tab w) (hb : ¬ base.P 0) : Calls Tryd.prog 17 #[pt N 0] w fun e w' => e = .returned (.int .i64 (hereA first (xs.foldl appA A))) ∧ WlO base w' d m first A xs ∧ ButD base w w' := by
  have c0 := hW.cell (k := 0) rfl; have c1 : w.cell? ⟨N, 1, none⟩ = some (.pointer (some ⟨d, 0, none⟩)) := hW.cell (k := 1) rfl; have c2 := hW.cell (k := 2) rfl
  have HO := Lib.hid h; have HT := Lib.hid ht; have HM := Lib.hid hm
  clear h ht hW hm
  go_enter Tryd.func17, Tryd.ntmps17
  simp only [pt]
  go_wp2_with fail
  go_region_law (first | (go_simp; go_at_call 33; refine (wlHere _ (HO.out.new (drew_grown _)) HM.out (HT.out.below (grown_below (drew_grown _))) hb).mono ?_; rintro e w2 ⟨rfl, h2, hb2⟩))
  all_goals (go_wp2; go_ret; exact ⟨rfl, h2, butD_tr (But.of_below (grown_below (drew_grown _))) hb2⟩)
set_option maxRecDepth 100000 in
set_option maxHeartbeats 4000000 in
theorem wlRead (w : World) (h : WlO base w d m first A xs) (hm : m ≤ 900) (ht : Tab w) (hb : ¬ base.P 0) : Calls Tryd.prog 16 #[pt d 0, .int .i64 first] w fun e w' => ∃ u, e = .returned (.tuple #[u, .int .i64 (hereA first (xs.foldl appA A))]) ∧ w'.ownsRow w.heap.size 9 1 u (txtA A ++ xs).length ((txtA A ++ xs).flatMap strE) ∧ WlO base w' d m first A xs ∧ ButD base w w' := by
  have HO := Lib.hid h; have HT := Lib.hid ht; have HM := Lib.hid hm
  clear h ht hm
  go_enter Tryd.func16, Tryd.ntmps16
  simp only [pt]
  go_wp2_with fail
  refine (wlOpen w HO.out HM.out HT.out hb).mono ?_
  rintro e w1 ⟨N, u, rfl, hW, hr, h1, hb1⟩
  have HW := Lib.hid hW; have HR := Lib.hid hr; have H1 := Lib.hid h1; have HB1 := Lib.hid hb1
  clear hW hr h1 hb1
  go_wp2_with fail
  refine (wlLast w1 HW.out H1.out HM.out (tab_butD HT.out HB1.out hb) hb).mono ?_
  rintro e w2 ⟨rfl, h2, hb2⟩
  have HR2 := Lib.hid (rowD HR.out (by decide) hb2); have H2 := Lib.hid h2; have HB2 := Lib.hid (butD_tr HB1.out hb2)
  clear h2 hb2
  go_wp2
  go_ret2
  exact ⟨_, rfl, HR2.out, H2.out, HB2.out⟩
set_option maxRecDepth 100000 in
set_option maxHeartbeats 4000000 in
theorem wlAppend (w : World) (t : ByteArray) (hW : Blk w N 41 #[.bool true, pt d 0, .int .i64 first]) (h : WlO base w d m first A xs) (hm : m ≤ 800) (ht : Tab w) (hb : ¬ base.P 0) (hsz : t.size ≤ 65536) : Calls Tryd.prog 12 #[pt N 0, .string t] w fun e w' => e = .returned (.int .i64 0) ∧ WlO base w' d (m + 1) first A (xs ++ [t]) ∧ ButD base w w' := by
  have c0 := hW.cell (k := 0) rfl; have c1 : w.cell? ⟨N, 1, none⟩ = some (.pointer (some ⟨d, 0, none⟩)) := hW.cell (k := 1) rfl; have c2 := hW.cell (k := 2) rfl
  have HO := Lib.hid h; have HT := Lib.hid ht; have HM := Lib.hid hm; have HW := Lib.hid hW
  clear h ht hW hm
  go_enter Tryd.func12, Tryd.ntmps12
  simp only [pt]
  go_wp2_with fail
  refine (put_frame t w HT.out (by omega)).mono ?_
  rintro e w1 ⟨rfl, hb1⟩
  have e1 : putR t = (frameB t, 0) := by unfold putR; rw [if_neg (by omega)]
  rw [e1]; unfold putV
  have HB1 := Lib.hid hb1; have H1 := Lib.hid (HO.out.call hb1); have HT1 := Lib.hid (HT.out.below hb1)
  have hW1 := HW.out.below hb1
  have d1 := hW1.cell (k := 1) rfl; have d2 := hW1.cell (k := 2) rfl
  simp only [pt] at d1
  have HW1 := Lib.hid hW1
  clear hb1 e1 hW1 c0 c1 c2
  dsimp only
  go_wp2_with fail
  go_region_law (first | (go_simp; go_at_call 33; refine (wlHere _ (H1.out.new (drew_grown _)) (by have := HM.out; omega) (HT1.out.below (grown_below (drew_grown _))) hb).mono ?_; rintro e w2 ⟨rfl, h2, hb2⟩; have HW2 := HW1.out.below (grown_below (drew_grown _)); have hq := Blk.grW HW2 (by decide) hb2; have k1 := hq.cell (k := 1) rfl; have k2 := hq.cell (k := 2) rfl; simp only [pt] at k1; have H2 := Lib.hid h2; have HB2 := Lib.hid hb2; clear h2 hb2 hq HW2) | (go_simp; go_at_call 28; refine (wlWrite _ t H2.out HM.out hsz).mono ?_; rintro e w3 ⟨rfl, h3, hb3⟩))
  all_goals (go_wp2; go_ret; exact ⟨rfl, h3, butD_tr (butD_tr (But.of_below HB1.out) (butD_tr (But.of_below (grown_below (drew_grown _))) HB2.out)) hb3⟩)
end
end Go.Proofs.YtfiplhnplmadmaaDoor

/- catenalaw12: short, awake; lists of texts that read alike. Conditions: a laid table. -/
namespace Go.Proofs.YtfiplhnplmadmaaDoor
open Go.RowKit Go.PlainAid
set_option linter.unusedVariables false
set_option linter.unusedSimpArgs false


theorem strE_lenW (y : ByteArray) : (strE y).length = 1 := rfl
/-- A call of stage 12. -/
structure WActT where
  k : Int
  s : ByteArray
  n : Int
  file : Int
instance : Inhabited WActT := ⟨⟨0, ⟨#[]⟩, 0, 0⟩⟩
theorem sl_castW {w : World} {v : Value} {l l' : List ByteArray} (h : SliceOf strE 1 w v l) (e : l = l') : SliceOf strE 1 w v l' := e ▸ h
end Go.Proofs.YtfiplhnplmadmaaDoor

/- Package point: own, count. Conditions: none. -/
namespace Go.Proofs.YtfiplhnplmadmaaDoor
open Go.RowKit Go.PlainAid
set_option linter.unusedVariables false
set_option linter.unusedSimpArgs false


theorem own_yes {l : List ByteArray} {i : Nat} {y : ByteArray} (hy : l[i]? = some y) (h0 : 0 < y.size) (h : ((y.extract 0 1).toList == (⟨#[84]⟩ : ByteArray).toList) = true) : ownB (l.take i) ++ [y.extract 1 y.size] = ownB (l.take (i + 1)) := by
  rw [List.take_add_one, hy, own_app]; congr 1
  show _ = ownB [y]
  unfold ownB; rw [List.filterMap_cons, if_pos (by unfold isT; rw [decide_eq_true h0, h]; rfl)]; rfl
theorem own_no {l : List ByteArray} {i : Nat} {y : ByteArray} (hy : l[i]? = some y) (h : ((y.extract 0 1).toList == (⟨#[84]⟩ : ByteArray).toList) = false) : ownB (l.take i) = ownB (l.take (i + 1)) := by
  rw [List.take_add_one, hy, own_app]
  show _ = _ ++ ownB [y]
  have : ownB [y] = [] := by unfold ownB; rw [List.filterMap_cons, if_neg (by unfold isT; rw [h]; simp)]; rfl
  rw [this, List.append_nil]
theorem own_none {l : List ByteArray} {i : Nat} {y : ByteArray} (hy : l[i]? = some y) (h : ¬ 0 < y.size) : ownB (l.take i) = ownB (l.take (i + 1)) := by
  rw [List.take_add_one, hy, own_app]
  show _ = _ ++ ownB [y]
  have : ownB [y] = [] := by unfold ownB; rw [List.filterMap_cons, if_neg (by unfold isT; rw [decide_eq_false h]; simp)]; rfl
  rw [this, List.append_nil]
theorem own_le (l : List ByteArray) (i : Nat) : (ownB (l.take i)).length ≤ i := Nat.le_trans (List.length_filterMap_le _ _) (List.length_take_le _ _)
theorem cnt_n0 {s : ByteArray} (h : ¬ 0 < s.size) : cntB s = (0, false) := by unfold cntB isP; rw [decide_eq_false h]; rfl
theorem cnt_n1 {s : ByteArray} (h : ((s.extract 0 1).toList == (⟨#[80]⟩ : ByteArray).toList) = false) : cntB s = (0, false) := by unfold cntB isP; rw [h, Bool.and_false]; rfl
theorem cnt_y {s : ByteArray} (h0 : 0 < s.size) (h : ((s.extract 0 1).toList == (⟨#[80]⟩ : ByteArray).toList) = true) : cntB s = ((getR s 1).1, decide ((getR s 1).2.2 = 0) && decide ((getR s 1).2.1 = (s.size : Int))) := by unfold cntB isP; rw [h, decide_eq_true h0]; rfl
section
variable {P : Program} {m : List (Nat × Value)} {o : Oper} {w : World}
theorem rn_sliceStrFrom {t : TypeId} {q r : Operand} {k : IntKind} {s : ByteArray} {i : Int} {j : Nat} (ho : o.op = .slice t q (some r) none none) (hq : ev m q = some (.string s)) (hr : ev m r = some (.int k i)) (ht : P.underlying t = some .string) (hij : i = (j : Nat)) (hj : j ≤ s.size) : (execOp (lk m) o).run P w = .ok (.value (.string (s.extract j s.size))) w := by
  subst hij
  have hrun : (Instr.slice t (.string s) (some (.int k ((j : Nat) : Int))) none none).run P w = .ok (.string (s.extract j s.size)) w := by
    rw [run_slice_string_l (s := s) (ht := ht) (kl := k) (l := ((j : Nat) : Int)) (h0 := by omega) (h1 := by omega)]; rfl
  unfold execOp
  simp only [ho, Option.map_some, Option.map_none, lk_ev hq, lk_ev hr, run_sliceAt_string (h := ht), hrun, Sem.run_bind, Result.andThen_ok, Sem.run_pure]
end
theorem nb_f {b : Bool} (h : (!b) = true) : b = false := by simpa using h
theorem nb_t {b : Bool} (h : (!b) = false) : b = true := by simpa using h
theorem beq_dec (a b : Int) : (a == b) = decide (a = b) := by by_cases h : a = b <;> simp [h]

set_option maxRecDepth 100000 in
theorem own_any (v : Value) (l : List ByteArray) (w : World) (hs : SliceOf strE 1 w v l) (hlen : l.length ≤ 1000000) :
    Calls Tryd.prog 39 #[v] w fun e w' => ∃ (u : Value), e = .returned (u) ∧ w'.ownsRow w.heap.size 9 1 u (ownB l).length ((ownB l).flatMap strE) ∧ Below w.heap.size w w' := by
 have hB0 := Below.refl w.heap.size w;have hl_hs := sl_len hs;refine co_enter (n := 27) Tryd.func39 rfl rfl rfl [(0, v)] rfl (fun a s => ?_);refine q2 ?_;refine pk0 (v := .slice none 0 0) s rfl fun _ s => q3 ?_;refine pk0 (v := .slice none 0 0) s rfl fun _ s => q6 ?_;refine pk0 (v := v) s rfl fun _ s => ?_;refine pk (v := .int .i64 (l.length : Int)) s rfl (rn_len rfl rfl Tryd.underlying28 hs) fun _ s => ?_;refine pk0 (v := .int .i64 0) s rfl fun _ s => q1 <| wp_block ?_;have s : Slots 27 [(0, v), (3, .slice none 0 0), (6, v), (7, .int .i64 (l.length : Int)), (8, .int .i64 0)] _ := s.sub ⟨rfl, rfl, rfl, rfl, rfl, trivial⟩;refine co_loop (fun mm a x => ∃ (i : Nat) (u : Value), Slots 27 [(0, v), (3, u), (6, v), (7, .int .i64 (l.length : Int)), (8, .int .i64 (i : Int))] a ∧ mm = l.length - i ∧ (i ≤ l.length) ∧ x.ownsRow w.heap.size 9 1 u (ownB (l.take i)).length ((ownB (l.take i)).flatMap strE) ∧ Below w.heap.size w x) (l.length - 0) ?_ ?_
 · exact ⟨0, (.slice none 0 0), s.sub ⟨rfl, rfl, rfl, rfl, (slot_eq rfl (congrArg (Value.int .i64) (by first | rfl | omega))), trivial⟩, rfl, by omega, (row_nilL _ _ _ _ _), hB0⟩
 · rintro k7 a8 w9 ⟨i, u, s, rfl, hi10, hf11, hB12⟩
   have hz13 := hB12.size;have hol := own_le l i;refine q2 ?_;refine pk0 (v := .bool (decide ((i : Int) < (l.length : Int)))) s rfl fun _ s => q1 <| co_seq ?_;cases hc15 : (decide ((i : Int) < (l.length : Int)))
   ·
    rw [hc15] at s;have hp16 : ¬ ((i : Int) < (l.length : Int)) := of_decide_eq_false hc15;refine co_false s rfl <| wp_exit <| co_thenX <| co_thenX <| qx <| q2 ?_;refine pk0 (v := u) s rfl fun _ s => ?_;refine pk0 (v := u) s rfl fun _ s => q4 ?_;refine co_ret1 s rfl rfl ?_;exact ⟨_, rfl, (row_eq (row_lows hf11 (by omega)) (by rw [List.take_of_length_le (by omega)])), hB12⟩
   rw [hc15] at s;have hp19 : (i : Int) < (l.length : Int) := of_decide_eq_true hc15;refine co_true s rfl <| q0 <| co_seq <| wp_block <| q2 ?_;obtain ⟨y20, hy20⟩ : ∃ z, l[i]? = some z := ⟨_, List.getElem?_eq_getElem (by first | omega | (simp; done) | (simp; omega))⟩;refine pk (v := pt (blkOf v) (offOf v + i * 1)) s rfl (rn_index rfl rfl rfl Tryd.underlying28 Tryd.sizeOf9 (hs.below hB12) (by omega) (by first | omega | (simp; done) | (simp; omega))) fun _ s => ?_;refine pk (v := .string y20) s rfl (rn_load1 rfl rfl Tryd.isAgg9 ((sl_at (hs.below hB12) hy20) 0 _ rfl)) fun _ s => ?_;refine pk0 (v := .string y20) s rfl fun _ s => q3 ?_;refine pk0 (v := .string y20) s rfl fun _ s => ?_;refine pk (v := .int .i64 (y20.size : Int)) s rfl (rn_lenStr rfl rfl Tryd.underlying9) fun _ s => ?_;refine pk0 (v := .bool (decide ((y20.size : Int) > 0))) s rfl fun _ s => ?_;refine pk0 (v := .bool (decide ((y20.size : Int) > 0))) s rfl fun _ s => ?_;cases hc28 : (decide ((y20.size : Int) > 0))
   ·
    rw [hc28] at s;have hp29 : ¬ ((y20.size : Int) > 0) := of_decide_eq_false hc28;refine psk s rfl fun _ s => ?_;refine psk s rfl fun _ s => ?_;refine psk s rfl fun _ s => ?_;refine pk0 (v := .bool false) s rfl fun _ s => q1 ?_;refine co_false s rfl <| wp_skip <| co_blockN <| co_then <| co_reg ?_;refine pk (v := .int .i64 ((i + 1 : Nat) : Int)) s rfl (rn_arith' rfl rfl rfl rfl rfl rfl (IntWalk.i64_in _ (by omega)) (by omega)) fun _ s => ?_;refine pk0 (v := .int .i64 ((i + 1 : Nat) : Int)) s rfl fun _ s => q1 ?_;refine ⟨(l.length - (i + 1)), by omega, ?_⟩;exact ⟨i + 1, u, s.sub ⟨rfl, rfl, rfl, rfl, rfl, trivial⟩, rfl, by omega, (row_eq hf11 (by first | rfl | exact own_yes (by assumption) (by omega) (by assumption) | exact own_no (by assumption) (by assumption) | exact own_none (by assumption) (by omega))), hB12⟩
   rw [hc28] at s;have hp36 : (y20.size : Int) > 0 := of_decide_eq_true hc28;refine pk0 (v := .string y20) s rfl fun _ s => ?_;refine pk (v := .string (y20.extract 0 1)) s rfl (rn_sliceStrTo (j := 1) rfl rfl rfl Tryd.underlying9 (by omega) (by omega)) fun _ s => ?_;refine pk0 (v := .bool ((y20.extract 0 1 : ByteArray).toList == (⟨#[84]⟩ : ByteArray).toList)) s rfl fun _ s => ?_;refine pk0 (v := .bool ((y20.extract 0 1 : ByteArray).toList == (⟨#[84]⟩ : ByteArray).toList)) s rfl fun _ s => q1 ?_;cases hc41 : ((y20.extract 0 1 : ByteArray).toList == (⟨#[84]⟩ : ByteArray).toList)
   ·
    rw [hc41] at s;refine co_false s rfl <| wp_skip <| co_blockN <| co_then <| co_reg ?_;refine pk (v := .int .i64 ((i + 1 : Nat) : Int)) s rfl (rn_arith' rfl rfl rfl rfl rfl rfl (IntWalk.i64_in _ (by omega)) (by omega)) fun _ s => ?_;refine pk0 (v := .int .i64 ((i + 1 : Nat) : Int)) s rfl fun _ s => q1 ?_;refine ⟨(l.length - (i + 1)), by omega, ?_⟩;exact ⟨i + 1, u, s.sub ⟨rfl, rfl, rfl, rfl, rfl, trivial⟩, rfl, by omega, (row_eq hf11 (by first | rfl | exact own_yes (by assumption) (by omega) (by assumption) | exact own_no (by assumption) (by assumption) | exact own_none (by assumption) (by omega))), hB12⟩
   rw [hc41] at s;refine co_true s rfl <| co_reg ?_;refine pk0 (v := u) s rfl fun _ s => ?_;refine pk0 (v := .string y20) s rfl fun _ s => ?_;refine pk (v := .string (y20.extract 1 y20.size)) s rfl (rn_sliceStrFrom (j := 1) rfl rfl rfl Tryd.underlying9 (by omega) (by omega)) fun _ s => ?_;refine pw s rfl (op_new (v := fun N => .slice (some ⟨N, 0, none⟩) 1 1) (T := 9) (cs := #[.string (y20.extract 1 y20.size)]) (by kernel_rfl) (by kernel_rfl) (by kernel_rfl)) ?_;rintro _ w48 a47 ⟨N49, rfl, hN52, hz53, hk51, hg50⟩ s;have ha54 := row_fresh hf11 hN52;have hz55 := hg50.size
   try dsimp only at s
   have hr62 := row_kept_new hf11 hg50;refine pw s rfl (op_append rfl w.heap.size 9 (z := .string (⟨#[]⟩)) (size := 1) (bytes := 16) Tryd.underlying28 (by kernel_rfl) rfl rfl rfl hr62 rfl hk51 rfl (by kernel_rfl) (by first | omega | (simp only [List.length_nil, List.length_append, List.length_cons, List.length_take, List.length_drop]; omega)) (by first | omega | (simp only [List.length_nil, List.length_append, List.length_cons, List.length_take, List.length_drop]; omega)) (by omega)) ?_;rintro v58 w57 a56 ⟨hr59, hg60⟩ s;have hr59' : w57.ownsRow w.heap.size 9 1 v58 (((ownB (l.take i)) ++ [y20.extract 1 y20.size]).length) (((ownB (l.take i)) ++ [y20.extract 1 y20.size]).flatMap strE) := row_push (y := y20.extract 1 y20.size) hr59 rfl rfl;have hz63 := hg60.size;refine pk0 (v := v58) s rfl fun _ s => pl_nil <| co_blockN <| co_then <| co_reg ?_;refine pk (v := .int .i64 ((i + 1 : Nat) : Int)) s rfl (rn_arith' rfl rfl rfl rfl rfl rfl (IntWalk.i64_in _ (by omega)) (by omega)) fun _ s => ?_;refine pk0 (v := .int .i64 ((i + 1 : Nat) : Int)) s rfl fun _ s => q1 ?_;refine ⟨(l.length - (i + 1)), by omega, ?_⟩;have hB67 := hb_new hB12 hg50;have hB68 := hb_row hB67 hr62 (by omega) hg60;exact ⟨i + 1, v58, s.sub ⟨rfl, rfl, rfl, rfl, rfl, trivial⟩, rfl, by omega, (row_eq hr59' (by first | rfl | exact own_yes (by assumption) (by omega) (by assumption) | exact own_no (by assumption) (by assumption) | exact own_none (by assumption) (by omega))), hB68⟩
set_option maxRecDepth 100000 in
theorem count_any (s : ByteArray) (w : World) (hsz : s.size ≤ 1000000000) :
    Calls Tryd.prog 67 #[.string s] w fun e w' => e = .returned (.tuple #[.int .u64 ((cntB s).1), .bool ((cntB s).2)]) ∧ Below w.heap.size w w' := by
 have hB0 := Below.refl w.heap.size w;refine co_enter (n := 30) Tryd.func67 rfl rfl rfl [(0, .string s)] rfl (fun a g => ?_);refine q2 ?_;refine pk0 (v := .int .u64 0) g rfl fun _ g => ?_;refine pk0 (v := .bool false) g rfl fun _ g => q6 ?_;refine pk0 (v := .string s) g rfl fun _ g => ?_;refine pk (v := .int .i64 (s.size : Int)) g rfl (rn_lenStr rfl rfl Tryd.underlying9) fun _ g => ?_;refine pk0 (v := .bool ((s.size : Int) == 0)) g rfl fun _ g => ?_;refine pk0 (v := .bool ((s.size : Int) == 0)) g rfl fun _ g => ?_;cases hc7 : ((s.size : Int) == 0)
 ·
  rw [hc7] at g;have hp8 : ¬ ((s.size : Int) = 0) := by first | simpa using hc7 | simpa [and_assoc] using hc7
  refine pk0 (v := .string s) g rfl fun _ g => ?_;refine pk (v := .string (s.extract 0 1)) g rfl (rn_sliceStrTo (j := 1) rfl rfl rfl Tryd.underlying9 (by omega) (by omega)) fun _ g => ?_;refine pk0 (v := .bool (!((s.extract 0 1 : ByteArray).toList == (⟨#[80]⟩ : ByteArray).toList))) g rfl fun _ g => ?_;refine pk0 (v := .bool (!((s.extract 0 1 : ByteArray).toList == (⟨#[80]⟩ : ByteArray).toList))) g rfl fun _ g => q1 ?_;cases hc13 : (!((s.extract 0 1 : ByteArray).toList == (⟨#[80]⟩ : ByteArray).toList))
  ·
   rw [hc13] at g;refine co_false g rfl <| q7 ?_;refine pk0 (v := .string s) g rfl fun _ g => ?_;refine pw g rfl (op_call (args := #[.string s, .int .i64 1]) (R := fun res xw => res = .tuple #[.int .u64 ((getR s 1).1), .int .i64 ((getR s 1).2.1), .int .i64 ((getR s 1).2.2)] ∧ w = xw) rfl rfl rfl (by kernel_rfl) (by kernel_rfl) (Tryd.call81 _ _) (get_any s 1 w (by omega)) (by rintro e x ⟨rfl, h⟩; exact ⟨_, rfl, rfl, h⟩)) ?_;rintro _ _ a15 ⟨rfl, rfl⟩ g;refine pk0 (v := .tuple #[.int .u64 ((getR s 1).1), .int .i64 ((getR s 1).2.1), .int .i64 ((getR s 1).2.2)]) g rfl fun _ g => ?_;refine pk0 (v := .int .u64 ((getR s 1).1)) g rfl fun _ g => ?_;refine pk0 (v := .int .i64 ((getR s 1).2.1)) g rfl fun _ g => ?_;refine pk0 (v := .int .i64 ((getR s 1).2.2)) g rfl fun _ g => ?_;refine pk0 (v := .int .u64 ((getR s 1).1)) g rfl fun _ g => ?_;refine pk0 (v := .int .i64 ((getR s 1).2.1)) g rfl fun _ g => ?_;refine pk0 (v := .int .i64 ((getR s 1).2.2)) g rfl fun _ g => q3 ?_;refine pk0 (v := .int .u64 ((getR s 1).1)) g rfl fun _ g => ?_;refine pk0 (v := .int .i64 ((getR s 1).2.2)) g rfl fun _ g => ?_;refine pk0 (v := .bool ((getR s 1).2.2 == 0)) g rfl fun _ g => ?_;refine pk0 (v := .bool ((getR s 1).2.2 == 0)) g rfl fun _ g => ?_;cases hc28 : ((getR s 1).2.2 == 0)
   ·
    rw [hc28] at g;have hp29 : ¬ ((getR s 1).2.2 = 0) := by first | simpa using hc28 | simpa [and_assoc] using hc28
    refine psk g rfl fun _ g => ?_;refine psk g rfl fun _ g => ?_;refine psk g rfl fun _ g => ?_;refine psk g rfl fun _ g => ?_;refine pk0 (v := .bool false) g rfl fun _ g => ?_;refine pk0 (v := .int .u64 ((getR s 1).1)) g rfl fun _ g => ?_;refine pk0 (v := .bool false) g rfl fun _ g => q4 ?_;refine co_ret2 g rfl rfl rfl ?_;exact ⟨by first | (rw [cnt_n0 (by omega)]; done) | (rw [cnt_n1 (nb_f (by assumption))]; done) | (rw [cnt_y (by omega) (nb_t (by assumption))]; simp [beq_dec, *]; done), hB0⟩
   rw [hc28] at g;have hp37 : (getR s 1).2.2 = 0 := by first | simpa using hc28 | simpa [and_assoc] using hc28
   refine pk0 (v := .int .i64 ((getR s 1).2.1)) g rfl fun _ g => ?_;refine pk0 (v := .string s) g rfl fun _ g => ?_;refine pk (v := .int .i64 (s.size : Int)) g rfl (rn_lenStr rfl rfl Tryd.underlying9) fun _ g => ?_;refine pk0 (v := .bool ((getR s 1).2.1 == (s.size : Int))) g rfl fun _ g => ?_;refine pk0 (v := .bool ((getR s 1).2.1 == (s.size : Int))) g rfl fun _ g => ?_;refine pk0 (v := .int .u64 ((getR s 1).1)) g rfl fun _ g => ?_;refine pk0 (v := .bool ((getR s 1).2.1 == (s.size : Int))) g rfl fun _ g => q4 ?_;refine co_ret2 g rfl rfl rfl ?_;exact ⟨by first | (rw [cnt_n0 (by omega)]; done) | (rw [cnt_n1 (nb_f (by assumption))]; done) | (rw [cnt_y (by omega) (nb_t (by assumption))]; simp [beq_dec, *]; done), hB0⟩
  rw [hc13] at g;refine co_true g rfl <| q2 ?_;refine pk0 (v := .int .u64 0) g rfl fun _ g => ?_;refine pk0 (v := .bool false) g rfl fun _ g => q5 ?_;refine co_ret2 g rfl rfl rfl ?_;exact ⟨by first | (rw [cnt_n0 (by omega)]; done) | (rw [cnt_n1 (nb_f (by assumption))]; done) | (rw [cnt_y (by omega) (nb_t (by assumption))]; simp [beq_dec, *]; done), hB0⟩
 rw [hc7] at g;have hp47 : (s.size : Int) = 0 := by first | simpa using hc7 | simpa [and_assoc] using hc7
 refine psk g rfl fun _ g => ?_;refine psk g rfl fun _ g => ?_;refine psk g rfl fun _ g => ?_;refine pk0 (v := .bool true) g rfl fun _ g => q1 ?_;refine co_true g rfl <| q2 ?_;refine pk0 (v := .int .u64 0) g rfl fun _ g => ?_;refine pk0 (v := .bool false) g rfl fun _ g => q5 ?_;refine co_ret2 g rfl rfl rfl ?_;exact ⟨by first | (rw [cnt_n0 (by omega)]; done) | (rw [cnt_n1 (nb_f (by assumption))]; done) | (rw [cnt_y (by omega) (nb_t (by assumption))]; simp [beq_dec, *]; done), hB0⟩
end Go.Proofs.YtfiplhnplmadmaaDoor

/- Package point: beginning, row, whole. Conditions: files are segments. -/
namespace Go.Proofs.YtfiplhnplmadmaaDoor
open Go.RowKit Go.PlainAid Go.Shelf
set_option linter.unusedVariables false

theorem seg_text {y : WSeg} (h : SegOk y) (h0 : (nextR y.b 0).2.2 = 0) : (nextR y.b 0).1.size ≤ 65536 := by
  obtain ⟨hr, he⟩ := seg_all h
  cases hT : y.T with
  | nil =>
    rw [hT] at hr he
    have e0 : ((catF ([] : List ByteArray)).size : Int) = 0 := rfl
    rw [e0] at he
    rcases he with ⟨h1, h2⟩ | ⟨h1, h2, h3⟩
    · have := next_adv y.b 0 h0; omega
    · exact absurd (h2.trans h0) h3
  | cons x r =>
    rw [hT] at hr
    obtain ⟨h1, h2, h3, h4⟩ := hr
    rw [← h3]; exact h.1 x (by rw [hT]; exact List.mem_cons_self ..)
set_option maxRecDepth 100000 in
set_option maxHeartbeats 1600000 in
theorem beginning_any (y : WSeg) (w : World) (hy : SegOk y) (hsz : y.b.size ≤ 1000000000) (ht : Tab w) :
    Calls Tryd.prog 55 #[.string y.b] w fun e w' => e = .returned (.tuple #[.int .u64 (begB y).1, .bool (begB y).2]) ∧ Below w.heap.size w w' := by
  have hn := seg_next hy
  have hx := seg_text hy
  obtain ⟨B, hB⟩ : ∃ B, B = y.b := ⟨_, rfl⟩
  obtain ⟨R, hR⟩ : ∃ R, R = begB y := ⟨_, rfl⟩
  rw [← hB] at hn hx hsz ⊢
  rw [← hR] at hn ⊢
  obtain ⟨⟨t, nx, c⟩, hr⟩ : ∃ r, nextR B 0 = r := ⟨_, rfl⟩
  rw [hr] at hn hx
  have HN := Lib.hid hn; have HX := Lib.hid hx; have HR := Lib.hid hr
  clear hn hx hR hB hy hr
  go_enter Tryd.func55, Tryd.ntmps55
  go_wp2_with fail
  refine (next_any B 0 w ht (by omega)).mono ?_
  rintro e w1 ⟨rfl, hb1⟩
  rw [HR.out]; unfold nextV; dsimp only
  have HB1 := Lib.hid hb1; clear hb1
  by_cases hc : c = 0
  · subst hc
    have hn : R = cntB t := by have := HN.out; rw [if_pos rfl] at this; exact this
    have hx : t.size ≤ 65536 := HX.out rfl
    have HN2 := Lib.hid hn; clear hn
    go_wp2_with fail
    refine (count_any t w1 (by omega)).mono ?_
    rintro e w2 ⟨rfl, hb2⟩
    have HB2 := Lib.hid (hb_call HB1.out hb2); clear hb2
    go_wp2
    go_ret2
    exact ⟨by rw [HN2.out]; rfl, HB2.out⟩
  · have hne : (c != 0) = true := by simpa using hc
    have hn : R = (0, false) := by have := HN.out; rw [if_neg hc] at this; exact this
    have HN2 := Lib.hid hn; clear hn hc
    go_wp2
    go_ret2
    exact ⟨by rw [HN2.out]; rfl, HB1.out⟩
/-- A disk whose files are segments. -/
structure DsO (base : Zn) (d c : Nat) (s : DkS) (sg : Int → WSeg) (w : World) : Prop where
  obj : DObj base w d c s
  c6 : c ≤ 1000000
  seg : ∀ k, SegOk (sg k) ∧ datF s.fm k = (sg k).b ∧ (sg k).b.size ≤ 1000000000
  txt : ∀ k, (sg k).T.length ≤ 1000000
  tab : Tab w
  b0 : ¬ base.P 0
theorem DsO.turn {base : Zn} {d c : Nat} {s : DkS} {sg : Int → WSeg} {w x : World} (h : DsO base d c s sg w) (hD : DObj base x d c s) (hb : ButD base w x) : DsO base d c s sg x := ⟨hD, h.c6, h.seg, h.txt, tab_butD h.tab hb h.b0, h.b0⟩
theorem DsO.below {base : Zn} {d c : Nat} {s : DkS} {sg : Int → WSeg} {w x : World} (h : DsO base d c s sg w) (hb : Below w.heap.size w x) : DsO base d c s sg x := h.turn (h.obj.call hb) (But.of_below hb)
def notB (sg : Int → WSeg) (n : Int) : Bool := !(begB (sg n)).2
set_option maxRecDepth 100000 in
set_option maxHeartbeats 1600000 in
theorem whole1_any {base : Zn} {d c : Nat} {s : DkS} {sg : Int → WSeg} (Bd : Nat) (n : Int) (w : World) (h : DsO base d c s sg w) (hB : Boxed w Bd 25 (pt d 0)) :
    Calls Tryd.prog 57 #[.int .i64 n, .pointer (some ⟨Bd, 0, none⟩)] w fun e w' => e = .returned (.bool (notB sg n)) ∧ DsO base d c s sg w' ∧ ButD base w w' := by
  have cd := hB.cell
  simp only [pt] at cd
  have H := Lib.hid h; clear h hB
  go_enter Tryd.func57, Tryd.ntmps57
  go_wp2_with fail
  refine (tData w n H.out.obj).mono ?_
  rintro e w1 ⟨rfl, hD1, hb1⟩
  have H1 := Lib.hid (H.out.turn hD1 hb1); have HB1 := Lib.hid hb1
  clear hD1 hb1 cd
  obtain ⟨h2, h3, h4⟩ := H.out.seg n
  rw [h3]
  have HS := Lib.hid h2
  go_wp2_with fail
  refine (beginning_any (sg n) w1 HS.out h4 H1.out.tab).mono ?_
  rintro e w2 ⟨rfl, hb2⟩
  have H2 := Lib.hid (H1.out.below hb2); have HB2 := Lib.hid (butD_tr HB1.out (But.of_below hb2))
  clear hb2 h3 h4 h2
  go_wp2
  go_ret
  exact ⟨rfl, H2.out, HB2.out⟩
set_option maxRecDepth 100000 in
theorem segm1_any (n : Int) (w : World) : Calls Tryd.prog 59 #[.int .i64 n] w fun e w' => e = .returned (.bool true) ∧ w = w' := by
  go_enter Tryd.func59, Tryd.ntmps59
  go_wp2
  go_ret
  exact ⟨rfl, rfl⟩
/-- Those that follow one by one. -/
def rowS (P : Int → Bool) (first : Int) (l : List Int) (n : Int) : List Int := if n = first + (l.length : Int) ∧ (n = first ∨ P n = true) then l ++ [n] else l
def rowF (P : Int → Bool) (first : Int) (ys : List Int) : List Int := ys.foldl (rowS P first) []
theorem rowF_at {P : Int → Bool} {first : Int} {ys : List Int} {i : Nat} {y : Int} (h : ys[i]? = some y) : rowF P first (ys.take (i + 1)) = rowS P first (rowF P first (ys.take i)) y := by
  unfold rowF; rw [List.take_add_one, h, List.foldl_append]; rfl
theorem rowF_le (P : Int → Bool) (first : Int) (ys : List Int) : (rowF P first ys).length ≤ ys.length := by
  suffices h : ∀ (ys l : List Int), (ys.foldl (rowS P first) l).length ≤ l.length + ys.length by have := h ys []; simpa [rowF] using this
  intro ys
  induction ys with
  | nil => intro l; simp
  | cons y r ih =>
    intro l
    have h1 := ih (rowS P first l y)
    have h2 : (rowS P first l y).length ≤ l.length + 1 := by unfold rowS; split <;> simp
    rw [List.foldl_cons, List.length_cons]; omega

set_option maxRecDepth 100000 in
set_option maxHeartbeats 4000000 in
theorem prowT_any {base : Zn} {d c : Nat} {s : DkS} {sg : Int → WSeg} (first : Int) (ys : List Int) (v : Value) (Bf : Nat) (w : World) (h : DsO base d c s sg w) (hf : 1 ≤ first ∧ first ≤ 2000000000) (hlen : ys.length ≤ 1000000) (hrow : w.ownsRow Bf 3 1 v ys.length (ys.flatMap (intE .i64))) :
    Calls Tryd.prog 56 #[v, .int .i64 first, .func (.func 59) #[] #[]] w fun e w' => ∃ u, e = .returned u ∧ w'.ownsRow w.heap.size 3 1 u (rowF (fun _ => true) first ys).length ((rowF (fun _ => true) first ys).flatMap (intE .i64)) ∧ DsO base d c s sg w' ∧ ButD base w w' := by
  obtain ⟨i0, hinf, hz0, hz1, hz2⟩ := info_parts info_intS
  obtain ⟨f1, f2⟩ := hf
  obtain ⟨ao, cap, rfl, -, -⟩ := row_view hrow
  have hlow : ∀ q, (Value.slice ao ys.length cap).ownBlock = some q → q < w.heap.size := fun q hq => (hrow.lt q hq).2
  have H := Lib.hid h; have HROW := Lib.hid hrow; have HLOW := Lib.hid hlow; skip
  clear h hrow hlow
  go_enter Tryd.func56, Tryd.ntmps56
  go_wp2
  go_loopg [7, 12] (ys.length + 1) (fun g s7 s12 wr => ∃ i : Nat, s12 = .int .i64 i ∧ i ≤ ys.length ∧ ys.length + 1 ≤ i + g ∧ Hid (wr.ownsRow w.heap.size 3 1 s7 (rowF (fun _ => true) first (ys.take i)).length ((rowF (fun _ => true) first (ys.take i)).flatMap (intE .i64))) ∧ Hid (wr.ownsRow Bf 3 1 (.slice ao ys.length cap) ys.length (ys.flatMap (intE .i64))) ∧ Hid (DsO base d c s sg wr) ∧ Hid (ButD base w wr))
  case atStart => exact ⟨0, rfl, by omega, by omega, Lib.hid (World.ownsRow_nil _ _ _ _), HROW, H, Lib.hid (But.refl _ _)⟩
  case round =>
    obtain ⟨i, rfl, hi, hg, HU, HF, HD, HB⟩ := hrel
    by_cases hlt : i < ys.length
    · obtain ⟨y, hy⟩ : ∃ y, ys[i]? = some y := ⟨_, List.getElem?_eq_getElem hlt⟩
      obtain ⟨ao', c', e, -, hat⟩ := row_view HF.out
      cases e
      obtain ⟨g2, rfl, -, hg2⟩ := hat i hlt
      rw [flat_ints, List.getElem?_map, hy] at hg2
      replace hg2 : wr.cell? ⟨g2, i, none⟩ = some (.int .i64 y) := hg2
      have hle := rowF_le (fun _ => true) first (ys.take i)
      rw [List.length_take] at hle
      have hst := rowF_at (P := (fun _ => true)) (first := first) hy
      obtain ⟨a7, n7, c7, rfl⟩ := own_slice HU.out
      obtain ⟨L, hL⟩ : ∃ L, L = rowF (fun _ => true) first (ys.take i) := ⟨_, rfl⟩
      rw [← hL] at HU hle hst
      have hn7 : n7 = L.length := by rcases HU.out.2 with ⟨h1, h2⟩ | ⟨_, _, _, h1, _⟩; cases h1; omega; cases h1; rfl
      subst hn7
      have HY := Lib.hid hy; have HLE := Lib.hid hle; have HST := Lib.hid hst
      have hl1 : L.length ≤ i := by omega
      clear hy hat hle hL hst
      by_cases hq : y = first + (L.length : Int)
      · have HQ := Lib.hid hq
        have hb0 : (y == first + (L.length : Int)) = true := by simpa using hq
        have hy2 : y ≤ 2001000000 := by omega
        clear hq
        by_cases hq1 : y = first
        · have hb1 : (y == first) = true := by simpa using hq1
          have hS : rowF (fun _ => true) first (ys.take (i + 1)) = L ++ [y] := by rw [HST.out]; unfold rowS; rw [if_pos ⟨HQ.out, .inl hq1⟩]
          have HS := Lib.hid hS; clear hS hq1
          go_wp2_with (at_builtin; go_loud (refine wpList_append_own _ rfl (.tmp 32) (.tmp 34) 53 rfl w.heap.size 3 i0 (.int .i64 0) 1 8 Tryd.underlying53 hinf hz0 hz1 hz2 rfl (by decide) (.slice a7 L.length c7) L.length (L.flatMap (intE .i64)) rfl (HU.out.alloc _) ⟨wr.heap.size, 0, none⟩ 1 1 [.int .i64 y] rfl rfl (cell_one_new _ _ _) (by simp [Value.oneCell']) (by unfold maxLen; omega) (by omega) (by have := HB.out.size; simp; omega) ?_); intro v' w1 hown' hgrow _)
          have hkeep : ∀ q, q < wr.heap.size → (Value.slice a7 L.length c7).ownBlock ≠ some q → w1.heap[q]? = wr.heap[q]? := fun q hq2 hne => by
            rw [hgrow.block q (by simp; omega) (fun e => hne e.symm)]; exact (World.grownBy_alloc wr _ none).block q hq2 (fun e => nomatch e)
          have HD1 := Lib.hid (HD.out.obj.new (World.grownBy_alloc wr (.cells #[.int .i64 y] 3) none) |>.row (HU.out.alloc _) int_off hgrow)
          have HB1 := Lib.hid ((HB.out.grown (World.grownBy_alloc wr (.cells #[.int .i64 y] 3) none) (fun r e => nomatch e)).grown hgrow (fun r e => own_blockI HU.out _ e))
          have HF1 := Lib.hid (row_same HF.out (by have := hgrow.size; simp at this; omega) (fun q hq2 => hkeep q (HF.out.lt q hq2).2 (fun e => by have h5 := own_blockI HU.out _ e; have h6 := HLOW.out q hq2; omega)))
          have HU1 : Hid (w1.ownsRow w.heap.size 3 1 v' (rowF (fun _ => true) first (ys.take (i + 1))).length ((rowF (fun _ => true) first (ys.take (i + 1))).flatMap (intE .i64))) := Lib.hid (by rw [HS.out, List.length_append, List.flatMap_append]; exact hown')
          have HBX1 := True.intro
          clear hown' hgrow hkeep
          go_roundg (gk - 1)
          case rel => exact ⟨i + 1, by go_num, by omega, by omega, HU1, HF1, Lib.hid ((H.out.turn HD1.out HB1.out)), HB1⟩
          case measure => omega
        · have hb1 : (y == first) = false := by simpa using hq1
          have HQ1 := Lib.hid hq1; clear hq1
          have hS : rowF (fun _ => true) first (ys.take (i + 1)) = L ++ [y] := by rw [HST.out]; unfold rowS; rw [if_pos ⟨HQ.out, .inr rfl⟩]
          have HS := Lib.hid hS; clear hS
          go_wp2_with fail
          refine (segm1_any y wr).mono ?_
          rintro e wq ⟨rfl, rfl⟩
          go_wp2_with (at_builtin; go_loud (refine wpList_append_own _ rfl (.tmp 32) (.tmp 34) 53 rfl w.heap.size 3 i0 (.int .i64 0) 1 8 Tryd.underlying53 hinf hz0 hz1 hz2 rfl (by decide) (.slice a7 L.length c7) L.length (L.flatMap (intE .i64)) rfl (HU.out.alloc _) ⟨wr.heap.size, 0, none⟩ 1 1 [.int .i64 y] rfl rfl (cell_one_new _ _ _) (by simp [Value.oneCell']) (by unfold maxLen; omega) (by omega) (by have := HB.out.size; simp; omega) ?_); intro v' w1 hown' hgrow _)
          have hkeep : ∀ q, q < wr.heap.size → (Value.slice a7 L.length c7).ownBlock ≠ some q → w1.heap[q]? = wr.heap[q]? := fun q hq2 hne => by
            rw [hgrow.block q (by simp; omega) (fun e => hne e.symm)]; exact (World.grownBy_alloc wr _ none).block q hq2 (fun e => nomatch e)
          have HD1 := Lib.hid (HD.out.obj.new (World.grownBy_alloc wr (.cells #[.int .i64 y] 3) none) |>.row (HU.out.alloc _) int_off hgrow)
          have HB1 := Lib.hid ((HB.out.grown (World.grownBy_alloc wr (.cells #[.int .i64 y] 3) none) (fun r e => nomatch e)).grown hgrow (fun r e => own_blockI HU.out _ e))
          have HF1 := Lib.hid (row_same HF.out (by have := hgrow.size; simp at this; omega) (fun q hq2 => hkeep q (HF.out.lt q hq2).2 (fun e => by have h5 := own_blockI HU.out _ e; have h6 := HLOW.out q hq2; omega)))
          have HU1 : Hid (w1.ownsRow w.heap.size 3 1 v' (rowF (fun _ => true) first (ys.take (i + 1))).length ((rowF (fun _ => true) first (ys.take (i + 1))).flatMap (intE .i64))) := Lib.hid (by rw [HS.out, List.length_append, List.flatMap_append]; exact hown')
          have HBX1 := True.intro
          clear hown' hgrow hkeep
          go_roundg (gk - 1)
          case rel => exact ⟨i + 1, by go_num, by omega, by omega, HU1, HF1, Lib.hid ((H.out.turn HD1.out HB1.out)), HB1⟩
          case measure => omega
      · have HQ := Lib.hid hq
        have hb0 : (y == first + (L.length : Int)) = false := by simpa using hq
        have hS : rowF (fun _ => true) first (ys.take (i + 1)) = L := by rw [HST.out]; unfold rowS; rw [if_neg (fun hh => HQ.out hh.1)]
        have HS := Lib.hid hS; clear hS hq
        go_wp2
        go_roundg (gk - 1)
        case rel => exact ⟨i + 1, by go_num, by omega, by omega, Lib.hid (by rw [HS.out]; exact HU.out), HF, HD, HB⟩
        case measure => omega
    · have hq : i = ys.length := by omega
      subst hq
      rw [List.take_length] at HU
      go_wp2
      go_ret
      exact ⟨_, rfl, HU.out, HD.out, HB.out⟩

set_option maxRecDepth 100000 in
set_option maxHeartbeats 4000000 in
theorem prowW_any {base : Zn} {d c : Nat} {s : DkS} {sg : Int → WSeg} (first : Int) (ys : List Int) (v : Value) (Bf : Nat) (Bd : Nat) (w : World) (h : DsO base d c s sg w) (hf : 1 ≤ first ∧ first ≤ 2000000000) (hlen : ys.length ≤ 1000000) (hrow : w.ownsRow Bf 3 1 v ys.length (ys.flatMap (intE .i64))) (hB : Boxed w Bd 25 (pt d 0)) :
    Calls Tryd.prog 56 #[v, .int .i64 first, .func (.func 57) #[] #[.pointer (some ⟨Bd, 0, none⟩)]] w fun e w' => ∃ u, e = .returned u ∧ w'.ownsRow w.heap.size 3 1 u (rowF (notB sg) first ys).length ((rowF (notB sg) first ys).flatMap (intE .i64)) ∧ DsO base d c s sg w' ∧ ButD base w w' := by
  obtain ⟨i0, hinf, hz0, hz1, hz2⟩ := info_parts info_intS
  obtain ⟨f1, f2⟩ := hf
  obtain ⟨ao, cap, rfl, -, -⟩ := row_view hrow
  have hlow : ∀ q, (Value.slice ao ys.length cap).ownBlock = some q → q < w.heap.size := fun q hq => (hrow.lt q hq).2
  have H := Lib.hid h; have HROW := Lib.hid hrow; have HLOW := Lib.hid hlow; have HBX0 := Lib.hid hB
  clear h hrow hlow hB
  go_enter Tryd.func56, Tryd.ntmps56
  go_wp2
  go_loopg [7, 12] (ys.length + 1) (fun g s7 s12 wr => ∃ i : Nat, s12 = .int .i64 i ∧ i ≤ ys.length ∧ ys.length + 1 ≤ i + g ∧ Hid (wr.ownsRow w.heap.size 3 1 s7 (rowF (notB sg) first (ys.take i)).length ((rowF (notB sg) first (ys.take i)).flatMap (intE .i64))) ∧ Hid (wr.ownsRow Bf 3 1 (.slice ao ys.length cap) ys.length (ys.flatMap (intE .i64))) ∧ Hid (DsO base d c s sg wr) ∧ Hid (ButD base w wr) ∧ Hid (Boxed wr Bd 25 (pt d 0)))
  case atStart => exact ⟨0, rfl, by omega, by omega, Lib.hid (World.ownsRow_nil _ _ _ _), HROW, H, Lib.hid (But.refl _ _), HBX0⟩
  case round =>
    obtain ⟨i, rfl, hi, hg, HU, HF, HD, HB, HBX⟩ := hrel
    by_cases hlt : i < ys.length
    · obtain ⟨y, hy⟩ : ∃ y, ys[i]? = some y := ⟨_, List.getElem?_eq_getElem hlt⟩
      obtain ⟨ao', c', e, -, hat⟩ := row_view HF.out
      cases e
      obtain ⟨g2, rfl, -, hg2⟩ := hat i hlt
      rw [flat_ints, List.getElem?_map, hy] at hg2
      replace hg2 : wr.cell? ⟨g2, i, none⟩ = some (.int .i64 y) := hg2
      have hle := rowF_le (notB sg) first (ys.take i)
      rw [List.length_take] at hle
      have hst := rowF_at (P := (notB sg)) (first := first) hy
      obtain ⟨a7, n7, c7, rfl⟩ := own_slice HU.out
      obtain ⟨L, hL⟩ : ∃ L, L = rowF (notB sg) first (ys.take i) := ⟨_, rfl⟩
      rw [← hL] at HU hle hst
      have hn7 : n7 = L.length := by rcases HU.out.2 with ⟨h1, h2⟩ | ⟨_, _, _, h1, _⟩; cases h1; omega; cases h1; rfl
      subst hn7
      have HY := Lib.hid hy; have HLE := Lib.hid hle; have HST := Lib.hid hst
      have hl1 : L.length ≤ i := by omega
      clear hy hat hle hL hst
      by_cases hq : y = first + (L.length : Int)
      · have HQ := Lib.hid hq
        have hb0 : (y == first + (L.length : Int)) = true := by simpa using hq
        have hy2 : y ≤ 2001000000 := by omega
        clear hq
        by_cases hq1 : y = first
        · have hb1 : (y == first) = true := by simpa using hq1
          have hS : rowF (notB sg) first (ys.take (i + 1)) = L ++ [y] := by rw [HST.out]; unfold rowS; rw [if_pos ⟨HQ.out, .inl hq1⟩]
          have HS := Lib.hid hS; clear hS hq1
          go_wp2_with (at_builtin; go_loud (refine wpList_append_own _ rfl (.tmp 32) (.tmp 34) 53 rfl w.heap.size 3 i0 (.int .i64 0) 1 8 Tryd.underlying53 hinf hz0 hz1 hz2 rfl (by decide) (.slice a7 L.length c7) L.length (L.flatMap (intE .i64)) rfl (HU.out.alloc _) ⟨wr.heap.size, 0, none⟩ 1 1 [.int .i64 y] rfl rfl (cell_one_new _ _ _) (by simp [Value.oneCell']) (by unfold maxLen; omega) (by omega) (by have := HB.out.size; simp; omega) ?_); intro v' w1 hown' hgrow _)
          have hkeep : ∀ q, q < wr.heap.size → (Value.slice a7 L.length c7).ownBlock ≠ some q → w1.heap[q]? = wr.heap[q]? := fun q hq2 hne => by
            rw [hgrow.block q (by simp; omega) (fun e => hne e.symm)]; exact (World.grownBy_alloc wr _ none).block q hq2 (fun e => nomatch e)
          have HD1 := Lib.hid (HD.out.obj.new (World.grownBy_alloc wr (.cells #[.int .i64 y] 3) none) |>.row (HU.out.alloc _) int_off hgrow)
          have HB1 := Lib.hid ((HB.out.grown (World.grownBy_alloc wr (.cells #[.int .i64 y] 3) none) (fun r e => nomatch e)).grown hgrow (fun r e => own_blockI HU.out _ e))
          have HF1 := Lib.hid (row_same HF.out (by have := hgrow.size; simp at this; omega) (fun q hq2 => hkeep q (HF.out.lt q hq2).2 (fun e => by have h5 := own_blockI HU.out _ e; have h6 := HLOW.out q hq2; omega)))
          have HU1 : Hid (w1.ownsRow w.heap.size 3 1 v' (rowF (notB sg) first (ys.take (i + 1))).length ((rowF (notB sg) first (ys.take (i + 1))).flatMap (intE .i64))) := Lib.hid (by rw [HS.out, List.length_append, List.flatMap_append]; exact hown')
          have HBX1 : Hid (Boxed w1 Bd 25 (pt d 0)) := Lib.hid (by have h5 := HBX.out; have h6 := h5.lt; have h7 := own_neT HU.out (show Blk _ Bd _ _ from h5) (by decide); unfold Boxed at h5 ⊢; rw [hkeep Bd h6 h7]; exact h5)
          clear hown' hgrow hkeep
          go_roundg (gk - 1)
          case rel => exact ⟨i + 1, by go_num, by omega, by omega, HU1, HF1, Lib.hid ((H.out.turn HD1.out HB1.out)), HB1, HBX1⟩
          case measure => omega
        · have hb1 : (y == first) = false := by simpa using hq1
          have HQ1 := Lib.hid hq1; clear hq1
          go_wp2_with fail
          refine (whole1_any Bd y wr HD.out HBX.out).mono ?_
          rintro e wq ⟨rfl, hDq, hbq⟩
          have HU := Lib.hid (rowD HU.out int_off hbq); have HF := Lib.hid (rowD HF.out int_off hbq); have HBX := Lib.hid (boxD HBX.out (by decide) hbq); have HB := Lib.hid (butD_tr HB.out hbq); have HD := Lib.hid hDq
          clear hDq hbq
          by_cases hP : notB sg y = true
          · rw [hP]
            have hS : rowF (notB sg) first (ys.take (i + 1)) = L ++ [y] := by rw [HST.out]; unfold rowS; rw [if_pos ⟨HQ.out, .inr hP⟩]
            have HS := Lib.hid hS; clear hS hP
            go_wp2_with (at_builtin; go_loud (refine wpList_append_own _ rfl (.tmp 32) (.tmp 34) 53 rfl w.heap.size 3 i0 (.int .i64 0) 1 8 Tryd.underlying53 hinf hz0 hz1 hz2 rfl (by decide) (.slice a7 L.length c7) L.length (L.flatMap (intE .i64)) rfl (HU.out.alloc _) ⟨wq.heap.size, 0, none⟩ 1 1 [.int .i64 y] rfl rfl (cell_one_new _ _ _) (by simp [Value.oneCell']) (by unfold maxLen; omega) (by omega) (by have := HB.out.size; simp; omega) ?_); intro v' w1 hown' hgrow _)
            have hkeep : ∀ q, q < wq.heap.size → (Value.slice a7 L.length c7).ownBlock ≠ some q → w1.heap[q]? = wq.heap[q]? := fun q hq2 hne => by
              rw [hgrow.block q (by simp; omega) (fun e => hne e.symm)]; exact (World.grownBy_alloc wq _ none).block q hq2 (fun e => nomatch e)
            have HD1 := Lib.hid (HD.out.obj.new (World.grownBy_alloc wq (.cells #[.int .i64 y] 3) none) |>.row (HU.out.alloc _) int_off hgrow)
            have HB1 := Lib.hid ((HB.out.grown (World.grownBy_alloc wq (.cells #[.int .i64 y] 3) none) (fun r e => nomatch e)).grown hgrow (fun r e => own_blockI HU.out _ e))
            have HF1 := Lib.hid (row_same HF.out (by have := hgrow.size; simp at this; omega) (fun q hq2 => hkeep q (HF.out.lt q hq2).2 (fun e => by have h5 := own_blockI HU.out _ e; have h6 := HLOW.out q hq2; omega)))
            have HU1 : Hid (w1.ownsRow w.heap.size 3 1 v' (rowF (notB sg) first (ys.take (i + 1))).length ((rowF (notB sg) first (ys.take (i + 1))).flatMap (intE .i64))) := Lib.hid (by rw [HS.out, List.length_append, List.flatMap_append]; exact hown')
            have HBX1 : Hid (Boxed w1 Bd 25 (pt d 0)) := Lib.hid (by have h5 := HBX.out; have h6 := h5.lt; have h7 := own_neT HU.out (show Blk _ Bd _ _ from h5) (by decide); unfold Boxed at h5 ⊢; rw [hkeep Bd h6 h7]; exact h5)
            clear hown' hgrow hkeep
            go_roundg (gk - 1)
            case rel => exact ⟨i + 1, by go_num, by omega, by omega, HU1, HF1, Lib.hid ((H.out.turn HD1.out HB1.out)), HB1, HBX1⟩
            case measure => omega
          · have hP2 : notB sg y = false := by simpa using hP
            rw [hP2]
            have hS : rowF (notB sg) first (ys.take (i + 1)) = L := by rw [HST.out]; unfold rowS; rw [if_neg (fun hh => by rcases hh.2 with h | h; exact HQ1.out h; exact hP h)]
            have HS := Lib.hid hS; clear hS hP hP2
            go_wp2
            go_roundg (gk - 1)
            case rel => exact ⟨i + 1, by go_num, by omega, by omega, Lib.hid (by rw [HS.out]; exact HU.out), HF, HD, HB, HBX⟩
            case measure => omega
      · have HQ := Lib.hid hq
        have hb0 : (y == first + (L.length : Int)) = false := by simpa using hq
        have hS : rowF (notB sg) first (ys.take (i + 1)) = L := by rw [HST.out]; unfold rowS; rw [if_neg (fun hh => HQ.out hh.1)]
        have HS := Lib.hid hS; clear hS hq
        go_wp2
        go_roundg (gk - 1)
        case rel => exact ⟨i + 1, by go_num, by omega, by omega, Lib.hid (by rw [HS.out]; exact HU.out), HF, HD, HB, HBX⟩
        case measure => omega
    · have hq : i = ys.length := by omega
      subst hq
      rw [List.take_length] at HU
      go_wp2
      go_ret
      exact ⟨_, rfl, HU.out, HD.out, HB.out⟩
end Go.Proofs.YtfiplhnplmadmaaDoor
