/- Put together: VnD, VnF, WireN, VnG, WireO, WireP, WireQ, WireR. Conditions: as each says. -/
import Derived.Test.YtciilfkjecmdiaaBo3
import Derived.Test.YtciilfkjecmdiaaBo2
/- Package varnum: the walk of the law 'there and back'. Conditions: texts within the form's own reach. -/
namespace Go.Proofs.Ytciilfkjecmdiaa
open Go.RowKit Go.PlainAid

theorem bt_app_left (a b : ByteArray) (i : Nat) (h : i < a.size) : bt (a ++ b) i = bt a i := by
  rw [bt_data, bt_data, ByteArray.data_append, Array.toList_append]
  simp only [List.getD, List.getElem?_append_left (show i < a.data.toList.length by simpa using h)]
theorem bt_app_right (a b : ByteArray) (i : Nat) : bt (a ++ b) (a.size + i) = bt b i := by
  rw [bt_data, bt_data, ByteArray.data_append, Array.toList_append]
  simp only [List.getD]
  rw [List.getElem?_append_right (show a.data.toList.length ≤ a.size + i by simp), show a.size + i - a.data.toList.length = i by simp]
theorem bt_lit (l : List UInt8) (i : Nat) (h : i < l.length) : bt ⟨l.toArray⟩ i = (l[i].toNat : Int) := by
  rw [bt_data]; simp [List.getD, List.getElem?_eq_getElem h]
theorem has_mid (a c : ByteArray) (l : List UInt8) : has (a ++ ⟨l.toArray⟩ ++ c) a.size l := by
  intro j hj
  rw [bt_app_left _ _ _ (by rw [ByteArray.size_append]; show _ < a.size + l.length; omega), bt_app_right, bt_lit _ _ hj]

theorem _root_.List.take_succ_cons_drop {α : Type} {l : List α} (h : 0 < l.length) (k : Nat) : l.take (k + 1) = l[0] :: (l.drop 1).take k := by
  cases l with
  | nil => simp at h
  | cons x l => simp
/-- The bytes behind place a, k of them. -/
theorem be_val (s : ByteArray) (a k : Nat) : a + k ≤ s.size → be k (val s a k).toNat = (s.data.toList.drop a).take k := by
  induction k with
  | zero => simp [be]
  | succ k ih =>
    intro h
    have hv := val_nonneg s a k
    have hb := bt_nonneg s (a + k)
    have hb2 := bt_le s (a + k)
    have hl : a + k < s.data.toList.length := by simp; omega
    simp only [be, val]
    rw [show (val s a k * 256 + bt s (a + k)).toNat / 256 = (val s a k).toNat by omega, ih (by omega), List.take_succ_eq_append_getElem (by simp; omega)]
    congr 2
    rw [List.getElem_drop, ← UInt8.toNat_inj, UInt8.toNat_ofNat']
    have hd := bt_data s (a + k)
    simp only [List.getD, List.getElem?_eq_getElem hl, Option.getD_some] at hd
    have := (s.data.toList[a + k]).toNat_lt
    omega
theorem get_ok {s : ByteArray} {y to : Int} (h : getR s 0 = (y, to, 0)) : 0 ≤ y ∧ y < 18446744073709551616 ∧ 0 ≤ to ∧ to ≤ s.size ∧ putL y = s.data.toList.take to.toNat := by
  unfold getR at h
  split at h
  · simp at h
  split at h
  · simp at h
  rename_i h0 h1
  have hs : 0 < s.size := by omega
  have hb := bt_nonneg s 0
  have hb2 := bt_le s 0
  have hd : s.data.toList[0]'(by simpa using hs) = UInt8.ofNat (bt s 0).toNat := by
    have hd := bt_data s 0
    simp only [List.getD, List.getElem?_eq_getElem (show 0 < s.data.toList.length by simpa using hs), Option.getD_some] at hd
    rw [hd, Int.toNat_natCast, UInt8.ofNat_toNat]
  have ht : ∀ k, s.data.toList.take (k + 1) = UInt8.ofNat (bt s 0).toNat :: (s.data.toList.drop 1).take k := by
    intro k
    rw [← hd, List.take_succ_cons_drop (show 0 < s.data.toList.length by simpa using hs)]
  simp only [Int.toNat_zero, Int.zero_add] at h
  split at h
  · rename_i h2
    simp only [Prod.mk.injEq, and_true] at h
    obtain ⟨rfl, rfl⟩ := h
    refine ⟨hb, by omega, by omega, by omega, ?_⟩
    rw [putL_small _ h2, show (1 : Int).toNat = 0 + 1 from rfl, ht]; simp
  split at h
  · simp at h
  split at h
  · rename_i h2 h3 h4
    simp only [Prod.mk.injEq, and_true] at h
    obtain ⟨rfl, rfl⟩ := h
    obtain ⟨k, hk⟩ := Int.eq_ofNat_of_zero_le (show 0 ≤ bt s 0 - 247 by omega)
    rw [hk, Int.toNat_natCast] at h4 ⊢
    have hv0 := val_nonneg s (0 + 1) k
    have hv1 := val_lt s (0 + 1) k
    have hk8 : k ≤ 8 := by omega
    have hbig : ¬ val s (0 + 1) k < 248 := by
      intro hc; rw [lenOf_small _ hc] at h4; omega
    have hw : wd (val s (0 + 1) k) = k := by rw [lenOf_big _ hbig] at h4; omega
    have hlt : val s (0 + 1) k < 18446744073709551616 := by
      have : (256 : Nat) ^ k ≤ 256 ^ 8 := Nat.pow_le_pow_right (by decide) hk8
      have e : ((256 : Int) ^ k) = ((256 ^ k : Nat) : Int) := by rw [Int.natCast_pow]; rfl
      have : (256 : Nat) ^ 8 = 18446744073709551616 := by decide
      omega
    refine ⟨hv0, hlt, by omega, by omega, ?_⟩
    rw [putL_big _ hbig, hw, Int.toNat_natCast, show (1 + (k : Int)).toNat = k + 1 by omega, ht, be_val _ _ _ (by omega)]
    congr 2; omega
  · simp at h

theorem has_self (l : List UInt8) : has ⟨l.toArray⟩ 0 l := by
  intro j hj; rw [Nat.zero_add]; exact bt_lit _ _ hj
theorem str_app (l m : List UInt8) : (⟨l.toArray⟩ : ByteArray) ++ ⟨m.toArray⟩ = ⟨(l ++ m).toArray⟩ := by
  apply ByteArray.ext; rw [ByteArray.data_append]; simp

theorem getR_go (s : ByteArray) (a : Nat) (h : (getR s a).2.2 = 0) : (a : Int) < (getR s a).2.1 ∧ (getR s a).2.1 ≤ s.size ∧ 0 ≤ (getR s a).1 ∧ (getR s a).1 < 18446744073709551616 := by
  unfold getR at h ⊢
  have b0 := bt_nonneg s (a : Int).toNat
  have b1 := bt_le s (a : Int).toNat
  split
  · rename_i h1; rw [if_pos h1] at h; simp at h
  rename_i h1; rw [if_neg h1] at h
  split
  · rename_i h2; rw [if_pos h2] at h; simp at h
  rename_i h2; rw [if_neg h2] at h
  split
  · simp only; omega
  rename_i h3; rw [if_neg h3] at h
  split
  · rename_i h4; rw [if_pos h4] at h; simp at h
  rename_i h4; rw [if_neg h4] at h
  split
  · have hv := val_nonneg s ((a : Int).toNat + 1) (bt s (a : Int).toNat - 247).toNat
    have hv1 := val_lt s ((a : Int).toNat + 1) (bt s (a : Int).toNat - 247).toNat
    have : (256 : Nat) ^ (bt s (a : Int).toNat - 247).toNat ≤ 256 ^ 8 := Nat.pow_le_pow_right (by decide) (by omega)
    have e : ((256 : Int) ^ (bt s (a : Int).toNat - 247).toNat) = ((256 ^ (bt s (a : Int).toNat - 247).toNat : Nat) : Int) := by rw [Int.natCast_pow]; rfl
    have : (256 : Nat) ^ 8 = 18446744073709551616 := by decide
    simp only; omega
  · rename_i h5; rw [if_neg h5] at h; simp at h

end Go.Proofs.Ytciilfkjecmdiaa

/- The reference of package varnum (needs, Put, Get, All): it answers what the package does. Conditions: texts of at most 2^63-1 bytes, for All 2^43. -/
namespace Go.Proofs.Ytciilfkjecmdiaa
open Go.RowKit Go.PlainAid

def wz (x : Int) : Int := if x = 0 then 0 else wd x
theorem wz_step (x : Int) (h : 0 < x) (h1 : x < 18446744073709551616) : wz x = 1 + wz (x / 256) := by
  have := wd_end x; have := wd_step x (by omega) h1
  unfold wz; rw [if_neg (by omega)]
  split
  · have := wd_end x ‹_›; omega
  · have := wd_step x (by omega) h1 ‹_›; omega
theorem wd_wz (x : Int) (h : 0 ≤ x) (h1 : x < 18446744073709551616) : wd x = 1 + wz (x / 256) := by
  unfold wz; split
  · have := wd_end x ‹_›; omega
  · have := wd_step x h h1 ‹_›; omega
theorem wz_bd (x : Int) : 0 ≤ wz x ∧ wz x ≤ 8 := by have := wd_bd x; unfold wz; split <;> omega

set_option maxHeartbeats 400000 in
theorem needs_any (n : Int) (w : World) (h0 : 0 ≤ n) (h1 : n < 18446744073709551616) :
    Calls Try.prog 128 #[.int .u64 n] w fun e w' => e = .returned (.int .i64 (wd n)) ∧ w = w' := by
  have hw0 := Lib.hid (wd_wz n h0 h1)
  have h2 : n ≤ 18446744073709551615 := by omega
  clear h1
  go_enter Try.func128, Try.ntmps128
  go_wp2
  go_loopg [3, 4] 10 (fun g s3 s4 wr => ∃ (m : Int) (k : Nat), s4 = .int .u64 m ∧ s3 = .int .i64 k ∧ 0 ≤ m ∧ m ≤ 18446744073709551615 ∧ k + g ≤ 11 ∧ 11 ≤ k + g ∧ 1 ≤ k ∧ 0 ≤ wz m ∧ wz m ≤ 8 ∧ wd n = k + wz m ∧ w = wr)
  case atStart => exact ⟨n / 256, 1, rfl, rfl, by omega, by omega, by omega, by omega, by omega, (wz_bd _).1, (wz_bd _).2, hw0.out, rfl⟩
  case round =>
    obtain ⟨m, k, rfl, rfl, hm0, hm1, hk, hk2, hk1, hz0, hz1, hw, rfl⟩ := hrel
    have H := Lib.hid hw
    have hb := wd_bd n
    have hk9 : k ≤ 8 := by omega
    have HZ := Lib.hid hz1
    clear hw hb hz1 hz0
    by_cases hp : 0 < m
    · have hs := Lib.hid (wz_step m hp (by omega))
      go_wp2
      go_roundg (gk - 1)
      case rel => exact ⟨m / 256, k + 1, rfl, by go_num, by omega, by omega, by omega, by omega, by omega, (wz_bd _).1, (wz_bd _).2, by have := hs.out; have := H.out; omega, rfl⟩
      case measure => have := hs.out; have := H.out; have := wz_bd (m / 256); have := wd_bd n; omega
    · have e : wz m = 0 := by unfold wz; rw [if_pos (by omega)]
      have HE := Lib.hid (show wd n = k by have := H.out; omega)
      clear e
      go_wp2
      go_ret
      exact ⟨ret_int (by have := HE.out; omega), rfl⟩

set_option maxHeartbeats 400000 in
theorem rput_small (n : Int) (w : World) (h0 : 0 ≤ n) (h1 : n < 248) :
    Calls Try.prog 97 #[.int .u64 n] w fun e w' => e = .returned (.string ⟨(putL n).toArray⟩) ∧ Below w.heap.size w w' := by
  have hc := run_convert_bytes_back (P := Try.prog) (w.alloc (.cells #[.int .u8 n] 5)) 136 9 5 ⟨w.heap.size, 0, none⟩ 1 (putL n) Try.underlying136 Try.underlying5 Try.underlying9
    (by rw [putL_small n h1]; intro j hj; simp at hj; subst hj; rw [Addr.add_lit, World.cell?_alloc_mark]; simp; omega)
  rw [show (putL n).length = 1 by rw [putL_small n h1]; rfl] at hc
  go_enter Try.func97, Try.ntmps97
  go_wp2
  go_ret
  exact ⟨rfl, (Below.refl _ _).alloc (Nat.le_refl _) _⟩

theorem be_cons (j n : Nat) : be (j + 1) n = UInt8.ofNat (n / 256 ^ j) :: be j n := by
  induction j generalizing n with
  | zero => simp [be]
  | succ j ih =>
    rw [be, ih, be, List.cons_append, Nat.div_div_eq_div_mul, Nat.pow_succ, Nat.mul_comm 256]
/-- The bytes while they are written: i of them are still zero. -/
def half (k i n : Nat) : List UInt8 := UInt8.ofNat (247 + k) :: (List.replicate i 0 ++ be (k - i) n)
theorem half_len (k i n : Nat) (h : i ≤ k) : (half k i n).length = k + 1 := by simp [half, be_len]; omega
theorem half_set (k i n : Nat) (h : i < k) : (bs (half k (i + 1) n)).set (i + 1) (.int .u8 ((UInt8.ofNat (n / 256 ^ (k - (i + 1)))).toNat : Int)) = bs (half k i n) := by
  unfold half bs
  rw [show k - i = (k - (i + 1)) + 1 by omega, be_cons, List.map_cons, List.set_cons_succ, List.map_cons, List.map_append, List.map_append, List.replicate_succ', List.map_append]
  congr 1
  rw [List.append_assoc, List.set_append_right _ _ (by simp)]
  simp
theorem half_zero (k n : Nat) : bs (half k k n) = (Value.int .u8 ((UInt8.ofNat (247 + k)).toNat : Int)) :: List.replicate k (.int .u8 0) := by
  simp [half, bs, be]
theorem byte_mod (n : Int) (h : 0 ≤ n) (j : Nat) : n / 256 ^ j % 256 = ((UInt8.ofNat (n.toNat / 256 ^ j)).toNat : Int) := by
  rw [← byte_at n h j, Int.pow_mul]; rfl

set_option maxRecDepth 100000 in
set_option maxHeartbeats 400000 in
theorem rput_big (n : Int) (w : World) (h0 : 248 ≤ n) (h1 : n < 18446744073709551616) :
    Calls Try.prog 97 #[.int .u64 n] w fun e w' => e = .returned (.string ⟨(putL n).toArray⟩) ∧ Below w.heap.size w w' := by
  obtain ⟨i0, hi, hz0, hz1, hz2⟩ := info_parts info_u8
  obtain ⟨hk1, hk8⟩ := wd_bd n
  have h2 : n ≤ 18446744073709551615 := by omega
  have H1 := Lib.hid h1; clear h1
  obtain ⟨k, hk⟩ : ∃ k : Nat, (k : Int) = wd n := ⟨(wd n).toNat, by omega⟩
  rw [← hk] at hk1 hk8
  have HK := Lib.hid hk; clear hk
  go_enter Try.func97, Try.ntmps97
  go_wp2_with (first
    | (go_at_call 128; refine (needs_any _ _ (by omega) H1.out).mono ?_; rintro e w' ⟨rfl, rfl⟩; rw [← HK.out])
    | (at_make; refine wpList_make_full _ rfl (.tmp 15) (.tmp 15) 136 rfl w.heap.size 5 i0 (.int .u8 0) 1 Try.underlying136 hi hz0 hz1 .i64 .i64 (k + 1 : Int) (k + 1 : Int) (k + 1) rfl rfl (by omega) (by omega) (by rw [hz2]; omega) (by unfold maxLen; omega) (Nat.le_refl _) ?_; intro w1 hown1 hgr1; rw [made_rep _ rfl, Nat.mul_one] at hown1; have hc0 : w1.cell? ⟨w.heap.size, 0, none⟩ = some (.int .u8 0) := (by rw [hown1.cellAt 0 (by omega)]; rfl); have hf0 := hown1.frozenAt 0))
  obtain ⟨hown2, hgr2⟩ := hown1.stored 0 (.int .u8 (247 + (k : Int)))
  rw [u8_head k (by omega), show (List.replicate (k + 1) (Value.int .u8 0)).set 0 (.int .u8 ((UInt8.ofNat (247 + k)).toNat : Int)) = bs (half k k n.toNat) by rw [half_zero]; rfl] at hown2
  rw [u8_head k (by omega)] at hgr2
  have hbel2 : Below w.heap.size w (w1.setCell ⟨w.heap.size, 0, none⟩ (.int .u8 ((UInt8.ofNat (247 + k)).toNat : Int))) :=
    ((Below.refl _ _).grown hgr1 (Nat.le_refl _) (by intro k h; cases h)).grown hgr2 (by have := hgr1.size; omega) (by intro k h; cases h; exact Nat.le_refl _)
  rw [u8_head k (by omega)]
  clear hown1 hgr1 hgr2 hc0 hf0
  go_loopg [0, 5] (k + 1) (fun g s0 s5 wr => ∃ (i : Nat) (m : Int), s0 = .int .u64 m ∧ s5 = .int .i64 i ∧ m = n / 256 ^ (k - i) ∧ 0 ≤ m ∧ m ≤ 18446744073709551615 ∧ i ≤ k ∧ i + 1 ≤ g ∧
    wr.ownsRow w.heap.size 5 1 (.slice (some ⟨w.heap.size, 0, none⟩) (k + 1) (k + 1)) (k + 1) (bs (half k i n.toNat)) ∧ Below w.heap.size w wr)
  case atStart => exact ⟨k, n, rfl, rfl, by simp, by omega, h2, by omega, by omega, hown2, hbel2⟩
  case round =>
    clear hown2 hbel2
    obtain ⟨i, m, rfl, rfl, hm, hm0, hm1, hik, hg, hown, hbel⟩ := hrel
    have hsz := hbel.size
    have HO := Lib.hid hown; have HM := Lib.hid hm
    clear hown hm
    by_cases hi0 : 0 < i
    · obtain ⟨j, rfl⟩ : ∃ j, i = j + 1 := ⟨i - 1, by omega⟩
      have hl := half_len k (j + 1) n.toNat hik
      obtain ⟨u, hc0⟩ : ∃ u, wr.cell? ⟨w.heap.size, j + 1, none⟩ = some u :=
        ⟨_, by rw [HO.out.cellAt (j + 1) (by omega)]; exact bs_at (show j + 1 < (half k (j + 1) n.toNat).length by omega)⟩
      have hf0 := HO.out.frozenAt (j + 1)
      clear hl
      go_wp2
      obtain ⟨hown3, hgr3⟩ := HO.out.stored (j + 1) (.int .u8 (m % 256))
      have hb3 := hbel.grown hgr3 hsz (by intro k h; cases h; exact Nat.le_refl _)
      have e : m % 256 = ((UInt8.ofNat (n.toNat / 256 ^ (k - (j + 1)))).toNat : Int) := by rw [HM.out]; exact byte_mod n (by omega) _
      have hown4 := hown3
      rw [e, half_set k j n.toNat (by omega), ← e] at hown4
      clear hown3
      go_roundg (gk - 1)
      case rel => exact ⟨j, m / 256, rfl, by go_num, by rw [HM.out, show k - j = k - (j + 1) + 1 by omega, Int.pow_succ, Int.ediv_ediv_of_nonneg (Int.pow_nonneg (by decide))], by omega, by omega, by omega, by omega, hown4, hb3⟩
      case measure => omega
    · obtain rfl : i = 0 := by omega
      have hl : (putL n).length = k + 1 := by rw [putL_big n (by omega)]; have := HK.out; simp [be_len]; omega
      have he : putL n = half k 0 n.toNat := by
        rw [putL_big n (by omega), ← HK.out, show (247 + (k : Int)).toNat = 247 + k by omega, Int.toNat_natCast]; rfl
      have HO2 := HO.out
      rw [← he] at HO2
      have hc := run_convert_bytes_back (P := Try.prog) wr 136 9 5 ⟨w.heap.size, 0, none⟩ (k + 1) (putL n) Try.underlying136 Try.underlying5 Try.underlying9
        (by intro j hj; exact HO2.cells (g := w.heap.size) rfl j _ (bs_at hj))
      rw [hl] at hc
      clear HO HO2 he hl
      go_wp2
      go_ret
      exact ⟨rfl, hbel⟩

theorem rput_any (n : Int) (w : World) (h0 : 0 ≤ n) (h1 : n < 18446744073709551616) :
    Calls Try.prog 97 #[.int .u64 n] w fun e w' => e = .returned (.string ⟨(putL n).toArray⟩) ∧ Below w.heap.size w w' := by
  by_cases h : n < 248
  · exact rput_small n w h0 h
  · exact rput_big n w (by omega) h1
end Go.Proofs.Ytciilfkjecmdiaa

/- Package catenaref02: a Writer. Conditions: what is written is at most 2^47 bytes. -/
namespace Go.Proofs.Ytciilfkjecmdiaa
open Go.RowKit Go.PlainAid

theorem ba_app (l k : List UInt8) : (⟨l.toArray⟩ ++ ⟨k.toArray⟩ : ByteArray) = ⟨(l ++ k).toArray⟩ := by
  apply ByteArray.ext
  simp
theorem ba_of (s : ByteArray) : s = ⟨s.data.toList.toArray⟩ := by simp
theorem ba_app2 (k : List UInt8) (s : ByteArray) : (⟨k.toArray⟩ ++ s : ByteArray) = ⟨(k ++ s.data.toList).toArray⟩ := by
  apply ByteArray.ext
  simp
/-- The document's own Writer: block b. -/
structure RWr (w : World) (b : Nat) (l : List UInt8) (e : Int) : Prop where
  txt : w.cell? ⟨b, 0, none⟩ = some (.string ⟨l.toArray⟩)
  err : w.cell? ⟨b, 1, none⟩ = some (.int .i64 e)
  fr0 : w.frozen? ⟨b, 0, none⟩ = false
  fr1 : w.frozen? ⟨b, 1, none⟩ = false
theorem RWr.lt {w : World} {b : Nat} {l : List UInt8} {e : Int} (h : RWr w b l e) : b < w.heap.size := World.block_lt_of_cell? w _ h.txt
theorem RWr.but {S : Nat → Prop} {w w' : World} {b : Nat} {l : List UInt8} {e : Int} (h : RWr w b l e) (hb : But S w w') (hs : ¬ S b) : RWr w' b l e :=
  ⟨hb.cell hs h.txt, hb.cell hs h.err, by rw [hb.frozen h.lt hs]; exact h.fr0, by rw [hb.frozen h.lt hs]; exact h.fr1⟩
theorem RWr.below {w w' : World} {b : Nat} {l : List UInt8} {e : Int} (h : RWr w b l e) (hb : Below w.heap.size w w') : RWr w' b l e := h.but (But.of_below (S := fun _ => False) hb) id
theorem RWr.setTxt {w : World} {b : Nat} {l : List UInt8} {e : Int} (h : RWr w b l e) (k : List UInt8) : RWr (w.setCell ⟨b, 0, none⟩ (.string ⟨k.toArray⟩)) b k e :=
  ⟨World.cell?_setCell_same _ _ _ h.txt, by rw [World.cell?_setCell_other _ _ _ _ (by simp)]; exact h.err, by rw [World.frozen?_setCell]; exact h.fr0, by rw [World.frozen?_setCell]; exact h.fr1⟩
theorem RWr.setErr {w : World} {b : Nat} {l : List UInt8} {e : Int} (h : RWr w b l e) (x : Int) : RWr (w.setCell ⟨b, 1, none⟩ (.int .i64 x)) b l x :=
  ⟨by rw [World.cell?_setCell_other _ _ _ _ (by simp)]; exact h.txt, World.cell?_setCell_same _ _ _ h.err, by rw [World.frozen?_setCell]; exact h.fr0, by rw [World.frozen?_setCell]; exact h.fr1⟩
theorem RWr.grown {w w2 : World} {b : Nat} {l : List UInt8} {e : Int} (h : RWr w b l e) (hb : Below w.heap.size w w2) (k : List UInt8) : RWr (w2.setCell ⟨b, 0, none⟩ (.string ⟨k.toArray⟩)) b k e ∧ But (Own b) w (w2.setCell ⟨b, 0, none⟩ (.string ⟨k.toArray⟩)) :=
  ⟨(h.below hb).setTxt k, (But.of_below (S := Own b) hb).setCell (p := ⟨b, 0, none⟩) (fun _ => rfl) _⟩
set_option maxRecDepth 100000 in
set_option maxHeartbeats 1600000 in
theorem xBig_any (b : Nat) (l : List UInt8) (x : Int) (n : Int) (w : World) (h : RWr w b l x) (hl : l.length ≤ 140737488355000) (h0 : 0 ≤ n) (h1 : n < 18446744073709551616) :
    Calls Try.prog 82 #[.pointer (some ⟨b, 0, none⟩), .int .u64 n] w fun e w' => e = .returned (.tuple #[]) ∧ RWr w' b (wBig n (l, x)).1 (wBig n (l, x)).2 ∧ But (Own b) w w' := by
  have H := Lib.hid h
  have k0 := h.err
  by_cases hx : x = 0
  · subst hx
    have hq : wBig n (l, 0) = (l ++ putL n, 0) := by simp [wBig]
    rw [hq]
    have hpl := putL_le n
    have hcat := concat_run ⟨l.toArray⟩ ⟨(putL n).toArray⟩ (show l.length + (putL n).length ≤ _ by omega)
    rw [ba_app] at hcat
    have k1 : w.drew.cell? ⟨b, 0, none⟩ = some (.string ⟨l.toArray⟩) := h.txt
    clear h hpl hq
    go_enter Try.func82, Try.ntmps82
    go_wp2_with fail
    go_region_law (first | (go_simp; go_at_call 97; refine Calls.mono (rput_any n _ h0 h1) ?_; rintro e w2 ⟨rfl, hb2⟩; have hb3 : Below w.heap.size w w2 := Below.trans ((Below.refl _ _).drew) hb2; have c1 := (H.out.below hb3).txt; have z1 := (H.out.below hb3).fr0; have HB2 := Lib.hid hb3; clear hb2 hb3))
    all_goals
      have HF := Lib.hid (H.out.grown HB2.out (l ++ putL n))
      go_wp2
      go_end0
      exact ⟨rfl, HF.out.1, HF.out.2⟩
  · have hq : wBig n (l, x) = (l, x) := by simp [wBig, hx]
    rw [hq]
    have hne : (x == 0) = false := by simp [hx]
    clear h hq
    go_enter Try.func82, Try.ntmps82
    go_wp2
    go_end0
    exact ⟨rfl, H.out, But.refl _ _⟩
set_option maxRecDepth 100000 in
set_option maxHeartbeats 1600000 in
theorem xNum_any (b : Nat) (l : List UInt8) (x : Int) (n : Int) (w : World) (h : RWr w b l x) (hl : l.length ≤ 140737488355000) (hn1 : n ≤ 9223372036854775807) :
    Calls Try.prog 60 #[.pointer (some ⟨b, 0, none⟩), .int .i64 n] w fun e w' => e = .returned (.tuple #[]) ∧ RWr w' b (wNum n (l, x)).1 (wNum n (l, x)).2 ∧ But (Own b) w w' := by
  have H := Lib.hid h
  have c0 := h.err
  by_cases hx : x = 0
  · subst hx
    by_cases hn : n < 0
    · have hq : wNum n (l, 0) = (l, 5) := by simp [wNum, hn]
      rw [hq]
      have z0 := h.fr1
      have HF := Lib.hid (h.setErr 5)
      have HB := Lib.hid ((But.refl (Own b) w).setCell (p := ⟨b, 1, none⟩) (fun _ => rfl) (.int .i64 5))
      clear h hq
      go_enter Try.func60, Try.ntmps60
      go_wp2
      go_end0
      exact ⟨rfl, HF.out, HB.out⟩
    · have h0 : 0 ≤ n := by omega
      have h1 : n < 18446744073709551616 := by omega
      have hwu : IntKind.u64.wrap n = n := u64_nonneg h0 (by omega)
      have hq : wNum n (l, 0) = (l ++ putL n, 0) := by simp [wNum, hn]
      rw [hq]
      have hpl := putL_le n
      have hcat := concat_run ⟨l.toArray⟩ ⟨(putL n).toArray⟩ (show l.length + (putL n).length ≤ _ by omega)
      rw [ba_app] at hcat
      have k1 : w.drew.cell? ⟨b, 0, none⟩ = some (.string ⟨l.toArray⟩) := h.txt
      clear h hpl hq
      go_enter Try.func60, Try.ntmps60
      go_wp2_with fail
      go_region_law (first | (go_simp; go_at_call 97; refine Calls.mono (rput_any n _ h0 h1) ?_; rintro e w2 ⟨rfl, hb2⟩; have hb3 : Below w.heap.size w w2 := Below.trans ((Below.refl _ _).drew) hb2; have c1 := (H.out.below hb3).txt; have z1 := (H.out.below hb3).fr0; have HB2 := Lib.hid hb3; clear hb2 hb3))
      all_goals
        have HF := Lib.hid (H.out.grown HB2.out (l ++ putL n))
        go_wp2
        go_end0
        exact ⟨rfl, HF.out.1, HF.out.2⟩
  · have hq : wNum n (l, x) = (l, x) := by simp [wNum, hx]
    rw [hq]
    have hne : (x == 0) = false := by simp [hx]
    clear h hq
    go_enter Try.func60, Try.ntmps60
    go_wp2
    go_end0
    exact ⟨rfl, H.out, But.refl _ _⟩
set_option maxRecDepth 100000 in
set_option maxHeartbeats 1600000 in
theorem xText_any (b : Nat) (l : List UInt8) (x : Int) (s : ByteArray) (w : World) (h : RWr w b l x) (hl : l.length + s.size ≤ 140737488355000) :
    Calls Try.prog 61 #[.pointer (some ⟨b, 0, none⟩), .string s] w fun e w' => e = .returned (.tuple #[]) ∧ RWr w' b (wText s (l, x)).1 (wText s (l, x)).2 ∧ But (Own b) w w' := by
  have H := Lib.hid h
  have c0 := h.err
  by_cases hx : x = 0
  · subst hx
    have hq : wText s (l, 0) = (l ++ putL (s.size : Int) ++ s.data.toList, 0) := by simp [wText]
    rw [hq]
    have hpl := putL_le (s.size : Int)
    have h0 : 0 ≤ (s.size : Int) := by omega
    have h1 : (s.size : Int) < 18446744073709551616 := by omega
    have hwu : IntKind.u64.wrap (s.size : Int) = (s.size : Int) := u64_nonneg h0 (by omega)
    have hcat := concat_run ⟨l.toArray⟩ ⟨(putL (s.size : Int)).toArray⟩ (show l.length + (putL (s.size : Int)).length ≤ _ by omega)
    rw [ba_app] at hcat
    have hcat2 := concat_run ⟨(l ++ putL (s.size : Int)).toArray⟩ s (show (l ++ putL (s.size : Int)).length + s.size ≤ _ by rw [List.length_append]; omega)
    rw [ba_app2] at hcat2
    obtain ⟨m, hm⟩ : ∃ m, m = l ++ putL (s.size : Int) ++ s.data.toList := ⟨_, rfl⟩
    rw [← hm] at hcat2 ⊢
    clear hm
    have k1 : w.drew.cell? ⟨b, 0, none⟩ = some (.string ⟨l.toArray⟩) := h.txt
    clear h hpl hq
    go_enter Try.func61, Try.ntmps61
    go_wp2_with fail
    go_region_law (first | (go_simp; go_at_call 97; refine Calls.mono (rput_any (s.size : Int) _ h0 h1) ?_; rintro e w2 ⟨rfl, hb2⟩; have hb3 : Below w.heap.size w w2 := Below.trans ((Below.refl _ _).drew) hb2; have c1 := (H.out.below hb3).txt; have z1 := (H.out.below hb3).fr0; have HB2 := Lib.hid hb3; clear hb2 hb3))
    all_goals
      have HF := Lib.hid (H.out.grown HB2.out m)
      go_wp2
      go_end0
      exact ⟨rfl, HF.out.1, HF.out.2⟩
  · have hq : wText s (l, x) = (l, x) := by simp [wText, hx]
    rw [hq]
    have hne : (x == 0) = false := by simp [hx]
    clear h hq
    go_enter Try.func61, Try.ntmps61
    go_wp2
    go_end0
    exact ⟨rfl, H.out, But.refl _ _⟩
theorem flag_big (f : Bool) (p : List UInt8 × Int) : wFlag f p = wBig (if f then 1 else 0) p := by
  unfold wFlag wBig; cases f <;> rfl
set_option maxRecDepth 100000 in
set_option maxHeartbeats 1600000 in
theorem xFlag_any (b : Nat) (l : List UInt8) (x : Int) (f : Bool) (w : World) (h : RWr w b l x) (hl : l.length ≤ 140737488355000) :
    Calls Try.prog 62 #[.pointer (some ⟨b, 0, none⟩), .bool f] w fun e w' => e = .returned (.tuple #[]) ∧ RWr w' b (wFlag f (l, x)).1 (wFlag f (l, x)).2 ∧ But (Own b) w w' := by
  have H := Lib.hid h
  rw [flag_big]
  clear h
  cases f
  · go_enter Try.func62, Try.ntmps62
    go_wp2_with fail
    refine (xBig_any b l x 0 _ H.out hl (by omega) (by omega)).mono ?_
    rintro e w1 ⟨rfl, hm, hb⟩
    have HM := Lib.hid hm; have HB := Lib.hid hb; clear hm hb
    go_wp2
    go_end0
    exact ⟨rfl, HM.out, HB.out⟩
  · go_enter Try.func62, Try.ntmps62
    go_wp2_with fail
    refine (xBig_any b l x 1 _ H.out hl (by omega) (by omega)).mono ?_
    rintro e w1 ⟨rfl, hm, hb⟩
    have HM := Lib.hid hm; have HB := Lib.hid hb; clear hm hb
    go_wp2
    go_end0
    exact ⟨rfl, HM.out, HB.out⟩
set_option maxRecDepth 100000 in
set_option maxHeartbeats 1600000 in
theorem xDone_any (b : Nat) (l : List UInt8) (x : Int)  (w : World) (h : RWr w b l x) :
    Calls Try.prog 63 #[.pointer (some ⟨b, 0, none⟩)] w fun e w' => e = .returned (.tuple #[.string (if x = 0 then ⟨l.toArray⟩ else ⟨#[]⟩), .int .i64 x]) ∧ Below w.heap.size w w' := by
  have c0 := h.txt; have c1 := h.err
  clear h
  by_cases hx : x = 0
  · subst hx
    rw [if_pos rfl]
    go_enter Try.func63, Try.ntmps63
    go_wp2
    go_ret2
    exact ⟨rfl, Below.refl _ _⟩
  · rw [if_neg hx]
    have hq : (x != 0) = true := by simp [hx]
    go_enter Try.func63, Try.ntmps63
    go_wp2_with fail
    go_quiet (fail)
    go_wp2
    go_ret2
    exact ⟨rfl, below_draws (Below.refl _ _) _⟩
end Go.Proofs.Ytciilfkjecmdiaa

/- The reference of package varnum: its Get and All answer what the package's answer. Conditions: texts of at most 2^63-1 bytes, for All 2^43. -/
namespace Go.Proofs.Ytciilfkjecmdiaa
open Go.RowKit Go.PlainAid

set_option maxRecDepth 100000 in
set_option maxHeartbeats 400000 in
theorem rget_direct (s : ByteArray) (a : Nat) (w : World) (hs : s.size ≤ 9223372036854775807) (ha : a < s.size) (hd : bt s a < 248) :
    Calls Try.prog 112 #[.string s, .int .i64 a] w fun e w' => e = .returned (.tuple #[.int .u64 (bt s a), .int .i64 (a + 1), .int .i64 0]) ∧ w = w' := by
  have hb := get_bt s
  have hb0 := bt_nonneg s a
  have hne : ((a : Int) == (s.size : Int)) = false := by simp; omega
  go_enter Try.func112, Try.ntmps112
  go_wp2
  go_ret3
  exact ⟨rfl, rfl⟩

set_option maxRecDepth 100000 in
set_option maxHeartbeats 400000 in
theorem rget_none (s : ByteArray) (a : Int) (w : World) (ha : a < 0 ∨ (s.size : Int) < a) :
    Calls Try.prog 112 #[.string s, .int .i64 a] w fun e w' => e = .returned (.tuple #[.int .u64 0, .int .i64 0, .int .i64 1]) ∧ w = w' := by
  rcases ha with ha | ha
  · go_enter Try.func112, Try.ntmps112
    go_wp2
    go_ret3
    exact ⟨rfl, rfl⟩
  · have h0 : ¬ a < 0 := by omega
    go_enter Try.func112, Try.ntmps112
    go_wp2
    go_ret3
    exact ⟨rfl, rfl⟩

set_option maxRecDepth 100000 in
set_option maxHeartbeats 400000 in
theorem rget_end (s : ByteArray) (w : World) :
    Calls Try.prog 112 #[.string s, .int .i64 s.size] w fun e w' => e = .returned (.tuple #[.int .u64 0, .int .i64 0, .int .i64 2]) ∧ w = w' := by
  go_enter Try.func112, Try.ntmps112
  go_wp2
  go_ret3
  exact ⟨rfl, rfl⟩

set_option maxRecDepth 100000 in
set_option maxHeartbeats 400000 in
theorem rget_short (s : ByteArray) (a : Nat) (w : World) (_hs : s.size ≤ 9223372036854775807) (ha : a < s.size) (hd : 248 ≤ bt s a) (hl : (s.size : Int) - a - 1 < bt s a - 247) :
    Calls Try.prog 112 #[.string s, .int .i64 a] w fun e w' => e = .returned (.tuple #[.int .u64 0, .int .i64 0, .int .i64 2]) ∧ w = w' := by
  have hb := get_bt s
  have hb0 := bt_le s a
  have hne : ((a : Int) == (s.size : Int)) = false := by simp; omega
  go_enter Try.func112, Try.ntmps112
  go_wp2
  go_ret3
  exact ⟨rfl, rfl⟩

set_option maxRecDepth 100000 in
set_option maxHeartbeats 400000 in
theorem rget_long (s : ByteArray) (a k : Nat) (w : World) (hs : s.size ≤ 9223372036854775807) (ha : a < s.size) (hk0 : 1 ≤ k) (hk8 : k ≤ 8) (hd : bt s a = 247 + k) (hl : a + k < s.size) :
    Calls Try.prog 112 #[.string s, .int .i64 a] w fun e w' => e = .returned (getLong s a k) ∧ Below w.heap.size w w' := by
  have hb := get_bt s
  have hne : ((a : Int) == (s.size : Int)) = false := by simp; omega
  have hsub : (247 + (k : Int) - 247) = k := by omega
  go_enter Try.func112, Try.ntmps112
  go_wp2
  go_loopg [8, 9] (k + 1) (fun g s8 s9 wr => ∃ i : Nat, s8 = .int .u64 (val s (a + 1) i) ∧ s9 = .int .i64 (i + 1) ∧ i ≤ k ∧ i + g ≤ k + 1 ∧ k + 1 ≤ i + g ∧ 1 ≤ g ∧ w = wr)
  case atStart => exact ⟨0, rfl, rfl, by omega, by omega, by omega, by omega, rfl⟩
  case round =>
    obtain ⟨i, rfl, rfl, hik, hg1, hg2, hg3, rfl⟩ := hrel
    have v0 := val_nonneg s (a + 1) i
    have v1 := val_lt s (a + 1) i
    by_cases hlt : i < k
    · have v2 := val_56 s (a + 1) i (by omega)
      have b0 := bt_nonneg s (a + 1 + i)
      have b1 := bt_le s (a + 1 + i)
      have hix : a + (i + 1) = a + 1 + i := by omega
      clear v1
      go_wp2
      go_roundg (gk - 1)
      case rel => exact ⟨i + 1, by simp [val], by go_num, by omega, by omega, by omega, by omega, rfl⟩
      case measure => omega
    · obtain rfl : k = i := by omega
      have v3 : val s (a + 1) k < 18446744073709551616 := by
        have : (256 : Nat) ^ k ≤ 256 ^ 8 := Nat.pow_le_pow_right (by decide) (by omega)
        have e : ((256 : Int) ^ k) = ((256 ^ k : Nat) : Int) := by rw [Int.natCast_pow]; rfl
        have : (256 : Nat) ^ 8 = 18446744073709551616 := by decide
        omega
      have H3 := Lib.hid v3; clear v3 v1
      have hl1 := putL_len (val s (a + 1) k)
      by_cases hle : lenOf (val s (a + 1) k) = 1 + k
      · have HL := Lib.hid (getLong_yes hle)
        have hb1 : (((putL (val s (a + 1) k)).length : Int) != (k : Int) + 1) = false := by rw [hl1, hle]; simp; omega
        clear hle hl1
        go_wp2_with (go_at_call 97; refine (rput_any _ _ v0 H3.out).mono ?_; rintro e w1 ⟨rfl, hbel⟩)
        go_ret3
        exact ⟨by rw [HL.out]; exact congrArg (fun z => Ending.returned (.tuple #[_, .int .i64 z, _])) (by omega), hbel⟩
      · have HL := Lib.hid (getLong_no hle)
        have hb1 : (((putL (val s (a + 1) k)).length : Int) != (k : Int) + 1) = true := by rw [hl1]; simp; omega
        clear hle hl1
        go_wp2_with (go_at_call 97; refine (rput_any _ _ v0 H3.out).mono ?_; rintro e w1 ⟨rfl, hbel⟩)
        go_ret3
        exact ⟨by rw [HL.out]; rfl, hbel⟩

theorem rget_any (s : ByteArray) (a : Int) (w : World) (hs : s.size ≤ 9223372036854775807) :
    Calls Try.prog 112 #[.string s, .int .i64 a] w fun e w' => e = .returned (getV (getR s a)) ∧ Below w.heap.size w w' := by
  have weak : ∀ {v : Value}, (Calls Try.prog 112 #[.string s, .int .i64 a] w fun e w' => e = .returned v ∧ w = w') →
      Calls Try.prog 112 #[.string s, .int .i64 a] w fun e w' => e = .returned v ∧ Below w.heap.size w w' :=
    fun h => h.mono fun e w' ⟨he, hw⟩ => ⟨he, hw ▸ Below.refl _ _⟩
  by_cases h1 : a < 0 ∨ (s.size : Int) < a
  · rw [show getR s a = (0, 0, 1) from if_pos h1]; exact weak (rget_none s a w h1)
  obtain ⟨n, rfl⟩ := Int.eq_ofNat_of_zero_le (show 0 ≤ a by omega)
  unfold getR
  rw [if_neg h1, Int.toNat_natCast]
  by_cases h2 : (n : Int) = s.size
  · rw [if_pos h2]; refine weak ?_; rw [h2]; exact rget_end s w
  rw [if_neg h2]
  have hn : n < s.size := by omega
  by_cases h3 : bt s n < 248
  · rw [if_pos h3]; exact weak (rget_direct s n w hs hn h3)
  rw [if_neg h3]
  have hb := bt_le s n
  by_cases h4 : (s.size : Int) - n - 1 < bt s n - 247
  · rw [if_pos h4]; exact weak (rget_short s n w hs hn (by omega) h4)
  rw [if_neg h4]
  obtain ⟨k, hk⟩ := Int.eq_ofNat_of_zero_le (show 0 ≤ bt s n - 247 by omega)
  rw [show bt s n - 246 = 1 + k by omega, hk, Int.toNat_natCast]
  have := rget_long s n k w hs hn (by omega) (by omega) (by omega) (by omega)
  unfold getLong at this
  by_cases h5 : lenOf (val s (n + 1) k) = 1 + k
  · rw [if_pos h5] at this ⊢; exact this
  · rw [if_neg h5] at this ⊢; exact this

end Go.Proofs.Ytciilfkjecmdiaa

/- Package catenaref02: a Reader. Conditions: texts of at most 2^63-1 bytes. -/
namespace Go.Proofs.Ytciilfkjecmdiaa
open Go.RowKit Go.PlainAid

/-- The document's own Reader: block b. -/
structure XRd (w : World) (b : Nat) (s : ByteArray) (a e : Int) : Prop where
  txt : w.cell? ⟨b, 0, none⟩ = some (.string s)
  pos : w.cell? ⟨b, 1, none⟩ = some (.int .i64 a)
  err : w.cell? ⟨b, 2, none⟩ = some (.int .i64 e)
  fr1 : w.frozen? ⟨b, 1, none⟩ = false
  fr2 : w.frozen? ⟨b, 2, none⟩ = false
theorem XRd.lt {w : World} {b : Nat} {s : ByteArray} {a e : Int} (h : XRd w b s a e) : b < w.heap.size := World.block_lt_of_cell? w _ h.txt
theorem XRd.but {S : Nat → Prop} {w w' : World} {b : Nat} {s : ByteArray} {a e : Int} (h : XRd w b s a e) (hb : But S w w') (hs : ¬ S b) : XRd w' b s a e :=
  ⟨hb.cell hs h.txt, hb.cell hs h.pos, hb.cell hs h.err, by rw [hb.frozen h.lt hs]; exact h.fr1, by rw [hb.frozen h.lt hs]; exact h.fr2⟩
theorem XRd.below {w w' : World} {b : Nat} {s : ByteArray} {a e : Int} (h : XRd w b s a e) (hb : Below w.heap.size w w') : XRd w' b s a e := h.but (But.of_below (S := fun _ => False) hb) id
theorem XRd.setPos {w : World} {b : Nat} {s : ByteArray} {a e : Int} (h : XRd w b s a e) (a' : Int) : XRd (w.setCell ⟨b, 1, none⟩ (.int .i64 a')) b s a' e :=
  ⟨by rw [World.cell?_setCell_other _ _ _ _ (by simp)]; exact h.txt, World.cell?_setCell_same _ _ _ h.pos, by rw [World.cell?_setCell_other _ _ _ _ (by simp)]; exact h.err, by rw [World.frozen?_setCell]; exact h.fr1, by rw [World.frozen?_setCell]; exact h.fr2⟩
theorem XRd.setErr {w : World} {b : Nat} {s : ByteArray} {a e : Int} (h : XRd w b s a e) (x : Int) : XRd (w.setCell ⟨b, 2, none⟩ (.int .i64 x)) b s a x :=
  ⟨by rw [World.cell?_setCell_other _ _ _ _ (by simp)]; exact h.txt, by rw [World.cell?_setCell_other _ _ _ _ (by simp)]; exact h.pos, World.cell?_setCell_same _ _ _ h.err, by rw [World.frozen?_setCell]; exact h.fr1, by rw [World.frozen?_setCell]; exact h.fr2⟩
def XRE (w : World) (b : Nat) (s : ByteArray) (a x : Int) : Prop := if x = 0 then XRd w b s a 0 else ∃ a', XRd w b s a' x
theorem XRE.good {w : World} {b : Nat} {s : ByteArray} {a : Int} (h : XRd w b s a 0) : XRE w b s a 0 := by unfold XRE; rw [if_pos rfl]; exact h
theorem XRE.bad {w : World} {b : Nat} {s : ByteArray} {a a' x : Int} (hx : x ≠ 0) (h : XRd w b s a' x) : XRE w b s a x := by unfold XRE; rw [if_neg hx]; exact ⟨a', h⟩
/-- The reader is as it was; what came up is new. -/
def XB (b : Nat) (s : ByteArray) (a : Int) (w w' : World) : Prop := Below w.heap.size w w' ∧ XRd w' b s a 0
theorem XB.start {b : Nat} {s : ByteArray} {a : Int} {w : World} (h : XRd w b s a 0) : w.drew.cell? ⟨b, 0, none⟩ = some (.string s) ∧ w.drew.cell? ⟨b, 1, none⟩ = some (.int .i64 a) ∧ XB b s a w w.drew := ⟨h.txt, h.pos, (Below.refl _ _).drew, h.below (Below.refl _ _).drew⟩
theorem XB.step {b : Nat} {s : ByteArray} {a : Int} {w w1 w2 : World} (h : w1.cell? ⟨b, 0, none⟩ = some (.string s) ∧ w1.cell? ⟨b, 1, none⟩ = some (.int .i64 a) ∧ XB b s a w w1) (hb : Below w1.heap.size w1 w2) : w2.cell? ⟨b, 0, none⟩ = some (.string s) ∧ w2.cell? ⟨b, 1, none⟩ = some (.int .i64 a) ∧ XB b s a w w2 :=
  ⟨(h.2.2.2.below hb).txt, (h.2.2.2.below hb).pos, h.2.2.1.trans (hb.mono h.2.2.1.size), h.2.2.2.below hb⟩
set_option maxRecDepth 100000 in
set_option maxHeartbeats 1600000 in
theorem xrBig_any (b : Nat) (s : ByteArray) (a x : Int) (w : World) (h : XRd w b s a x) (hs : s.size ≤ 9223372036854775807) :
    Calls Try.prog 85 #[.pointer (some ⟨b, 0, none⟩)] w fun e w' => e = .returned (.int .u64 (bigR s a x).1) ∧ XRE w' b s (bigR s a x).2.1 (bigR s a x).2.2 ∧ But (Own b) w w' := by
  have H := Lib.hid h
  have c0 := h.err
  by_cases hx : x = 0
  · subst hx
    have HS := Lib.hid (XB.start h)
    have hg := fun w => rget_any s a w hs
    unfold getV at hg
    rcases hgr : getR s a with ⟨g1, g2, g3⟩
    rw [hgr] at hg
    have HG := Lib.hid hg
    by_cases he : g3 = 0
    · subst he
      have hq : bigR s a 0 = (g1, g2, 0) := by unfold bigR; rw [if_neg (by simp), hgr, if_pos rfl]
      rw [hq]
      clear h hg hgr hq
      go_enter Try.func85, Try.ntmps85
      go_wp2_with fail
      go_region_held3 (fun w' => w'.cell? ⟨b, 0, none⟩ = some (.string s) ∧ w'.cell? ⟨b, 1, none⟩ = some (.int .i64 a) ∧ XB b s a w w') (first | exact HS.out | exact XB.step (by assumption) hb7 | assumption) (first | (go_at_call 112; (with_reducible refine (HG.out _).mono ?_); rintro e w7 ⟨rfl, hb7⟩))
      have HQ : Hid (XB b s a w _) := Lib.hid (by assumption : _ ∧ _ ∧ XB b s a w _).2.2
      have k1 := HQ.out.2.pos; have f1 := HQ.out.2.fr1
      have HF := Lib.hid (HQ.out.2.setPos g2)
      have HB := Lib.hid ((But.of_below (S := Own b) HQ.out.1).setCell (p := ⟨b, 1, none⟩) (fun _ => rfl) (.int .i64 g2))
      go_wp2
      go_ret
      exact ⟨rfl, XRE.good HF.out, HB.out⟩
    · have hq : bigR s a 0 = (0, g2, g3) := by unfold bigR; rw [if_neg (by simp), hgr, if_neg he]
      rw [hq]
      have HE := Lib.hid he
      have hne : (g3 != 0) = true := by simp [he]
      clear h hg hgr hq he
      go_enter Try.func85, Try.ntmps85
      go_wp2_with fail
      go_region_held3 (fun w' => w'.cell? ⟨b, 0, none⟩ = some (.string s) ∧ w'.cell? ⟨b, 1, none⟩ = some (.int .i64 a) ∧ XB b s a w w') (first | exact HS.out | exact XB.step (by assumption) hb7 | assumption) (first | (go_at_call 112; (with_reducible refine (HG.out _).mono ?_); rintro e w7 ⟨rfl, hb7⟩))
      have HQ : Hid (XB b s a w _) := Lib.hid (by assumption : _ ∧ _ ∧ XB b s a w _).2.2
      have k2 := HQ.out.2.err; have f2 := HQ.out.2.fr2
      have HF := Lib.hid (HQ.out.2.setErr g3)
      have HB := Lib.hid ((But.of_below (S := Own b) HQ.out.1).setCell (p := ⟨b, 2, none⟩) (fun _ => rfl) (.int .i64 g3))
      go_wp2
      go_ret
      exact ⟨rfl, XRE.bad HE.out HF.out, HB.out⟩
  · have hq : bigR s a x = (0, a, x) := by unfold bigR; rw [if_pos hx]
    rw [hq]
    have hne : (x != 0) = true := by simp [hx]
    have HX := Lib.hid hx
    clear h hq hx
    go_enter Try.func85, Try.ntmps85
    go_wp2
    go_ret
    exact ⟨rfl, XRE.bad HX.out H.out, But.refl _ _⟩
theorem XRE.ok {w : World} {b : Nat} {s : ByteArray} {a : Int} (h : XRE w b s a 0) : XRd w b s a 0 := by unfold XRE at h; rw [if_pos rfl] at h; exact h
theorem XRE.err {w : World} {b : Nat} {s : ByteArray} {a x : Int} (hx : x ≠ 0) (h : XRE w b s a x) : ∃ a', XRd w b s a' x := by unfold XRE at h; rw [if_neg hx] at h; exact h
set_option maxRecDepth 100000 in
set_option maxHeartbeats 1600000 in
theorem xrNum_any (b : Nat) (s : ByteArray) (a x m : Int) (w : World) (h : XRd w b s a x) (hs : s.size ≤ 9223372036854775807) (hm1 : m ≤ 9223372036854775807) :
    Calls Try.prog 72 #[.pointer (some ⟨b, 0, none⟩), .int .i64 m] w fun e w' => e = .returned (.int .i64 (numR s a x m).1) ∧ XRE w' b s (numR s a x m).2.1 (numR s a x m).2.2 ∧ But (Own b) w w' := by
  have H := Lib.hid h
  clear h
  by_cases hx : x = 0
  · subst hx
    rcases hgr : getR s a with ⟨g1, g2, g3⟩
    have hr := getR_range s a
    rw [hgr] at hr
    have hu := upR_of (m := m) (x := 5) hgr
    by_cases he : g3 = 0
    · subst he
      have hB : bigR s a 0 = (g1, g2, 0) := by unfold bigR; rw [if_neg (by simp), hgr, if_pos rfl]
      rw [if_neg (by simp)] at hu
      by_cases hmm : m < 0 ∨ m < g1
      · rw [if_pos hmm] at hu
        have hq : numR s a 0 m = (0, g2, 5) := by unfold numR; rw [if_neg (by simp), hu, if_neg (by simp)]
        rw [hq]
        clear hq hu hgr
        rcases (show m < 0 ∨ (0 ≤ m ∧ m < g1) by omega) with h2 | ⟨h2, h3⟩
        · clear hmm
          go_enter Try.func72, Try.ntmps72
          go_wp2_with fail
          refine (xrBig_any b s a 0 _ H.out hs).mono ?_
          rintro e w1 ⟨rfl, hm, hb⟩
          rw [hB] at hm ⊢
          have c1 := hm.ok.err; have z1 := hm.ok.fr2
          have HF := Lib.hid (hm.ok.setErr 5)
          have HB := Lib.hid (hb.setCell (p := ⟨b, 2, none⟩) (fun _ => rfl) (.int .i64 5))
          clear hm hb
          go_wp2
          go_ret
          exact ⟨rfl, XRE.bad (by decide) HF.out, HB.out⟩
        · have hwm : IntKind.u64.wrap m = m := u64_nonneg h2 (by omega)
          have h0 : ¬ m < 0 := by omega
          clear hmm
          go_enter Try.func72, Try.ntmps72
          go_wp2_with fail
          refine (xrBig_any b s a 0 _ H.out hs).mono ?_
          rintro e w1 ⟨rfl, hm, hb⟩
          rw [hB] at hm ⊢
          have c1 := hm.ok.err; have z1 := hm.ok.fr2
          have HF := Lib.hid (hm.ok.setErr 5)
          have HB := Lib.hid (hb.setCell (p := ⟨b, 2, none⟩) (fun _ => rfl) (.int .i64 5))
          clear hm hb
          go_wp2
          go_ret
          exact ⟨rfl, XRE.bad (by decide) HF.out, HB.out⟩
      · rw [if_neg hmm] at hu
        have hq : numR s a 0 m = (g1, g2, 0) := by unfold numR; rw [if_neg (by simp), hu, if_pos rfl]
        rw [hq]
        have h0 : ¬ m < 0 := by omega
        have h3 : ¬ m < g1 := by omega
        have hwm : IntKind.u64.wrap m = m := u64_nonneg (by omega) (by omega)
        have hwg : IntKind.i64.wrap g1 = g1 := IntWalk.i64_in g1 ⟨by simp only at hr; omega, by simp only at hr; omega⟩
        clear hq hu hgr hmm
        go_enter Try.func72, Try.ntmps72
        go_wp2_with fail
        refine (xrBig_any b s a 0 _ H.out hs).mono ?_
        rintro e w1 ⟨rfl, hm, hb⟩
        rw [hB] at hm ⊢
        have c1 := hm.ok.err
        have HM := Lib.hid hm; have HB := Lib.hid hb
        clear hm hb
        go_wp2
        go_ret
        exact ⟨rfl, HM.out, HB.out⟩
    · have hB : bigR s a 0 = (0, g2, g3) := by unfold bigR; rw [if_neg (by simp), hgr, if_neg he]
      rw [if_pos he] at hu
      have hq : numR s a 0 m = (0, a, g3) := by unfold numR; rw [if_neg (by simp), hu, if_neg he]
      rw [hq]
      have HX := Lib.hid he
      have hn1 : (g3 == 0) = false := by simp [he]
      have hn2 : (g3 != 0) = true := by simp [he]
      clear hq hu hgr he
      go_enter Try.func72, Try.ntmps72
      go_wp2_with fail
      refine (xrBig_any b s a 0 _ H.out hs).mono ?_
      rintro e w1 ⟨rfl, hm, hb⟩
      rw [hB] at hm ⊢
      obtain ⟨a', hm⟩ := XRE.err HX.out hm
      have HM := Lib.hid hm; have HB := Lib.hid hb
      have c1 := hm.err
      clear hm hb
      go_wp2
      go_ret
      exact ⟨rfl, XRE.bad HX.out HM.out, HB.out⟩
  · have hB : bigR s a x = (0, a, x) := by unfold bigR; rw [if_pos hx]
    have hq : numR s a x m = (0, a, x) := by unfold numR; rw [if_pos hx]
    rw [hq]
    have HX := Lib.hid hx
    have hn1 : (x == 0) = false := by simp [hx]
    have hn2 : (x != 0) = true := by simp [hx]
    clear hq hx
    go_enter Try.func72, Try.ntmps72
    go_wp2_with fail
    refine (xrBig_any b s a x _ H.out hs).mono ?_
    rintro e w1 ⟨rfl, hm, hb⟩
    rw [hB] at hm ⊢
    obtain ⟨a', hm⟩ := XRE.err HX.out hm
    have HM := Lib.hid hm; have HB := Lib.hid hb
    have c1 := hm.err
    clear hm hb
    go_wp2
    go_ret
    exact ⟨rfl, XRE.bad HX.out HM.out, HB.out⟩
end Go.Proofs.Ytciilfkjecmdiaa

/- Package catenaref02: what a Reader has left. Conditions: texts of at most 2^63-1 bytes. -/
namespace Go.Proofs.Ytciilfkjecmdiaa
open Go.RowKit Go.PlainAid

set_option maxRecDepth 100000 in
set_option maxHeartbeats 1600000 in
theorem xrEnd_ok (b : Nat) (s : ByteArray) (a : Nat) (w : World) (h : XRd w b s a 0) (hs : s.size ≤ 9223372036854775807) (ha : a ≤ s.size) :
    Calls Try.prog 75 #[.pointer (some ⟨b, 0, none⟩)] w fun e w' => e = .returned (.int .i64 (if a < s.size then 4 else 0)) ∧ Below w.heap.size w w' := by
  have c0 := h.txt; have c1 := h.pos; have c2 := h.err
  clear h
  by_cases hlt : a < s.size
  · rw [if_pos hlt]
    have hq : (a : Int) < (s.size : Int) := by omega
    go_enter Try.func75, Try.ntmps75
    go_wp2_with fail
    go_quiet (fail)
    go_wp2
    go_ret
    exact ⟨rfl, below_draws (Below.refl _ _) _⟩
  · rw [if_neg hlt]
    have hq : ¬ (a : Int) < (s.size : Int) := by omega
    go_enter Try.func75, Try.ntmps75
    go_wp2_with fail
    go_quiet (fail)
    go_wp2
    go_ret
    exact ⟨rfl, below_draws (Below.refl _ _) _⟩
set_option maxRecDepth 100000 in
set_option maxHeartbeats 1600000 in
theorem xrEnd_err (b : Nat) (s : ByteArray) (a x : Int) (w : World) (h : XRd w b s a x) (hx : x ≠ 0) :
    Calls Try.prog 75 #[.pointer (some ⟨b, 0, none⟩)] w fun e w' => e = .returned (.int .i64 x) ∧ Below w.heap.size w w' := by
  have c2 := h.err
  have hq : (x == 0) = false := by simp [hx]
  clear h
  go_enter Try.func75, Try.ntmps75
  go_wp2_with fail
  go_quiet (fail)
  go_wp2
  go_ret
  exact ⟨rfl, below_draws (Below.refl _ _) _⟩
set_option maxRecDepth 100000 in
set_option maxHeartbeats 1600000 in
theorem xrFlag_any (b : Nat) (s : ByteArray) (a : Nat) (x : Int) (w : World) (h : XRd w b s a x) (hs : s.size ≤ 9223372036854775807) (ha : a ≤ s.size) :
    Calls Try.prog 74 #[.pointer (some ⟨b, 0, none⟩)] w fun e w' => e = .returned (.bool (flagR s a x).1) ∧ XRE w' b s (flagR s a x).2.1 (flagR s a x).2.2 ∧ But (Own b) w w' := by
  have H := Lib.hid h
  have c0 := h.txt; have c1 := h.pos; have c2 := h.err; have z1 := h.fr1; have z2 := h.fr2
  have hbt := get_bt s
  clear h
  by_cases hx : x = 0
  · subst hx
    by_cases hu : a = s.size
    · have hq : flagR s a 0 = (false, (a : Int), 2) := by unfold flagR; rw [if_neg (by simp), if_pos hu]
      rw [hq]
      have hne : ((a : Int) == (s.size : Int)) = true := by simp [hu]
      have HF := Lib.hid (fun n => ((H.out.below (below_draws (Below.refl _ _) n)).setErr 2))
      have HB := Lib.hid (fun n => ((But.refl (Own b) w).draws n).setCell (p := ⟨b, 2, none⟩) (fun _ => rfl) (.int .i64 2))
      clear hq
      go_enter Try.func74, Try.ntmps74
      go_wp2_with fail
      go_quiet (fail)
      obtain ⟨k1, hk1⟩ : ∃ k, k = nq := ⟨_, rfl⟩
      rw [← hk1]
      clear hk1
      have e2 : (w.drewN k1).cell? ⟨b, 2, none⟩ = some (.int .i64 0) := c2
      have e3 : (w.drewN k1).frozen? ⟨b, 2, none⟩ = false := z2
      have HFk := Lib.hid (HF.out k1)
      have HBk := Lib.hid (HB.out k1)
      go_wp2_with fail
      go_quiet (fail)
      go_wp2
      go_ret
      exact ⟨rfl, XRE.bad (by simp) (HFk.out.below (below_draws (Below.refl _ _) _)), HBk.out.draws _⟩
    · have hne : ((a : Int) == (s.size : Int)) = false := by simp; omega
      have hlt : a < s.size := by omega
      by_cases hf : 1 < bt s a
      · have hq : flagR s a 0 = (false, (a : Int), 4) := by unfold flagR; rw [if_neg (by simp), if_neg hu, if_pos hf]
        rw [hq]
        have HF := Lib.hid (fun n => ((H.out.below (below_draws (Below.refl _ _) n)).setErr 4))
        have HB := Lib.hid (fun n => ((But.refl (Own b) w).draws n).setCell (p := ⟨b, 2, none⟩) (fun _ => rfl) (.int .i64 4))
        clear hq
        go_enter Try.func74, Try.ntmps74
        go_wp2_with fail
        go_quiet (fail)
        go_wp2_with fail
        go_quiet (fail)
        go_wp2
        go_ret
        exact ⟨rfl, XRE.bad (by simp) (HF.out _), HB.out _⟩
      · have hq : flagR s a 0 = (bt s a == 1, (a : Int) + 1, 0) := by unfold flagR; rw [if_neg (by simp), if_neg hu, if_neg hf]
        rw [hq]
        have hadd : IntKind.i64.wrap ((a : Int) + 1) = (a : Int) + 1 := IntWalk.i64_in _ ⟨by omega, by omega⟩
        have HF := Lib.hid (fun n => ((H.out.below (below_draws (Below.refl _ _) n)).setPos ((a : Int) + 1)))
        have HB := Lib.hid (fun n => ((But.refl (Own b) w).draws n).setCell (p := ⟨b, 1, none⟩) (fun _ => rfl) (.int .i64 ((a : Int) + 1)))
        clear hq
        go_enter Try.func74, Try.ntmps74
        go_wp2_with fail
        go_quiet (fail)
        go_wp2_with fail
        go_quiet (fail)
        go_wp2_with fail
        go_quiet (fail)
        go_wp2
        go_ret
        exact ⟨rfl, XRE.good (HF.out _), HB.out _⟩
  · have hq : flagR s a x = (false, (a : Int), x) := by unfold flagR; rw [if_pos hx]
    rw [hq]
    have hn1 : (x == 0) = false := by simp [hx]
    have hn2 : (x != 0) = true := by simp [hx]
    have HX := Lib.hid hx
    clear hq hx
    go_enter Try.func74, Try.ntmps74
    go_wp2_with fail
    go_quiet (fail)
    go_wp2_with fail
    go_quiet (fail)
    go_wp2
    go_ret
    exact ⟨rfl, XRE.bad HX.out (H.out.below (below_draws (Below.refl _ _) _)), (But.refl _ _).draws _⟩
end Go.Proofs.Ytciilfkjecmdiaa

/- Package catenaref02: a Reader's Text, where there is one. Conditions: texts of at most 2^63-1 bytes. -/
namespace Go.Proofs.Ytciilfkjecmdiaa
open Go.RowKit Go.PlainAid

set_option maxRecDepth 100000 in
set_option maxHeartbeats 1600000 in
theorem xrText_good (b : Nat) (s : ByteArray) (a m : Int) (n a2 : Nat) (w : World) (h : XRd w b s a 0) (hs : s.size ≤ 9223372036854775807) (hm1 : m ≤ 9223372036854775807) (hg : bigR s a 0 = ((n : Int), (a2 : Int), 0)) (hle : a2 + n ≤ s.size) (hmn : (n : Int) ≤ m) :
    Calls Try.prog 73 #[.pointer (some ⟨b, 0, none⟩), .int .i64 m] w fun e w' => e = .returned (.string (s.extract a2 (a2 + n))) ∧ XRd w' b s ((a2 : Int) + n) 0 ∧ But (Own b) w w' := by
  have H := Lib.hid h
  clear h
  have h0 : ¬ m < 0 := by omega
  have h3 : ¬ m < (n : Int) := by omega
  have hwm : IntKind.u64.wrap m = m := u64_nonneg (by omega) (by omega)
  have hwn : IntKind.i64.wrap (n : Int) = (n : Int) := IntWalk.i64_in _ ⟨by omega, by omega⟩
  have hsub : IntKind.i64.wrap ((s.size : Int) - (a2 : Int)) = (s.size : Int) - (a2 : Int) := IntWalk.i64_in _ ⟨by omega, by omega⟩
  have hwd : IntKind.u64.wrap ((s.size : Int) - (a2 : Int)) = (s.size : Int) - (a2 : Int) := u64_nonneg (by omega) (by omega)
  have h4 : ¬ ((s.size : Int) - (a2 : Int) < (n : Int)) := by omega
  have hadd : IntKind.i64.wrap ((a2 : Int) + (n : Int)) = (a2 : Int) + (n : Int) := IntWalk.i64_in _ ⟨by omega, by omega⟩
  have hsl := slice_run s a2 (a2 + n) (a2 : Int) ((a2 : Int) + (n : Int)) rfl (by omega) (by omega) (by omega)
  go_enter Try.func73, Try.ntmps73
  go_wp2_with fail
  refine (xrBig_any b s a 0 _ H.out hs).mono ?_
  rintro e w1 ⟨rfl, hm, hb⟩
  rw [hg] at hm ⊢
  have c0 := hm.ok.txt; have c1 := hm.ok.pos; have c2 := hm.ok.err; have z1 := hm.ok.fr1
  have HF := Lib.hid (fun k => ((hm.ok.below (below_draws (Below.refl _ _) k)).setPos ((a2 : Int) + n)))
  have HB := Lib.hid (fun k => (hb.draws k).setCell (p := ⟨b, 1, none⟩) (fun _ => rfl) (.int .i64 ((a2 : Int) + n)))
  clear hm hb
  go_wp2_with fail
  go_quiet (fail)
  go_wp2_with fail
  go_quiet (fail)
  go_wp2
  go_ret
  exact ⟨rfl, HF.out _, HB.out _⟩
end Go.Proofs.Ytciilfkjecmdiaa

/- Package catenaref02: a Reader's Text, whole. Conditions: texts of at most 2^63-1 bytes. -/
namespace Go.Proofs.Ytciilfkjecmdiaa
open Go.RowKit Go.PlainAid

set_option maxRecDepth 100000 in
set_option maxHeartbeats 1600000 in
theorem xrText_err (b : Nat) (s : ByteArray) (a x m x2 : Int) (w : World) (h : XRd w b s a x) (hs : s.size ≤ 9223372036854775807) (hx2 : x2 ≠ 0) (hB : (bigR s a x).2.2 = x2) :
    Calls Try.prog 73 #[.pointer (some ⟨b, 0, none⟩), .int .i64 m] w fun e w' => e = .returned (.string ⟨#[]⟩) ∧ XRE w' b s a x2 ∧ But (Own b) w w' := by
  have H := Lib.hid h
  have HX := Lib.hid hx2
  have HB0 := Lib.hid hB
  have hn1 : (x2 == 0) = false := by simp [hx2]
  have hn2 : (x2 != 0) = true := by simp [hx2]
  clear h hx2 hB
  go_enter Try.func73, Try.ntmps73
  go_wp2_with fail
  refine (xrBig_any b s a x _ H.out hs).mono ?_
  rintro e w1 ⟨rfl, hm, hb⟩
  rw [HB0.out] at hm
  obtain ⟨a', hm⟩ := XRE.err HX.out hm
  have HM := Lib.hid hm; have HB := Lib.hid hb
  have c1 := hm.err
  clear hm hb
  go_wp2_with fail
  go_quiet (fail)
  go_wp2
  go_ret
  exact ⟨rfl, XRE.bad HX.out (HM.out.below (below_draws (Below.refl _ _) _)), HB.out.draws _⟩
set_option maxRecDepth 100000 in
set_option maxHeartbeats 1600000 in
theorem xrText_long (b : Nat) (s : ByteArray) (a m g1 g2 : Int) (w : World) (h : XRd w b s a 0) (hs : s.size ≤ 9223372036854775807) (hm1 : m ≤ 9223372036854775807) (hB : bigR s a 0 = (g1, g2, 0)) (hmm : m < 0 ∨ (0 ≤ m ∧ m < g1)) :
    Calls Try.prog 73 #[.pointer (some ⟨b, 0, none⟩), .int .i64 m] w fun e w' => e = .returned (.string ⟨#[]⟩) ∧ XRE w' b s g2 3 ∧ But (Own b) w w' := by
  have H := Lib.hid h
  have HB0 := Lib.hid hB
  clear h hB
  rcases hmm with h2 | ⟨h2, h3⟩
  · go_enter Try.func73, Try.ntmps73
    go_wp2_with fail
    refine (xrBig_any b s a 0 _ H.out hs).mono ?_
    rintro e w1 ⟨rfl, hm, hb⟩
    rw [HB0.out] at hm ⊢
    have c1 := hm.ok.err; have z1 := hm.ok.fr2
    have HF := Lib.hid (hm.ok.setErr 3)
    have HB := Lib.hid (hb.setCell (p := ⟨b, 2, none⟩) (fun _ => rfl) (.int .i64 3))
    clear hm hb
    go_wp2_with fail
    go_quiet (fail)
    go_wp2
    go_ret
    exact ⟨rfl, XRE.bad (by decide) (HF.out.below (below_draws (Below.refl _ _) _)), HB.out.draws _⟩
  · have hwm : IntKind.u64.wrap m = m := u64_nonneg h2 (by omega)
    have h0 : ¬ m < 0 := by omega
    go_enter Try.func73, Try.ntmps73
    go_wp2_with fail
    refine (xrBig_any b s a 0 _ H.out hs).mono ?_
    rintro e w1 ⟨rfl, hm, hb⟩
    rw [HB0.out] at hm ⊢
    have c1 := hm.ok.err; have z1 := hm.ok.fr2
    have HF := Lib.hid (hm.ok.setErr 3)
    have HB := Lib.hid (hb.setCell (p := ⟨b, 2, none⟩) (fun _ => rfl) (.int .i64 3))
    clear hm hb
    go_wp2_with fail
    go_quiet (fail)
    go_wp2
    go_ret
    exact ⟨rfl, XRE.bad (by decide) (HF.out.below (below_draws (Below.refl _ _) _)), HB.out.draws _⟩
set_option maxRecDepth 100000 in
set_option maxHeartbeats 1600000 in
theorem xrText_short (b : Nat) (s : ByteArray) (a m : Int) (n a2 : Nat) (w : World) (h : XRd w b s a 0) (hs : s.size ≤ 9223372036854775807) (hm1 : m ≤ 9223372036854775807) (hg : bigR s a 0 = ((n : Int), (a2 : Int), 0)) (ha2 : a2 ≤ s.size) (hle : ¬ a2 + n ≤ s.size) (hmn : (n : Int) ≤ m) :
    Calls Try.prog 73 #[.pointer (some ⟨b, 0, none⟩), .int .i64 m] w fun e w' => e = .returned (.string ⟨#[]⟩) ∧ XRE w' b s a2 2 ∧ But (Own b) w w' := by
  have H := Lib.hid h
  clear h
  have h0 : ¬ m < 0 := by omega
  have h3 : ¬ m < (n : Int) := by omega
  have hwm : IntKind.u64.wrap m = m := u64_nonneg (by omega) (by omega)
  have hsub : IntKind.i64.wrap ((s.size : Int) - (a2 : Int)) = (s.size : Int) - (a2 : Int) := IntWalk.i64_in _ ⟨by omega, by omega⟩
  have hwd : IntKind.u64.wrap ((s.size : Int) - (a2 : Int)) = (s.size : Int) - (a2 : Int) := u64_nonneg (by omega) (by omega)
  have h4 : (s.size : Int) - (a2 : Int) < (n : Int) := by omega
  go_enter Try.func73, Try.ntmps73
  go_wp2_with fail
  refine (xrBig_any b s a 0 _ H.out hs).mono ?_
  rintro e w1 ⟨rfl, hm, hb⟩
  rw [hg] at hm ⊢
  have c0 := hm.ok.txt; have c1 := hm.ok.pos; have c2 := hm.ok.err; have z1 := hm.ok.fr2
  have HF := Lib.hid (fun k => ((hm.ok.below (below_draws (Below.refl _ _) k)).setErr 2))
  have HB := Lib.hid (fun k => (hb.draws k).setCell (p := ⟨b, 2, none⟩) (fun _ => rfl) (.int .i64 2))
  clear hm hb
  go_wp2_with fail
  go_quiet (fail)
  go_wp2
  go_ret
  exact ⟨rfl, XRE.bad (by decide) (HF.out _), HB.out _⟩
theorem xrText_any (b : Nat) (s : ByteArray) (a x m : Int) (w : World) (h : XRd w b s a x) (hs : s.size ≤ 9223372036854775807) (hm1 : m ≤ 9223372036854775807) :
    Calls Try.prog 73 #[.pointer (some ⟨b, 0, none⟩), .int .i64 m] w fun e w' => e = .returned (.string (textR s a x m).1) ∧ XRE w' b s (textR s a x m).2.1 (textR s a x m).2.2 ∧ But (Own b) w w' := by
  have weak : ∀ {y a1 a2 : Int} {w' : World}, y ≠ 0 → XRE w' b s a1 y → XRE w' b s a2 y := fun hy hh => by
    obtain ⟨a', h'⟩ := XRE.err hy hh; exact XRE.bad hy h'
  by_cases hx : x = 0
  · subst hx
    rcases hgr : getR s a with ⟨g1, g2, g3⟩
    have hr := getR_range s a
    rw [hgr] at hr
    have hu := upR_of (m := m) (x := 3) hgr
    by_cases he : g3 = 0
    · subst he
      have hB : bigR s a 0 = (g1, g2, 0) := by unfold bigR; rw [if_neg (by simp), hgr, if_pos rfl]
      rw [if_neg (by simp)] at hu
      have hp := getR_pos hgr
      by_cases hmm : m < 0 ∨ m < g1
      · rw [if_pos hmm] at hu
        have hq : textR s a 0 m = (⟨#[]⟩, g2, 3) := by unfold textR; rw [if_neg (by simp), hu, if_pos (by simp)]
        rw [hq]
        exact xrText_long b s a m g1 g2 w h hs hm1 hB (by omega)
      · rw [if_neg hmm] at hu
        obtain ⟨n, rfl⟩ := Int.eq_ofNat_of_zero_le hr
        obtain ⟨a2, rfl⟩ := Int.eq_ofNat_of_zero_le hp.1
        by_cases hle : a2 + n ≤ s.size
        · have hq : textR s a 0 m = (s.extract a2 (a2 + n), (a2 : Int) + n, 0) := by unfold textR; rw [if_neg (by simp), hu, if_neg (by simp), if_neg (by simp only; omega)]; simp
          rw [hq]
          exact (xrText_good b s a m n a2 w h hs hm1 hB hle (by omega)).mono fun e w' ⟨h1, h2, h3⟩ => ⟨h1, XRE.good h2, h3⟩
        · have hq : textR s a 0 m = (⟨#[]⟩, (a2 : Int), 2) := by unfold textR; rw [if_neg (by simp), hu, if_neg (by simp), if_pos (by simp only; omega)]
          rw [hq]
          exact xrText_short b s a m n a2 w h hs hm1 hB (by omega) hle (by omega)
    · have hB : (bigR s a 0).2.2 = g3 := by unfold bigR; rw [if_neg (by simp), hgr]
      rw [if_pos he] at hu
      have hq : textR s a 0 m = (⟨#[]⟩, a, g3) := by unfold textR; rw [if_neg (by simp), hu, if_pos he]
      rw [hq]
      exact xrText_err b s a 0 m g3 w h hs he hB
  · have hq : textR s a x m = (⟨#[]⟩, a, x) := by unfold textR; rw [if_pos hx]
    rw [hq]
    exact xrText_err b s a x m x w h hs hx (by unfold bigR; rw [if_pos hx])
end Go.Proofs.Ytciilfkjecmdiaa
