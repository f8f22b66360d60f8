/- Package varnum: the walk of the law 'there and back'. Conditions: texts within the form's own reach. -/
import Derived.Test.YtfjcmmfjacoodaaVarnumC
namespace Go.Proofs.Ytfjcmmfjacoodaa
open Go.RowKit Go.PlainAid

theorem bt_app_left (a b : ByteArray) (i : Nat) (h : i < a.size) : bt (a ++ b) i = bt a i := by
  rw [bt_data, bt_data, ByteArray.data_append, Array.toList_append]
  simp only [List.getD, List.getElem?_append_left (show i < a.data.toList.length by simpa using h)]
theorem bt_app_right (a b : ByteArray) (i : Nat) : bt (a ++ b) (a.size + i) = bt b i := by
  rw [bt_data, bt_data, ByteArray.data_append, Array.toList_append]
  simp only [List.getD]
  rw [List.getElem?_append_right (show a.data.toList.length ≤ a.size + i by simp), show a.size + i - a.data.toList.length = i by simp]
theorem bt_lit (l : List UInt8) (i : Nat) (h : i < l.length) : bt ⟨l.toArray⟩ i = (l[i].toNat : Int) := by
  rw [bt_data]; simp [List.getD, List.getElem?_eq_getElem h]
theorem has_mid (a c : ByteArray) (l : List UInt8) : has (a ++ ⟨l.toArray⟩ ++ c) a.size l := by
  intro j hj
  rw [bt_app_left _ _ _ (by rw [ByteArray.size_append]; show _ < a.size + l.length; omega), bt_app_right, bt_lit _ _ hj]

theorem _root_.List.take_succ_cons_drop {α : Type} {l : List α} (h : 0 < l.length) (k : Nat) : l.take (k + 1) = l[0] :: (l.drop 1).take k := by
  cases l with
  | nil => simp at h
  | cons x l => simp
/-- The bytes behind place a, k of them. -/
theorem be_val (s : ByteArray) (a k : Nat) : a + k ≤ s.size → be k (val s a k).toNat = (s.data.toList.drop a).take k := by
  induction k with
  | zero => simp [be]
  | succ k ih =>
    intro h
    have hv := val_nonneg s a k
    have hb := bt_nonneg s (a + k)
    have hb2 := bt_le s (a + k)
    have hl : a + k < s.data.toList.length := by simp; omega
    simp only [be, val]
    rw [show (val s a k * 256 + bt s (a + k)).toNat / 256 = (val s a k).toNat by omega, ih (by omega), List.take_succ_eq_append_getElem (by simp; omega)]
    congr 2
    rw [List.getElem_drop, ← UInt8.toNat_inj, UInt8.toNat_ofNat']
    have hd := bt_data s (a + k)
    simp only [List.getD, List.getElem?_eq_getElem hl, Option.getD_some] at hd
    have := (s.data.toList[a + k]).toNat_lt
    omega
theorem get_ok {s : ByteArray} {y to : Int} (h : getR s 0 = (y, to, 0)) : 0 ≤ y ∧ y < 18446744073709551616 ∧ 0 ≤ to ∧ to ≤ s.size ∧ putL y = s.data.toList.take to.toNat := by
  unfold getR at h
  split at h
  · simp at h
  split at h
  · simp at h
  rename_i h0 h1
  have hs : 0 < s.size := by omega
  have hb := bt_nonneg s 0
  have hb2 := bt_le s 0
  have hd : s.data.toList[0]'(by simpa using hs) = UInt8.ofNat (bt s 0).toNat := by
    have hd := bt_data s 0
    simp only [List.getD, List.getElem?_eq_getElem (show 0 < s.data.toList.length by simpa using hs), Option.getD_some] at hd
    rw [hd, Int.toNat_natCast, UInt8.ofNat_toNat]
  have ht : ∀ k, s.data.toList.take (k + 1) = UInt8.ofNat (bt s 0).toNat :: (s.data.toList.drop 1).take k := by
    intro k
    rw [← hd, List.take_succ_cons_drop (show 0 < s.data.toList.length by simpa using hs)]
  simp only [Int.toNat_zero, Int.zero_add] at h
  split at h
  · rename_i h2
    simp only [Prod.mk.injEq, and_true] at h
    obtain ⟨rfl, rfl⟩ := h
    refine ⟨hb, by omega, by omega, by omega, ?_⟩
    rw [putL_small _ h2, show (1 : Int).toNat = 0 + 1 from rfl, ht]; simp
  split at h
  · simp at h
  split at h
  · rename_i h2 h3 h4
    simp only [Prod.mk.injEq, and_true] at h
    obtain ⟨rfl, rfl⟩ := h
    obtain ⟨k, hk⟩ := Int.eq_ofNat_of_zero_le (show 0 ≤ bt s 0 - 247 by omega)
    rw [hk, Int.toNat_natCast] at h4 ⊢
    have hv0 := val_nonneg s (0 + 1) k
    have hv1 := val_lt s (0 + 1) k
    have hk8 : k ≤ 8 := by omega
    have hbig : ¬ val s (0 + 1) k < 248 := by
      intro hc; rw [lenOf_small _ hc] at h4; omega
    have hw : wd (val s (0 + 1) k) = k := by rw [lenOf_big _ hbig] at h4; omega
    have hlt : val s (0 + 1) k < 18446744073709551616 := by
      have : (256 : Nat) ^ k ≤ 256 ^ 8 := Nat.pow_le_pow_right (by decide) hk8
      have e : ((256 : Int) ^ k) = ((256 ^ k : Nat) : Int) := by rw [Int.natCast_pow]; rfl
      have : (256 : Nat) ^ 8 = 18446744073709551616 := by decide
      omega
    refine ⟨hv0, hlt, by omega, by omega, ?_⟩
    rw [putL_big _ hbig, hw, Int.toNat_natCast, show (1 + (k : Int)).toNat = k + 1 by omega, ht, be_val _ _ _ (by omega)]
    congr 2; omega
  · simp at h

set_option maxRecDepth 100000 in
set_option maxHeartbeats 400000 in
theorem back_walk (a c : ByteArray) (n : Int) (w : World) (ha : a.size ≤ 140737488351232) (hc : c.size ≤ 140737488351232) (h0 : 0 ≤ n) (h1 : n < 18446744073709551616) :
    Calls Try.prog 4 #[.string a, .int .u64 n, .string c] w fun e w' => e = .returned (.bool true) ∧ Below w.heap.size w w' := by
  have hl := putL_len n
  have hl2 := lenOf_bd n
  have hS : (a ++ ⟨(putL n).toArray⟩ ++ c).size = a.size + (putL n).length + c.size := by rw [ByteArray.size_append, ByteArray.size_append]; rfl
  have hg := get_put (s := a ++ ⟨(putL n).toArray⟩ ++ c) (a := a.size) n h0 h1 (by omega) (has_mid _ _ _)
  obtain ⟨y, to, f, hr⟩ : ∃ y to f, getR c 0 = (y, to, f) := ⟨_, _, _, rfl⟩
  have HS := Lib.hid hS; have HG := Lib.hid hg; have HR := Lib.hid hr; have HL := Lib.hid hl; have H1 := Lib.hid h1
  have e1 : (n != n) = false := by simp
  have e2 : ((a.size : Int) + lenOf n != a.size + lenOf n) = false := by simp
  clear hS hg hr hl h1
  have B1 : (putL n).length ≤ 9 := by have := HL.out; omega
  by_cases hf : f = 0
  · obtain rfl : f = 0 := hf
    obtain ⟨y0, y1, t0, t1, hp⟩ := get_ok HR.out
    go_enter Try.func4, Try.ntmps4
    go_wp2_with fail
    refine (put_any _ _ h0 H1.out).mono ?_
    rintro e w1 ⟨rfl, hb1⟩
    go_wp2_with fail
    refine (get_any _ _ _ (by have := HS.out; omega)).mono ?_
    rintro e w2 ⟨rfl, rfl⟩
    rw [HG.out]
    dsimp only [getV]
    go_wp2_with fail
    refine (len_any _ _ h0 H1.out).mono ?_
    rintro e w2 ⟨rfl, rfl⟩
    go_wp2_with fail
    refine (get_any _ _ _ (by omega)).mono ?_
    rintro e w2 ⟨rfl, rfl⟩
    rw [HR.out]
    dsimp only [getV]
    have HP := Lib.hid hp; clear hp
    go_wp2_with fail
    obtain ⟨t, rfl⟩ := Int.eq_ofNat_of_zero_le t0
    have ht : t ≤ c.size := by omega
    have hq : (putL y == (c.extract 0 t).toList) = true := by
      rw [HP.out, Int.toNat_natCast, beq_iff_eq, Go.ByteArray.toList_eq]; simp
    have HB := Lib.hid hb1; clear hb1
    refine wp_region_quiet_below (by kernel_rfl) (by kernel_rfl) ?_
    repeat (any_goals (first
      | go_big_quiet_step (first | exact Calls.regrown_of (put_any _ _ y0 y1) | exact Calls.regrown_of (awake_any _))
      | quiet_step (first | exact Calls.regrown_of (put_any _ _ y0 y1) | exact Calls.regrown_of (awake_any _))))
    refine wpQuiet_nil ?_
    intro _ hw'; obtain ⟨⟨dq, osq⟩, hw''⟩ := hw'; subst hw''
    go_wp2
    go_ret
    exact ⟨rfl, HB.out.trans ((below_regrown w1 dq osq).mono HB.out.size)⟩
  · have hfb : (f != 0) = true := by simp [hf]
    clear hf
    go_enter Try.func4, Try.ntmps4
    go_wp2_with fail
    refine (put_any _ _ h0 H1.out).mono ?_
    rintro e w1 ⟨rfl, hb1⟩
    go_wp2_with fail
    refine (get_any _ _ _ (by have := HS.out; omega)).mono ?_
    rintro e w2 ⟨rfl, rfl⟩
    rw [HG.out]
    dsimp only [getV]
    go_wp2_with fail
    refine (len_any _ _ h0 H1.out).mono ?_
    rintro e w2 ⟨rfl, rfl⟩
    go_wp2_with fail
    refine (get_any _ _ _ (by omega)).mono ?_
    rintro e w2 ⟨rfl, rfl⟩
    rw [HR.out]
    dsimp only [getV]
    go_wp2_with fail
    have HB := Lib.hid hb1; clear hb1
    refine wp_region_quiet_below (by kernel_rfl) (by kernel_rfl) ?_
    repeat (any_goals (first
      | go_big_quiet_step (first | exact Calls.regrown_of (awake_any _))
      | quiet_step (first | exact Calls.regrown_of (awake_any _))))
    refine wpQuiet_nil ?_
    intro _ hw'; obtain ⟨⟨dq, osq⟩, hw''⟩ := hw'; subst hw''
    go_wp2
    go_ret
    exact ⟨rfl, HB.out.trans ((below_regrown w1 dq osq).mono HB.out.size)⟩

theorem back_law (a : ByteArray) (n : Int) (c : ByteArray) (w : World) (ha : a.size ≤ 140737488351232) (hn : (Lit.int .u64 n).wf = true) (hc : c.size ≤ 140737488351232) :
    Calls Try.prog 4 #[.string a, .int .u64 n, .string c] w fun e w' => e = .returned (.bool true) ∧ Below w.heap.size w w' :=
  back_walk a c n w ha hc (wf_u64 hn).1 (wf_u64 hn).2
end Go.Proofs.Ytfjcmmfjacoodaa
