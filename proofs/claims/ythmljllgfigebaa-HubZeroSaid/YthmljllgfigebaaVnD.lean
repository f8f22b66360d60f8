/- Package varnum: the walk of the law 'there and back'. Conditions: texts within the form's own reach. -/
import Derived.Test.YthmljllgfigebaaVnB
namespace Go.Proofs.Ythmljllgfigebaa
open Go.RowKit Go.PlainAid

theorem bt_app_left (a b : ByteArray) (i : Nat) (h : i < a.size) : bt (a ++ b) i = bt a i := by
  rw [bt_data, bt_data, ByteArray.data_append, Array.toList_append]
  simp only [List.getD, List.getElem?_append_left (show i < a.data.toList.length by simpa using h)]
theorem bt_app_right (a b : ByteArray) (i : Nat) : bt (a ++ b) (a.size + i) = bt b i := by
  rw [bt_data, bt_data, ByteArray.data_append, Array.toList_append]
  simp only [List.getD]
  rw [List.getElem?_append_right (show a.data.toList.length ≤ a.size + i by simp), show a.size + i - a.data.toList.length = i by simp]
theorem bt_lit (l : List UInt8) (i : Nat) (h : i < l.length) : bt ⟨l.toArray⟩ i = (l[i].toNat : Int) := by
  rw [bt_data]; simp [List.getD, List.getElem?_eq_getElem h]
theorem has_mid (a c : ByteArray) (l : List UInt8) : has (a ++ ⟨l.toArray⟩ ++ c) a.size l := by
  intro j hj
  rw [bt_app_left _ _ _ (by rw [ByteArray.size_append]; show _ < a.size + l.length; omega), bt_app_right, bt_lit _ _ hj]

theorem _root_.List.take_succ_cons_drop {α : Type} {l : List α} (h : 0 < l.length) (k : Nat) : l.take (k + 1) = l[0] :: (l.drop 1).take k := by
  cases l with
  | nil => simp at h
  | cons x l => simp
/-- The bytes behind place a, k of them. -/
theorem be_val (s : ByteArray) (a k : Nat) : a + k ≤ s.size → be k (val s a k).toNat = (s.data.toList.drop a).take k := by
  induction k with
  | zero => simp [be]
  | succ k ih =>
    intro h
    have hv := val_nonneg s a k
    have hb := bt_nonneg s (a + k)
    have hb2 := bt_le s (a + k)
    have hl : a + k < s.data.toList.length := by simp; omega
    simp only [be, val]
    rw [show (val s a k * 256 + bt s (a + k)).toNat / 256 = (val s a k).toNat by omega, ih (by omega), List.take_succ_eq_append_getElem (by simp; omega)]
    congr 2
    rw [List.getElem_drop, ← UInt8.toNat_inj, UInt8.toNat_ofNat']
    have hd := bt_data s (a + k)
    simp only [List.getD, List.getElem?_eq_getElem hl, Option.getD_some] at hd
    have := (s.data.toList[a + k]).toNat_lt
    omega
theorem get_ok {s : ByteArray} {y to : Int} (h : getR s 0 = (y, to, 0)) : 0 ≤ y ∧ y < 18446744073709551616 ∧ 0 ≤ to ∧ to ≤ s.size ∧ putL y = s.data.toList.take to.toNat := by
  unfold getR at h
  split at h
  · simp at h
  split at h
  · simp at h
  rename_i h0 h1
  have hs : 0 < s.size := by omega
  have hb := bt_nonneg s 0
  have hb2 := bt_le s 0
  have hd : s.data.toList[0]'(by simpa using hs) = UInt8.ofNat (bt s 0).toNat := by
    have hd := bt_data s 0
    simp only [List.getD, List.getElem?_eq_getElem (show 0 < s.data.toList.length by simpa using hs), Option.getD_some] at hd
    rw [hd, Int.toNat_natCast, UInt8.ofNat_toNat]
  have ht : ∀ k, s.data.toList.take (k + 1) = UInt8.ofNat (bt s 0).toNat :: (s.data.toList.drop 1).take k := by
    intro k
    rw [← hd, List.take_succ_cons_drop (show 0 < s.data.toList.length by simpa using hs)]
  simp only [Int.toNat_zero, Int.zero_add] at h
  split at h
  · rename_i h2
    simp only [Prod.mk.injEq, and_true] at h
    obtain ⟨rfl, rfl⟩ := h
    refine ⟨hb, by omega, by omega, by omega, ?_⟩
    rw [putL_small _ h2, show (1 : Int).toNat = 0 + 1 from rfl, ht]; simp
  split at h
  · simp at h
  split at h
  · rename_i h2 h3 h4
    simp only [Prod.mk.injEq, and_true] at h
    obtain ⟨rfl, rfl⟩ := h
    obtain ⟨k, hk⟩ := Int.eq_ofNat_of_zero_le (show 0 ≤ bt s 0 - 247 by omega)
    rw [hk, Int.toNat_natCast] at h4 ⊢
    have hv0 := val_nonneg s (0 + 1) k
    have hv1 := val_lt s (0 + 1) k
    have hk8 : k ≤ 8 := by omega
    have hbig : ¬ val s (0 + 1) k < 248 := by
      intro hc; rw [lenOf_small _ hc] at h4; omega
    have hw : wd (val s (0 + 1) k) = k := by rw [lenOf_big _ hbig] at h4; omega
    have hlt : val s (0 + 1) k < 18446744073709551616 := by
      have : (256 : Nat) ^ k ≤ 256 ^ 8 := Nat.pow_le_pow_right (by decide) hk8
      have e : ((256 : Int) ^ k) = ((256 ^ k : Nat) : Int) := by rw [Int.natCast_pow]; rfl
      have : (256 : Nat) ^ 8 = 18446744073709551616 := by decide
      omega
    refine ⟨hv0, hlt, by omega, by omega, ?_⟩
    rw [putL_big _ hbig, hw, Int.toNat_natCast, show (1 + (k : Int)).toNat = k + 1 by omega, ht, be_val _ _ _ (by omega)]
    congr 2; omega
  · simp at h

theorem has_self (l : List UInt8) : has ⟨l.toArray⟩ 0 l := by
  intro j hj; rw [Nat.zero_add]; exact bt_lit _ _ hj
theorem str_app (l m : List UInt8) : (⟨l.toArray⟩ : ByteArray) ++ ⟨m.toArray⟩ = ⟨(l ++ m).toArray⟩ := by
  apply ByteArray.ext; rw [ByteArray.data_append]; simp

theorem getR_go (s : ByteArray) (a : Nat) (h : (getR s a).2.2 = 0) : (a : Int) < (getR s a).2.1 ∧ (getR s a).2.1 ≤ s.size ∧ 0 ≤ (getR s a).1 ∧ (getR s a).1 < 18446744073709551616 := by
  unfold getR at h ⊢
  have b0 := bt_nonneg s (a : Int).toNat
  have b1 := bt_le s (a : Int).toNat
  split
  · rename_i h1; rw [if_pos h1] at h; simp at h
  rename_i h1; rw [if_neg h1] at h
  split
  · rename_i h2; rw [if_pos h2] at h; simp at h
  rename_i h2; rw [if_neg h2] at h
  split
  · simp only; omega
  rename_i h3; rw [if_neg h3] at h
  split
  · rename_i h4; rw [if_pos h4] at h; simp at h
  rename_i h4; rw [if_neg h4] at h
  split
  · have hv := val_nonneg s ((a : Int).toNat + 1) (bt s (a : Int).toNat - 247).toNat
    have hv1 := val_lt s ((a : Int).toNat + 1) (bt s (a : Int).toNat - 247).toNat
    have : (256 : Nat) ^ (bt s (a : Int).toNat - 247).toNat ≤ 256 ^ 8 := Nat.pow_le_pow_right (by decide) (by omega)
    have e : ((256 : Int) ^ (bt s (a : Int).toNat - 247).toNat) = ((256 ^ (bt s (a : Int).toNat - 247).toNat : Nat) : Int) := by rw [Int.natCast_pow]; rfl
    have : (256 : Nat) ^ 8 = 18446744073709551616 := by decide
    simp only; omega
  · rename_i h5; rw [if_neg h5] at h; simp at h

end Go.Proofs.Ythmljllgfigebaa
