/- What a reader that has no error has eaten: the bytes that a writer would have put; what was put is read. Conditions: none. -/
import Derived.Test.YthmljllgfigebaaLb4
import Derived.Test.YthmljllgfigebaaWireVbLb
import Derived.Test.YthmljllgfigebaaVnD
namespace Go.Proofs.Ythmljllgfigebaa
open Go.RowKit Go.PlainAid

theorem get_ok_at {s : ByteArray} {a : Nat} {y to : Int} (h : getR s a = (y, to, 0)) : (0 ≤ y ∧ y < 18446744073709551616) ∧ (a : Int) < to ∧ to ≤ s.size ∧ putL y = (s.data.toList.drop a).take (to.toNat - a) := by
  unfold getR at h
  split at h
  · simp at h
  split at h
  · simp at h
  rename_i h0 h1
  rw [Int.toNat_natCast] at h
  have hs : a < s.size := by omega
  have hb := bt_nonneg s a
  have hb2 := bt_le s a
  have hal : a < s.data.toList.length := by simpa using hs
  have hd : s.data.toList[a]'hal = UInt8.ofNat (bt s a).toNat := by
    have hd := bt_data s a
    simp only [List.getD, List.getElem?_eq_getElem hal, Option.getD_some] at hd
    rw [hd, Int.toNat_natCast, UInt8.ofNat_toNat]
  have ht : ∀ k, (s.data.toList.drop a).take (k + 1) = UInt8.ofNat (bt s a).toNat :: (s.data.toList.drop (a + 1)).take k := by
    intro k
    rw [← hd, List.drop_eq_getElem_cons hal, List.take_succ_cons]
  split at h
  · rename_i h2
    simp only [Prod.mk.injEq, and_true] at h
    obtain ⟨rfl, rfl⟩ := h
    refine ⟨⟨hb, by omega⟩, by omega, by omega, ?_⟩
    rw [putL_small _ h2, show ((a : Int) + 1).toNat - a = 0 + 1 by omega, ht]; simp
  split at h
  · simp at h
  split at h
  · rename_i h2 h3 h4
    simp only [Prod.mk.injEq, and_true] at h
    obtain ⟨rfl, rfl⟩ := h
    obtain ⟨k, hk⟩ := Int.eq_ofNat_of_zero_le (show 0 ≤ bt s a - 247 by omega)
    rw [hk, Int.toNat_natCast] at h4 ⊢
    have hv0 := val_nonneg s (a + 1) k
    have hv1 := val_lt s (a + 1) k
    have hk8 : k ≤ 8 := by omega
    have hbig : ¬ val s (a + 1) k < 248 := by
      intro hc; rw [lenOf_small _ hc] at h4; omega
    have hw : wd (val s (a + 1) k) = k := by rw [lenOf_big _ hbig] at h4; omega
    have hlt : val s (a + 1) k < 18446744073709551616 := by
      have : (256 : Nat) ^ k ≤ 256 ^ 8 := Nat.pow_le_pow_right (by decide) hk8
      have e : ((256 : Int) ^ k) = ((256 ^ k : Nat) : Int) := by rw [Int.natCast_pow]; rfl
      have : (256 : Nat) ^ 8 = 18446744073709551616 := by decide
      omega
    refine ⟨⟨hv0, hlt⟩, by omega, by omega, ?_⟩
    rw [putL_big _ hbig, hw, Int.toNat_natCast]
    have hn : ((a : Int) + (bt s a - 246)).toNat - a = k + 1 := by omega
    first
      | (rw [hn, ht, be_val _ _ _ (by omega)]; congr 2; omega)
      | (rw [show (_ : Int).toNat - a = k + 1 by omega, ht, be_val _ _ _ (by omega)]; congr 2; omega)
  · simp at h
/-- From a to b stand the bytes l. -/
def eats (s : ByteArray) (a : Nat) (l : List UInt8) (b : Nat) : Prop := a ≤ b ∧ b ≤ s.size ∧ (s.data.toList.drop a).take (b - a) = l
theorem eats.nil {s : ByteArray} {a : Nat} (h : a ≤ s.size) : eats s a [] a := ⟨Nat.le_refl _, h, by simp⟩
theorem eats.app {s : ByteArray} {a b c : Nat} {l m : List UInt8} (h : eats s a l b) (k : eats s b m c) : eats s a (l ++ m) c := by
  obtain ⟨h1, h2, h3⟩ := h
  obtain ⟨k1, k2, k3⟩ := k
  refine ⟨by omega, k2, ?_⟩
  rw [show c - a = (b - a) + (c - b) by omega, List.take_add, h3, List.drop_drop, show a + (b - a) = b by omega, k3]
theorem numR_nat (s : ByteArray) (a : Nat) (x m : Int) : ∃ b : Nat, (numR s a x m).2.1 = b := by
  by_cases hx : x = 0
  · subst hx
    have e : (numR s a 0 m).2.1 = (upR s a m 5).2.1 := by unfold numR; rw [if_neg (by simp)]
    rw [e]
    rcases hg : getR s a with ⟨g1, g2, g3⟩
    rw [upR_of hg]
    split
    · exact ⟨a, rfl⟩
    · rename_i h3
      have h3' : g3 = 0 := by omega
      subst h3'
      have := getR_pos hg
      split
      · exact ⟨g2.toNat, by simp only; omega⟩
      · exact ⟨g2.toNat, by simp only; omega⟩
  · rw [numR_err hx]; exact ⟨a, rfl⟩
theorem numR_eats {s : ByteArray} {a : Nat} {x m : Int} (h : (numR s a x m).2.2 = 0) : x = 0 ∧ ∃ b : Nat, (numR s a x m).2.1 = b ∧ eats s a (putL (numR s a x m).1) b := by
  by_cases hx : x = 0
  · subst hx
    refine ⟨rfl, ?_⟩
    have e : numR s a 0 m = ((if (upR s a m 5).2.2 = 0 then (upR s a m 5).1 else 0), (upR s a m 5).2.1, (upR s a m 5).2.2) := by unfold numR; rw [if_neg (by simp)]
    rw [e] at h ⊢
    simp only at h ⊢
    rcases hg : getR s a with ⟨g1, g2, g3⟩
    rw [upR_of hg] at h ⊢
    split at h
    · rename_i h3; exact absurd h h3
    · rename_i h3
      rw [if_neg h3]
      have h3' : g3 = 0 := by omega
      subst h3'
      obtain ⟨_, h5, h6, h7⟩ := get_ok_at hg
      split at h
      · simp at h
      · rename_i h8
        rw [if_neg h8]
        simp only [if_true]
        exact ⟨g2.toNat, by omega, by omega, by omega, by rw [h7]⟩
  · rw [numR_err hx] at h; exact absurd h hx
theorem bigR_eats {s : ByteArray} {a : Nat} {x : Int} (h : (bigR s a x).2.2 = 0) : x = 0 ∧ ∃ b : Nat, (bigR s a x).2.1 = b ∧ eats s a (putL (bigR s a x).1) b := by
  by_cases hx : x = 0
  · subst hx
    refine ⟨rfl, ?_⟩
    have e : bigR s a 0 = ((if (getR s a).2.2 = 0 then (getR s a).1 else 0), (getR s a).2.1, (getR s a).2.2) := by unfold bigR; rw [if_neg (by simp)]
    rw [e] at h ⊢
    simp only at h ⊢
    rcases hg : getR s a with ⟨g1, g2, g3⟩
    rw [hg] at h
    simp only at h
    subst h
    obtain ⟨_, h5, h6, h7⟩ := get_ok_at hg
    simp only [if_true]
    exact ⟨g2.toNat, by omega, by omega, by omega, by rw [h7]⟩
  · rw [bigR_err hx] at h; exact absurd h hx
theorem numR_of {T : ByteArray} {a : Nat} {n m : Int} (h0 : 0 ≤ n) (h1 : n ≤ m) (h2 : m ≤ 9223372036854775807) (h : has T a (putL n)) (hs : a + (putL n).length ≤ T.size) : numR T a 0 m = (n, ((a + (putL n).length : Nat) : Int), 0) := by
  have hg := get_put n h0 (by omega) hs h
  have hl := putL_len n
  have hu := upR_of (m := m) (x := 5) hg
  rw [if_neg (by simp), if_neg (by omega)] at hu
  unfold numR
  rw [if_neg (by simp), hu]
  simp only [if_true]
  congr 2; omega
theorem bigR_of {T : ByteArray} {a : Nat} {m : Int} (h0 : 0 ≤ m) (h1 : m < 18446744073709551616) (h : has T a (putL m)) (hs : a + (putL m).length ≤ T.size) : bigR T a 0 = (m, ((a + (putL m).length : Nat) : Int), 0) := by
  have hg := get_put m h0 (by omega) hs h
  have hl := putL_len m
  unfold bigR
  rw [if_neg (by simp), hg]
  simp only [if_true]
  congr 2; omega
theorem list_of_take {s t : ByteArray} {a n : Nat} (h : t = s.extract a (a + n)) : t.data.toList = (s.data.toList.drop a).take n := by
  subst h
  rw [ByteArray.data_extract, Array.toList_extract]
  simp [List.extract]
theorem textR_eats {s : ByteArray} {a : Nat} {x m : Int} (h : (textR s a x m).2.2 = 0) : x = 0 ∧ ∃ b : Nat, (textR s a x m).2.1 = b ∧ eats s a (putL (((textR s a x m).1.size : Nat) : Int) ++ (textR s a x m).1.data.toList) b := by
  by_cases hx : x = 0
  · subst hx
    refine ⟨rfl, ?_⟩
    rcases hg : getR s a with ⟨g1, g2, g3⟩
    have hu := upR_of (m := m) (x := 3) hg
    unfold textR at h ⊢
    rw [if_neg (by simp)] at h ⊢
    rw [hu] at h ⊢
    by_cases h3 : g3 ≠ 0
    · rw [if_pos h3] at h; simp [h3] at h
    · rw [if_neg h3] at h ⊢
      have h3' : g3 = 0 := by omega
      subst h3'
      obtain ⟨h4, h5, h6, h7⟩ := get_ok_at hg
      by_cases h8 : m < 0 ∨ m < g1
      · rw [if_pos h8] at h; simp at h
      · rw [if_neg h8] at h ⊢
        simp only [ne_eq, not_true_eq_false, if_false] at h ⊢
        by_cases h9 : (s.size : Int) < g2 + g1
        · rw [if_pos h9] at h; simp at h
        · rw [if_neg h9]
          simp only
          have hsz : ((s.extract g2.toNat (g2.toNat + g1.toNat)).size : Int) = g1 := by rw [ByteArray.size_extract]; omega
          have e1 : eats s a (putL g1) g2.toNat := ⟨by omega, by omega, by rw [h7]⟩
          have e2 : eats s g2.toNat (s.extract g2.toNat (g2.toNat + g1.toNat)).data.toList (g2.toNat + g1.toNat) := ⟨by omega, by omega, by rw [list_of_take rfl]; congr 1; omega⟩
          rw [hsz]
          exact ⟨g2.toNat + g1.toNat, by omega, e1.app e2⟩
  · rw [textR_err hx] at h; exact absurd h hx
theorem flagR_eats {s : ByteArray} {a : Nat} {x : Int} (ha : x = 0 → a ≤ s.size) (h : (flagR s a x).2.2 = 0) : x = 0 ∧ ∃ b : Nat, (flagR s a x).2.1 = b ∧ eats s a [flagB (flagR s a x).1] b := by
  by_cases hx : x = 0
  · subst hx
    refine ⟨rfl, ?_⟩
    have ha' := ha rfl
    unfold flagR at h ⊢
    rw [if_neg (by simp)] at h ⊢
    by_cases h1 : a = s.size
    · rw [if_pos h1] at h; simp at h
    · rw [if_neg h1] at h ⊢
      by_cases h2 : 1 < bt s a
      · rw [if_pos h2] at h; simp at h
      · rw [if_neg h2]
        simp only
        have hal : a < s.data.toList.length := by
          have : a < s.size := by omega
          simpa using this
        have hd := bt_data s a
        simp only [List.getD, List.getElem?_eq_getElem hal, Option.getD_some] at hd
        have hb := bt_nonneg s a
        refine ⟨a + 1, by omega, by omega, by omega, ?_⟩
        rw [List.drop_eq_getElem_cons hal, show a + 1 - a = 0 + 1 by omega, List.take_succ_cons, List.take_zero]
        congr 1
        apply UInt8.toNat_inj.1
        show (s.data.toList[a]'hal).toNat = _
        rcases (show bt s a = 0 ∨ bt s a = 1 by omega) with h3 | h3
        · have h4 : (s.data.toList[a]'hal).toNat = 0 := by omega
          rw [h4, h3]; rfl
        · have h4 : (s.data.toList[a]'hal).toNat = 1 := by omega
          rw [h4, h3]; rfl
  · rw [flagR_err hx] at h; exact absurd h hx
theorem endV_eats {s : ByteArray} {a : Nat} {x : Int} (ha : x = 0 → a ≤ s.size) (h : endV s a x = 0) : x = 0 ∧ a = s.size := by
  unfold endV at h
  by_cases hx : x = 0
  · rw [if_pos hx] at h
    have := ha hx
    by_cases h1 : a < s.size
    · rw [if_pos h1] at h; omega
    · exact ⟨hx, by omega⟩
  · rw [if_neg hx] at h; exact absurd h hx
theorem eats.whole {s : ByteArray} {l : List UInt8} (h : eats s 0 l s.size) : (⟨l.toArray⟩ : ByteArray) = s := by
  obtain ⟨_, _, h3⟩ := h
  have : l = s.data.toList := by
    rw [← h3, List.drop_zero, List.take_of_length_le (by simp)]
  subst this; simp
theorem textR_of {T t : ByteArray} {a : Nat} {m : Int} (ht : (t.size : Int) ≤ m) (hm : m ≤ 9223372036854775807) (h : has T a (putL (t.size : Int) ++ t.data.toList)) (hs : a + (putL (t.size : Int) ++ t.data.toList).length ≤ T.size) :
    textR T a 0 m = (t, ((a + (putL (t.size : Int) ++ t.data.toList).length : Nat) : Int), 0) := by
  have hlt : t.data.toList.length = t.size := by simp
  rw [List.length_append, hlt] at hs
  obtain ⟨h1, h2⟩ := has_app h
  have hg := get_put (t.size : Int) (by omega) (by omega) (by omega) h1
  have hl := putL_len (t.size : Int)
  have hu := upR_of (m := m) (x := 3) hg
  rw [if_neg (by simp), if_neg (by omega)] at hu
  have hn : ((a : Int) + lenOf (t.size : Int)).toNat = a + (putL (t.size : Int)).length := by omega
  unfold textR
  rw [if_neg (by simp), hu, if_neg (by simp)]
  simp only
  rw [if_neg (by omega), hn, Int.toNat_natCast, extract_has h2 (by omega), List.length_append, hlt]
  refine Prod.ext rfl (Prod.ext ?_ rfl)
  show (a : Int) + lenOf (t.size : Int) + (t.size : Int) = ((a + ((putL (t.size : Int)).length + t.size) : Nat) : Int)
  omega
end Go.Proofs.Ythmljllgfigebaa
