/- Configurations: what is put is read as it was, what is read is put so; without the program. Conditions: none. -/
import Derived.Test.YtghjhkojehlfmaaConfN
import Derived.Test.YtghjhkojehlfmaaVnD
namespace Go.Proofs.Ytghjhkojehlfmaa
open Go.RowKit Go.PlainAid

theorem get_ok_at {s : ByteArray} {a : Nat} {y to : Int} (h : getR s a = (y, to, 0)) : (0 ≤ y ∧ y < 18446744073709551616) ∧ (a : Int) < to ∧ to ≤ s.size ∧ putL y = (s.data.toList.drop a).take (to.toNat - a) := by
  unfold getR at h
  split at h
  · simp at h
  split at h
  · simp at h
  rename_i h0 h1
  rw [Int.toNat_natCast] at h
  have hs : a < s.size := by omega
  have hb := bt_nonneg s a
  have hb2 := bt_le s a
  have hal : a < s.data.toList.length := by simpa using hs
  have hd : s.data.toList[a]'hal = UInt8.ofNat (bt s a).toNat := by
    have hd := bt_data s a
    simp only [List.getD, List.getElem?_eq_getElem hal, Option.getD_some] at hd
    rw [hd, Int.toNat_natCast, UInt8.ofNat_toNat]
  have ht : ∀ k, (s.data.toList.drop a).take (k + 1) = UInt8.ofNat (bt s a).toNat :: (s.data.toList.drop (a + 1)).take k := by
    intro k
    rw [← hd, List.drop_eq_getElem_cons hal, List.take_succ_cons]
  split at h
  · rename_i h2
    simp only [Prod.mk.injEq, and_true] at h
    obtain ⟨rfl, rfl⟩ := h
    refine ⟨⟨hb, by omega⟩, by omega, by omega, ?_⟩
    rw [putL_small _ h2, show ((a : Int) + 1).toNat - a = 0 + 1 by omega, ht]; simp
  split at h
  · simp at h
  split at h
  · rename_i h2 h3 h4
    simp only [Prod.mk.injEq, and_true] at h
    obtain ⟨rfl, rfl⟩ := h
    obtain ⟨k, hk⟩ := Int.eq_ofNat_of_zero_le (show 0 ≤ bt s a - 247 by omega)
    rw [hk, Int.toNat_natCast] at h4 ⊢
    have hv0 := val_nonneg s (a + 1) k
    have hv1 := val_lt s (a + 1) k
    have hk8 : k ≤ 8 := by omega
    have hbig : ¬ val s (a + 1) k < 248 := by
      intro hc; rw [lenOf_small _ hc] at h4; omega
    have hw : wd (val s (a + 1) k) = k := by rw [lenOf_big _ hbig] at h4; omega
    have hlt : val s (a + 1) k < 18446744073709551616 := by
      have : (256 : Nat) ^ k ≤ 256 ^ 8 := Nat.pow_le_pow_right (by decide) hk8
      have e : ((256 : Int) ^ k) = ((256 ^ k : Nat) : Int) := by rw [Int.natCast_pow]; rfl
      have : (256 : Nat) ^ 8 = 18446744073709551616 := by decide
      omega
    refine ⟨⟨hv0, hlt⟩, by omega, by omega, ?_⟩
    rw [putL_big _ hbig, hw, Int.toNat_natCast]
    have hn : ((a : Int) + (bt s a - 246)).toNat - a = k + 1 := by omega
    first
      | (rw [hn, ht, be_val _ _ _ (by omega)]; congr 2; omega)
      | (rw [show (_ : Int).toNat - a = k + 1 by omega, ht, be_val _ _ _ (by omega)]; congr 2; omega)
  · simp at h
/-- From a to b stand the bytes l. -/
def eats (s : ByteArray) (a : Nat) (l : List UInt8) (b : Nat) : Prop := a ≤ b ∧ b ≤ s.size ∧ (s.data.toList.drop a).take (b - a) = l
theorem eats.nil {s : ByteArray} {a : Nat} (h : a ≤ s.size) : eats s a [] a := ⟨Nat.le_refl _, h, by simp⟩
theorem eats.app {s : ByteArray} {a b c : Nat} {l m : List UInt8} (h : eats s a l b) (k : eats s b m c) : eats s a (l ++ m) c := by
  obtain ⟨h1, h2, h3⟩ := h
  obtain ⟨k1, k2, k3⟩ := k
  refine ⟨by omega, k2, ?_⟩
  rw [show c - a = (b - a) + (c - b) by omega, List.take_add, h3, List.drop_drop, show a + (b - a) = b by omega, k3]
theorem numR_nat (s : ByteArray) (a : Nat) (x m : Int) : ∃ b : Nat, (numR s a x m).2.1 = b := by
  by_cases hx : x = 0
  · subst hx
    have e : (numR s a 0 m).2.1 = (upR s a m 5).2.1 := by unfold numR; rw [if_neg (by simp)]
    rw [e]
    rcases hg : getR s a with ⟨g1, g2, g3⟩
    rw [upR_of hg]
    split
    · exact ⟨a, rfl⟩
    · rename_i h3
      have h3' : g3 = 0 := by omega
      subst h3'
      have := getR_pos hg
      split
      · exact ⟨g2.toNat, by simp only; omega⟩
      · exact ⟨g2.toNat, by simp only; omega⟩
  · rw [numR_err hx]; exact ⟨a, rfl⟩
theorem numR_eats {s : ByteArray} {a : Nat} {x m : Int} (h : (numR s a x m).2.2 = 0) : x = 0 ∧ ∃ b : Nat, (numR s a x m).2.1 = b ∧ eats s a (putL (numR s a x m).1) b := by
  by_cases hx : x = 0
  · subst hx
    refine ⟨rfl, ?_⟩
    have e : numR s a 0 m = ((if (upR s a m 5).2.2 = 0 then (upR s a m 5).1 else 0), (upR s a m 5).2.1, (upR s a m 5).2.2) := by unfold numR; rw [if_neg (by simp)]
    rw [e] at h ⊢
    simp only at h ⊢
    rcases hg : getR s a with ⟨g1, g2, g3⟩
    rw [upR_of hg] at h ⊢
    split at h
    · rename_i h3; exact absurd h h3
    · rename_i h3
      rw [if_neg h3]
      have h3' : g3 = 0 := by omega
      subst h3'
      obtain ⟨_, h5, h6, h7⟩ := get_ok_at hg
      split at h
      · simp at h
      · rename_i h8
        rw [if_neg h8]
        simp only [if_true]
        exact ⟨g2.toNat, by omega, by omega, by omega, by rw [h7]⟩
  · rw [numR_err hx] at h; exact absurd h hx
theorem bigR_eats {s : ByteArray} {a : Nat} {x : Int} (h : (bigR s a x).2.2 = 0) : x = 0 ∧ ∃ b : Nat, (bigR s a x).2.1 = b ∧ eats s a (putL (bigR s a x).1) b := by
  by_cases hx : x = 0
  · subst hx
    refine ⟨rfl, ?_⟩
    have e : bigR s a 0 = ((if (getR s a).2.2 = 0 then (getR s a).1 else 0), (getR s a).2.1, (getR s a).2.2) := by unfold bigR; rw [if_neg (by simp)]
    rw [e] at h ⊢
    simp only at h ⊢
    rcases hg : getR s a with ⟨g1, g2, g3⟩
    rw [hg] at h
    simp only at h
    subst h
    obtain ⟨_, h5, h6, h7⟩ := get_ok_at hg
    simp only [if_true]
    exact ⟨g2.toNat, by omega, by omega, by omega, by rw [h7]⟩
  · rw [bigR_err hx] at h; exact absurd h hx
theorem ofRows_eats (s : ByteArray) : ∀ (k : Nat) (a : Nat) (x : Int) (acc : List MemT), a ≤ s.size ∨ x ≠ 0 → (ofRows s k a x acc).2.2 = 0 → x = 0 ∧ ∃ b : Nat, (ofRows s k a x acc).2.1 = b ∧ ∃ new, (ofRows s k a x acc).1 = acc ++ new ∧ new.length = k ∧ eats s a (putM new) b
  | 0, a, x, acc, ha, h => by
    have hx : x = 0 := h
    exact ⟨hx, a, rfl, [], by simp [ofRows], rfl, eats.nil (by rcases ha with h1 | h1; exact h1; exact absurd hx h1)⟩
  | k + 1, a, x, acc, ha, h => by
    have e : ofRows s (k + 1) a x acc = ofRows s k (numR s (numR s a x 3).2.1 (numR s a x 3).2.2 1073741824).2.1 (numR s (numR s a x 3).2.1 (numR s a x 3).2.2 1073741824).2.2 (acc ++ [((numR s a x 3).1, (numR s (numR s a x 3).2.1 (numR s a x 3).2.2 1073741824).1)]) := rfl
    rw [e] at h ⊢
    obtain ⟨b1, hb1⟩ := numR_nat s a x 3
    rw [hb1] at h ⊢
    obtain ⟨b2, hb2⟩ := numR_nat s b1 (numR s a x 3).2.2 1073741824
    rw [hb2] at h ⊢
    have hpos : b2 ≤ s.size ∨ (numR s b1 (numR s a x 3).2.2 1073741824).2.2 ≠ 0 := by
      by_cases hz : (numR s b1 (numR s a x 3).2.2 1073741824).2.2 = 0
      · left
        obtain ⟨_, b, hb, he⟩ := numR_eats hz
        have := he.2.1; omega
      · exact Or.inr hz
    obtain ⟨hz2, b, hb, new, hnew, hlen, hea⟩ := ofRows_eats s k b2 _ _ hpos h
    obtain ⟨hz1, c2, hc2, he2⟩ := numR_eats hz2
    obtain ⟨hz0, c1, hc1, he1⟩ := numR_eats hz1
    have e1 : c1 = b1 := by omega
    have e2 : c2 = b2 := by omega
    subst e1 e2
    refine ⟨hz0, b, hb, ((numR s a x 3).1, (numR s c1 (numR s a x 3).2.2 1073741824).1) :: new, by rw [hnew]; simp, by simp [hlen], ?_⟩
    have := (he1.app he2).app hea
    simpa [putM] using this
theorem of_back {s : ByteArray} (h : ofErr s = 0) : (⟨(putC (ofAll s).1 (ofAll s).2.1 (ofAll s).2.2.1).toArray⟩ : ByteArray) = s ∧ chkC (ofAll s).1 (ofAll s).2.1 = 0 := by
  unfold ofErr at h
  split at h
  · rename_i h1; exact absurd h h1
  rename_i h1
  refine ⟨?_, h⟩
  have hE : endV s (ofAll s).2.2.2.1.toNat (ofAll s).2.2.2.2 = 0 := by omega
  clear h h1
  unfold ofAll at hE ⊢
  simp only at hE ⊢
  obtain ⟨a0, ha0⟩ := numR_nat s 0 0 1073741824
  have ha0' : (numR s 0 0 1073741824).2.1 = a0 := ha0
  rw [ha0'] at hE ⊢
  obtain ⟨a1, ha1⟩ := numR_nat s a0 (numR s 0 0 1073741824).2.2 4
  rw [ha1] at hE ⊢
  obtain ⟨nn, hnn⟩ : ∃ nn : Nat, (numR s a0 (numR s 0 0 1073741824).2.2 4).1 = (nn : Int) := ⟨_, (Int.toNat_of_nonneg (numR_bd s a0 _ 4 (by omega)).1).symm⟩
  rw [hnn, Int.toNat_natCast] at hE ⊢
  generalize hR : ofRows s nn a1 (numR s a0 (numR s 0 0 1073741824).2.2 4).2.2 [] = R at hE ⊢
  unfold endV at hE
  have hx : (bigR s R.2.1 R.2.2).2.2 = 0 := by
    by_cases hx : (bigR s R.2.1 R.2.2).2.2 = 0
    · exact hx
    · rw [if_neg hx] at hE; exact hE
  rw [if_pos hx] at hE
  have hend : ¬ (bigR s R.2.1 R.2.2).2.1.toNat < s.size := by
    intro hlt; rw [if_pos hlt] at hE; simp at hE
  have hR2 : R.2.2 = 0 := by
    by_cases hz : R.2.2 = 0
    · exact hz
    · rw [bigR_err hz] at hx; exact absurd hx hz
  have hpos1 : a1 ≤ s.size ∨ (numR s a0 (numR s 0 0 1073741824).2.2 4).2.2 ≠ 0 := by
    by_cases hz : (numR s a0 (numR s 0 0 1073741824).2.2 4).2.2 = 0
    · left
      obtain ⟨_, b, hb, he⟩ := numR_eats hz
      have := he.2.1; omega
    · exact Or.inr hz
  obtain ⟨hz1, b, hb, new, hnew, hlen, hea⟩ := ofRows_eats s nn a1 _ [] hpos1 (by rw [hR]; exact hR2)
  rw [hR] at hb hnew
  obtain ⟨hz0, c1, hc1, he1⟩ := numR_eats hz1
  obtain ⟨_, c0, hc0, he0⟩ := numR_eats (a := 0) hz0
  have e1 : c1 = a1 := by omega
  have e0 : c0 = a0 := by have : ((0 : Nat) : Int) = 0 := rfl; rw [this] at hc0; omega
  subst e1 e0
  rw [hb] at hx hend ⊢
  obtain ⟨_, c3, hc3, he3⟩ := bigR_eats hx
  rw [hc3, Int.toNat_natCast] at hend
  have hall := ((he0.app he1).app hea).app he3
  have hc3s : c3 = s.size := by have := hall.2.1; omega
  have hl : s.data.toList = putC (numR s 0 0 1073741824).1 R.1 (bigR s b R.2.2).1 := by
    have := hall.2.2
    rw [hc3s, Nat.sub_zero, List.drop_zero, List.take_of_length_le (by simp)] at this
    rw [this]
    unfold putC
    rw [hnew, List.nil_append, hlen, hnn]
    rfl
  rw [← hl]
/-- What was put is read. -/
theorem numR_of {T : ByteArray} {a : Nat} {n m : Int} (h0 : 0 ≤ n) (h1 : n ≤ m) (h2 : m ≤ 9223372036854775807) (h : has T a (putL n)) (hs : a + (putL n).length ≤ T.size) : numR T a 0 m = (n, ((a + (putL n).length : Nat) : Int), 0) := by
  have hg := get_put n h0 (by omega) hs h
  have hl := putL_len n
  have hu := upR_of (m := m) (x := 5) hg
  rw [if_neg (by simp), if_neg (by omega)] at hu
  unfold numR
  rw [if_neg (by simp), hu]
  simp only [if_true]
  congr 2; omega
theorem bigR_of {T : ByteArray} {a : Nat} {m : Int} (h0 : 0 ≤ m) (h1 : m < 18446744073709551616) (h : has T a (putL m)) (hs : a + (putL m).length ≤ T.size) : bigR T a 0 = (m, ((a + (putL m).length : Nat) : Int), 0) := by
  have hg := get_put m h0 (by omega) hs h
  have hl := putL_len m
  unfold bigR
  rw [if_neg (by simp), hg]
  simp only [if_true]
  congr 2; omega
theorem ofRows_put {T : ByteArray} : ∀ (l : List MemT) (a : Nat) (acc : List MemT), (∀ m ∈ l, (0 ≤ m.1 ∧ m.1 < 4) ∧ (1 ≤ m.2 ∧ m.2 ≤ 1073741824)) → has T a (putM l) → a + (putM l).length ≤ T.size → ofRows T l.length a 0 acc = (acc ++ l, ((a + (putM l).length : Nat) : Int), 0)
  | [], a, acc, _, _, _ => by simp [ofRows, putM]
  | m :: r, a, acc, hm, hh, hs => by
    have e : putM (m :: r) = putL m.1 ++ (putL m.2 ++ putM r) := by simp [putM]
    rw [e] at hh hs
    simp only [List.length_append] at hs
    obtain ⟨h1, h2⟩ := has_app hh
    obtain ⟨h3, h4⟩ := has_app h2
    have hmm := hm m (by simp)
    have k1 := numR_of (m := 3) hmm.1.1 (by omega) (by omega) h1 (by omega)
    have k2 := numR_of (m := 1073741824) (by omega) hmm.2.2 (by omega) h3 (by omega)
    show ofRows T (r.length + 1) a 0 acc = _
    unfold ofRows
    rw [k1]
    simp only
    rw [k2]
    simp only
    rw [ofRows_put r _ _ (fun x hx => hm x (by simp [hx])) h4 (by omega), e]
    simp only [List.length_append, List.append_assoc, List.singleton_append]
    refine Prod.ext rfl (Prod.ext ?_ rfl)
    simp only
    omega
theorem of_put {ep fl : Int} {ms : List MemT} (hc : chkC ep ms = 0) (hf0 : 0 ≤ fl) (hf1 : fl < 18446744073709551616) : ofErr ⟨(putC ep ms fl).toArray⟩ = 0 ∧ (ofAll ⟨(putC ep ms fl).toArray⟩).1 = ep ∧ (ofAll ⟨(putC ep ms fl).toArray⟩).2.1 = ms ∧ (ofAll ⟨(putC ep ms fl).toArray⟩).2.2.1 = fl := by
  obtain ⟨⟨e1, e2⟩, ⟨l1, l2⟩, hm0, hmem⟩ := chkC_ok hc
  have hself := has_self (putC ep ms fl)
  have hsz : (⟨(putC ep ms fl).toArray⟩ : ByteArray).size = (putC ep ms fl).length := rfl
  generalize hT : (⟨(putC ep ms fl).toArray⟩ : ByteArray) = T at hself hsz ⊢
  have hlen : (putC ep ms fl).length = (putL ep).length + (putL (ms.length : Int)).length + (putM ms).length + (putL fl).length := by unfold putC; simp only [List.length_append]
  unfold putC at hself
  obtain ⟨h123, h4⟩ := has_app hself
  obtain ⟨h12, h3⟩ := has_app h123
  obtain ⟨h1, h2⟩ := has_app h12
  simp only [List.length_append, Nat.zero_add] at h2 h3 h4
  have k0 := numR_of (m := 1073741824) (by omega) e2 (by omega) h1 (by omega)
  have k1 := numR_of (m := 4) (by omega) (by omega) (by omega) h2 (by omega)
  have k2 := ofRows_put ms _ [] hmem h3 (by omega)
  have k3 := bigR_of hf0 hf1 h4 (by omega)
  have hall : ofAll T = (ep, ms, fl, (((putL ep).length + (putL (ms.length : Int)).length + (putM ms).length + (putL fl).length : Nat) : Int), 0) := by
    unfold ofAll
    simp only
    rw [show (0 : Int) = ((0 : Nat) : Int) from rfl] at k0 ⊢
    rw [k0]
    simp only [Nat.zero_add]
    rw [show ((0 : Nat) : Int) = 0 from rfl, k1]
    simp only [Int.toNat_natCast]
    rw [k2]
    simp only [List.nil_append]
    rw [k3]
  refine ⟨?_, by rw [hall], by rw [hall], by rw [hall]⟩
  unfold ofErr
  rw [hall]
  simp only
  have : endV T (((putL ep).length + (putL (ms.length : Int)).length + (putM ms).length + (putL fl).length : Nat) : Int).toNat 0 = 0 := by
    unfold endV; rw [if_pos rfl, if_neg (by rw [Int.toNat_natCast]; omega)]
  rw [this, if_neg (by simp)]
  exact hc
end Go.Proofs.Ytghjhkojehlfmaa
