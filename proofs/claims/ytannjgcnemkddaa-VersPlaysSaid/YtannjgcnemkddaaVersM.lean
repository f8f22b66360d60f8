/- What follows of versions that rise. Conditions: none. -/
import Derived.Test.YtannjgcnemkddaaVersG
namespace Go.Proofs.Ytannjgcnemkddaa
open Go.RowKit

theorem down_above (l : List CellT) (t : Int) : ∀ n j : Nat, down l t n < j → j < n → t < ts l j
  | 0, j, _, h => absurd h (by omega)
  | n + 1, j, h1, h2 => by
    rw [down] at h1
    split at h1
    · omega
    · by_cases hj : j = n
      · subst hj; omega
      · exact down_above l t n j h1 (by omega)
theorem down_mono (l : List CellT) {t t' : Int} (h : t' ≤ t) : ∀ n, down l t' n ≤ down l t n
  | 0 => by simp [down]
  | n + 1 => by
    have h1 := down_mono l h n
    have h2 := (down_bd l t' n).2.1
    rw [down, down]
    split
    · rw [if_pos (by omega)]; omega
    · split <;> omega
theorem lastI_mono (l : List CellT) {t t' : Int} (h : t' ≤ t) : lastI l t' ≤ lastI l t := down_mono l h _
theorem lastI_le {l : List CellT} (hr : rises 0 l = true) {t : Int} {j : Nat} (h : (j : Int) ≤ lastI l t) : ts l j ≤ t := by
  have hb := down_bd l t l.length
  have h2 : ts l (lastI l t).toNat ≤ t := hb.2.2 (show 0 ≤ lastI l t by omega)
  have h3 : lastI l t < l.length := hb.2.1
  by_cases e : (j : Int) = lastI l t
  · rw [← e, Int.toNat_natCast] at h2; exact h2
  · have := (rises_lt 0 l hr j (lastI l t).toNat (by omega) (by omega)).2
    omega
theorem lastI_gt {l : List CellT} {t : Int} {j : Nat} (h : lastI l t < j) (hj : j < l.length) : t < ts l j := down_above l t l.length j h hj
theorem ts_drop (l : List CellT) (k j : Nat) : ts (l.drop k) j = ts l (k + j) := by simp [ts, List.getD, List.getElem?_drop]
theorem cellAt_drop (l : List CellT) (k j : Nat) : cellAt (l.drop k) j = cellAt l (k + j) := by simp [cellAt, List.getD, List.getElem?_drop]
theorem rises_weak : ∀ {a b : Int} {l : List CellT}, rises a l = true → b ≤ a → rises b l = true
  | _, _, [], _, _ => rfl
  | a, b, c :: r, h, hb => by
    simp only [rises, Bool.and_eq_true, decide_eq_true_eq] at h ⊢
    exact ⟨by omega, h.2⟩
theorem rises_drop : ∀ (k : Nat) {a : Int} {l : List CellT}, rises a l = true → rises a (l.drop k) = true
  | 0, _, _, h => h
  | k + 1, _, [], h => h
  | k + 1, a, c :: r, h => by
    simp only [rises, Bool.and_eq_true, decide_eq_true_eq] at h
    rw [List.drop_succ_cons]
    exact rises_drop k (rises_weak h.2 (by omega))
theorem lastI_drop {l : List CellT} (hr : rises 0 l = true) {t : Int} {k : Nat} (h : (k : Int) ≤ lastI l t + 1) : lastI (l.drop k) t = lastI l t - k := by
  have hb : lastI l t < l.length := (down_bd l t l.length).2.1
  obtain ⟨n, hn⟩ := Int.eq_ofNat_of_zero_le (show 0 ≤ lastI l t + 1 - k by omega)
  have := down_at (l := l.drop k) (t := t) n (l.drop k).length (by simp; omega) (fun j hj => by rw [ts_drop]; exact lastI_le hr (by omega)) (fun j hj hjl => by
    rw [ts_drop]; simp at hjl; exact lastI_gt (by omega) (by omega))
  show down _ _ _ = _
  rw [this]; omega
theorem lastI_neg {l : List CellT} {t : Int} {k : Nat} (h : lastI l t + 1 ≤ k) : lastI (l.drop k) t = -1 := by
  have := down_at (l := l.drop k) (t := t) 0 (l.drop k).length (by omega) (fun j hj => by omega) (fun j hj hjl => by
    rw [ts_drop]; simp at hjl; exact lastI_gt (by omega) (by omega))
  show down _ _ _ = _
  rw [this]; rfl
theorem pruneN_zero {l : List CellT} {h : Int} (h1 : lastI l h ≤ 0) (h2 : lastI l h = 0 → (cellAt l 0).2.2 = false) : pruneN l h = 0 := by
  unfold pruneN
  split
  · rfl
  · have e : lastI l h = 0 := by omega
    have := h2 e
    rw [e, Int.toNat_zero, this]; rfl
/-- THE LAW OF PRUNING. -/
theorem prune_law {l : List CellT} (hr : rises 0 l = true) (h t T : Int) (htl : t ≤ h) (hT : h ≤ T) :
    rises 0 (l.drop (pruneN l h)) = true ∧ pruneN (l.drop (pruneN l h)) h = 0 ∧ pruneN (l.drop (pruneN l h)) t = 0 ∧ atS l T = atS (l.drop (pruneN l h)) T := by
  refine ⟨rises_drop _ hr, ?_⟩
  have hm := lastI_mono l hT
  have hbT : -1 ≤ lastI l T := (down_bd l T l.length).1
  by_cases h0 : lastI l h < 0
  · have e : pruneN l h = 0 := if_pos h0
    rw [e, List.drop_zero]
    exact ⟨e, if_pos (by have := lastI_mono l htl; omega), rfl⟩
  · obtain ⟨i, hi⟩ := Int.eq_ofNat_of_zero_le (show 0 ≤ lastI l h by omega)
    have e : pruneN l h = if (cellAt l i).2.2 = true then i + 1 else i := by
      unfold pruneN; rw [if_neg h0, hi, Int.toNat_natCast]
    obtain ⟨j, hj⟩ := Int.eq_ofNat_of_zero_le (show 0 ≤ lastI l T by omega)
    by_cases hd : (cellAt l i).2.2 = true
    · rw [if_pos hd] at e
      rw [e]
      have n1 : lastI (l.drop (i + 1)) h = -1 := lastI_neg (by omega)
      have n2 := lastI_mono (l.drop (i + 1)) htl
      refine ⟨if_pos (by omega), if_pos (by omega), ?_⟩
      have n3 := lastI_drop hr (t := T) (k := i + 1) (by omega)
      by_cases hij : j = i
      · subst hij
        rw [atS_some hj, if_pos hd, atS_none (by omega)]
      · have n4 : lastI (l.drop (i + 1)) T = ((j - (i + 1) : Nat) : Int) := by rw [n3]; omega
        rw [atS_some hj, atS_some n4, cellAt_drop, show i + 1 + (j - (i + 1)) = j by omega]
    · rw [if_neg hd] at e
      rw [e]
      have n1 := lastI_drop hr (t := h) (k := i) (by omega)
      have n2 := lastI_mono (l.drop i) htl
      have hd' : (cellAt (l.drop i) 0).2.2 = false := by rw [cellAt_drop, Nat.add_zero]; simpa using hd
      refine ⟨pruneN_zero (by omega) (fun _ => hd'), pruneN_zero (by omega) (fun _ => hd'), ?_⟩
      have n3 := lastI_drop hr (t := T) (k := i) (by omega)
      have n4 : lastI (l.drop i) T = ((j - i : Nat) : Int) := by rw [n3]; omega
      rw [atS_some hj, atS_some n4, cellAt_drop, show i + (j - i) = j by omega]
theorem ts_app {l : List CellT} (c : CellT) {j : Nat} (h : j < l.length) : ts (l ++ [c]) j = ts l j := by simp [ts, List.getD, List.getElem?_append_left h]
theorem ts_end (l : List CellT) (c : CellT) : ts (l ++ [c]) l.length = c.1 := by simp [ts, List.getD]
theorem cellAt_app {l : List CellT} (c : CellT) {j : Nat} (h : j < l.length) : cellAt (l ++ [c]) j = cellAt l j := by simp [cellAt, List.getD, List.getElem?_append_left h]
theorem cellAt_end (l : List CellT) (c : CellT) : cellAt (l ++ [c]) l.length = c := by simp [cellAt, List.getD]
theorem down_app (l : List CellT) (c : CellT) (t : Int) : ∀ n, n ≤ l.length → down (l ++ [c]) t n = down l t n
  | 0, _ => rfl
  | n + 1, h => by rw [down, down, ts_app c (by omega), down_app l c t n (by omega)]
theorem at_later (l : List CellT) (c : CellT) {t : Int} (h : c.1 ≤ t) : atS (l ++ [c]) t = if c.2.2 = true then (ByteArray.empty, false) else (c.2.1, true) := by
  have e : lastI (l ++ [c]) t = (l.length : Int) := by
    show down (l ++ [c]) t (l ++ [c]).length = _
    rw [List.length_append, List.length_singleton, down, ts_end, if_pos h]
  rw [atS_some e, cellAt_end]
theorem at_before (l : List CellT) (c : CellT) {t : Int} (h : t < c.1) : atS (l ++ [c]) t = atS l t := by
  have e : lastI (l ++ [c]) t = lastI l t := by
    show down (l ++ [c]) t (l ++ [c]).length = _
    rw [List.length_append, List.length_singleton, down, ts_end, if_neg (by omega), down_app l c t _ (Nat.le_refl _)]; rfl
  have hb : lastI l t < l.length := (down_bd l t l.length).2.1
  by_cases h0 : lastI l t < 0
  · rw [atS_none h0, atS_none (by omega)]
  · obtain ⟨k, hk⟩ := Int.eq_ofNat_of_zero_le (show 0 ≤ lastI l t by omega)
    rw [atS_some hk, atS_some (e.trans hk), cellAt_app c (by omega)]
end Go.Proofs.Ytannjgcnemkddaa
