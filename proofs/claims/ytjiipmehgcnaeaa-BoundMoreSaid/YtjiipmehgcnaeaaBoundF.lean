/- catenalaw20: BoundMore. Conditions: none. -/
import Derived.Test.YtjiipmehgcnaeaaBoundE
namespace Go.Proofs.Ytjiipmehgcnaeaa
open Go.RowKit Go.PlainAid
set_option linter.unusedSimpArgs false

theorem stN_cons (e : EntT) (r : List EntT) : stN (e :: r) = if e.ts ≠ 0 then stN r + 1 else 0 := by
  unfold stN
  by_cases h : e.ts = 0
  · simp [List.takeWhile_cons, h]
  · simp [List.takeWhile_cons, h]
theorem stN_ne : ∀ (l : List EntT) (j : Nat), j < stN l → tsAt l j ≠ 0
  | [], j, h => by simp [stN] at h
  | e :: r, j, h => by
    rw [stN_cons] at h
    split at h
    · rename_i he
      cases j with
      | zero => simpa [tsAt] using he
      | succ j => have := stN_ne r j (by omega); simpa [tsAt] using this
    · omega
theorem rise_le {l : List EntT} (h : Rises l l.length) : ∀ (d j : Nat), j + d < stN l → tsAt l j ≤ tsAt l (j + d)
  | 0, j, _ => Int.le_refl _
  | d + 1, j, hk => by
    have h1 := rise_le h d j (by omega)
    have hl := stN_le l
    have h2 := h (j + (d + 1)) (by omega) (by omega) (stN_ne l _ hk)
    rw [show j + (d + 1) - 1 = j + d by omega] at h2
    omega
theorem tsAt_pos {l : List EntT} (hok : ∀ e ∈ l, 0 ≤ e.ts) (j : Nat) : 0 ≤ tsAt l j := by
  by_cases h : j < l.length
  · rw [tsAt_get h]; exact hok _ (List.getElem_mem h)
  · unfold tsAt; rw [List.getD_eq_getElem?_getD, List.getElem?_eq_none (by omega)]; decide
theorem mark_mono {l : List EntT} (h : Rises l l.length) (hok : ∀ e ∈ l, 0 ≤ e.ts) (a b : Int) (hab : a ≤ b) : markR l a ≤ markR l b := by
  unfold markR
  split
  · split
    · exact Int.le_refl _
    · exact tsAt_pos hok _
  · rename_i h1
    rw [if_neg (by omega)]
    have := rise_le h ((min b (stN l) - 1).toNat - (min a (stN l) - 1).toNat) (min a (stN l) - 1).toNat (by omega)
    rw [show (min a (stN l) - 1).toNat + ((min b (stN l) - 1).toNat - (min a (stN l) - 1).toNat) = (min b (stN l) - 1).toNat by omega] at this
    exact this
theorem mark_last {l : List EntT} (h : Rises l l.length) (hok : ∀ e ∈ l, 0 ≤ e.ts) (a : Int) : markR l a ≤ lastR l := by
  unfold markR lastR
  split
  · split
    · exact Int.le_refl _
    · exact tsAt_pos hok _
  · rename_i h1
    rw [if_neg (by omega)]
    have := rise_le h (stN l - 1 - (min a (stN l) - 1).toNat) (min a (stN l) - 1).toNat (by omega)
    rw [show (min a (stN l) - 1).toNat + (stN l - 1 - (min a (stN l) - 1).toNat) = stN l - 1 by omega] at this
    exact this
theorem chk_more {t m h m' h' : Int} (hz : chkR t m h = 0) (h1 : m ≤ m') (h2 : h' ≤ h) : chkR t m' h' = 0 := by
  unfold chkR at hz ⊢
  split at hz
  · omega
  split at hz
  · omega
  rw [if_neg (by omega), if_neg (by omega)]
def A5 (n : Nat) (t0 t1 t2 t3 t4 : Int) (w w' : World) : Prop := (w'.cell? ⟨n, 0, none⟩ = some (.int .u64 t0) ∧ w'.cell? ⟨n, 1, none⟩ = some (.int .u64 t1) ∧ w'.cell? ⟨n, 2, none⟩ = some (.int .u64 t2) ∧ w'.cell? ⟨n, 3, none⟩ = some (.int .u64 t3) ∧ w'.cell? ⟨n, 4, none⟩ = some (.int .u64 t4)) ∧ Below w.heap.size w w'
theorem A5.below {n : Nat} {t0 t1 t2 t3 t4 : Int} {w w1 w2 : World} (h : A5 n t0 t1 t2 t3 t4 w w1) (hb : Below w1.heap.size w1 w2) : A5 n t0 t1 t2 t3 t4 w w2 :=
  ⟨⟨cell_below hb h.1.1, cell_below hb h.1.2.1, cell_below hb h.1.2.2.1, cell_below hb h.1.2.2.2.1, cell_below hb h.1.2.2.2.2⟩, h.2.trans (hb.mono h.2.size)⟩
/-- Behind the first test. -/
def Tail20 (v : Value) (l : List EntT) (n m : Int) (w w' : World) : Prop := Below w.heap.size w w'
set_option maxRecDepth 100000 in
set_option maxHeartbeats 25600000 in
theorem boundMore_any (v : Value) (l : List EntT) (n m t0 t1 t2 t3 t4 : Int) (w : World) (hs : SliceOf entE 4 w v l) (hok : ∀ e ∈ l, EntOk w e) (hn : 0 ≤ n ∧ n ≤ 255) (hm : 0 ≤ m ∧ m ≤ 255) :
    Calls Try.prog 8 #[v, .int .u8 n, .int .u8 m, .agg #[.int .u64 t0, .int .u64 t1, .int .u64 t2, .int .u64 t3, .int .u64 t4]] w fun e w' => e = .returned (.bool true) ∧ Below w.heap.size w w' := by
  obtain ⟨W, hW⟩ : ∃ W, W = w.alloc (.cells #[.int .u64 t0, .int .u64 t1, .int .u64 t2, .int .u64 t3, .int .u64 t4] 79) := ⟨_, rfl⟩
  have ha : A5 w.heap.size t0 t1 t2 t3 t4 w W := by
    rw [hW]; unfold A5; exact ⟨⟨by simp, by simp, by simp, by simp, by simp⟩, (Below.refl _ _).alloc (Nat.le_refl _) _⟩
  have HA := Lib.hid ha; have HW := Lib.hid hW; have HS := Lib.hid hs; have HOk := Lib.hid hok
  have HPos : Hid (∀ e ∈ l, 0 ≤ e.ts) := Lib.hid (fun e he => (hok e he).ts0)
  have hwn : IntKind.i64.wrap n = n := IntWalk.i64_in _ ⟨by omega, by omega⟩
  have hwm : IntKind.i64.wrap m = m := IntWalk.i64_in _ ⟨by omega, by omega⟩
  obtain ⟨n0, n1⟩ := hn
  obtain ⟨m0, m1⟩ := hm
  clear ha hW hs hok
  obtain ⟨c1, hc1⟩ : ∃ c1, chkR t0 t1 t2 = c1 := ⟨_, rfl⟩
  have HC1 := Lib.hid hc1
  clear hc1
  by_cases hz : c1 = 0
  · have hzb : (c1 == 0) = true := by simp [hz]
    have HMore : Hid (∀ a b : Int, t1 ≤ a → b ≤ t2 → chkR t0 a b = 0) := Lib.hid (fun a b h1 h2 => chk_more (HC1.out.trans hz) h1 h2)
    clear hz
    rcases (show t1 < t3 ∨ t3 ≤ t1 by omega) with q1 | q1 <;> rcases (show t4 < t2 ∨ t2 ≤ t4 by omega) with q2 | q2
    all_goals
      rcases (show n < m ∨ n = m ∨ m < n by omega) with q3 | rfl | q3
    all_goals
      go_enter Try.func8, Try.ntmps8
      go_wp2_with fail
      rw [← HW.out]
      refine (check_any t0 t1 t2 _).mono ?_
      rintro e w1 ⟨rfl, hb⟩
      rw [HC1.out]
      have HA1 := Lib.hid (HA.out.below hb); clear hb
      obtain ⟨g0, g1, g2, g3, g4⟩ := HA1.out.1
      go_wp2_with fail
      refine (check_any t0 _ _ _).mono ?_
      rintro e w2 ⟨rfl, hb⟩
      rw [HMore.out _ _ (by omega) (by omega)]
      have HAX := Lib.hid (HA1.out.below hb); clear hb
      clear g0 g1 g2 g3 g4
      go_wp2_with fail
      refine (much_any v l _ (HS.out.below HAX.out.2) (fun e he => (HOk.out e he).below HAX.out.2)).mono ?_
      rintro e wm ⟨k, rfl, rfl⟩
      by_cases hk : 100 < k
      · go_wp2_with fail
        refine (awake20 _).mono ?_
        rintro e w9 ⟨rfl, hb⟩
        have HB9 := Lib.hid (HAX.out.2.trans (hb.mono HAX.out.2.size)); clear hb
        go_wp2
        go_ret
        exact ⟨rfl, HB9.out⟩
      go_wp2_with fail
      refine (right_any v l _ (HS.out.below HAX.out.2) (fun e he => (HOk.out e he).below HAX.out.2)).mono ?_
      rintro e wr2 ⟨r, rfl, hri, hb⟩
      have HAY := Lib.hid (HAX.out.below hb); clear hb
      by_cases hr0 : r = 0
      · have hrb : (r != 0) = false := by simp [hr0]
        have HRi := Lib.hid (hri hr0)
        clear hri hr0
        have hm1 := mark_mono HRi.out HPos.out
        have HMono := Lib.hid hm1
        have hl1 := mark_last HRi.out HPos.out n
        clear hm1
        first
          | have hm2 := HMono.out n m (by omega)
          | have hm2 := HMono.out m n (by omega)
          | skip
        go_wp2_with fail
        refine (mark_any v l _ _ (HS.out.below HAY.out.2) (by omega) (by omega)).mono ?_
        rintro e w5 ⟨rfl, rfl⟩
        go_wp2_with fail
        refine (mark_any v l _ _ (HS.out.below HAY.out.2) (by omega) (by omega)).mono ?_
        rintro e w5 ⟨rfl, rfl⟩
        go_wp2_with fail
        refine (mark_any v l _ _ (HS.out.below HAY.out.2) (by omega) (by omega)).mono ?_
        rintro e w5 ⟨rfl, rfl⟩
        go_wp2_with fail
        refine (rlast_any v l _ (HS.out.below HAY.out.2)).mono ?_
        rintro e w5 ⟨rfl, rfl⟩
        go_wp2_with fail
        refine (awake20 _).mono ?_
        rintro e w9 ⟨rfl, hb⟩
        have HB9 := Lib.hid (HAY.out.2.trans (hb.mono HAY.out.2.size)); clear hb
        go_wp2
        go_ret
        exact ⟨rfl, HB9.out⟩
      · have hrb : (r != 0) = true := by simp [hr0]
        clear hri hr0
        go_wp2_with fail
        refine (awake20 _).mono ?_
        rintro e w9 ⟨rfl, hb⟩
        have HB9 := Lib.hid (HAY.out.2.trans (hb.mono HAY.out.2.size)); clear hb
        go_wp2
        go_ret
        exact ⟨rfl, HB9.out⟩
  · have hzb : (c1 == 0) = false := by simp [hz]
    clear hz
    rcases (show n < m ∨ n = m ∨ m < n by omega) with q3 | rfl | q3
    all_goals
      go_enter Try.func8, Try.ntmps8
      go_wp2_with fail
      rw [← HW.out]
      refine (check_any t0 t1 t2 _).mono ?_
      rintro e w1 ⟨rfl, hb⟩
      rw [HC1.out]
      have HA1 := Lib.hid (HA.out.below hb); clear hb
      obtain ⟨g0, g1, g2, g3, g4⟩ := HA1.out.1
      have HAX := Lib.hid HA1.out
      clear g0 g1 g2 g3 g4
      go_wp2_with fail
      refine (much_any v l _ (HS.out.below HAX.out.2) (fun e he => (HOk.out e he).below HAX.out.2)).mono ?_
      rintro e wm ⟨k, rfl, rfl⟩
      by_cases hk : 100 < k
      · go_wp2_with fail
        refine (awake20 _).mono ?_
        rintro e w9 ⟨rfl, hb⟩
        have HB9 := Lib.hid (HAX.out.2.trans (hb.mono HAX.out.2.size)); clear hb
        go_wp2
        go_ret
        exact ⟨rfl, HB9.out⟩
      go_wp2_with fail
      refine (right_any v l _ (HS.out.below HAX.out.2) (fun e he => (HOk.out e he).below HAX.out.2)).mono ?_
      rintro e wr2 ⟨r, rfl, hri, hb⟩
      have HAY := Lib.hid (HAX.out.below hb); clear hb
      by_cases hr0 : r = 0
      · have hrb : (r != 0) = false := by simp [hr0]
        have HRi := Lib.hid (hri hr0)
        clear hri hr0
        have hm1 := mark_mono HRi.out HPos.out
        have HMono := Lib.hid hm1
        have hl1 := mark_last HRi.out HPos.out n
        clear hm1
        first
          | have hm2 := HMono.out n m (by omega)
          | have hm2 := HMono.out m n (by omega)
          | skip
        go_wp2_with fail
        refine (mark_any v l _ _ (HS.out.below HAY.out.2) (by omega) (by omega)).mono ?_
        rintro e w5 ⟨rfl, rfl⟩
        go_wp2_with fail
        refine (mark_any v l _ _ (HS.out.below HAY.out.2) (by omega) (by omega)).mono ?_
        rintro e w5 ⟨rfl, rfl⟩
        go_wp2_with fail
        refine (mark_any v l _ _ (HS.out.below HAY.out.2) (by omega) (by omega)).mono ?_
        rintro e w5 ⟨rfl, rfl⟩
        go_wp2_with fail
        refine (rlast_any v l _ (HS.out.below HAY.out.2)).mono ?_
        rintro e w5 ⟨rfl, rfl⟩
        go_wp2_with fail
        refine (awake20 _).mono ?_
        rintro e w9 ⟨rfl, hb⟩
        have HB9 := Lib.hid (HAY.out.2.trans (hb.mono HAY.out.2.size)); clear hb
        go_wp2
        go_ret
        exact ⟨rfl, HB9.out⟩
      · have hrb : (r != 0) = true := by simp [hr0]
        clear hri hr0
        go_wp2_with fail
        refine (awake20 _).mono ?_
        rintro e w9 ⟨rfl, hb⟩
        have HB9 := Lib.hid (HAY.out.2.trans (hb.mono HAY.out.2.size)); clear hb
        go_wp2
        go_ret
        exact ⟨rfl, HB9.out⟩
end Go.Proofs.Ytjiipmehgcnaeaa
