/- Put together: WireU, WireV, Eats, OpsD, OpsM, OpsN, OpsO. Conditions: as each says. -/
import Derived.Test.YtciilfkjecmdiaaBo7
import Derived.Test.YtciilfkjecmdiaaBo4
import Derived.Test.YtciilfkjecmdiaaBo5
/- Package catenalaw02: WireReads. Conditions: a text of at most 2^63-1 bytes. -/
namespace Go.Proofs.Ytciilfkjecmdiaa
open Go.RowKit Go.PlainAid

/-- Both readers stand alike. -/
def ST (N : Nat) (s : ByteArray) (a x : Int) (w w' : World) : Prop := RE w' N s a x ∧ XRE w' (N + 1) s a x ∧ Below w.heap.size w w'
theorem ST.start {N : Nat} {s : ByteArray} {a x : Int} {w w' : World} (h : ST N s a x w w') : w'.drew.cell? ⟨N + 1, 2, none⟩ = some (.int .i64 x) ∧ ST N s a x w w'.drew :=
  ⟨h.2.1.cell, h.1.below (Below.refl _ _).drew, h.2.1.below (Below.refl _ _).drew, h.2.2.drew⟩
theorem ST.step {N : Nat} {s : ByteArray} {a x : Int} {w w1 w2 : World} (h : w1.cell? ⟨N + 1, 2, none⟩ = some (.int .i64 x) ∧ ST N s a x w w1) (hb : Below w1.heap.size w1 w2) : w2.cell? ⟨N + 1, 2, none⟩ = some (.int .i64 x) ∧ ST N s a x w w2 :=
  ⟨cell_below hb h.1, h.2.1.below hb, h.2.2.1.below hb, h.2.2.2.trans (hb.mono h.2.2.2.size)⟩
theorem ST.one {N : Nat} {s : ByteArray} {a x a' x' : Int} {w w1 w2 : World} (h : ST N s a x w w1) (hN : N = w.heap.size) (h1 : RE w2 N s a' x') (hb : But (Own N) w1 w2) : XRE w2 (N + 1) s a x ∧ Below w.heap.size w w2 := by
  subst hN
  exact ⟨h.2.1.but hb (by unfold Own; omega), below_but h.2.2 hb h.2.2.size (fun k _ hk => by unfold Own at hk; omega)⟩
theorem ST.two {N : Nat} {s : ByteArray} {a' x' : Int} {w w2 w3 : World} (hN : N = w.heap.size) (h1 : RE w2 N s a' x') (hbl : Below w.heap.size w w2) (h2 : XRE w3 (N + 1) s a' x') (hb : But (Own (N + 1)) w2 w3) : ST N s a' x' w w3 := by
  subst hN
  exact ⟨h1.but hb (by unfold Own; omega), h2, below_but hbl hb hbl.size (fun k _ hk => by unfold Own at hk; omega)⟩
theorem ST.out {N : Nat} {s : ByteArray} {a x : Int} {w w' : World} (h : w'.cell? ⟨N + 1, 2, none⟩ = some (.int .i64 x) ∧ ST N s a x w w') : ST N s a x w w' := h.2
theorem ST.re {N : Nat} {s : ByteArray} {a x : Int} {w w' : World} (h : w'.cell? ⟨N + 1, 2, none⟩ = some (.int .i64 x) ∧ ST N s a x w w') : RE w' N s a x := h.2.1
theorem ST.xre {N : Nat} {s : ByteArray} {a x : Int} {w w' : World} (h : w'.cell? ⟨N + 1, 2, none⟩ = some (.int .i64 x) ∧ ST N s a x w w') : XRE w' (N + 1) s a x := h.2.2.1
-- left out here


























































































































































































































































-- left out here


end Go.Proofs.Ytciilfkjecmdiaa

/- What is written is read as it was: without the program. Conditions: none. -/
namespace Go.Proofs.Ytciilfkjecmdiaa
open Go.RowKit Go.PlainAid

/-- A part's bytes. -/
def encP (p : PartT) : List UInt8 := if p.k = 0 then putL (if p.n < 0 then 0 else p.n) else if p.k = 1 then putL p.b else if p.k = 2 then putL (p.s.size : Int) ++ p.s.data.toList else [flagB p.f]
def catP (l : List PartT) : List UInt8 := l.flatMap encP
theorem catP_snoc (l : List PartT) (p : PartT) : catP (l ++ [p]) = catP l ++ encP p := by simp [catP]
theorem encP_len (p : PartT) : (encP p).length ≤ 9 + p.s.size := by
  have h1 := putL_le (if p.n < 0 then 0 else p.n); have h2 := putL_le p.b; have h3 := putL_le (p.s.size : Int)
  unfold encP
  split
  · omega
  split
  · omega
  split
  · simp only [List.length_append, Array.length_toList, ByteArray.size_data]; omega
  · simp only [List.length_cons, List.length_nil]; omega
theorem catP_at {l : List PartT} {i M : Nat} (h : i < M) (hM : M ≤ l.length) : ∃ rest, catP (l.take M) = catP (l.take i) ++ (encP (l[i]'(by omega)) ++ rest) := by
  have h1 : l.take M = (l.take M).take (i + 1) ++ (l.take M).drop (i + 1) := (List.take_append_drop _ _).symm
  rw [List.take_take, Nat.min_eq_left (by omega), take_snoc (show i < l.length by omega)] at h1
  obtain ⟨D, hD⟩ : ∃ D, D = (l.take M).drop (i + 1) := ⟨_, rfl⟩
  rw [← hD] at h1
  refine ⟨catP D, ?_⟩
  rw [h1]
  simp only [catP, List.flatMap_append, List.flatMap_cons, List.flatMap_nil, List.append_nil, List.append_assoc]
theorem has_front (l : List UInt8) (c : ByteArray) : has (⟨l.toArray⟩ ++ c) 0 l := by
  intro j hj
  rw [Nat.zero_add, bt_app_left _ _ _ (show j < (⟨l.toArray⟩ : ByteArray).size from hj), bt_lit _ _ hj]
theorem size_front (l : List UInt8) (c : ByteArray) : ((⟨l.toArray⟩ ++ c : ByteArray)).size = l.length + c.size := by
  rw [ByteArray.size_append]; rfl
/-- The part that stands at place i. -/
theorem back_has {l : List PartT} {i M : Nat} (c : ByteArray) (h : i < M) (hM : M ≤ l.length) :
    has (⟨(catP (l.take M)).toArray⟩ ++ c) (catP (l.take i)).length (encP (l[i]'(by omega))) ∧ (catP (l.take i)).length + (encP (l[i]'(by omega))).length ≤ ((⟨(catP (l.take M)).toArray⟩ ++ c : ByteArray)).size := by
  obtain ⟨rest, hr⟩ := catP_at h hM
  have h1 := has_front (catP (l.take M)) c
  have h2 : has (⟨(catP (l.take M)).toArray⟩ ++ c) 0 (catP (l.take i) ++ (encP (l[i]'(by omega)) ++ rest)) := by rw [← hr]; exact h1
  have h3 := (has_app h2).2
  rw [Nat.zero_add] at h3
  refine ⟨(has_app h3).1, ?_⟩
  rw [size_front, hr]
  simp only [List.length_append]; omega
theorem numR_put {T : ByteArray} {a : Nat} {m : Int} (h0 : 0 ≤ m) (h1 : m ≤ 9223372036854775807) (h : has T a (putL m)) (hs : a + (putL m).length ≤ T.size) : numR T a 0 m = (m, ((a + (putL m).length : Nat) : Int), 0) := by
  have hg := get_put m h0 (by omega) hs h
  have hl := putL_len m
  have hu := upR_of (m := m) (x := 5) hg
  rw [if_neg (by simp), if_neg (by omega)] at hu
  unfold numR
  rw [if_neg (by simp), hu]
  simp only [if_true]
  congr 2; omega
theorem bigR_put {T : ByteArray} {a : Nat} {m : Int} (h0 : 0 ≤ m) (h1 : m < 18446744073709551616) (h : has T a (putL m)) (hs : a + (putL m).length ≤ T.size) : bigR T a 0 = (m, ((a + (putL m).length : Nat) : Int), 0) := by
  have hg := get_put m h0 (by omega) hs h
  have hl := putL_len m
  unfold bigR
  rw [if_neg (by simp), hg]
  simp only [if_true]
  congr 2; omega
theorem extract_has {T t : ByteArray} {a : Nat} (h : has T a t.data.toList) (hs : a + t.size ≤ T.size) : T.extract a (a + t.size) = t := by
  apply ByteArray.ext
  apply Array.ext
  · simp; omega
  · intro j h1 h2
    have hj : j < t.data.toList.length := by simpa using h2
    have hb := h j hj
    rw [bt_data] at hb
    have hl : a + j < T.data.toList.length := by
      have : j < t.size := by simpa using h2
      simp only [Array.length_toList, ByteArray.size_data]; omega
    rw [List.getD_eq_getElem?_getD, List.getElem?_eq_getElem hl, Option.getD_some] at hb
    have hb2 : T.data.toList[a + j] = t.data.toList[j] := UInt8.toNat_inj.1 (by omega)
    simp only [ByteArray.data_extract, Array.getElem_extract]
    simpa using hb2
theorem textR_put {T t : ByteArray} {a : Nat} (ht : t.size ≤ 9223372036854775807) (h : has T a (putL (t.size : Int) ++ t.data.toList)) (hs : a + (putL (t.size : Int) ++ t.data.toList).length ≤ T.size) :
    textR T a 0 (t.size : Int) = (t, ((a + (putL (t.size : Int) ++ t.data.toList).length : Nat) : Int), 0) := by
  have hlt : t.data.toList.length = t.size := by simp
  rw [List.length_append, hlt] at hs
  obtain ⟨h1, h2⟩ := has_app h
  have hg := get_put (t.size : Int) (by omega) (by omega) (by omega) h1
  have hl := putL_len (t.size : Int)
  have hu := upR_of (m := (t.size : Int)) (x := 3) hg
  rw [if_neg (by simp), if_neg (by omega)] at hu
  have hn : ((a : Int) + lenOf (t.size : Int)).toNat = a + (putL (t.size : Int)).length := by omega
  unfold textR
  rw [if_neg (by simp), hu, if_neg (by simp)]
  simp only
  rw [if_neg (by omega), hn, Int.toNat_natCast, extract_has h2 (by omega), List.length_append, hlt]
  refine Prod.ext rfl (Prod.ext ?_ rfl)
  show (a : Int) + lenOf (t.size : Int) + (t.size : Int) = ((a + ((putL (t.size : Int)).length + t.size) : Nat) : Int)
  omega
theorem flagR_put {T : ByteArray} {a : Nat} {f : Bool} (h : has T a [flagB f]) (hs : a + 1 ≤ T.size) : flagR T a 0 = (f, ((a + 1 : Nat) : Int), 0) := by
  have hb := h 0 (by simp)
  simp only [Nat.add_zero, List.getElem_cons_zero] at hb
  unfold flagR
  rw [if_neg (by simp), if_neg (by omega), hb]
  cases f <;> simp [flagB]
end Go.Proofs.Ytciilfkjecmdiaa

/- What a reader that has no error has eaten: the bytes that a writer would have put; what was put is read. Conditions: none. -/
namespace Go.Proofs.Ytciilfkjecmdiaa
open Go.RowKit Go.PlainAid

theorem get_ok_at {s : ByteArray} {a : Nat} {y to : Int} (h : getR s a = (y, to, 0)) : (0 ≤ y ∧ y < 18446744073709551616) ∧ (a : Int) < to ∧ to ≤ s.size ∧ putL y = (s.data.toList.drop a).take (to.toNat - a) := by
  unfold getR at h
  split at h
  · simp at h
  split at h
  · simp at h
  rename_i h0 h1
  rw [Int.toNat_natCast] at h
  have hs : a < s.size := by omega
  have hb := bt_nonneg s a
  have hb2 := bt_le s a
  have hal : a < s.data.toList.length := by simpa using hs
  have hd : s.data.toList[a]'hal = UInt8.ofNat (bt s a).toNat := by
    have hd := bt_data s a
    simp only [List.getD, List.getElem?_eq_getElem hal, Option.getD_some] at hd
    rw [hd, Int.toNat_natCast, UInt8.ofNat_toNat]
  have ht : ∀ k, (s.data.toList.drop a).take (k + 1) = UInt8.ofNat (bt s a).toNat :: (s.data.toList.drop (a + 1)).take k := by
    intro k
    rw [← hd, List.drop_eq_getElem_cons hal, List.take_succ_cons]
  split at h
  · rename_i h2
    simp only [Prod.mk.injEq, and_true] at h
    obtain ⟨rfl, rfl⟩ := h
    refine ⟨⟨hb, by omega⟩, by omega, by omega, ?_⟩
    rw [putL_small _ h2, show ((a : Int) + 1).toNat - a = 0 + 1 by omega, ht]; simp
  split at h
  · simp at h
  split at h
  · rename_i h2 h3 h4
    simp only [Prod.mk.injEq, and_true] at h
    obtain ⟨rfl, rfl⟩ := h
    obtain ⟨k, hk⟩ := Int.eq_ofNat_of_zero_le (show 0 ≤ bt s a - 247 by omega)
    rw [hk, Int.toNat_natCast] at h4 ⊢
    have hv0 := val_nonneg s (a + 1) k
    have hv1 := val_lt s (a + 1) k
    have hk8 : k ≤ 8 := by omega
    have hbig : ¬ val s (a + 1) k < 248 := by
      intro hc; rw [lenOf_small _ hc] at h4; omega
    have hw : wd (val s (a + 1) k) = k := by rw [lenOf_big _ hbig] at h4; omega
    have hlt : val s (a + 1) k < 18446744073709551616 := by
      have : (256 : Nat) ^ k ≤ 256 ^ 8 := Nat.pow_le_pow_right (by decide) hk8
      have e : ((256 : Int) ^ k) = ((256 ^ k : Nat) : Int) := by rw [Int.natCast_pow]; rfl
      have : (256 : Nat) ^ 8 = 18446744073709551616 := by decide
      omega
    refine ⟨⟨hv0, hlt⟩, by omega, by omega, ?_⟩
    rw [putL_big _ hbig, hw, Int.toNat_natCast]
    have hn : ((a : Int) + (bt s a - 246)).toNat - a = k + 1 := by omega
    first
      | (rw [hn, ht, be_val _ _ _ (by omega)]; congr 2; omega)
      | (rw [show (_ : Int).toNat - a = k + 1 by omega, ht, be_val _ _ _ (by omega)]; congr 2; omega)
  · simp at h
/-- From a to b stand the bytes l. -/
def eats (s : ByteArray) (a : Nat) (l : List UInt8) (b : Nat) : Prop := a ≤ b ∧ b ≤ s.size ∧ (s.data.toList.drop a).take (b - a) = l
theorem eats.nil {s : ByteArray} {a : Nat} (h : a ≤ s.size) : eats s a [] a := ⟨Nat.le_refl _, h, by simp⟩
theorem eats.app {s : ByteArray} {a b c : Nat} {l m : List UInt8} (h : eats s a l b) (k : eats s b m c) : eats s a (l ++ m) c := by
  obtain ⟨h1, h2, h3⟩ := h
  obtain ⟨k1, k2, k3⟩ := k
  refine ⟨by omega, k2, ?_⟩
  rw [show c - a = (b - a) + (c - b) by omega, List.take_add, h3, List.drop_drop, show a + (b - a) = b by omega, k3]
theorem numR_nat (s : ByteArray) (a : Nat) (x m : Int) : ∃ b : Nat, (numR s a x m).2.1 = b := by
  by_cases hx : x = 0
  · subst hx
    have e : (numR s a 0 m).2.1 = (upR s a m 5).2.1 := by unfold numR; rw [if_neg (by simp)]
    rw [e]
    rcases hg : getR s a with ⟨g1, g2, g3⟩
    rw [upR_of hg]
    split
    · exact ⟨a, rfl⟩
    · rename_i h3
      have h3' : g3 = 0 := by omega
      subst h3'
      have := getR_pos hg
      split
      · exact ⟨g2.toNat, by simp only; omega⟩
      · exact ⟨g2.toNat, by simp only; omega⟩
  · rw [numR_err hx]; exact ⟨a, rfl⟩
theorem numR_eats {s : ByteArray} {a : Nat} {x m : Int} (h : (numR s a x m).2.2 = 0) : x = 0 ∧ ∃ b : Nat, (numR s a x m).2.1 = b ∧ eats s a (putL (numR s a x m).1) b := by
  by_cases hx : x = 0
  · subst hx
    refine ⟨rfl, ?_⟩
    have e : numR s a 0 m = ((if (upR s a m 5).2.2 = 0 then (upR s a m 5).1 else 0), (upR s a m 5).2.1, (upR s a m 5).2.2) := by unfold numR; rw [if_neg (by simp)]
    rw [e] at h ⊢
    simp only at h ⊢
    rcases hg : getR s a with ⟨g1, g2, g3⟩
    rw [upR_of hg] at h ⊢
    split at h
    · rename_i h3; exact absurd h h3
    · rename_i h3
      rw [if_neg h3]
      have h3' : g3 = 0 := by omega
      subst h3'
      obtain ⟨_, h5, h6, h7⟩ := get_ok_at hg
      split at h
      · simp at h
      · rename_i h8
        rw [if_neg h8]
        simp only [if_true]
        exact ⟨g2.toNat, by omega, by omega, by omega, by rw [h7]⟩
  · rw [numR_err hx] at h; exact absurd h hx
theorem bigR_eats {s : ByteArray} {a : Nat} {x : Int} (h : (bigR s a x).2.2 = 0) : x = 0 ∧ ∃ b : Nat, (bigR s a x).2.1 = b ∧ eats s a (putL (bigR s a x).1) b := by
  by_cases hx : x = 0
  · subst hx
    refine ⟨rfl, ?_⟩
    have e : bigR s a 0 = ((if (getR s a).2.2 = 0 then (getR s a).1 else 0), (getR s a).2.1, (getR s a).2.2) := by unfold bigR; rw [if_neg (by simp)]
    rw [e] at h ⊢
    simp only at h ⊢
    rcases hg : getR s a with ⟨g1, g2, g3⟩
    rw [hg] at h
    simp only at h
    subst h
    obtain ⟨_, h5, h6, h7⟩ := get_ok_at hg
    simp only [if_true]
    exact ⟨g2.toNat, by omega, by omega, by omega, by rw [h7]⟩
  · rw [bigR_err hx] at h; exact absurd h hx
theorem numR_of {T : ByteArray} {a : Nat} {n m : Int} (h0 : 0 ≤ n) (h1 : n ≤ m) (h2 : m ≤ 9223372036854775807) (h : has T a (putL n)) (hs : a + (putL n).length ≤ T.size) : numR T a 0 m = (n, ((a + (putL n).length : Nat) : Int), 0) := by
  have hg := get_put n h0 (by omega) hs h
  have hl := putL_len n
  have hu := upR_of (m := m) (x := 5) hg
  rw [if_neg (by simp), if_neg (by omega)] at hu
  unfold numR
  rw [if_neg (by simp), hu]
  simp only [if_true]
  congr 2; omega
theorem bigR_of {T : ByteArray} {a : Nat} {m : Int} (h0 : 0 ≤ m) (h1 : m < 18446744073709551616) (h : has T a (putL m)) (hs : a + (putL m).length ≤ T.size) : bigR T a 0 = (m, ((a + (putL m).length : Nat) : Int), 0) := by
  have hg := get_put m h0 (by omega) hs h
  have hl := putL_len m
  unfold bigR
  rw [if_neg (by simp), hg]
  simp only [if_true]
  congr 2; omega
theorem list_of_take {s t : ByteArray} {a n : Nat} (h : t = s.extract a (a + n)) : t.data.toList = (s.data.toList.drop a).take n := by
  subst h
  rw [ByteArray.data_extract, Array.toList_extract]
  simp [List.extract]
theorem textR_eats {s : ByteArray} {a : Nat} {x m : Int} (h : (textR s a x m).2.2 = 0) : x = 0 ∧ ∃ b : Nat, (textR s a x m).2.1 = b ∧ eats s a (putL (((textR s a x m).1.size : Nat) : Int) ++ (textR s a x m).1.data.toList) b := by
  by_cases hx : x = 0
  · subst hx
    refine ⟨rfl, ?_⟩
    rcases hg : getR s a with ⟨g1, g2, g3⟩
    have hu := upR_of (m := m) (x := 3) hg
    unfold textR at h ⊢
    rw [if_neg (by simp)] at h ⊢
    rw [hu] at h ⊢
    by_cases h3 : g3 ≠ 0
    · rw [if_pos h3] at h; simp [h3] at h
    · rw [if_neg h3] at h ⊢
      have h3' : g3 = 0 := by omega
      subst h3'
      obtain ⟨h4, h5, h6, h7⟩ := get_ok_at hg
      by_cases h8 : m < 0 ∨ m < g1
      · rw [if_pos h8] at h; simp at h
      · rw [if_neg h8] at h ⊢
        simp only [ne_eq, not_true_eq_false, if_false] at h ⊢
        by_cases h9 : (s.size : Int) < g2 + g1
        · rw [if_pos h9] at h; simp at h
        · rw [if_neg h9]
          simp only
          have hsz : ((s.extract g2.toNat (g2.toNat + g1.toNat)).size : Int) = g1 := by rw [ByteArray.size_extract]; omega
          have e1 : eats s a (putL g1) g2.toNat := ⟨by omega, by omega, by rw [h7]⟩
          have e2 : eats s g2.toNat (s.extract g2.toNat (g2.toNat + g1.toNat)).data.toList (g2.toNat + g1.toNat) := ⟨by omega, by omega, by rw [list_of_take rfl]; congr 1; omega⟩
          rw [hsz]
          exact ⟨g2.toNat + g1.toNat, by omega, e1.app e2⟩
  · rw [textR_err hx] at h; exact absurd h hx
theorem flagR_eats {s : ByteArray} {a : Nat} {x : Int} (ha : x = 0 → a ≤ s.size) (h : (flagR s a x).2.2 = 0) : x = 0 ∧ ∃ b : Nat, (flagR s a x).2.1 = b ∧ eats s a [flagB (flagR s a x).1] b := by
  by_cases hx : x = 0
  · subst hx
    refine ⟨rfl, ?_⟩
    have ha' := ha rfl
    unfold flagR at h ⊢
    rw [if_neg (by simp)] at h ⊢
    by_cases h1 : a = s.size
    · rw [if_pos h1] at h; simp at h
    · rw [if_neg h1] at h ⊢
      by_cases h2 : 1 < bt s a
      · rw [if_pos h2] at h; simp at h
      · rw [if_neg h2]
        simp only
        have hal : a < s.data.toList.length := by
          have : a < s.size := by omega
          simpa using this
        have hd := bt_data s a
        simp only [List.getD, List.getElem?_eq_getElem hal, Option.getD_some] at hd
        have hb := bt_nonneg s a
        refine ⟨a + 1, by omega, by omega, by omega, ?_⟩
        rw [List.drop_eq_getElem_cons hal, show a + 1 - a = 0 + 1 by omega, List.take_succ_cons, List.take_zero]
        congr 1
        apply UInt8.toNat_inj.1
        show (s.data.toList[a]'hal).toNat = _
        rcases (show bt s a = 0 ∨ bt s a = 1 by omega) with h3 | h3
        · have h4 : (s.data.toList[a]'hal).toNat = 0 := by omega
          rw [h4, h3]; rfl
        · have h4 : (s.data.toList[a]'hal).toNat = 1 := by omega
          rw [h4, h3]; rfl
  · rw [flagR_err hx] at h; exact absurd h hx
theorem endV_eats {s : ByteArray} {a : Nat} {x : Int} (ha : x = 0 → a ≤ s.size) (h : endV s a x = 0) : x = 0 ∧ a = s.size := by
  unfold endV at h
  by_cases hx : x = 0
  · rw [if_pos hx] at h
    have := ha hx
    by_cases h1 : a < s.size
    · rw [if_pos h1] at h; omega
    · exact ⟨hx, by omega⟩
  · rw [if_neg hx] at h; exact absurd h hx
theorem eats.whole {s : ByteArray} {l : List UInt8} (h : eats s 0 l s.size) : (⟨l.toArray⟩ : ByteArray) = s := by
  obtain ⟨_, _, h3⟩ := h
  have : l = s.data.toList := by
    rw [← h3, List.drop_zero, List.take_of_length_le (by simp)]
  subst this; simp
theorem textR_of {T t : ByteArray} {a : Nat} {m : Int} (ht : (t.size : Int) ≤ m) (hm : m ≤ 9223372036854775807) (h : has T a (putL (t.size : Int) ++ t.data.toList)) (hs : a + (putL (t.size : Int) ++ t.data.toList).length ≤ T.size) :
    textR T a 0 m = (t, ((a + (putL (t.size : Int) ++ t.data.toList).length : Nat) : Int), 0) := by
  have hlt : t.data.toList.length = t.size := by simp
  rw [List.length_append, hlt] at hs
  obtain ⟨h1, h2⟩ := has_app h
  have hg := get_put (t.size : Int) (by omega) (by omega) (by omega) h1
  have hl := putL_len (t.size : Int)
  have hu := upR_of (m := m) (x := 3) hg
  rw [if_neg (by simp), if_neg (by omega)] at hu
  have hn : ((a : Int) + lenOf (t.size : Int)).toNat = a + (putL (t.size : Int)).length := by omega
  unfold textR
  rw [if_neg (by simp), hu, if_neg (by simp)]
  simp only
  rw [if_neg (by omega), hn, Int.toNat_natCast, extract_has h2 (by omega), List.length_append, hlt]
  refine Prod.ext rfl (Prod.ext ?_ rfl)
  show (a : Int) + lenOf (t.size : Int) + (t.size : Int) = ((a + ((putL (t.size : Int)).length + t.size) : Nat) : Int)
  omega
end Go.Proofs.Ytciilfkjecmdiaa

/- Package ops: what is put is read, what is read is put; without the program. Conditions: none. -/
namespace Go.Proofs.Ytciilfkjecmdiaa
open Go.RowKit Go.PlainAid
set_option linter.unusedVariables false


theorem putOs_snoc (l : List OpT) (y : OpT) : putOs (l ++ [y]) = putOs l ++ putO1 y := by simp [putOs]
theorem rd_put {T : ByteArray} {a : Nat} (l acc : List OpT) (hok : ∀ z ∈ l, OpOk z) (hh : has T a (putOs l)) (hs : a + (putOs l).length ≤ T.size) :
    ∀ i, i ≤ l.length → rdN T i (acc, (a : Int), 0) = (acc ++ l.take i, ((a + (putOs (l.take i)).length : Nat) : Int), 0)
  | 0, _ => by simp [rdN, putOs]
  | i + 1, hi => by
    have ih := rd_put l acc hok hh hs i (by omega)
    have hy : l[i]? = some l[i] := List.getElem?_eq_getElem (by omega)
    have ht := takeO_at hy
    obtain ⟨⟨k1, k2⟩, k3, _⟩ := hok l[i] (List.getElem_mem _)
    have e : putOs l = putOs (l.take i) ++ (putO1 l[i] ++ putOs (l.drop (i + 1))) := by
      rw [← List.append_assoc, ← putOs_snoc, ← ht]
      unfold putOs; rw [← List.flatMap_append, List.take_append_drop]
    rw [e] at hh hs
    obtain ⟨_, h2⟩ := has_app hh
    obtain ⟨h3, _⟩ := has_app h2
    unfold putO1 at h3
    rw [List.append_assoc] at h3
    obtain ⟨h4, h5⟩ := has_app h3
    obtain ⟨h6, h7⟩ := has_app h5
    have hlen : (putO1 l[i]).length = (putL (l[i].1.size : Int) ++ l[i].1.data.toList).length + (1 + (putL (l[i].2.1.size : Int) ++ l[i].2.1.data.toList).length) := by unfold putO1; simp only [List.length_append, List.length_singleton]; omega
    rw [List.length_append, List.length_append] at hs
    have q1 := textR_of (m := 8) (by omega) (by omega) h4 (by omega)
    have q2 := flagR_put h6 (by omega)
    have q3 := textR_of (m := 8) (by omega) (by omega) h7 (by simp only [List.length_singleton]; omega)
    rw [rdN_step ih q1 q2 q3, ht, putOs_snoc]
    refine Prod.ext (show acc ++ l.take i ++ [l[i]] = _ by rw [List.append_assoc]) (Prod.ext ?_ rfl)
    have hl2 : (putOs (l.take i) ++ putO1 l[i]).length = (putOs (l.take i)).length + (putO1 l[i]).length := List.length_append
    rw [hl2, hlen]
    simp only [List.length_singleton]
    omega
theorem of_put {c r : Int} {l : List OpT} (h : chkB c r l = 0) : ofB (putB c r l) = ((c, r, l), 0) := by
  obtain ⟨⟨c0, c1⟩, ⟨r0, r1⟩, hl, _⟩ := chkB_ok h
  have hok := chkB_all h
  rw [putB_ok h]
  have hself := has_self (putH c r l ++ putOs l)
  have hsz : (⟨(putH c r l ++ putOs l).toArray⟩ : ByteArray).size = (putH c r l ++ putOs l).length := rfl
  generalize (⟨(putH c r l ++ putOs l).toArray⟩ : ByteArray) = T at hself hsz ⊢
  unfold putH at hself hsz
  simp only [List.append_assoc] at hself
  simp only [List.length_append] at hsz
  obtain ⟨h1, h2⟩ := has_app hself
  obtain ⟨h3, h4⟩ := has_app h2
  obtain ⟨h5, h6⟩ := has_app h4
  simp only [Nat.zero_add] at h3 h5 h6
  have q1 := numR_of (m := 2) c0 (by omega) (by omega) h1 (by omega)
  have q2 := numR_of (m := 1073741824) (by omega) r1 (by omega) h3 (by omega)
  have q3 := numR_of (m := 4) (by omega) (by omega) (by omega) h5 (by omega)
  have q4 := rd_put l [] hok h6 (by omega) l.length (Nat.le_refl _)
  rw [List.take_of_length_le (Nat.le_refl _), List.nil_append] at q4
  have q5 : endV T ((((putL c).length + (putL r).length + (putL ((l.length : Nat) : Int)).length + (putOs l).length : Nat) : Int)).toNat 0 = 0 := by
    unfold endV; rw [if_pos rfl, if_neg (by omega)]
  rw [ofB_at (by simpa using q1) q2 q3 q4 (by omega) q5, ofEnd_c (by omega) (by omega)]
theorem rd_nat (s : ByteArray) (a : Nat) (x : Int) (h : x = 0 → a ≤ s.size) : ∀ i, (rdN s i ([], (a : Int), x)).2.2 = 0 → x = 0 ∧ ∃ b : Nat, (rdN s i ([], (a : Int), x)).2.1 = b ∧ (rdN s i ([], (a : Int), x)).1.length = i ∧ eats s a (putOs (rdN s i ([], (a : Int), x)).1) b
  | 0, hx => by
    have hx' : x = 0 := hx
    exact ⟨hx', a, rfl, rfl, eats.nil (h hx')⟩
  | i + 1, hx => by
    obtain ⟨ls, ps, er, hq⟩ : ∃ ls ps er, rdN s i ([], (a : Int), x) = (ls, ps, er) := ⟨_, _, _, rfl⟩
    have ih := rd_nat s a x h i
    have e : rdN s (i + 1) ([], (a : Int), x) = rdStep s (rdN s i ([], (a : Int), x)) := rfl
    rw [hq] at ih e
    rw [e] at hx ⊢
    simp only [rdStep] at hx ⊢
    -- backwards: no error at the end, so none ahead
    have hpos : er = 0 → ∃ b : Nat, ps = b ∧ b ≤ s.size := fun he => by
      obtain ⟨_, b, h1, _, h2⟩ := ih he
      exact ⟨b, h1, h2.2.1⟩
    obtain ⟨k, a1, e1, ht⟩ : ∃ k a1 e1, textR s ps er 8 = (k, a1, e1) := ⟨_, _, _, rfl⟩
    simp only [ht] at hx ⊢
    obtain ⟨f, a2, e2, hf⟩ : ∃ f a2 e2, flagR s a1.toNat e1 = (f, a2, e2) := ⟨_, _, _, rfl⟩
    simp only [hf] at hx ⊢
    obtain ⟨t, a3, e3, hu⟩ : ∃ t a3 e3, textR s a2 e2 8 = (t, a3, e3) := ⟨_, _, _, rfl⟩
    simp only [hu] at hx ⊢
    subst hx
    have hu0 : (textR s a2 e2 8).2.2 = 0 := by rw [hu]
    have he2 : e2 = 0 := by
      by_cases h2 : e2 = 0
      · exact h2
      · rw [textR_err h2] at hu0; exact hu0
    subst he2
    have hf0 : (flagR s a1.toNat e1).2.2 = 0 := by rw [hf]
    have he1 : e1 = 0 := by
      by_cases h2 : e1 = 0
      · exact h2
      · rw [flagR_err h2] at hf0; exact hf0
    subst he1
    have ht0 : (textR s ps er 8).2.2 = 0 := by rw [ht]
    have her : er = 0 := by
      by_cases h2 : er = 0
      · exact h2
      · rw [textR_err h2] at ht0; exact ht0
    subst her
    obtain ⟨hx0, b, hb, hlen, he⟩ := ih rfl
    simp only at hb hlen he
    subst hb
    obtain ⟨_, b1, hb1, g1⟩ := textR_eats ht0
    rw [ht] at hb1 g1; simp only at hb1 g1
    subst hb1
    rw [Int.toNat_natCast] at hf hf0
    obtain ⟨_, b2, hb2, g2⟩ := flagR_eats (fun _ => g1.2.1) hf0
    rw [hf] at hb2 g2; simp only at hb2 g2
    subst hb2
    obtain ⟨_, b3, hb3, g3⟩ := textR_eats hu0
    rw [hu] at hb3 g3; simp only at hb3 g3
    subst hb3
    refine ⟨hx0, b3, rfl, by simp [hlen], ?_⟩
    rw [putOs_snoc]
    exact he.app ((g1.app g2).app g3)
theorem ofEnd_ok {c r x c2 r2 : Int} {l l2 : List OpT} (h : ofEnd c r l x = ((c2, r2, l2), 0)) : x = 0 ∧ chkB c2 r2 l2 = 0 ∧ c = c2 ∧ r = r2 ∧ l = l2 := by
  by_cases h1 : x ≠ 0
  · rw [ofEnd_a h1] at h; cases h; exact absurd rfl h1
  by_cases h2 : chkB c r l ≠ 0
  · rw [ofEnd_b h1 h2] at h
    have := (Prod.mk.inj h).2
    exact absurd this h2
  · rw [ofEnd_c h1 h2] at h; cases h
    exact ⟨by omega, by omega, rfl, rfl, rfl⟩
theorem of_chk {s : ByteArray} {c r : Int} {l : List OpT} (h : ofB s = ((c, r, l), 0)) : chkB c r l = 0 := (ofEnd_ok h).2.1
theorem numR_at' {s : ByteArray} {a : Nat} {x m n a1 : Int} (h : numR s a x m = (n, a1, 0)) : x = 0 ∧ ∃ b : Nat, a1 = b ∧ eats s a (putL n) b := by
  have h0 : (numR s a x m).2.2 = 0 := by rw [h]
  have := numR_eats h0
  rw [h] at this; exact this
theorem of_back {s : ByteArray} {c r : Int} {l : List OpT} (h : ofB s = ((c, r, l), 0)) : putB c r l = s := by
  have hc := of_chk h
  rw [putB_ok hc]
  rcases q1 : numR s 0 0 2 with ⟨c', a1, e1⟩
  rcases q2 : numR s a1 e1 1073741824 with ⟨r', a2, e2⟩
  rcases q3 : numR s a2 e2 4 with ⟨n, a3, e3⟩
  rcases q4 : rdN s n.toNat ([], a3, e3) with ⟨l', a4, e4⟩
  have hE := ofB_at q1 q2 q3 q4 rfl rfl
  rw [hE] at h
  obtain ⟨hx, _, rfl, rfl, rfl⟩ := ofEnd_ok h
  have e4' : e4 = 0 := by
    by_cases h1 : e4 = 0
    · exact h1
    · unfold endV at hx; rw [if_neg h1] at hx; exact hx
  subst e4'
  have hn0 := numR_le (s := s) (a := a2) (x := e2) (m := 4) (by omega)
  rw [q3] at hn0; simp only at hn0
  have k4 : (rdN s n.toNat ([], a3, e3)).2.2 = 0 := by rw [q4]
  have hp3 : e3 = 0 → 0 ≤ a3 ∧ a3 ≤ s.size := fun h1 => by
    have := numR_at (s := s) (a := a2) (x := e2) (m := 4) (by rw [q3]; exact h1)
    rw [q3] at this; exact this
  have e3' : e3 = 0 := by
    by_cases h1 : e3 = 0
    · exact h1
    · have hall : ∀ i, (rdN s i ([], a3, e3)).2.2 = e3 := fun i => by
        induction i with
        | zero => rfl
        | succ i ih =>
          show (rdStep s (rdN s i ([], a3, e3))).2.2 = e3
          rcases hq : rdN s i ([], a3, e3) with ⟨ls, ps, er⟩
          rw [hq] at ih; simp only at ih
          subst ih
          simp only [rdStep, textR_err h1, flagR_err h1]
      rw [hall] at k4; exact k4
  subst e3'
  obtain ⟨a0, rfl⟩ := Int.eq_ofNat_of_zero_le (hp3 rfl).1
  have h5 := rd_nat s a0 0 (fun _ => by have := (hp3 rfl).2; omega) n.toNat k4
  rw [q4] at h5
  obtain ⟨_, b4, hb4, hlen, g4⟩ := h5
  simp only at hb4 hlen g4
  subst hb4
  have hp2 : e2 = 0 := by
    by_cases h1 : e2 = 0
    · exact h1
    · rw [numR_err h1] at q3; cases q3; exact absurd rfl h1
  subst hp2
  have hp1 : e1 = 0 := by
    by_cases h1 : e1 = 0
    · exact h1
    · rw [numR_err h1] at q2; cases q2; exact absurd rfl h1
  subst hp1
  obtain ⟨_, b1, rfl, g1⟩ := numR_at' (a := 0) (by simpa using q1)
  obtain ⟨_, b2, rfl, g2⟩ := numR_at' q2
  obtain ⟨_, b3, hb3, g3⟩ := numR_at' q3
  obtain rfl : a0 = b3 := by have : (a0 : Int) = b3 := hb3; omega
  have hend := (endV_eats (s := s) (a := b4) (x := 0) (fun _ => g4.2.1) (by simpa using hx)).2
  subst hend
  have hnl : ((l'.length : Nat) : Int) = n := by rw [hlen]; omega
  refine eats.whole ?_
  unfold putH
  rw [hnl]
  exact ((g1.app g2).app g3).app g4

end Go.Proofs.Ytciilfkjecmdiaa

/- catenalaw06: OpsPuts, OpsReads. Conditions: none. -/
namespace Go.Proofs.Ytciilfkjecmdiaa
open Go.RowKit Go.PlainAid
set_option linter.unusedVariables false

open Go.Sort Go.Shelf Go.Lib

theorem back_put {c r : Int} {l : List OpT} (h : chkB c r l = 0) : sameB c r l (ofB (putB c r l)).1.1 (ofB (putB c r l)).1.2.1 (ofB (putB c r l)).1.2.2 = true := by
  rw [of_put h]; exact sameB_refl _ _ _
theorem back_put0 {c r : Int} {l : List OpT} (h : chkB c r l = 0) : (ofB (putB c r l)).2 = 0 := by rw [of_put h]
theorem putB_size {c r : Int} {l : List OpT} : (putB c r l).size ≤ 9223372036854775807 := by
  by_cases h : chkB c r l = 0
  · obtain ⟨_, _, hl, _⟩ := chkB_ok h
    have hok := chkB_all h
    rw [putB_ok h]
    show (putH c r l ++ putOs l).length ≤ _
    have h1 := putL_le c; have h2 := putL_le r; have h3 := putL_le ((l.length : Nat) : Int)
    have h4 : ∀ l : List OpT, (∀ z ∈ l, OpOk z) → (putOs l).length ≤ 40 * l.length := fun l => by
      induction l with
      | nil => intro _; simp [putOs]
      | cons z r ih =>
        intro hz
        have := ih (fun y hy => hz y (List.mem_cons_of_mem _ hy))
        obtain ⟨⟨_, k1⟩, k2, _⟩ := hz z (by simp)
        have k3 := putL_le (z.1.size : Int); have k4 := putL_le (z.2.1.size : Int)
        have e : putOs (z :: r) = putO1 z ++ putOs r := by simp [putOs]
        rw [e, List.length_append, List.length_cons]
        have : (putO1 z).length ≤ 40 := by unfold putO1; simp only [List.length_append, List.length_singleton, Array.length_toList, ByteArray.size_data]; omega
        omega
    have h5 := h4 l hok
    unfold putH; simp only [List.length_append]; omega
  · rw [putB_err h]; decide
theorem of_zero {s : ByteArray} (h : (ofB s).2 ≠ 0) : (ofB s).1 = (0, 0, []) := by
  have e : ofB s = ofEnd _ _ _ _ := rfl
  rw [e] at h ⊢
  unfold ofEnd at h ⊢
  split
  · rfl
  · split
    · rfl
    · rename_i h1 h2
      rw [if_neg h1, if_neg h2] at h; exact absurd rfl h
theorem back_of {s : ByteArray} (h : (ofB s).2 = 0) : putB (ofB s).1.1 (ofB s).1.2.1 (ofB s).1.2.2 = s ∧ chkB (ofB s).1.1 (ofB s).1.2.1 (ofB s).1.2.2 = 0 := by
  have e : ofB s = (((ofB s).1.1, (ofB s).1.2.1, (ofB s).1.2.2), 0) := by rw [← h]
  exact ⟨of_back e, of_chk e⟩

set_option maxRecDepth 100000 in
theorem opsPuts_law (c : Int) (r : Int) (v : Value) (l : List OpT) (c2 : Int) (r2 : Int) (v2 : Value) (l2 : List OpT) (w : World) (hs : SliceOf opE 3 w v l) (hs2 : SliceOf opE 3 w v2 l2) :
    Calls Try.prog 3 #[.agg #[.int .i64 c, .int .i64 r, v], .agg #[.int .i64 c2, .int .i64 r2, v2]] w fun e w' => e = .returned (.bool true) ∧ Below w.heap.size w w' := by
  have hB0 := Below.refl w.heap.size w
  have hl_hs := sl_len hs
  have hl_hs2 := sl_len hs2
  refine co_enter (n := 62) Try.func3 rfl rfl rfl [(0, .agg #[.int .i64 c, .int .i64 r, v]), (1, .agg #[.int .i64 c2, .int .i64 r2, v2])] rfl (fun a h0 => ?_)
  refine co_seq ?_
  refine co_reg ?_
  refine pl_want h0 rfl rfl rfl (op_new (v := fun N => .pointer (some ⟨N, 0, none⟩)) (T := 24) (cs := #[.int .i64 c, .int .i64 r, v]) (by kernel_rfl) (by kernel_rfl) (by kernel_rfl)) ?_; clear h0
  rintro _ w2 a1 ⟨N3, rfl, hN6, hz7, hk5, hg4⟩ h1
  have hB8 := hb_new hB0 hg4
  have hz9 := hB8.size
  have hz10 := hg4.size
  try dsimp only at h1
  refine pl_want h1 rfl rfl rfl (op_new (v := fun N => .pointer (some ⟨N, 0, none⟩)) (T := 24) (cs := #[.int .i64 c2, .int .i64 r2, v2]) (by kernel_rfl) (by kernel_rfl) (by kernel_rfl)) ?_; clear h1
  rintro _ w12 a11 ⟨N13, rfl, hN16, hz17, hk15, hg14⟩ h11
  have hB18 := hb_new hB8 hg14
  have hz19 := hB18.size
  have hz20 := hg14.size
  have hk21 := hk5.kept hg14 (by simp)
  try dsimp only at h11
  refine pl_val (v := .bool false) h11 rfl rfl rfl (by kernel_rfl) (by kernel_rfl) (by kernel_rfl) (fun a22 h22 => ?_); clear h11
  refine pl_nil ?_
  refine co_then ?_
  refine co_seq ?_
  refine co_seq ?_
  refine co_reg ?_
  refine pl_val (v := .pointer (some ⟨N3, 2, none⟩)) h22 rfl rfl rfl (by kernel_rfl) (by kernel_rfl) (by kernel_rfl) (fun a23 h23 => ?_); clear h22
  refine pl_val (v := v) h23 rfl rfl rfl (by kernel_rfl) (by kernel_rfl) (rn_load1 rfl rfl Try.isAgg22 (hk21.cell rfl)) (fun a24 h24 => ?_); clear h23
  refine pl_val (v := .int .i64 ((l.length : Nat) : Int)) h24 rfl rfl rfl (by kernel_rfl) (by kernel_rfl) (rn_len rfl rfl Try.underlying22 (hs.below hB18)) (fun a25 h25 => ?_); clear h24
  refine pl_val (v := .bool (decide (((l.length : Nat) : Int) > 20))) h25 rfl rfl rfl (by kernel_rfl) (by kernel_rfl) (by kernel_rfl) (fun a26 h26 => ?_); clear h25
  refine pl_val (v := .bool (decide (((l.length : Nat) : Int) > 20))) h26 rfl rfl rfl (by kernel_rfl) (by kernel_rfl) (by kernel_rfl) (fun a27 h27 => ?_); clear h26
  cases hc28 : (decide (((l.length : Nat) : Int) > 20))
  ·
    rw [hc28] at h27
    have hp29 : ¬ (((l.length : Nat) : Int) > 20) := of_decide_eq_false hc28
    clear hc28
    refine pl_val (v := .pointer (some ⟨N13, 2, none⟩)) h27 rfl rfl rfl (by kernel_rfl) (by kernel_rfl) (by kernel_rfl) (fun a30 h30 => ?_); clear h27
    refine pl_val (v := v2) h30 rfl rfl rfl (by kernel_rfl) (by kernel_rfl) (rn_load1 rfl rfl Try.isAgg22 (hk15.cell rfl)) (fun a31 h31 => ?_); clear h30
    refine pl_val (v := .int .i64 ((l2.length : Nat) : Int)) h31 rfl rfl rfl (by kernel_rfl) (by kernel_rfl) (rn_len rfl rfl Try.underlying22 (hs2.below hB18)) (fun a32 h32 => ?_); clear h31
    refine pl_val (v := .bool (decide (((l2.length : Nat) : Int) > 20))) h32 rfl rfl rfl (by kernel_rfl) (by kernel_rfl) (by kernel_rfl) (fun a33 h33 => ?_); clear h32
    refine pl_val (v := .bool (decide (((l2.length : Nat) : Int) > 20))) h33 rfl rfl rfl (by kernel_rfl) (by kernel_rfl) (by kernel_rfl) (fun a34 h34 => ?_); clear h33
    refine pl_nil ?_
    refine co_then ?_
    cases hc35 : (decide (((l2.length : Nat) : Int) > 20))
    ·
      rw [hc35] at h34
      have hp36 : ¬ (((l2.length : Nat) : Int) > 20) := of_decide_eq_false hc35
      clear hc35
      refine co_false h34 rfl ?_
      refine wp_skip ?_
      refine co_then ?_
      refine co_seq ?_
      refine co_reg ?_
      refine pl_val (v := .agg #[.int .i64 c, .int .i64 r, v]) h34 rfl rfl rfl (by kernel_rfl) (by kernel_rfl) (rn_loadN rfl rfl Try.underlying24 rfl (by kernel_rfl) hk21.all) (fun a37 h37 => ?_); clear h34
      refine pl_want h37 rfl rfl rfl (op_call (args := #[.agg #[.int .i64 c, .int .i64 r, v]]) (R := fun res xw => res = .tuple #[.string (putB c r l), .int .i64 (chkB c r l)] ∧ Below w12.heap.size w12 xw) rfl rfl rfl (by kernel_rfl) (by kernel_rfl) (Try.call14 _ _) (opsPut_any c r v l w12 (hs.below hB18)) (by rintro e x ⟨rfl, hb40⟩; exact ⟨_, rfl, ⟨rfl, hb40⟩⟩)) ?_; clear h37
      rintro _ w39 a38 ⟨rfl, hb40⟩ h38
      have hB41 := hb_call hB18 hb40
      have hz42 := hB41.size
      have hz43 := hb40.size
      have hk44 := hk21.below hb40
      have hk45 := hk15.below hb40
      refine pl_val (v := .tuple #[.string (putB c r l), .int .i64 (chkB c r l)]) h38 rfl rfl rfl (by kernel_rfl) (by kernel_rfl) (by kernel_rfl) (fun a46 h46 => ?_); clear h38
      refine pl_val (v := .string (putB c r l)) h46 rfl rfl rfl (by kernel_rfl) (by kernel_rfl) (by kernel_rfl) (fun a47 h47 => ?_); clear h46
      refine pl_val (v := .int .i64 (chkB c r l)) h47 rfl rfl rfl (by kernel_rfl) (by kernel_rfl) (by kernel_rfl) (fun a48 h48 => ?_); clear h47
      refine pl_val (v := .string (putB c r l)) h48 rfl rfl rfl (by kernel_rfl) (by kernel_rfl) (by kernel_rfl) (fun a49 h49 => ?_); clear h48
      refine pl_val (v := .int .i64 (chkB c r l)) h49 rfl rfl rfl (by kernel_rfl) (by kernel_rfl) (by kernel_rfl) (fun a50 h50 => ?_); clear h49
      refine pl_nil ?_
      refine co_then ?_
      refine co_seq ?_
      refine co_reg ?_
      refine pl_val (v := .agg #[.int .i64 c, .int .i64 r, v]) h50 rfl rfl rfl (by kernel_rfl) (by kernel_rfl) (rn_loadN rfl rfl Try.underlying24 rfl (by kernel_rfl) hk44.all) (fun a51 h51 => ?_); clear h50
      refine pl_want h51 rfl rfl rfl (op_call (args := #[.agg #[.int .i64 c, .int .i64 r, v]]) (R := fun res xw => res = .tuple #[.string (putB c r l), .int .i64 (chkB c r l)] ∧ Below w39.heap.size w39 xw) rfl rfl rfl (by kernel_rfl) (by kernel_rfl) (Try.call15 _ _) (ropsPut_any c r v l w39 (hs.below hB41)) (by rintro e x ⟨rfl, hb54⟩; exact ⟨_, rfl, ⟨rfl, hb54⟩⟩)) ?_; clear h51
      rintro _ w53 a52 ⟨rfl, hb54⟩ h52
      have hB55 := hb_call hB41 hb54
      have hz56 := hB55.size
      have hz57 := hb54.size
      have hk58 := hk44.below hb54
      have hk59 := hk45.below hb54
      refine pl_val (v := .tuple #[.string (putB c r l), .int .i64 (chkB c r l)]) h52 rfl rfl rfl (by kernel_rfl) (by kernel_rfl) (by kernel_rfl) (fun a60 h60 => ?_); clear h52
      refine pl_val (v := .string (putB c r l)) h60 rfl rfl rfl (by kernel_rfl) (by kernel_rfl) (by kernel_rfl) (fun a61 h61 => ?_); clear h60
      refine pl_val (v := .int .i64 (chkB c r l)) h61 rfl rfl rfl (by kernel_rfl) (by kernel_rfl) (by kernel_rfl) (fun a62 h62 => ?_); clear h61
      refine pl_val (v := .string (putB c r l)) h62 rfl rfl rfl (by kernel_rfl) (by kernel_rfl) (by kernel_rfl) (fun a63 h63 => ?_); clear h62
      refine pl_val (v := .int .i64 (chkB c r l)) h63 rfl rfl rfl (by kernel_rfl) (by kernel_rfl) (by kernel_rfl) (fun a64 h64 => ?_); clear h63
      refine pl_nil ?_
      refine co_then ?_
      refine co_seq ?_
      refine dr_gen (fun x => Below w.heap.size w x ∧ Blk x N3 24 #[.int .i64 c, .int .i64 r, v] ∧ Blk x N13 24 #[.int .i64 c2, .int .i64 r2, v2]) (by kernel_rfl) (fun w65 hg66 => ?_) (fun w65 hg66 => ?_)
      ·
        have hB67 := hb_new hB55 hg66
        have hz68 := hB67.size
        have hz69 := hg66.size
        have hk70 := hk58.kept hg66 (by simp)
        have hk71 := hk59.kept hg66 (by simp)
        exact ⟨hB67, hk70, hk71⟩
      have hB72 := hb_new hB55 hg66
      have hz73 := hB72.size
      have hz74 := hg66.size
      have hk75 := hk58.kept hg66 (by simp)
      have hk76 := hk59.kept hg66 (by simp)
      refine dr_take (i := 0) (v := .string (putB c r l)) h64 rfl (by kernel_rfl) (by kernel_rfl) (by kernel_rfl) rfl rfl rfl ⟨hB72, hk75, hk76⟩ (by kernel_rfl) (fun _ _ => by kernel_rfl) (fun a77 h77 => ?_); clear h64
      refine dr_take (i := 1) (v := .string (putB c r l)) h77 rfl (by kernel_rfl) (by kernel_rfl) (by kernel_rfl) rfl rfl rfl ⟨hB72, hk75, hk76⟩ (by kernel_rfl) (fun _ _ => by kernel_rfl) (fun a78 h78 => ?_); clear h77
      refine dr_take (i := 2) (v := .bool ((putB c r l : ByteArray).toList == (putB c r l : ByteArray).toList)) h78 rfl (by kernel_rfl) (by kernel_rfl) (by kernel_rfl) rfl rfl rfl ⟨hB72, hk75, hk76⟩ (by kernel_rfl) (fun _ _ => by kernel_rfl) (fun a79 h79 => ?_); clear h78
      refine dr_take (i := 3) (v := .bool ((putB c r l : ByteArray).toList == (putB c r l : ByteArray).toList)) h79 rfl (by kernel_rfl) (by kernel_rfl) (by kernel_rfl) rfl rfl rfl ⟨hB72, hk75, hk76⟩ (by kernel_rfl) (fun _ _ => by kernel_rfl) (fun a80 h80 => ?_); clear h79
      have hc81 : ((putB c r l : ByteArray).toList == (putB c r l : ByteArray).toList) = true := by first | (simp; done) | (simp; omega)
      rw [hc81] at h80; clear hc81
      refine dr_take (i := 4) (v := .int .i64 (chkB c r l)) h80 rfl (by kernel_rfl) (by kernel_rfl) (by kernel_rfl) rfl rfl rfl ⟨hB72, hk75, hk76⟩ (by kernel_rfl) (fun _ _ => by kernel_rfl) (fun a82 h82 => ?_); clear h80
      refine dr_take (i := 5) (v := .int .i64 (chkB c r l)) h82 rfl (by kernel_rfl) (by kernel_rfl) (by kernel_rfl) rfl rfl rfl ⟨hB72, hk75, hk76⟩ (by kernel_rfl) (fun _ _ => by kernel_rfl) (fun a83 h83 => ?_); clear h82
      refine dr_take (i := 6) (v := .bool (chkB c r l == chkB c r l)) h83 rfl (by kernel_rfl) (by kernel_rfl) (by kernel_rfl) rfl rfl rfl ⟨hB72, hk75, hk76⟩ (by kernel_rfl) (fun _ _ => by kernel_rfl) (fun a84 h84 => ?_); clear h83
      refine dr_take (i := 7) (v := .bool (chkB c r l == chkB c r l)) h84 rfl (by kernel_rfl) (by kernel_rfl) (by kernel_rfl) rfl rfl rfl ⟨hB72, hk75, hk76⟩ (by kernel_rfl) (fun _ _ => by kernel_rfl) (fun a85 h85 => ?_); clear h84
      refine dr_take (i := 8) (v := .bool (chkB c r l == chkB c r l)) h85 rfl (by kernel_rfl) (by kernel_rfl) (by kernel_rfl) rfl rfl rfl ⟨hB72, hk75, hk76⟩ (by kernel_rfl) (fun _ _ => by kernel_rfl) (fun a86 h86 => ?_); clear h85
      have hc87 : (chkB c r l == chkB c r l) = true := by first | (simp; done) | (simp; omega)
      rw [hc87] at h86; clear hc87
      refine dr_take (i := 9) (v := .agg #[.int .i64 c, .int .i64 r, v]) h86 rfl (by kernel_rfl) (by kernel_rfl) (by kernel_rfl) rfl rfl rfl ⟨hB72, hk75, hk76⟩ (by kernel_rfl) (fun x hx => (rn_loadN rfl rfl Try.underlying24 rfl (by kernel_rfl) hx.2.1.all)) (fun a88 h88 => ?_); clear h86
      refine dr_take (i := 11) (v := .agg #[.int .i64 c, .int .i64 r, v]) h88 rfl (by kernel_rfl) (by kernel_rfl) (by kernel_rfl) rfl rfl rfl ⟨hB72, hk75, hk76⟩ (by kernel_rfl) (fun x hx => (rn_loadN rfl rfl Try.underlying24 rfl (by kernel_rfl) hx.2.1.all)) (fun a89 h89 => ?_); clear h88
      refine dr_one (i := 10) h89 rfl (by kernel_rfl) rfl rfl rfl (op_call (args := #[.agg #[.int .i64 c, .int .i64 r, v]]) (R := fun res xw => res = .int .i64 (chkB c r l) ∧ Below w65.heap.size w65 xw) rfl rfl rfl (by kernel_rfl) (by kernel_rfl) (Try.call16 _ _) (opsCheck_any c r v l w65 (hs.below hB72)) (by rintro e x ⟨rfl, hb92⟩; exact ⟨_, rfl, ⟨rfl, hb92⟩⟩)) ?_ ?_; clear h89
      ·
        rintro _ w91 ⟨rfl, hb92⟩
        have hB93 := hb_call hB72 hb92
        have hz94 := hB93.size
        have hz95 := hb92.size
        have hk96 := hk75.below hb92
        have hk97 := hk76.below hb92
        exact ⟨hB93, hk96, hk97⟩
      rintro _ w91 a90 ⟨rfl, hb92⟩ h90
      have hB93 := hb_call hB72 hb92
      have hz94 := hB93.size
      have hz95 := hb92.size
      have hk96 := hk75.below hb92
      have hk97 := hk76.below hb92
      refine dr_one (i := 12) h90 rfl (by kernel_rfl) rfl rfl rfl (op_call (args := #[.agg #[.int .i64 c, .int .i64 r, v]]) (R := fun res xw => res = .int .i64 (chkB c r l) ∧ Below w91.heap.size w91 xw) rfl rfl rfl (by kernel_rfl) (by kernel_rfl) (Try.call17 _ _) (ropsCheck_any c r v l w91 (hs.below hB93)) (by rintro e x ⟨rfl, hb100⟩; exact ⟨_, rfl, ⟨rfl, hb100⟩⟩)) ?_ ?_; clear h90
      ·
        rintro _ w99 ⟨rfl, hb100⟩
        have hB101 := hb_call hB93 hb100
        have hz102 := hB101.size
        have hz103 := hb100.size
        have hk104 := hk96.below hb100
        have hk105 := hk97.below hb100
        exact ⟨hB101, hk104, hk105⟩
      rintro _ w99 a98 ⟨rfl, hb100⟩ h98
      have hB101 := hb_call hB93 hb100
      have hz102 := hB101.size
      have hz103 := hb100.size
      have hk104 := hk96.below hb100
      have hk105 := hk97.below hb100
      refine dr_take (i := 13) (v := .bool (chkB c r l == chkB c r l)) h98 rfl (by kernel_rfl) (by kernel_rfl) (by kernel_rfl) rfl rfl rfl ⟨hB101, hk104, hk105⟩ (by kernel_rfl) (fun _ _ => by kernel_rfl) (fun a106 h106 => ?_); clear h98
      refine dr_take (i := 14) (v := .bool (chkB c r l == chkB c r l)) h106 rfl (by kernel_rfl) (by kernel_rfl) (by kernel_rfl) rfl rfl rfl ⟨hB101, hk104, hk105⟩ (by kernel_rfl) (fun _ _ => by kernel_rfl) (fun a107 h107 => ?_); clear h106
      refine dr_take (i := 15) (v := .bool (chkB c r l == chkB c r l)) h107 rfl (by kernel_rfl) (by kernel_rfl) (by kernel_rfl) rfl rfl rfl ⟨hB101, hk104, hk105⟩ (by kernel_rfl) (fun _ _ => by kernel_rfl) (fun a108 h108 => ?_); clear h107
      have hc109 : (chkB c r l == chkB c r l) = true := by first | (simp; done) | (simp; omega)
      rw [hc109] at h108; clear hc109
      refine dr_take (i := 16) (v := .agg #[.int .i64 c, .int .i64 r, v]) h108 rfl (by kernel_rfl) (by kernel_rfl) (by kernel_rfl) rfl rfl rfl ⟨hB101, hk104, hk105⟩ (by kernel_rfl) (fun x hx => (rn_loadN rfl rfl Try.underlying24 rfl (by kernel_rfl) hx.2.1.all)) (fun a110 h110 => ?_); clear h108
      refine dr_take (i := 17) (v := .agg #[.int .i64 c2, .int .i64 r2, v2]) h110 rfl (by kernel_rfl) (by kernel_rfl) (by kernel_rfl) rfl rfl rfl ⟨hB101, hk104, hk105⟩ (by kernel_rfl) (fun x hx => (rn_loadN rfl rfl Try.underlying24 rfl (by kernel_rfl) hx.2.2.all)) (fun a111 h111 => ?_); clear h110
      refine dr_take (i := 19) (v := .agg #[.int .i64 c, .int .i64 r, v]) h111 rfl (by kernel_rfl) (by kernel_rfl) (by kernel_rfl) rfl rfl rfl ⟨hB101, hk104, hk105⟩ (by kernel_rfl) (fun x hx => (rn_loadN rfl rfl Try.underlying24 rfl (by kernel_rfl) hx.2.1.all)) (fun a112 h112 => ?_); clear h111
      refine dr_take (i := 20) (v := .agg #[.int .i64 c2, .int .i64 r2, v2]) h112 rfl (by kernel_rfl) (by kernel_rfl) (by kernel_rfl) rfl rfl rfl ⟨hB101, hk104, hk105⟩ (by kernel_rfl) (fun x hx => (rn_loadN rfl rfl Try.underlying24 rfl (by kernel_rfl) hx.2.2.all)) (fun a113 h113 => ?_); clear h112
      refine dr_one (i := 18) h113 rfl (by kernel_rfl) rfl rfl rfl (op_call (args := #[.agg #[.int .i64 c, .int .i64 r, v], .agg #[.int .i64 c2, .int .i64 r2, v2]]) (R := fun res xw => res = .bool (sameB c r l c2 r2 l2) ∧ Below w99.heap.size w99 xw) rfl rfl rfl (by kernel_rfl) (by kernel_rfl) (Try.call18 _ _) (opsSame_any c r v l c2 r2 v2 l2 w99 (hs.below hB101) (hs2.below hB101)) (by rintro e x ⟨rfl, hb116⟩; exact ⟨_, rfl, ⟨rfl, hb116⟩⟩)) ?_ ?_; clear h113
      ·
        rintro _ w115 ⟨rfl, hb116⟩
        have hB117 := hb_call hB101 hb116
        have hz118 := hB117.size
        have hz119 := hb116.size
        have hk120 := hk104.below hb116
        have hk121 := hk105.below hb116
        exact ⟨hB117, hk120, hk121⟩
      rintro _ w115 a114 ⟨rfl, hb116⟩ h114
      have hB117 := hb_call hB101 hb116
      have hz118 := hB117.size
      have hz119 := hb116.size
      have hk120 := hk104.below hb116
      have hk121 := hk105.below hb116
      refine dr_one (i := 21) h114 rfl (by kernel_rfl) rfl rfl rfl (op_call (args := #[.agg #[.int .i64 c, .int .i64 r, v], .agg #[.int .i64 c2, .int .i64 r2, v2]]) (R := fun res xw => res = .bool (sameB c r l c2 r2 l2) ∧ Below w115.heap.size w115 xw) rfl rfl rfl (by kernel_rfl) (by kernel_rfl) (Try.call19 _ _) (ropsSame_any c r v l c2 r2 v2 l2 w115 (hs.below hB117) (hs2.below hB117)) (by rintro e x ⟨rfl, hb124⟩; exact ⟨_, rfl, ⟨rfl, hb124⟩⟩)) ?_ ?_; clear h114
      ·
        rintro _ w123 ⟨rfl, hb124⟩
        have hB125 := hb_call hB117 hb124
        have hz126 := hB125.size
        have hz127 := hb124.size
        have hk128 := hk120.below hb124
        have hk129 := hk121.below hb124
        exact ⟨hB125, hk128, hk129⟩
      rintro _ w123 a122 ⟨rfl, hb124⟩ h122
      have hB125 := hb_call hB117 hb124
      have hz126 := hB125.size
      have hz127 := hb124.size
      have hk128 := hk120.below hb124
      have hk129 := hk121.below hb124
      refine dr_take (i := 22) (v := .bool ((sameB c r l c2 r2 l2) == (sameB c r l c2 r2 l2))) h122 rfl (by kernel_rfl) (by kernel_rfl) (by kernel_rfl) rfl rfl rfl ⟨hB125, hk128, hk129⟩ (by kernel_rfl) (fun _ _ => by kernel_rfl) (fun a130 h130 => ?_); clear h122
      refine dr_take (i := 23) (v := .bool ((sameB c r l c2 r2 l2) == (sameB c r l c2 r2 l2))) h130 rfl (by kernel_rfl) (by kernel_rfl) (by kernel_rfl) rfl rfl rfl ⟨hB125, hk128, hk129⟩ (by kernel_rfl) (fun _ _ => by kernel_rfl) (fun a131 h131 => ?_); clear h130
      refine dr_take (i := 24) (v := .bool ((sameB c r l c2 r2 l2) == (sameB c r l c2 r2 l2))) h131 rfl (by kernel_rfl) (by kernel_rfl) (by kernel_rfl) rfl rfl rfl ⟨hB125, hk128, hk129⟩ (by kernel_rfl) (fun _ _ => by kernel_rfl) (fun a132 h132 => ?_); clear h131
      have hc133 : ((sameB c r l c2 r2 l2) == (sameB c r l c2 r2 l2)) = true := by first | (simp; done) | (simp; omega)
      rw [hc133] at h132; clear hc133
      refine dr_take (i := 25) (v := .agg #[.int .i64 c, .int .i64 r, v]) h132 rfl (by kernel_rfl) (by kernel_rfl) (by kernel_rfl) rfl rfl rfl ⟨hB125, hk128, hk129⟩ (by kernel_rfl) (fun x hx => (rn_loadN rfl rfl Try.underlying24 rfl (by kernel_rfl) hx.2.1.all)) (fun a134 h134 => ?_); clear h132
      refine dr_take (i := 26) (v := .agg #[.int .i64 c, .int .i64 r, v]) h134 rfl (by kernel_rfl) (by kernel_rfl) (by kernel_rfl) rfl rfl rfl ⟨hB125, hk128, hk129⟩ (by kernel_rfl) (fun x hx => (rn_loadN rfl rfl Try.underlying24 rfl (by kernel_rfl) hx.2.1.all)) (fun a135 h135 => ?_); clear h134
      refine dr_one (i := 27) h135 rfl (by kernel_rfl) rfl rfl rfl (op_call (args := #[.agg #[.int .i64 c, .int .i64 r, v], .agg #[.int .i64 c, .int .i64 r, v]]) (R := fun res xw => res = .bool (sameB c r l c r l) ∧ Below w123.heap.size w123 xw) rfl rfl rfl (by kernel_rfl) (by kernel_rfl) (Try.call18 _ _) (opsSame_any c r v l c r v l w123 (hs.below hB125) (hs.below hB125)) (by rintro e x ⟨rfl, hb138⟩; exact ⟨_, rfl, ⟨rfl, hb138⟩⟩)) ?_ ?_; clear h135
      ·
        rintro _ w137 ⟨rfl, hb138⟩
        have hB139 := hb_call hB125 hb138
        have hz140 := hB139.size
        have hz141 := hb138.size
        have hk142 := hk128.below hb138
        have hk143 := hk129.below hb138
        exact ⟨hB139, hk142, hk143⟩
      rintro _ w137 a136 ⟨rfl, hb138⟩ h136
      have hB139 := hb_call hB125 hb138
      have hz140 := hB139.size
      have hz141 := hb138.size
      have hk142 := hk128.below hb138
      have hk143 := hk129.below hb138
      refine dr_take (i := 28) (v := .bool (sameB c r l c r l)) h136 rfl (by kernel_rfl) (by kernel_rfl) (by kernel_rfl) rfl rfl rfl ⟨hB139, hk142, hk143⟩ (by kernel_rfl) (fun _ _ => by kernel_rfl) (fun a144 h144 => ?_); clear h136
      refine dr_take (i := 29) (v := .bool (sameB c r l c r l)) h144 rfl (by kernel_rfl) (by kernel_rfl) (by kernel_rfl) rfl rfl rfl ⟨hB139, hk142, hk143⟩ (by kernel_rfl) (fun _ _ => by kernel_rfl) (fun a145 h145 => ?_); clear h144
      have hc146 : (sameB c r l c r l) = true := sameB_refl _ _ _
      rw [hc146] at h145; clear hc146
      refine dr_one (i := 30) h145 rfl (by kernel_rfl) rfl rfl rfl (op_call (args := #[]) (R := fun res xw => res = .bool true ∧ Below w137.heap.size w137 xw) rfl rfl rfl (by kernel_rfl) (by kernel_rfl) (Try.call13 _ _) (awake06_any  w137 ) (by rintro e x ⟨rfl, hb149⟩; exact ⟨_, rfl, ⟨rfl, hb149⟩⟩)) ?_ ?_; clear h145
      ·
        rintro _ w148 ⟨rfl, hb149⟩
        have hB150 := hb_call hB139 hb149
        have hz151 := hB150.size
        have hz152 := hb149.size
        have hk153 := hk142.below hb149
        have hk154 := hk143.below hb149
        exact ⟨hB150, hk153, hk154⟩
      rintro _ w148 a147 ⟨rfl, hb149⟩ h147
      have hB150 := hb_call hB139 hb149
      have hz151 := hB150.size
      have hz152 := hb149.size
      have hk153 := hk142.below hb149
      have hk154 := hk143.below hb149
      refine dr_take (i := 31) (v := .bool true) h147 rfl (by kernel_rfl) (by kernel_rfl) (by kernel_rfl) rfl rfl rfl ⟨hB150, hk153, hk154⟩ (by kernel_rfl) (fun _ _ => by kernel_rfl) (fun a155 h155 => ?_); clear h147
      refine dr_take (i := 32) (v := .bool true) h155 rfl (by kernel_rfl) (by kernel_rfl) (by kernel_rfl) rfl rfl rfl ⟨hB150, hk153, hk154⟩ (by kernel_rfl) (fun _ _ => by kernel_rfl) (fun a156 h156 => ?_); clear h155
      refine dr_done (by kernel_rfl) ?_
      refine co_then ?_
      refine wp_ret ?_
      refine co_ret1 h156 rfl rfl ?_
      exact ⟨rfl, hB150⟩
    ·
      rw [hc35] at h34
      have hp157 : ((l2.length : Nat) : Int) > 20 := of_decide_eq_true hc35
      clear hc35
      refine co_true h34 rfl ?_
      refine co_seq ?_
      refine co_reg ?_
      refine pl_want h34 rfl rfl rfl (op_call (args := #[]) (R := fun res xw => res = .bool true ∧ Below w12.heap.size w12 xw) rfl rfl rfl (by kernel_rfl) (by kernel_rfl) (Try.call13 _ _) (awake06_any  w12 ) (by rintro e x ⟨rfl, hb160⟩; exact ⟨_, rfl, ⟨rfl, hb160⟩⟩)) ?_; clear h34
      rintro _ w159 a158 ⟨rfl, hb160⟩ h158
      have hB161 := hb_call hB18 hb160
      have hz162 := hB161.size
      have hz163 := hb160.size
      have hk164 := hk21.below hb160
      have hk165 := hk15.below hb160
      refine pl_val (v := .bool true) h158 rfl rfl rfl (by kernel_rfl) (by kernel_rfl) (by kernel_rfl) (fun a166 h166 => ?_); clear h158
      refine pl_nil ?_
      refine co_then ?_
      refine wp_ret ?_
      refine co_thenR ?_
      refine co_ret1 h166 rfl rfl ?_
      exact ⟨rfl, hB161⟩
  ·
    rw [hc28] at h27
    have hp167 : ((l.length : Nat) : Int) > 20 := of_decide_eq_true hc28
    clear hc28
    refine pl_skip h27 rfl rfl rfl (fun a168 h168 => ?_); clear h27
    refine pl_skip h168 rfl rfl rfl (fun a169 h169 => ?_); clear h168
    refine pl_skip h169 rfl rfl rfl (fun a170 h170 => ?_); clear h169
    refine pl_skip h170 rfl rfl rfl (fun a171 h171 => ?_); clear h170
    refine pl_val (v := .bool true) h171 rfl rfl rfl (by kernel_rfl) (by kernel_rfl) (by kernel_rfl) (fun a172 h172 => ?_); clear h171
    refine pl_nil ?_
    refine co_then ?_
    refine co_true h172 rfl ?_
    refine co_seq ?_
    refine co_reg ?_
    refine pl_want h172 rfl rfl rfl (op_call (args := #[]) (R := fun res xw => res = .bool true ∧ Below w12.heap.size w12 xw) rfl rfl rfl (by kernel_rfl) (by kernel_rfl) (Try.call13 _ _) (awake06_any  w12 ) (by rintro e x ⟨rfl, hb175⟩; exact ⟨_, rfl, ⟨rfl, hb175⟩⟩)) ?_; clear h172
    rintro _ w174 a173 ⟨rfl, hb175⟩ h173
    have hB176 := hb_call hB18 hb175
    have hz177 := hB176.size
    have hz178 := hb175.size
    have hk179 := hk21.below hb175
    have hk180 := hk15.below hb175
    refine pl_val (v := .bool true) h173 rfl rfl rfl (by kernel_rfl) (by kernel_rfl) (by kernel_rfl) (fun a181 h181 => ?_); clear h173
    refine pl_nil ?_
    refine co_then ?_
    refine wp_ret ?_
    refine co_thenR ?_
    refine co_ret1 h181 rfl rfl ?_
    exact ⟨rfl, hB176⟩
set_option maxRecDepth 100000 in
theorem opsReads_law (s : ByteArray) (w : World) (hsz : s.size ≤ 140737488351232) :
    Calls Try.prog 4 #[.string s] w fun e w' => e = .returned (.bool true) ∧ Below w.heap.size w w' := by
  have hB0 := Below.refl w.heap.size w
  refine co_enter (n := 32) Try.func4 rfl rfl rfl [(0, .string s)] rfl (fun a h0 => ?_)
  refine co_seq ?_
  refine co_reg ?_
  refine pl_val (v := .bool false) h0 rfl rfl rfl (by kernel_rfl) (by kernel_rfl) (by kernel_rfl) (fun a1 h1 => ?_); clear h0
  refine pl_nil ?_
  refine co_then ?_
  refine co_seq ?_
  refine co_seq ?_
  refine co_reg ?_
  refine pl_val (v := .string s) h1 rfl rfl rfl (by kernel_rfl) (by kernel_rfl) (by kernel_rfl) (fun a2 h2 => ?_); clear h1
  refine pl_val (v := .int .i64 ((s.size : Nat) : Int)) h2 rfl rfl rfl (by kernel_rfl) (by kernel_rfl) (rn_lenStr rfl rfl Try.underlying9) (fun a3 h3 => ?_); clear h2
  refine pl_val (v := .bool (decide (((s.size : Nat) : Int) > 2000))) h3 rfl rfl rfl (by kernel_rfl) (by kernel_rfl) (by kernel_rfl) (fun a4 h4 => ?_); clear h3
  refine pl_nil ?_
  refine co_then ?_
  cases hc5 : (decide (((s.size : Nat) : Int) > 2000))
  ·
    rw [hc5] at h4
    have hp6 : ¬ (((s.size : Nat) : Int) > 2000) := of_decide_eq_false hc5
    clear hc5
    refine co_false h4 rfl ?_
    refine wp_skip ?_
    refine co_then ?_
    refine co_seq ?_
    refine co_reg ?_
    refine pl_val (v := .string s) h4 rfl rfl rfl (by kernel_rfl) (by kernel_rfl) (by kernel_rfl) (fun a7 h7 => ?_); clear h4
    refine pl_want h7 rfl rfl rfl (op_call (args := #[.string s]) (R := fun res xw => ∃ u : Value, res = .tuple #[.agg #[.int .i64 ((ofB s).1.1), .int .i64 ((ofB s).1.2.1), u], .int .i64 ((ofB s).2)] ∧ xw.ownsRow w.heap.size 83 3 u ((ofB s).1.2.2).length (((ofB s).1.2.2).flatMap opE) ∧ Below w.heap.size w xw) rfl rfl rfl (by kernel_rfl) (by kernel_rfl) (Try.call20 _ _) (opsOf_any s ((ofB s).1.1) ((ofB s).1.2.1) ((ofB s).1.2.2) ((ofB s).2) w (by first | omega | (simp; done) | (simp; omega)) rfl) (by rintro e x ⟨u, rfl, hq11, hb12⟩; exact ⟨_, rfl, ⟨u, rfl, hq11, hb12⟩⟩)) ?_; clear h7
    rintro _ w9 a8 ⟨u10, rfl, hq11, hb12⟩ h8
    have hB13 := hb_call hB0 hb12
    have hz14 := hB13.size
    have hz15 := hb12.size
    have hl16 := sl_len (row_sl hq11 opE_len)
    refine pl_val (v := .tuple #[.agg #[.int .i64 ((ofB s).1.1), .int .i64 ((ofB s).1.2.1), u10], .int .i64 ((ofB s).2)]) h8 rfl rfl rfl (by kernel_rfl) (by kernel_rfl) (by kernel_rfl) (fun a17 h17 => ?_); clear h8
    refine pl_val (v := .agg #[.int .i64 ((ofB s).1.1), .int .i64 ((ofB s).1.2.1), u10]) h17 rfl rfl rfl (by kernel_rfl) (by kernel_rfl) (by kernel_rfl) (fun a18 h18 => ?_); clear h17
    refine pl_val (v := .int .i64 ((ofB s).2)) h18 rfl rfl rfl (by kernel_rfl) (by kernel_rfl) (by kernel_rfl) (fun a19 h19 => ?_); clear h18
    refine pl_want h19 rfl rfl rfl (op_new (v := fun N => .pointer (some ⟨N, 0, none⟩)) (T := 24) (cs := #[.int .i64 0, .int .i64 0, .slice none 0 0]) (by kernel_rfl) (by kernel_rfl) (by kernel_rfl)) ?_; clear h19
    rintro _ w21 a20 ⟨N22, rfl, hN25, hz26, hk24, hg23⟩ h20
    have ha27 := row_fresh hq11 hN25
    have hB28 := hb_new hB13 hg23
    have hz29 := hB28.size
    have hz30 := hg23.size
    have hr31 := row_kept_new hq11 hg23
    try dsimp only at h20
    refine pl_doW h20 rfl rfl (op_storeN rfl rfl rfl (all_cons rfl (all_cons rfl (all_cons (row_one hr31) all_nil))) (by kernel_rfl) hk24 rfl) ?_; clear h20
    rintro _ w33 a32 ⟨hk34, hz35, hg36⟩ h32
    have hk34' : Blk w33 N22 24 #[.int .i64 ((ofB s).1.1), .int .i64 ((ofB s).1.2.1), u10] := hk34; clear hk34
    have hB37 := hb_at hB28 hg36 (by omega)
    have hz38 := hB37.size
    have hz39 := hg36.size
    have hr40 := row_kept_at hr31 hg36 (ha27)
    refine pl_val (v := .int .i64 ((ofB s).2)) h32 rfl rfl rfl (by kernel_rfl) (by kernel_rfl) (by kernel_rfl) (fun a41 h41 => ?_); clear h32
    refine pl_nil ?_
    refine co_then ?_
    refine co_seq ?_
    refine co_reg ?_
    refine pl_val (v := .string s) h41 rfl rfl rfl (by kernel_rfl) (by kernel_rfl) (by kernel_rfl) (fun a42 h42 => ?_); clear h41
    refine pl_want h42 rfl rfl rfl (op_call (args := #[.string s]) (R := fun res xw => ∃ u : Value, res = .tuple #[.agg #[.int .i64 ((ofB s).1.1), .int .i64 ((ofB s).1.2.1), u], .int .i64 ((ofB s).2)] ∧ xw.ownsRow w33.heap.size 83 3 u ((ofB s).1.2.2).length (((ofB s).1.2.2).flatMap opE) ∧ Below w33.heap.size w33 xw) rfl rfl rfl (by kernel_rfl) (by kernel_rfl) (Try.call21 _ _) (ropsOf_any s ((ofB s).1.1) ((ofB s).1.2.1) ((ofB s).1.2.2) ((ofB s).2) w33 (by first | omega | (simp; done) | (simp; omega)) rfl) (by rintro e x ⟨u, rfl, hq46, hb47⟩; exact ⟨_, rfl, ⟨u, rfl, hq46, hb47⟩⟩)) ?_; clear h42
    rintro _ w44 a43 ⟨u45, rfl, hq46, hb47⟩ h43
    have hB48 := hb_call hB37 hb47
    have hz49 := hB48.size
    have hz50 := hb47.size
    have hr51 := row_kept_new hr40 (below_grown hb47)
    have hk52 := hk34'.below hb47
    have hl53 := sl_len (row_sl hq46 opE_len)
    refine pl_val (v := .tuple #[.agg #[.int .i64 ((ofB s).1.1), .int .i64 ((ofB s).1.2.1), u45], .int .i64 ((ofB s).2)]) h43 rfl rfl rfl (by kernel_rfl) (by kernel_rfl) (by kernel_rfl) (fun a54 h54 => ?_); clear h43
    refine pl_val (v := .agg #[.int .i64 ((ofB s).1.1), .int .i64 ((ofB s).1.2.1), u45]) h54 rfl rfl rfl (by kernel_rfl) (by kernel_rfl) (by kernel_rfl) (fun a55 h55 => ?_); clear h54
    refine pl_val (v := .int .i64 ((ofB s).2)) h55 rfl rfl rfl (by kernel_rfl) (by kernel_rfl) (by kernel_rfl) (fun a56 h56 => ?_); clear h55
    refine pl_want h56 rfl rfl rfl (op_new (v := fun N => .pointer (some ⟨N, 0, none⟩)) (T := 24) (cs := #[.int .i64 0, .int .i64 0, .slice none 0 0]) (by kernel_rfl) (by kernel_rfl) (by kernel_rfl)) ?_; clear h56
    rintro _ w58 a57 ⟨N59, rfl, hN62, hz63, hk61, hg60⟩ h57
    have ha64 := row_fresh hr51 hN62
    have ha65 := row_fresh hq46 hN62
    have hB66 := hb_new hB48 hg60
    have hz67 := hB66.size
    have hz68 := hg60.size
    have hr69 := row_kept_new hr51 hg60
    have hk70 := hk52.kept hg60 (by simp)
    have hr71 := row_kept_new hq46 hg60
    try dsimp only at h57
    refine pl_doW h57 rfl rfl (op_storeN rfl rfl rfl (all_cons rfl (all_cons rfl (all_cons (row_one hr71) all_nil))) (by kernel_rfl) hk61 rfl) ?_; clear h57
    rintro _ w73 a72 ⟨hk74, hz75, hg76⟩ h72
    have hk74' : Blk w73 N59 24 #[.int .i64 ((ofB s).1.1), .int .i64 ((ofB s).1.2.1), u45] := hk74; clear hk74
    have hB77 := hb_at hB66 hg76 (by omega)
    have hz78 := hB77.size
    have hz79 := hg76.size
    have hr80 := row_kept_at hr69 hg76 (ha64)
    have hk81 := hk70.kept hg76 (by simp; omega)
    have hr82 := row_kept_at hr71 hg76 (ha65)
    refine pl_val (v := .int .i64 ((ofB s).2)) h72 rfl rfl rfl (by kernel_rfl) (by kernel_rfl) (by kernel_rfl) (fun a83 h83 => ?_); clear h72
    refine pl_nil ?_
    refine co_then ?_
    refine co_seq ?_
    refine co_reg ?_
    refine pl_val (v := .agg #[.int .i64 ((ofB s).1.1), .int .i64 ((ofB s).1.2.1), u10]) h83 rfl rfl rfl (by kernel_rfl) (by kernel_rfl) (rn_loadN rfl rfl Try.underlying24 rfl (by kernel_rfl) hk81.all) (fun a84 h84 => ?_); clear h83
    refine pl_val (v := .agg #[.int .i64 ((ofB s).1.1), .int .i64 ((ofB s).1.2.1), u45]) h84 rfl rfl rfl (by kernel_rfl) (by kernel_rfl) (rn_loadN rfl rfl Try.underlying24 rfl (by kernel_rfl) hk74'.all) (fun a85 h85 => ?_); clear h84
    refine pl_want h85 rfl rfl rfl (op_call (args := #[.agg #[.int .i64 ((ofB s).1.1), .int .i64 ((ofB s).1.2.1), u10], .agg #[.int .i64 ((ofB s).1.1), .int .i64 ((ofB s).1.2.1), u45]]) (R := fun res xw => res = .bool (sameB ((ofB s).1.1) ((ofB s).1.2.1) ((ofB s).1.2.2) ((ofB s).1.1) ((ofB s).1.2.1) ((ofB s).1.2.2)) ∧ Below w73.heap.size w73 xw) rfl rfl rfl (by kernel_rfl) (by kernel_rfl) (Try.call19 _ _) (ropsSame_any ((ofB s).1.1) ((ofB s).1.2.1) u10 ((ofB s).1.2.2) ((ofB s).1.1) ((ofB s).1.2.1) u45 ((ofB s).1.2.2) w73 (row_sl hr80 opE_len) (row_sl hr82 opE_len)) (by rintro e x ⟨rfl, hb88⟩; exact ⟨_, rfl, ⟨rfl, hb88⟩⟩)) ?_; clear h85
    rintro _ w87 a86 ⟨rfl, hb88⟩ h86
    have hB89 := hb_call hB77 hb88
    have hz90 := hB89.size
    have hz91 := hb88.size
    have hr92 := row_kept_new hr80 (below_grown hb88)
    have hk93 := hk81.below hb88
    have hr94 := row_kept_new hr82 (below_grown hb88)
    have hk95 := hk74'.below hb88
    refine pl_val (v := .bool (sameB ((ofB s).1.1) ((ofB s).1.2.1) ((ofB s).1.2.2) ((ofB s).1.1) ((ofB s).1.2.1) ((ofB s).1.2.2))) h86 rfl rfl rfl (by kernel_rfl) (by kernel_rfl) (by kernel_rfl) (fun a96 h96 => ?_); clear h86
    have hc97 : (sameB ((ofB s).1.1) ((ofB s).1.2.1) ((ofB s).1.2.2) ((ofB s).1.1) ((ofB s).1.2.1) ((ofB s).1.2.2)) = true := sameB_refl _ _ _
    rw [hc97] at h96; clear hc97
    refine pl_val (v := .int .i64 ((ofB s).2)) h96 rfl rfl rfl (by kernel_rfl) (by kernel_rfl) (by kernel_rfl) (fun a98 h98 => ?_); clear h96
    refine pl_val (v := .int .i64 ((ofB s).2)) h98 rfl rfl rfl (by kernel_rfl) (by kernel_rfl) (by kernel_rfl) (fun a99 h99 => ?_); clear h98
    refine pl_val (v := .bool (((ofB s).2) == ((ofB s).2))) h99 rfl rfl rfl (by kernel_rfl) (by kernel_rfl) (by kernel_rfl) (fun a100 h100 => ?_); clear h99
    refine pl_val (v := .bool (((ofB s).2) == ((ofB s).2))) h100 rfl rfl rfl (by kernel_rfl) (by kernel_rfl) (by kernel_rfl) (fun a101 h101 => ?_); clear h100
    refine pl_val (v := .bool (((ofB s).2) == ((ofB s).2))) h101 rfl rfl rfl (by kernel_rfl) (by kernel_rfl) (by kernel_rfl) (fun a102 h102 => ?_); clear h101
    have hc103 : (((ofB s).2) == ((ofB s).2)) = true := by first | (simp; done) | (simp; omega)
    rw [hc103] at h102; clear hc103
    refine pl_want h102 rfl rfl rfl (op_call (args := #[]) (R := fun res xw => res = .bool true ∧ Below w87.heap.size w87 xw) rfl rfl rfl (by kernel_rfl) (by kernel_rfl) (Try.call13 _ _) (awake06_any  w87 ) (by rintro e x ⟨rfl, hb106⟩; exact ⟨_, rfl, ⟨rfl, hb106⟩⟩)) ?_; clear h102
    rintro _ w105 a104 ⟨rfl, hb106⟩ h104
    have hB107 := hb_call hB89 hb106
    have hz108 := hB107.size
    have hz109 := hb106.size
    have hr110 := row_kept_new hr92 (below_grown hb106)
    have hk111 := hk93.below hb106
    have hr112 := row_kept_new hr94 (below_grown hb106)
    have hk113 := hk95.below hb106
    refine pl_val (v := .bool true) h104 rfl rfl rfl (by kernel_rfl) (by kernel_rfl) (by kernel_rfl) (fun a114 h114 => ?_); clear h104
    refine pl_val (v := .bool true) h114 rfl rfl rfl (by kernel_rfl) (by kernel_rfl) (by kernel_rfl) (fun a115 h115 => ?_); clear h114
    refine pl_nil ?_
    refine co_then ?_
    refine wp_ret ?_
    refine co_ret1 h115 rfl rfl ?_
    exact ⟨rfl, hB107⟩
  ·
    rw [hc5] at h4
    have hp116 : ((s.size : Nat) : Int) > 2000 := of_decide_eq_true hc5
    clear hc5
    refine co_true h4 rfl ?_
    refine co_seq ?_
    refine co_reg ?_
    refine pl_want h4 rfl rfl rfl (op_call (args := #[]) (R := fun res xw => res = .bool true ∧ Below w.heap.size w xw) rfl rfl rfl (by kernel_rfl) (by kernel_rfl) (Try.call13 _ _) (awake06_any  w ) (by rintro e x ⟨rfl, hb119⟩; exact ⟨_, rfl, ⟨rfl, hb119⟩⟩)) ?_; clear h4
    rintro _ w118 a117 ⟨rfl, hb119⟩ h117
    have hB120 := hb_call hB0 hb119
    have hz121 := hB120.size
    have hz122 := hb119.size
    refine pl_val (v := .bool true) h117 rfl rfl rfl (by kernel_rfl) (by kernel_rfl) (by kernel_rfl) (fun a123 h123 => ?_); clear h117
    refine pl_nil ?_
    refine co_then ?_
    refine wp_ret ?_
    refine co_thenR ?_
    refine co_ret1 h123 rfl rfl ?_
    exact ⟨rfl, hB120⟩
end Go.Proofs.Ytciilfkjecmdiaa

/- A batch that came in by value, opened. Conditions: none. -/
namespace Go.Proofs.Ytciilfkjecmdiaa
open Go.RowKit Go.ChangeShapes Go.WideShapes Go.Deep
structure BatT where
  c : Int
  r : Int
  v : Value
  l : List OpT
def batV (b : BatT) : Value := .agg #[.int .i64 b.c, .int .i64 b.r, b.v]
def BatOk (w : World) (b : BatT) : Prop := SliceOf opE 3 w b.v b.l
section
variable {H : Type} {enc : TypeId × Value → H} {w : World} {base : Nat} {spare : Nat → Bool} {held : Bool}
set_option maxRecDepth 10000 in
theorem elem_op (n : Nat) (cs : List Value) (x : DataW H × List MemPlace) (h : DataW.trod enc Try.prog w base spare held n 83 cs = some x) : ∃ p : OpT, cs = opE p ∧ True := by
  obtain ⟨hl, m, hf⟩ := trod_fields Try.underlying83 (by kernel_rfl) (by kernel_rfl) h
  have hl3 : cs.length = 3 := hl
  clear hl
  match cs, hl3 with
  | [c0, c1, c2], _ =>
    obtain ⟨_, y0, e0, h0⟩ := hf 0 _ rfl
    obtain ⟨_, y1, e1, h1⟩ := hf 1 _ rfl
    obtain ⟨_, y2, e2, h2⟩ := hf 2 _ rfl
    cases e0; cases e1; cases e2
    obtain ⟨a, e0, _⟩ := DataW.trod_string Try.underlying9 h0
    obtain ⟨b, e1, _⟩ := DataW.trod_string Try.underlying9 h1
    obtain ⟨c, e2, _⟩ := DataW.trod_bool Try.underlying4 h2
    simp only [List.cons.injEq, and_true] at e0 e1 e2
    subst e0 e1 e2
    exact ⟨(a, b, c), rfl, trivial⟩
theorem open_ops {fuel : Nat} {cs : List Value} {x : DataW H × List MemPlace} (h : DataW.trod enc Try.prog w base spare held fuel 22 cs = some x) :
    ∃ (l : List OpT) (v : Value), cs = [v] ∧ SliceOf opE 3 w v l ∧ ∀ p ∈ l, True :=
  open_rows opE 3 (fun _ => True) Try.underlying22 (by kernel_rfl) (by omega) elem_op h
set_option maxRecDepth 10000 in
theorem open_bat {W0 : World} {base b0 : Nat} {spare : Nat → Bool} {held : Bool} {r : Reach} {v : Value} {n : Nat} {x : DataW H × List MemPlace}
    (hv : Value.okWide Try.prog w r b0 24 v) (h : DataW.trod enc Try.prog W0 base spare held n 24 v.cells.toList = some x) :
    ∃ c : BatT, v = batV c ∧ BatOk W0 c := by
  obtain ⟨cs, rfl, hsz⟩ := okWide_struct Try.underlying24 hv
  obtain ⟨hl, m, hf⟩ := trod_fields Try.underlying24 (by kernel_rfl) (by kernel_rfl) h
  have hl3 : cs.toList.length = 3 := hl
  clear hl
  obtain ⟨cl⟩ := cs
  simp only [Value.cells] at hf
  match cl, hl3 with
  | [c0, c1, c2], _ =>
    obtain ⟨_, y0, e0, h0⟩ := hf 0 _ rfl
    obtain ⟨_, y1, e1, h1⟩ := hf 1 _ rfl
    obtain ⟨_, y2, e2, h2⟩ := hf 2 _ rfl
    cases e0; cases e1; cases e2
    obtain ⟨a, e0, _⟩ := DataW.trod_int Try.underlying3 h0
    obtain ⟨b, e1, _⟩ := DataW.trod_int Try.underlying3 h1
    obtain ⟨l, u, e2, hs, _⟩ := open_ops h2
    simp only [List.cons.injEq, and_true] at e0 e1 e2
    subst e0 e1 e2
    exact ⟨⟨a, b, _, l⟩, rfl, hs⟩
end
theorem opsPuts_bat (a b : BatT) (w : World) (ha : BatOk w a) (hb : BatOk w b) : Calls Try.prog 3 #[batV a, batV b] w fun e w' => e = .returned (.bool true) ∧ Below w.heap.size w w' := opsPuts_law a.c a.r a.v a.l b.c b.r b.v b.l w ha hb
end Go.Proofs.Ytciilfkjecmdiaa

/- catenalaw06: OpsBack. Conditions: none. -/
namespace Go.Proofs.Ytciilfkjecmdiaa
open Go.RowKit Go.PlainAid
set_option linter.unusedVariables false

open Go.Sort Go.Shelf Go.Lib
set_option maxRecDepth 100000 in
theorem opsBack_law (c : Int) (r : Int) (v : Value) (l : List OpT) (s : ByteArray) (w : World) (hs : SliceOf opE 3 w v l) (hsz : s.size ≤ 140737488351232) :
    Calls Try.prog 5 #[.agg #[.int .i64 c, .int .i64 r, v], .string s] w fun e w' => e = .returned (.bool true) ∧ Below w.heap.size w w' := by
  have hb1 : chkB c r l = 0 → (ofB (putB c r l)).2 = 0 := fun h => back_put0 h
  have hb2 : (ofB s).2 = 0 → chkB (ofB s).1.1 (ofB s).1.2.1 (ofB s).1.2.2 = 0 := fun h => (back_of h).2
  have hB0 := Below.refl w.heap.size w
  have hl_hs := sl_len hs
  refine co_enter (n := 71) Try.func5 rfl rfl rfl [(0, .agg #[.int .i64 c, .int .i64 r, v]), (1, .string s)] rfl (fun a h0 => ?_)
  refine co_seq ?_
  refine co_reg ?_
  refine pl_want h0 rfl rfl rfl (op_new (v := fun N => .pointer (some ⟨N, 0, none⟩)) (T := 24) (cs := #[.int .i64 c, .int .i64 r, v]) (by kernel_rfl) (by kernel_rfl) (by kernel_rfl)) ?_; clear h0
  rintro _ w2 a1 ⟨N3, rfl, hN6, hz7, hk5, hg4⟩ h1
  have hB8 := hb_new hB0 hg4
  have hz9 := hB8.size
  have hz10 := hg4.size
  try dsimp only at h1
  refine pl_val (v := .bool false) h1 rfl rfl rfl (by kernel_rfl) (by kernel_rfl) (by kernel_rfl) (fun a11 h11 => ?_); clear h1
  refine pl_nil ?_
  refine co_then ?_
  refine co_seq ?_
  refine co_seq ?_
  refine co_reg ?_
  refine pl_val (v := .pointer (some ⟨N3, 2, none⟩)) h11 rfl rfl rfl (by kernel_rfl) (by kernel_rfl) (by kernel_rfl) (fun a12 h12 => ?_); clear h11
  refine pl_val (v := v) h12 rfl rfl rfl (by kernel_rfl) (by kernel_rfl) (rn_load1 rfl rfl Try.isAgg22 (hk5.cell rfl)) (fun a13 h13 => ?_); clear h12
  refine pl_val (v := .int .i64 ((l.length : Nat) : Int)) h13 rfl rfl rfl (by kernel_rfl) (by kernel_rfl) (rn_len rfl rfl Try.underlying22 (hs.below hB8)) (fun a14 h14 => ?_); clear h13
  refine pl_val (v := .bool (decide (((l.length : Nat) : Int) > 20))) h14 rfl rfl rfl (by kernel_rfl) (by kernel_rfl) (by kernel_rfl) (fun a15 h15 => ?_); clear h14
  refine pl_val (v := .bool (decide (((l.length : Nat) : Int) > 20))) h15 rfl rfl rfl (by kernel_rfl) (by kernel_rfl) (by kernel_rfl) (fun a16 h16 => ?_); clear h15
  cases hc17 : (decide (((l.length : Nat) : Int) > 20))
  ·
    rw [hc17] at h16
    have hp18 : ¬ (((l.length : Nat) : Int) > 20) := of_decide_eq_false hc17
    clear hc17
    refine pl_val (v := .string s) h16 rfl rfl rfl (by kernel_rfl) (by kernel_rfl) (by kernel_rfl) (fun a19 h19 => ?_); clear h16
    refine pl_val (v := .int .i64 ((s.size : Nat) : Int)) h19 rfl rfl rfl (by kernel_rfl) (by kernel_rfl) (rn_lenStr rfl rfl Try.underlying9) (fun a20 h20 => ?_); clear h19
    refine pl_val (v := .bool (decide (((s.size : Nat) : Int) > 2000))) h20 rfl rfl rfl (by kernel_rfl) (by kernel_rfl) (by kernel_rfl) (fun a21 h21 => ?_); clear h20
    refine pl_val (v := .bool (decide (((s.size : Nat) : Int) > 2000))) h21 rfl rfl rfl (by kernel_rfl) (by kernel_rfl) (by kernel_rfl) (fun a22 h22 => ?_); clear h21
    refine pl_nil ?_
    refine co_then ?_
    cases hc23 : (decide (((s.size : Nat) : Int) > 2000))
    ·
      rw [hc23] at h22
      have hp24 : ¬ (((s.size : Nat) : Int) > 2000) := of_decide_eq_false hc23
      clear hc23
      refine co_false h22 rfl ?_
      refine wp_skip ?_
      refine co_then ?_
      refine co_seq ?_
      refine co_reg ?_
      refine pl_val (v := .agg #[.int .i64 c, .int .i64 r, v]) h22 rfl rfl rfl (by kernel_rfl) (by kernel_rfl) (rn_loadN rfl rfl Try.underlying24 rfl (by kernel_rfl) hk5.all) (fun a25 h25 => ?_); clear h22
      refine pl_want h25 rfl rfl rfl (op_call (args := #[.agg #[.int .i64 c, .int .i64 r, v]]) (R := fun res xw => res = .tuple #[.string (putB c r l), .int .i64 (chkB c r l)] ∧ Below w2.heap.size w2 xw) rfl rfl rfl (by kernel_rfl) (by kernel_rfl) (Try.call14 _ _) (opsPut_any c r v l w2 (hs.below hB8)) (by rintro e x ⟨rfl, hb28⟩; exact ⟨_, rfl, ⟨rfl, hb28⟩⟩)) ?_; clear h25
      rintro _ w27 a26 ⟨rfl, hb28⟩ h26
      have hB29 := hb_call hB8 hb28
      have hz30 := hB29.size
      have hz31 := hb28.size
      have hk32 := hk5.below hb28
      refine pl_val (v := .tuple #[.string (putB c r l), .int .i64 (chkB c r l)]) h26 rfl rfl rfl (by kernel_rfl) (by kernel_rfl) (by kernel_rfl) (fun a33 h33 => ?_); clear h26
      refine pl_val (v := .string (putB c r l)) h33 rfl rfl rfl (by kernel_rfl) (by kernel_rfl) (by kernel_rfl) (fun a34 h34 => ?_); clear h33
      refine pl_val (v := .int .i64 (chkB c r l)) h34 rfl rfl rfl (by kernel_rfl) (by kernel_rfl) (by kernel_rfl) (fun a35 h35 => ?_); clear h34
      refine pl_val (v := .string (putB c r l)) h35 rfl rfl rfl (by kernel_rfl) (by kernel_rfl) (by kernel_rfl) (fun a36 h36 => ?_); clear h35
      refine pl_val (v := .int .i64 (chkB c r l)) h36 rfl rfl rfl (by kernel_rfl) (by kernel_rfl) (by kernel_rfl) (fun a37 h37 => ?_); clear h36
      refine pl_nil ?_
      refine co_then ?_
      refine co_seq ?_
      refine co_seq ?_
      refine co_reg ?_
      refine pl_val (v := .int .i64 (chkB c r l)) h37 rfl rfl rfl (by kernel_rfl) (by kernel_rfl) (by kernel_rfl) (fun a38 h38 => ?_); clear h37
      refine pl_val (v := .bool (chkB c r l == 0)) h38 rfl rfl rfl (by kernel_rfl) (by kernel_rfl) (by kernel_rfl) (fun a39 h39 => ?_); clear h38
      refine pl_nil ?_
      refine co_then ?_
      cases hc40 : (chkB c r l == 0)
      ·
        rw [hc40] at h39
        have hp41 : ¬ (chkB c r l = 0) := by first | simpa using hc40 | simpa [and_assoc] using hc40
        clear hc40
        refine co_false h39 rfl ?_
        refine wp_skip ?_
        refine co_then ?_
        refine co_seq ?_
        refine co_reg ?_
        refine pl_val (v := .string s) h39 rfl rfl rfl (by kernel_rfl) (by kernel_rfl) (by kernel_rfl) (fun a42 h42 => ?_); clear h39
        refine pl_want h42 rfl rfl rfl (op_call (args := #[.string s]) (R := fun res xw => ∃ u : Value, res = .tuple #[.agg #[.int .i64 ((ofB s).1.1), .int .i64 ((ofB s).1.2.1), u], .int .i64 ((ofB s).2)] ∧ xw.ownsRow w27.heap.size 83 3 u ((ofB s).1.2.2).length (((ofB s).1.2.2).flatMap opE) ∧ Below w27.heap.size w27 xw) rfl rfl rfl (by kernel_rfl) (by kernel_rfl) (Try.call20 _ _) (opsOf_any s ((ofB s).1.1) ((ofB s).1.2.1) ((ofB s).1.2.2) ((ofB s).2) w27 (by first | omega | (simp; done) | (simp; omega)) rfl) (by rintro e x ⟨u, rfl, hq46, hb47⟩; exact ⟨_, rfl, ⟨u, rfl, hq46, hb47⟩⟩)) ?_; clear h42
        rintro _ w44 a43 ⟨u45, rfl, hq46, hb47⟩ h43
        have hB48 := hb_call hB29 hb47
        have hz49 := hB48.size
        have hz50 := hb47.size
        have hk51 := hk32.below hb47
        have hl52 := sl_len (row_sl hq46 opE_len)
        refine pl_val (v := .tuple #[.agg #[.int .i64 ((ofB s).1.1), .int .i64 ((ofB s).1.2.1), u45], .int .i64 ((ofB s).2)]) h43 rfl rfl rfl (by kernel_rfl) (by kernel_rfl) (by kernel_rfl) (fun a53 h53 => ?_); clear h43
        refine pl_val (v := .agg #[.int .i64 ((ofB s).1.1), .int .i64 ((ofB s).1.2.1), u45]) h53 rfl rfl rfl (by kernel_rfl) (by kernel_rfl) (by kernel_rfl) (fun a54 h54 => ?_); clear h53
        refine pl_val (v := .int .i64 ((ofB s).2)) h54 rfl rfl rfl (by kernel_rfl) (by kernel_rfl) (by kernel_rfl) (fun a55 h55 => ?_); clear h54
        refine pl_want h55 rfl rfl rfl (op_new (v := fun N => .pointer (some ⟨N, 0, none⟩)) (T := 24) (cs := #[.int .i64 0, .int .i64 0, .slice none 0 0]) (by kernel_rfl) (by kernel_rfl) (by kernel_rfl)) ?_; clear h55
        rintro _ w57 a56 ⟨N58, rfl, hN61, hz62, hk60, hg59⟩ h56
        have ha63 := row_fresh hq46 hN61
        have hB64 := hb_new hB48 hg59
        have hz65 := hB64.size
        have hz66 := hg59.size
        have hk67 := hk51.kept hg59 (by simp)
        have hr68 := row_kept_new hq46 hg59
        try dsimp only at h56
        refine pl_doW h56 rfl rfl (op_storeN rfl rfl rfl (all_cons rfl (all_cons rfl (all_cons (row_one hr68) all_nil))) (by kernel_rfl) hk60 rfl) ?_; clear h56
        rintro _ w70 a69 ⟨hk71, hz72, hg73⟩ h69
        have hk71' : Blk w70 N58 24 #[.int .i64 ((ofB s).1.1), .int .i64 ((ofB s).1.2.1), u45] := hk71; clear hk71
        have hB74 := hb_at hB64 hg73 (by omega)
        have hz75 := hB74.size
        have hz76 := hg73.size
        have hk77 := hk67.kept hg73 (by simp; omega)
        have hr78 := row_kept_at hr68 hg73 (ha63)
        refine pl_val (v := .int .i64 ((ofB s).2)) h69 rfl rfl rfl (by kernel_rfl) (by kernel_rfl) (by kernel_rfl) (fun a79 h79 => ?_); clear h69
        refine pl_nil ?_
        refine co_then ?_
        refine co_seq ?_
        refine co_seq ?_
        refine co_reg ?_
        refine pl_val (v := .int .i64 ((ofB s).2)) h79 rfl rfl rfl (by kernel_rfl) (by kernel_rfl) (by kernel_rfl) (fun a80 h80 => ?_); clear h79
        refine pl_val (v := .bool (((ofB s).2) != 0)) h80 rfl rfl rfl (by kernel_rfl) (by kernel_rfl) (by kernel_rfl) (fun a81 h81 => ?_); clear h80
        refine pl_nil ?_
        refine co_then ?_
        cases hc82 : (((ofB s).2) != 0)
        ·
          rw [hc82] at h81
          have hp83 : ¬ (((ofB s).2) ≠ 0) := by first | simpa using hc82 | simpa [and_assoc] using hc82
          clear hc82
          refine co_false h81 rfl ?_
          refine wp_skip ?_
          refine co_then ?_
          refine co_seq ?_
          refine co_reg ?_
          refine pl_val (v := .agg #[.int .i64 ((ofB s).1.1), .int .i64 ((ofB s).1.2.1), u45]) h81 rfl rfl rfl (by kernel_rfl) (by kernel_rfl) (rn_loadN rfl rfl Try.underlying24 rfl (by kernel_rfl) hk71'.all) (fun a84 h84 => ?_); clear h81
          refine pl_want h84 rfl rfl rfl (op_call (args := #[.agg #[.int .i64 ((ofB s).1.1), .int .i64 ((ofB s).1.2.1), u45]]) (R := fun res xw => res = .tuple #[.string (putB ((ofB s).1.1) ((ofB s).1.2.1) ((ofB s).1.2.2)), .int .i64 (chkB ((ofB s).1.1) ((ofB s).1.2.1) ((ofB s).1.2.2))] ∧ Below w70.heap.size w70 xw) rfl rfl rfl (by kernel_rfl) (by kernel_rfl) (Try.call14 _ _) (opsPut_any ((ofB s).1.1) ((ofB s).1.2.1) u45 ((ofB s).1.2.2) w70 (row_sl hr78 opE_len)) (by rintro e x ⟨rfl, hb87⟩; exact ⟨_, rfl, ⟨rfl, hb87⟩⟩)) ?_; clear h84
          rintro _ w86 a85 ⟨rfl, hb87⟩ h85
          have hB88 := hb_call hB74 hb87
          have hz89 := hB88.size
          have hz90 := hb87.size
          have hk91 := hk77.below hb87
          have hr92 := row_kept_new hr78 (below_grown hb87)
          have hk93 := hk71'.below hb87
          refine pl_val (v := .tuple #[.string (putB ((ofB s).1.1) ((ofB s).1.2.1) ((ofB s).1.2.2)), .int .i64 (chkB ((ofB s).1.1) ((ofB s).1.2.1) ((ofB s).1.2.2))]) h85 rfl rfl rfl (by kernel_rfl) (by kernel_rfl) (by kernel_rfl) (fun a94 h94 => ?_); clear h85
          refine pl_val (v := .string (putB ((ofB s).1.1) ((ofB s).1.2.1) ((ofB s).1.2.2))) h94 rfl rfl rfl (by kernel_rfl) (by kernel_rfl) (by kernel_rfl) (fun a95 h95 => ?_); clear h94
          refine pl_val (v := .int .i64 (chkB ((ofB s).1.1) ((ofB s).1.2.1) ((ofB s).1.2.2))) h95 rfl rfl rfl (by kernel_rfl) (by kernel_rfl) (by kernel_rfl) (fun a96 h96 => ?_); clear h95
          refine pl_val (v := .string (putB ((ofB s).1.1) ((ofB s).1.2.1) ((ofB s).1.2.2))) h96 rfl rfl rfl (by kernel_rfl) (by kernel_rfl) (by kernel_rfl) (fun a97 h97 => ?_); clear h96
          refine pl_val (v := .int .i64 (chkB ((ofB s).1.1) ((ofB s).1.2.1) ((ofB s).1.2.2))) h97 rfl rfl rfl (by kernel_rfl) (by kernel_rfl) (by kernel_rfl) (fun a98 h98 => ?_); clear h97
          refine pl_nil ?_
          refine co_then ?_
          refine co_seq ?_
          refine co_reg ?_
          refine pl_val (v := .string (putB ((ofB s).1.1) ((ofB s).1.2.1) ((ofB s).1.2.2))) h98 rfl rfl rfl (by kernel_rfl) (by kernel_rfl) (by kernel_rfl) (fun a99 h99 => ?_); clear h98
          refine pl_val (v := .string s) h99 rfl rfl rfl (by kernel_rfl) (by kernel_rfl) (by kernel_rfl) (fun a100 h100 => ?_); clear h99
          refine pl_val (v := .bool ((putB ((ofB s).1.1) ((ofB s).1.2.1) ((ofB s).1.2.2) : ByteArray).toList == s.toList)) h100 rfl rfl rfl (by kernel_rfl) (by kernel_rfl) (by kernel_rfl) (fun a101 h101 => ?_); clear h100
          refine pl_val (v := .bool ((putB ((ofB s).1.1) ((ofB s).1.2.1) ((ofB s).1.2.2) : ByteArray).toList == s.toList)) h101 rfl rfl rfl (by kernel_rfl) (by kernel_rfl) (by kernel_rfl) (fun a102 h102 => ?_); clear h101
          have hc103 : ((putB ((ofB s).1.1) ((ofB s).1.2.1) ((ofB s).1.2.2) : ByteArray).toList == s.toList) = true := by rw [(back_of (s := s) (by omega)).1]; simp
          rw [hc103] at h102; clear hc103
          refine pl_val (v := .int .i64 (chkB ((ofB s).1.1) ((ofB s).1.2.1) ((ofB s).1.2.2))) h102 rfl rfl rfl (by kernel_rfl) (by kernel_rfl) (by kernel_rfl) (fun a104 h104 => ?_); clear h102
          refine pl_val (v := .bool (chkB ((ofB s).1.1) ((ofB s).1.2.1) ((ofB s).1.2.2) == 0)) h104 rfl rfl rfl (by kernel_rfl) (by kernel_rfl) (by kernel_rfl) (fun a105 h105 => ?_); clear h104
          refine pl_val (v := .bool (chkB ((ofB s).1.1) ((ofB s).1.2.1) ((ofB s).1.2.2) == 0)) h105 rfl rfl rfl (by kernel_rfl) (by kernel_rfl) (by kernel_rfl) (fun a106 h106 => ?_); clear h105
          refine pl_val (v := .bool (chkB ((ofB s).1.1) ((ofB s).1.2.1) ((ofB s).1.2.2) == 0)) h106 rfl rfl rfl (by kernel_rfl) (by kernel_rfl) (by kernel_rfl) (fun a107 h107 => ?_); clear h106
          have hc108 : (chkB ((ofB s).1.1) ((ofB s).1.2.1) ((ofB s).1.2.2) == 0) = true := by first | (simp; done) | (simp; omega)
          rw [hc108] at h107; clear hc108
          refine pl_want h107 rfl rfl rfl (op_call (args := #[]) (R := fun res xw => res = .bool true ∧ Below w86.heap.size w86 xw) rfl rfl rfl (by kernel_rfl) (by kernel_rfl) (Try.call13 _ _) (awake06_any  w86 ) (by rintro e x ⟨rfl, hb111⟩; exact ⟨_, rfl, ⟨rfl, hb111⟩⟩)) ?_; clear h107
          rintro _ w110 a109 ⟨rfl, hb111⟩ h109
          have hB112 := hb_call hB88 hb111
          have hz113 := hB112.size
          have hz114 := hb111.size
          have hk115 := hk91.below hb111
          have hr116 := row_kept_new hr92 (below_grown hb111)
          have hk117 := hk93.below hb111
          refine pl_val (v := .bool true) h109 rfl rfl rfl (by kernel_rfl) (by kernel_rfl) (by kernel_rfl) (fun a118 h118 => ?_); clear h109
          refine pl_val (v := .bool true) h118 rfl rfl rfl (by kernel_rfl) (by kernel_rfl) (by kernel_rfl) (fun a119 h119 => ?_); clear h118
          refine pl_nil ?_
          refine co_then ?_
          refine wp_ret ?_
          refine co_ret1 h119 rfl rfl ?_
          exact ⟨rfl, hB112⟩
        ·
          rw [hc82] at h81
          have hp120 : ((ofB s).2) ≠ 0 := by first | simpa using hc82 | simpa [and_assoc] using hc82
          clear hc82
          refine co_true h81 rfl ?_
          refine co_seq ?_
          refine co_reg ?_
          refine pl_val (v := .agg #[.int .i64 ((ofB s).1.1), .int .i64 ((ofB s).1.2.1), u45]) h81 rfl rfl rfl (by kernel_rfl) (by kernel_rfl) (rn_loadN rfl rfl Try.underlying24 rfl (by kernel_rfl) hk71'.all) (fun a121 h121 => ?_); clear h81
          refine pl_val (v := .agg #[.int .i64 0, .int .i64 0, .slice none 0 0]) h121 rfl rfl rfl (by kernel_rfl) (by kernel_rfl) (by kernel_rfl) (fun a122 h122 => ?_); clear h121
          refine pl_want h122 rfl rfl rfl (op_call (args := #[.agg #[.int .i64 ((ofB s).1.1), .int .i64 ((ofB s).1.2.1), u45], .agg #[.int .i64 0, .int .i64 0, .slice none 0 0]]) (R := fun res xw => res = .bool (sameB ((ofB s).1.1) ((ofB s).1.2.1) ((ofB s).1.2.2) 0 0 ([])) ∧ Below w70.heap.size w70 xw) rfl rfl rfl (by kernel_rfl) (by kernel_rfl) (Try.call19 _ _) (ropsSame_any ((ofB s).1.1) ((ofB s).1.2.1) u45 ((ofB s).1.2.2) 0 0 (.slice none 0 0) ([]) w70 (row_sl hr78 opE_len) (sl_nil _)) (by rintro e x ⟨rfl, hb125⟩; exact ⟨_, rfl, ⟨rfl, hb125⟩⟩)) ?_; clear h122
          rintro _ w124 a123 ⟨rfl, hb125⟩ h123
          have hB126 := hb_call hB74 hb125
          have hz127 := hB126.size
          have hz128 := hb125.size
          have hk129 := hk77.below hb125
          have hr130 := row_kept_new hr78 (below_grown hb125)
          have hk131 := hk71'.below hb125
          refine pl_val (v := .bool (sameB ((ofB s).1.1) ((ofB s).1.2.1) ((ofB s).1.2.2) 0 0 ([]))) h123 rfl rfl rfl (by kernel_rfl) (by kernel_rfl) (by kernel_rfl) (fun a132 h132 => ?_); clear h123
          have hc133 : (sameB ((ofB s).1.1) ((ofB s).1.2.1) ((ofB s).1.2.2) 0 0 ([])) = true := by rw [of_zero (by assumption)]; exact sameB_refl _ _ _
          rw [hc133] at h132; clear hc133
          refine pl_want h132 rfl rfl rfl (op_call (args := #[]) (R := fun res xw => res = .bool true ∧ Below w124.heap.size w124 xw) rfl rfl rfl (by kernel_rfl) (by kernel_rfl) (Try.call13 _ _) (awake06_any  w124 ) (by rintro e x ⟨rfl, hb136⟩; exact ⟨_, rfl, ⟨rfl, hb136⟩⟩)) ?_; clear h132
          rintro _ w135 a134 ⟨rfl, hb136⟩ h134
          have hB137 := hb_call hB126 hb136
          have hz138 := hB137.size
          have hz139 := hb136.size
          have hk140 := hk129.below hb136
          have hr141 := row_kept_new hr130 (below_grown hb136)
          have hk142 := hk131.below hb136
          refine pl_val (v := .bool true) h134 rfl rfl rfl (by kernel_rfl) (by kernel_rfl) (by kernel_rfl) (fun a143 h143 => ?_); clear h134
          refine pl_val (v := .bool true) h143 rfl rfl rfl (by kernel_rfl) (by kernel_rfl) (by kernel_rfl) (fun a144 h144 => ?_); clear h143
          refine pl_nil ?_
          refine co_then ?_
          refine wp_ret ?_
          refine co_thenR ?_
          refine co_ret1 h144 rfl rfl ?_
          exact ⟨rfl, hB137⟩
      ·
        rw [hc40] at h39
        have hp145 : chkB c r l = 0 := by first | simpa using hc40 | simpa [and_assoc] using hc40
        clear hc40
        refine co_true h39 rfl ?_
        refine co_seq ?_
        refine co_reg ?_
        refine pl_val (v := .string (putB c r l)) h39 rfl rfl rfl (by kernel_rfl) (by kernel_rfl) (by kernel_rfl) (fun a146 h146 => ?_); clear h39
        refine pl_want h146 rfl rfl rfl (op_call (args := #[.string (putB c r l)]) (R := fun res xw => ∃ u : Value, res = .tuple #[.agg #[.int .i64 ((ofB (putB c r l)).1.1), .int .i64 ((ofB (putB c r l)).1.2.1), u], .int .i64 ((ofB (putB c r l)).2)] ∧ xw.ownsRow w27.heap.size 83 3 u ((ofB (putB c r l)).1.2.2).length (((ofB (putB c r l)).1.2.2).flatMap opE) ∧ Below w27.heap.size w27 xw) rfl rfl rfl (by kernel_rfl) (by kernel_rfl) (Try.call20 _ _) (opsOf_any (putB c r l) ((ofB (putB c r l)).1.1) ((ofB (putB c r l)).1.2.1) ((ofB (putB c r l)).1.2.2) ((ofB (putB c r l)).2) w27 putB_size rfl) (by rintro e x ⟨u, rfl, hq150, hb151⟩; exact ⟨_, rfl, ⟨u, rfl, hq150, hb151⟩⟩)) ?_; clear h146
        rintro _ w148 a147 ⟨u149, rfl, hq150, hb151⟩ h147
        have hB152 := hb_call hB29 hb151
        have hz153 := hB152.size
        have hz154 := hb151.size
        have hk155 := hk32.below hb151
        have hl156 := sl_len (row_sl hq150 opE_len)
        refine pl_val (v := .tuple #[.agg #[.int .i64 ((ofB (putB c r l)).1.1), .int .i64 ((ofB (putB c r l)).1.2.1), u149], .int .i64 ((ofB (putB c r l)).2)]) h147 rfl rfl rfl (by kernel_rfl) (by kernel_rfl) (by kernel_rfl) (fun a157 h157 => ?_); clear h147
        refine pl_val (v := .agg #[.int .i64 ((ofB (putB c r l)).1.1), .int .i64 ((ofB (putB c r l)).1.2.1), u149]) h157 rfl rfl rfl (by kernel_rfl) (by kernel_rfl) (by kernel_rfl) (fun a158 h158 => ?_); clear h157
        refine pl_val (v := .int .i64 ((ofB (putB c r l)).2)) h158 rfl rfl rfl (by kernel_rfl) (by kernel_rfl) (by kernel_rfl) (fun a159 h159 => ?_); clear h158
        refine pl_want h159 rfl rfl rfl (op_new (v := fun N => .pointer (some ⟨N, 0, none⟩)) (T := 24) (cs := #[.int .i64 0, .int .i64 0, .slice none 0 0]) (by kernel_rfl) (by kernel_rfl) (by kernel_rfl)) ?_; clear h159
        rintro _ w161 a160 ⟨N162, rfl, hN165, hz166, hk164, hg163⟩ h160
        have ha167 := row_fresh hq150 hN165
        have hB168 := hb_new hB152 hg163
        have hz169 := hB168.size
        have hz170 := hg163.size
        have hk171 := hk155.kept hg163 (by simp)
        have hr172 := row_kept_new hq150 hg163
        try dsimp only at h160
        refine pl_doW h160 rfl rfl (op_storeN rfl rfl rfl (all_cons rfl (all_cons rfl (all_cons (row_one hr172) all_nil))) (by kernel_rfl) hk164 rfl) ?_; clear h160
        rintro _ w174 a173 ⟨hk175, hz176, hg177⟩ h173
        have hk175' : Blk w174 N162 24 #[.int .i64 ((ofB (putB c r l)).1.1), .int .i64 ((ofB (putB c r l)).1.2.1), u149] := hk175; clear hk175
        have hB178 := hb_at hB168 hg177 (by omega)
        have hz179 := hB178.size
        have hz180 := hg177.size
        have hk181 := hk171.kept hg177 (by simp; omega)
        have hr182 := row_kept_at hr172 hg177 (ha167)
        refine pl_val (v := .int .i64 ((ofB (putB c r l)).2)) h173 rfl rfl rfl (by kernel_rfl) (by kernel_rfl) (by kernel_rfl) (fun a183 h183 => ?_); clear h173
        refine pl_nil ?_
        refine co_then ?_
        refine co_seq ?_
        refine co_reg ?_
        refine pl_val (v := .int .i64 ((ofB (putB c r l)).2)) h183 rfl rfl rfl (by kernel_rfl) (by kernel_rfl) (by kernel_rfl) (fun a184 h184 => ?_); clear h183
        refine pl_val (v := .bool (((ofB (putB c r l)).2) != 0)) h184 rfl rfl rfl (by kernel_rfl) (by kernel_rfl) (by kernel_rfl) (fun a185 h185 => ?_); clear h184
        refine pl_val (v := .bool (((ofB (putB c r l)).2) != 0)) h185 rfl rfl rfl (by kernel_rfl) (by kernel_rfl) (by kernel_rfl) (fun a186 h186 => ?_); clear h185
        have hc187 : (((ofB (putB c r l)).2) != 0) = false := by first | (simp; done) | (simp; omega)
        rw [hc187] at h186; clear hc187
        refine pl_val (v := .agg #[.int .i64 c, .int .i64 r, v]) h186 rfl rfl rfl (by kernel_rfl) (by kernel_rfl) (rn_loadN rfl rfl Try.underlying24 rfl (by kernel_rfl) hk181.all) (fun a188 h188 => ?_); clear h186
        refine pl_val (v := .agg #[.int .i64 ((ofB (putB c r l)).1.1), .int .i64 ((ofB (putB c r l)).1.2.1), u149]) h188 rfl rfl rfl (by kernel_rfl) (by kernel_rfl) (rn_loadN rfl rfl Try.underlying24 rfl (by kernel_rfl) hk175'.all) (fun a189 h189 => ?_); clear h188
        refine pl_want h189 rfl rfl rfl (op_call (args := #[.agg #[.int .i64 c, .int .i64 r, v], .agg #[.int .i64 ((ofB (putB c r l)).1.1), .int .i64 ((ofB (putB c r l)).1.2.1), u149]]) (R := fun res xw => res = .bool (sameB c r l ((ofB (putB c r l)).1.1) ((ofB (putB c r l)).1.2.1) ((ofB (putB c r l)).1.2.2)) ∧ Below w174.heap.size w174 xw) rfl rfl rfl (by kernel_rfl) (by kernel_rfl) (Try.call19 _ _) (ropsSame_any c r v l ((ofB (putB c r l)).1.1) ((ofB (putB c r l)).1.2.1) u149 ((ofB (putB c r l)).1.2.2) w174 (hs.below hB178) (row_sl hr182 opE_len)) (by rintro e x ⟨rfl, hb192⟩; exact ⟨_, rfl, ⟨rfl, hb192⟩⟩)) ?_; clear h189
        rintro _ w191 a190 ⟨rfl, hb192⟩ h190
        have hB193 := hb_call hB178 hb192
        have hz194 := hB193.size
        have hz195 := hb192.size
        have hk196 := hk181.below hb192
        have hr197 := row_kept_new hr182 (below_grown hb192)
        have hk198 := hk175'.below hb192
        have hc199 : (sameB c r l ((ofB (putB c r l)).1.1) ((ofB (putB c r l)).1.2.1) ((ofB (putB c r l)).1.2.2)) = true := back_put (by omega)
        rw [hc199] at h190; clear hc199
        refine pl_val (v := .bool false) h190 rfl rfl rfl (by kernel_rfl) (by kernel_rfl) (by kernel_rfl) (fun a200 h200 => ?_); clear h190
        refine pl_val (v := .bool false) h200 rfl rfl rfl (by kernel_rfl) (by kernel_rfl) (by kernel_rfl) (fun a201 h201 => ?_); clear h200
        refine pl_nil ?_
        refine co_then ?_
        refine co_false h201 rfl ?_
        refine wp_skip ?_
        refine co_then ?_
        refine co_seq ?_
        refine co_reg ?_
        refine pl_val (v := .string s) h201 rfl rfl rfl (by kernel_rfl) (by kernel_rfl) (by kernel_rfl) (fun a202 h202 => ?_); clear h201
        refine pl_want h202 rfl rfl rfl (op_call (args := #[.string s]) (R := fun res xw => ∃ u : Value, res = .tuple #[.agg #[.int .i64 ((ofB s).1.1), .int .i64 ((ofB s).1.2.1), u], .int .i64 ((ofB s).2)] ∧ xw.ownsRow w191.heap.size 83 3 u ((ofB s).1.2.2).length (((ofB s).1.2.2).flatMap opE) ∧ Below w191.heap.size w191 xw) rfl rfl rfl (by kernel_rfl) (by kernel_rfl) (Try.call20 _ _) (opsOf_any s ((ofB s).1.1) ((ofB s).1.2.1) ((ofB s).1.2.2) ((ofB s).2) w191 (by first | omega | (simp; done) | (simp; omega)) rfl) (by rintro e x ⟨u, rfl, hq206, hb207⟩; exact ⟨_, rfl, ⟨u, rfl, hq206, hb207⟩⟩)) ?_; clear h202
        rintro _ w204 a203 ⟨u205, rfl, hq206, hb207⟩ h203
        have hB208 := hb_call hB193 hb207
        have hz209 := hB208.size
        have hz210 := hb207.size
        have hk211 := hk196.below hb207
        have hr212 := row_kept_new hr197 (below_grown hb207)
        have hk213 := hk198.below hb207
        have hl214 := sl_len (row_sl hq206 opE_len)
        refine pl_val (v := .tuple #[.agg #[.int .i64 ((ofB s).1.1), .int .i64 ((ofB s).1.2.1), u205], .int .i64 ((ofB s).2)]) h203 rfl rfl rfl (by kernel_rfl) (by kernel_rfl) (by kernel_rfl) (fun a215 h215 => ?_); clear h203
        refine pl_val (v := .agg #[.int .i64 ((ofB s).1.1), .int .i64 ((ofB s).1.2.1), u205]) h215 rfl rfl rfl (by kernel_rfl) (by kernel_rfl) (by kernel_rfl) (fun a216 h216 => ?_); clear h215
        refine pl_val (v := .int .i64 ((ofB s).2)) h216 rfl rfl rfl (by kernel_rfl) (by kernel_rfl) (by kernel_rfl) (fun a217 h217 => ?_); clear h216
        refine pl_want h217 rfl rfl rfl (op_new (v := fun N => .pointer (some ⟨N, 0, none⟩)) (T := 24) (cs := #[.int .i64 0, .int .i64 0, .slice none 0 0]) (by kernel_rfl) (by kernel_rfl) (by kernel_rfl)) ?_; clear h217
        rintro _ w219 a218 ⟨N220, rfl, hN223, hz224, hk222, hg221⟩ h218
        have ha225 := row_fresh hr212 hN223
        have ha226 := row_fresh hq206 hN223
        have hB227 := hb_new hB208 hg221
        have hz228 := hB227.size
        have hz229 := hg221.size
        have hk230 := hk211.kept hg221 (by simp)
        have hr231 := row_kept_new hr212 hg221
        have hk232 := hk213.kept hg221 (by simp)
        have hr233 := row_kept_new hq206 hg221
        try dsimp only at h218
        refine pl_doW h218 rfl rfl (op_storeN rfl rfl rfl (all_cons rfl (all_cons rfl (all_cons (row_one hr233) all_nil))) (by kernel_rfl) hk222 rfl) ?_; clear h218
        rintro _ w235 a234 ⟨hk236, hz237, hg238⟩ h234
        have hk236' : Blk w235 N220 24 #[.int .i64 ((ofB s).1.1), .int .i64 ((ofB s).1.2.1), u205] := hk236; clear hk236
        have hB239 := hb_at hB227 hg238 (by omega)
        have hz240 := hB239.size
        have hz241 := hg238.size
        have hk242 := hk230.kept hg238 (by simp; omega)
        have hr243 := row_kept_at hr231 hg238 (ha225)
        have hk244 := hk232.kept hg238 (by simp; omega)
        have hr245 := row_kept_at hr233 hg238 (ha226)
        refine pl_val (v := .int .i64 ((ofB s).2)) h234 rfl rfl rfl (by kernel_rfl) (by kernel_rfl) (by kernel_rfl) (fun a246 h246 => ?_); clear h234
        refine pl_nil ?_
        refine co_then ?_
        refine co_seq ?_
        refine co_seq ?_
        refine co_reg ?_
        refine pl_val (v := .int .i64 ((ofB s).2)) h246 rfl rfl rfl (by kernel_rfl) (by kernel_rfl) (by kernel_rfl) (fun a247 h247 => ?_); clear h246
        refine pl_val (v := .bool (((ofB s).2) != 0)) h247 rfl rfl rfl (by kernel_rfl) (by kernel_rfl) (by kernel_rfl) (fun a248 h248 => ?_); clear h247
        refine pl_nil ?_
        refine co_then ?_
        cases hc249 : (((ofB s).2) != 0)
        ·
          rw [hc249] at h248
          have hp250 : ¬ (((ofB s).2) ≠ 0) := by first | simpa using hc249 | simpa [and_assoc] using hc249
          clear hc249
          refine co_false h248 rfl ?_
          refine wp_skip ?_
          refine co_then ?_
          refine co_seq ?_
          refine co_reg ?_
          refine pl_val (v := .agg #[.int .i64 ((ofB s).1.1), .int .i64 ((ofB s).1.2.1), u205]) h248 rfl rfl rfl (by kernel_rfl) (by kernel_rfl) (rn_loadN rfl rfl Try.underlying24 rfl (by kernel_rfl) hk236'.all) (fun a251 h251 => ?_); clear h248
          refine pl_want h251 rfl rfl rfl (op_call (args := #[.agg #[.int .i64 ((ofB s).1.1), .int .i64 ((ofB s).1.2.1), u205]]) (R := fun res xw => res = .tuple #[.string (putB ((ofB s).1.1) ((ofB s).1.2.1) ((ofB s).1.2.2)), .int .i64 (chkB ((ofB s).1.1) ((ofB s).1.2.1) ((ofB s).1.2.2))] ∧ Below w235.heap.size w235 xw) rfl rfl rfl (by kernel_rfl) (by kernel_rfl) (Try.call14 _ _) (opsPut_any ((ofB s).1.1) ((ofB s).1.2.1) u205 ((ofB s).1.2.2) w235 (row_sl hr245 opE_len)) (by rintro e x ⟨rfl, hb254⟩; exact ⟨_, rfl, ⟨rfl, hb254⟩⟩)) ?_; clear h251
          rintro _ w253 a252 ⟨rfl, hb254⟩ h252
          have hB255 := hb_call hB239 hb254
          have hz256 := hB255.size
          have hz257 := hb254.size
          have hk258 := hk242.below hb254
          have hr259 := row_kept_new hr243 (below_grown hb254)
          have hk260 := hk244.below hb254
          have hr261 := row_kept_new hr245 (below_grown hb254)
          have hk262 := hk236'.below hb254
          refine pl_val (v := .tuple #[.string (putB ((ofB s).1.1) ((ofB s).1.2.1) ((ofB s).1.2.2)), .int .i64 (chkB ((ofB s).1.1) ((ofB s).1.2.1) ((ofB s).1.2.2))]) h252 rfl rfl rfl (by kernel_rfl) (by kernel_rfl) (by kernel_rfl) (fun a263 h263 => ?_); clear h252
          refine pl_val (v := .string (putB ((ofB s).1.1) ((ofB s).1.2.1) ((ofB s).1.2.2))) h263 rfl rfl rfl (by kernel_rfl) (by kernel_rfl) (by kernel_rfl) (fun a264 h264 => ?_); clear h263
          refine pl_val (v := .int .i64 (chkB ((ofB s).1.1) ((ofB s).1.2.1) ((ofB s).1.2.2))) h264 rfl rfl rfl (by kernel_rfl) (by kernel_rfl) (by kernel_rfl) (fun a265 h265 => ?_); clear h264
          refine pl_val (v := .string (putB ((ofB s).1.1) ((ofB s).1.2.1) ((ofB s).1.2.2))) h265 rfl rfl rfl (by kernel_rfl) (by kernel_rfl) (by kernel_rfl) (fun a266 h266 => ?_); clear h265
          refine pl_val (v := .int .i64 (chkB ((ofB s).1.1) ((ofB s).1.2.1) ((ofB s).1.2.2))) h266 rfl rfl rfl (by kernel_rfl) (by kernel_rfl) (by kernel_rfl) (fun a267 h267 => ?_); clear h266
          refine pl_nil ?_
          refine co_then ?_
          refine co_seq ?_
          refine co_reg ?_
          refine pl_val (v := .string (putB ((ofB s).1.1) ((ofB s).1.2.1) ((ofB s).1.2.2))) h267 rfl rfl rfl (by kernel_rfl) (by kernel_rfl) (by kernel_rfl) (fun a268 h268 => ?_); clear h267
          refine pl_val (v := .string s) h268 rfl rfl rfl (by kernel_rfl) (by kernel_rfl) (by kernel_rfl) (fun a269 h269 => ?_); clear h268
          refine pl_val (v := .bool ((putB ((ofB s).1.1) ((ofB s).1.2.1) ((ofB s).1.2.2) : ByteArray).toList == s.toList)) h269 rfl rfl rfl (by kernel_rfl) (by kernel_rfl) (by kernel_rfl) (fun a270 h270 => ?_); clear h269
          refine pl_val (v := .bool ((putB ((ofB s).1.1) ((ofB s).1.2.1) ((ofB s).1.2.2) : ByteArray).toList == s.toList)) h270 rfl rfl rfl (by kernel_rfl) (by kernel_rfl) (by kernel_rfl) (fun a271 h271 => ?_); clear h270
          have hc272 : ((putB ((ofB s).1.1) ((ofB s).1.2.1) ((ofB s).1.2.2) : ByteArray).toList == s.toList) = true := by rw [(back_of (s := s) (by omega)).1]; simp
          rw [hc272] at h271; clear hc272
          refine pl_val (v := .int .i64 (chkB ((ofB s).1.1) ((ofB s).1.2.1) ((ofB s).1.2.2))) h271 rfl rfl rfl (by kernel_rfl) (by kernel_rfl) (by kernel_rfl) (fun a273 h273 => ?_); clear h271
          refine pl_val (v := .bool (chkB ((ofB s).1.1) ((ofB s).1.2.1) ((ofB s).1.2.2) == 0)) h273 rfl rfl rfl (by kernel_rfl) (by kernel_rfl) (by kernel_rfl) (fun a274 h274 => ?_); clear h273
          refine pl_val (v := .bool (chkB ((ofB s).1.1) ((ofB s).1.2.1) ((ofB s).1.2.2) == 0)) h274 rfl rfl rfl (by kernel_rfl) (by kernel_rfl) (by kernel_rfl) (fun a275 h275 => ?_); clear h274
          refine pl_val (v := .bool (chkB ((ofB s).1.1) ((ofB s).1.2.1) ((ofB s).1.2.2) == 0)) h275 rfl rfl rfl (by kernel_rfl) (by kernel_rfl) (by kernel_rfl) (fun a276 h276 => ?_); clear h275
          have hc277 : (chkB ((ofB s).1.1) ((ofB s).1.2.1) ((ofB s).1.2.2) == 0) = true := by first | (simp; done) | (simp; omega)
          rw [hc277] at h276; clear hc277
          refine pl_want h276 rfl rfl rfl (op_call (args := #[]) (R := fun res xw => res = .bool true ∧ Below w253.heap.size w253 xw) rfl rfl rfl (by kernel_rfl) (by kernel_rfl) (Try.call13 _ _) (awake06_any  w253 ) (by rintro e x ⟨rfl, hb280⟩; exact ⟨_, rfl, ⟨rfl, hb280⟩⟩)) ?_; clear h276
          rintro _ w279 a278 ⟨rfl, hb280⟩ h278
          have hB281 := hb_call hB255 hb280
          have hz282 := hB281.size
          have hz283 := hb280.size
          have hk284 := hk258.below hb280
          have hr285 := row_kept_new hr259 (below_grown hb280)
          have hk286 := hk260.below hb280
          have hr287 := row_kept_new hr261 (below_grown hb280)
          have hk288 := hk262.below hb280
          refine pl_val (v := .bool true) h278 rfl rfl rfl (by kernel_rfl) (by kernel_rfl) (by kernel_rfl) (fun a289 h289 => ?_); clear h278
          refine pl_val (v := .bool true) h289 rfl rfl rfl (by kernel_rfl) (by kernel_rfl) (by kernel_rfl) (fun a290 h290 => ?_); clear h289
          refine pl_nil ?_
          refine co_then ?_
          refine wp_ret ?_
          refine co_ret1 h290 rfl rfl ?_
          exact ⟨rfl, hB281⟩
        ·
          rw [hc249] at h248
          have hp291 : ((ofB s).2) ≠ 0 := by first | simpa using hc249 | simpa [and_assoc] using hc249
          clear hc249
          refine co_true h248 rfl ?_
          refine co_seq ?_
          refine co_reg ?_
          refine pl_val (v := .agg #[.int .i64 ((ofB s).1.1), .int .i64 ((ofB s).1.2.1), u205]) h248 rfl rfl rfl (by kernel_rfl) (by kernel_rfl) (rn_loadN rfl rfl Try.underlying24 rfl (by kernel_rfl) hk236'.all) (fun a292 h292 => ?_); clear h248
          refine pl_val (v := .agg #[.int .i64 0, .int .i64 0, .slice none 0 0]) h292 rfl rfl rfl (by kernel_rfl) (by kernel_rfl) (by kernel_rfl) (fun a293 h293 => ?_); clear h292
          refine pl_want h293 rfl rfl rfl (op_call (args := #[.agg #[.int .i64 ((ofB s).1.1), .int .i64 ((ofB s).1.2.1), u205], .agg #[.int .i64 0, .int .i64 0, .slice none 0 0]]) (R := fun res xw => res = .bool (sameB ((ofB s).1.1) ((ofB s).1.2.1) ((ofB s).1.2.2) 0 0 ([])) ∧ Below w235.heap.size w235 xw) rfl rfl rfl (by kernel_rfl) (by kernel_rfl) (Try.call19 _ _) (ropsSame_any ((ofB s).1.1) ((ofB s).1.2.1) u205 ((ofB s).1.2.2) 0 0 (.slice none 0 0) ([]) w235 (row_sl hr245 opE_len) (sl_nil _)) (by rintro e x ⟨rfl, hb296⟩; exact ⟨_, rfl, ⟨rfl, hb296⟩⟩)) ?_; clear h293
          rintro _ w295 a294 ⟨rfl, hb296⟩ h294
          have hB297 := hb_call hB239 hb296
          have hz298 := hB297.size
          have hz299 := hb296.size
          have hk300 := hk242.below hb296
          have hr301 := row_kept_new hr243 (below_grown hb296)
          have hk302 := hk244.below hb296
          have hr303 := row_kept_new hr245 (below_grown hb296)
          have hk304 := hk236'.below hb296
          refine pl_val (v := .bool (sameB ((ofB s).1.1) ((ofB s).1.2.1) ((ofB s).1.2.2) 0 0 ([]))) h294 rfl rfl rfl (by kernel_rfl) (by kernel_rfl) (by kernel_rfl) (fun a305 h305 => ?_); clear h294
          have hc306 : (sameB ((ofB s).1.1) ((ofB s).1.2.1) ((ofB s).1.2.2) 0 0 ([])) = true := by rw [of_zero (by assumption)]; exact sameB_refl _ _ _
          rw [hc306] at h305; clear hc306
          refine pl_want h305 rfl rfl rfl (op_call (args := #[]) (R := fun res xw => res = .bool true ∧ Below w295.heap.size w295 xw) rfl rfl rfl (by kernel_rfl) (by kernel_rfl) (Try.call13 _ _) (awake06_any  w295 ) (by rintro e x ⟨rfl, hb309⟩; exact ⟨_, rfl, ⟨rfl, hb309⟩⟩)) ?_; clear h305
          rintro _ w308 a307 ⟨rfl, hb309⟩ h307
          have hB310 := hb_call hB297 hb309
          have hz311 := hB310.size
          have hz312 := hb309.size
          have hk313 := hk300.below hb309
          have hr314 := row_kept_new hr301 (below_grown hb309)
          have hk315 := hk302.below hb309
          have hr316 := row_kept_new hr303 (below_grown hb309)
          have hk317 := hk304.below hb309
          refine pl_val (v := .bool true) h307 rfl rfl rfl (by kernel_rfl) (by kernel_rfl) (by kernel_rfl) (fun a318 h318 => ?_); clear h307
          refine pl_val (v := .bool true) h318 rfl rfl rfl (by kernel_rfl) (by kernel_rfl) (by kernel_rfl) (fun a319 h319 => ?_); clear h318
          refine pl_nil ?_
          refine co_then ?_
          refine wp_ret ?_
          refine co_thenR ?_
          refine co_ret1 h319 rfl rfl ?_
          exact ⟨rfl, hB310⟩
    ·
      rw [hc23] at h22
      have hp320 : ((s.size : Nat) : Int) > 2000 := of_decide_eq_true hc23
      clear hc23
      refine co_true h22 rfl ?_
      refine co_seq ?_
      refine co_reg ?_
      refine pl_want h22 rfl rfl rfl (op_call (args := #[]) (R := fun res xw => res = .bool true ∧ Below w2.heap.size w2 xw) rfl rfl rfl (by kernel_rfl) (by kernel_rfl) (Try.call13 _ _) (awake06_any  w2 ) (by rintro e x ⟨rfl, hb323⟩; exact ⟨_, rfl, ⟨rfl, hb323⟩⟩)) ?_; clear h22
      rintro _ w322 a321 ⟨rfl, hb323⟩ h321
      have hB324 := hb_call hB8 hb323
      have hz325 := hB324.size
      have hz326 := hb323.size
      have hk327 := hk5.below hb323
      refine pl_val (v := .bool true) h321 rfl rfl rfl (by kernel_rfl) (by kernel_rfl) (by kernel_rfl) (fun a328 h328 => ?_); clear h321
      refine pl_nil ?_
      refine co_then ?_
      refine wp_ret ?_
      refine co_thenR ?_
      refine co_ret1 h328 rfl rfl ?_
      exact ⟨rfl, hB324⟩
  ·
    rw [hc17] at h16
    have hp329 : ((l.length : Nat) : Int) > 20 := of_decide_eq_true hc17
    clear hc17
    refine pl_skip h16 rfl rfl rfl (fun a330 h330 => ?_); clear h16
    refine pl_skip h330 rfl rfl rfl (fun a331 h331 => ?_); clear h330
    refine pl_skip h331 rfl rfl rfl (fun a332 h332 => ?_); clear h331
    refine pl_val (v := .bool true) h332 rfl rfl rfl (by kernel_rfl) (by kernel_rfl) (by kernel_rfl) (fun a333 h333 => ?_); clear h332
    refine pl_nil ?_
    refine co_then ?_
    refine co_true h333 rfl ?_
    refine co_seq ?_
    refine co_reg ?_
    refine pl_want h333 rfl rfl rfl (op_call (args := #[]) (R := fun res xw => res = .bool true ∧ Below w2.heap.size w2 xw) rfl rfl rfl (by kernel_rfl) (by kernel_rfl) (Try.call13 _ _) (awake06_any  w2 ) (by rintro e x ⟨rfl, hb336⟩; exact ⟨_, rfl, ⟨rfl, hb336⟩⟩)) ?_; clear h333
    rintro _ w335 a334 ⟨rfl, hb336⟩ h334
    have hB337 := hb_call hB8 hb336
    have hz338 := hB337.size
    have hz339 := hb336.size
    have hk340 := hk5.below hb336
    refine pl_val (v := .bool true) h334 rfl rfl rfl (by kernel_rfl) (by kernel_rfl) (by kernel_rfl) (fun a341 h341 => ?_); clear h334
    refine pl_nil ?_
    refine co_then ?_
    refine wp_ret ?_
    refine co_thenR ?_
    refine co_ret1 h341 rfl rfl ?_
    exact ⟨rfl, hB337⟩
theorem opsBack_bat (a : BatT) (s : ByteArray) (w : World) (ha : BatOk w a) (hs : s.size ≤ 140737488351232) : Calls Try.prog 5 #[batV a, .string s] w fun e w' => e = .returned (.bool true) ∧ Below w.heap.size w w' := opsBack_law a.c a.r a.v a.l s w ha hs
end Go.Proofs.Ytciilfkjecmdiaa
