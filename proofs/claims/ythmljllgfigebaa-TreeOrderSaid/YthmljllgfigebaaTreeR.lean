/- catenalaw15.TreeOrder: what the keys come to. Conditions: none. -/
import Derived.Test.YthmljllgfigebaaTreeQ
import Derived.Test.YthmljllgfigebaaKeysS
namespace Go.Proofs.Ythmljllgfigebaa
open Go.RowKit Go.PlainAid Go.WideMaps Go.Maps Go.Sort Go.Shelf
set_option linter.unusedVariables false

theorem klt_kb (a b : ByteArray) : klt a b = decide (kb a < kb b) := by unfold klt; rw [Go.ByteArray.toList_eq, Go.ByteArray.toList_eq, bl_lt]
def ksL (L : List Kv) : List ByteArray := L.map (·.1)
theorem srt_set {L : List Kv} {m : List ByteArray} (h : Srt L) (hm : ∀ x, x ∈ ksL L ↔ x ∈ m) : SetOf (ksL L) m := by
  refine ⟨?_, fun x => ?_⟩
  · unfold ksL
    rw [List.map_map, List.pairwise_map]
    exact h.imp fun {a b} q => by rw [klt_kb] at q; exact of_decide_eq_true q
  · simp only [List.mem_map]
    constructor
    · rintro ⟨y, hy, rfl⟩; exact ⟨y, (hm y).1 hy, rfl⟩
    · rintro ⟨y, hy, rfl⟩; exact ⟨y, (hm y).2 hy, rfl⟩
theorem ins_ks {L : List Kv} {k : ByteArray} {v : Int} (x : ByteArray) : x ∈ ksL (insL L k v) ↔ x ∈ ksL L ∨ x = k := by
  induction L with
  | nil => simp [insL, ksL]
  | cons a r ih =>
    unfold ksL at *
    unfold insL
    by_cases q1 : klt k a.1 = true
    · rw [if_pos q1]; simp only [List.map_cons, List.mem_cons]; exact ⟨fun h => by rcases h with h | h | h; exact .inr h; exact .inl (.inl h); exact .inl (.inr h), fun h => by rcases h with (h | h) | h; exact .inr (.inl h); exact .inr (.inr h); exact .inl h⟩
    · rw [if_neg q1]
      by_cases q2 : klt a.1 k = true
      · rw [if_pos q2]; simp only [List.map_cons, List.mem_cons, ih]; exact ⟨fun h => by rcases h with h | h | h; exact .inl (.inl h); exact .inl (.inr h); exact .inr h, fun h => by rcases h with (h | h) | h; exact .inl h; exact .inr (.inl h); exact .inr (.inr h)⟩
      · rw [if_neg q2]
        have e := klt_eq (by simpa using q1) (by simpa using q2)
        simp only [List.map_cons, List.mem_cons]
        exact ⟨fun h => .inl h, fun h => by rcases h with h | h; exact h; exact .inl (h.trans e)⟩
/-- Each key has its own length. -/
def Own15 (L : List Kv) : Prop := ∀ a ∈ L, a.2 = (a.1.size : Int)
theorem ins_own {L : List Kv} {k : ByteArray} (h : Own15 L) : Own15 (insL L k k.size) := by
  induction L with
  | nil => intro a ha; simp [insL] at ha; rw [ha]
  | cons a r ih =>
    have h1 : a.2 = (a.1.size : Int) := h a (by simp)
    have h2 : Own15 r := fun b hb => h b (by simp [hb])
    unfold insL
    by_cases q1 : klt k a.1 = true
    · rw [if_pos q1]; intro b hb
      rcases List.mem_cons.1 hb with rfl | hb
      · rfl
      · exact h b hb
    · rw [if_neg q1]
      by_cases q2 : klt a.1 k = true
      · rw [if_pos q2]; intro b hb
        rcases List.mem_cons.1 hb with rfl | hb
        · exact h1
        · exact ih h2 b hb
      · rw [if_neg q2]
        have e := klt_eq (by simpa using q1) (by simpa using q2)
        intro b hb
        rcases List.mem_cons.1 hb with rfl | hb
        · rw [e]
        · exact h2 b hb
theorem own_get {L : List Kv} {k : ByteArray} (h : Own15 L) (hs : Srt L) (hk : k ∈ ksL L) : getL L k = (k.size : Int) ∧ hasL L k = true := by
  induction L with
  | nil => simp [ksL] at hk
  | cons a r ih =>
    obtain ⟨s1, s2⟩ := List.pairwise_cons.1 hs
    unfold getL hasL
    unfold ksL at hk
    rw [List.map_cons, List.mem_cons] at hk
    rcases hk with rfl | hk
    · simp only [klt_irr, Bool.false_eq_true, if_false]; exact ⟨h a (by simp), trivial⟩
    · obtain ⟨b, hb, rfl⟩ := List.mem_map.1 hk
      have q := s1 b hb
      simp only [klt_as q, q, Bool.false_eq_true, if_false, if_true]
      exact ih (fun c hc => h c (by simp [hc])) s2 hk
theorem wkL_ks (F : ByteArray) (L : List Kv) : wkL F L = (ksL L).filter (fun k => !klt k F) := by
  unfold wkL ksL; rw [List.filter_map]; rfl
theorem ks_len (L : List Kv) : (ksL L).length = L.length := List.length_map ..
/-- Both trees hold what was put; the one from the front, the other from the end. -/
def Put15 (l : List ByteArray) (n i : Nat) (L M : List Kv) : Prop := (∀ x, x ∈ ksL L ↔ x ∈ (l.take n).take i) ∧ (∀ x, x ∈ ksL M ↔ x ∈ (l.take n).drop (n - i)) ∧ Own15 L ∧ Own15 M
theorem Put15.start (l : List ByteArray) (n : Nat) (hn : n ≤ l.length) : Put15 l n 0 [] [] :=
  ⟨fun x => by simp [ksL], fun x => by simp [ksL, List.drop_eq_nil_of_le, hn], fun a ha => (by cases ha), fun a ha => (by cases ha)⟩
theorem Put15.step {l : List ByteArray} {n i : Nat} {L M : List Kv} (h : Put15 l n i L M) (hi : i < n) (hn : n ≤ l.length) : Put15 l n (i + 1) (insL L l[i] l[i].size) (insL M (l[n - 1 - i]) (l[n - 1 - i]).size) := by
  obtain ⟨h1, h2, h3, h4⟩ := h
  have hl : (l.take n).length = n := by rw [List.length_take]; omega
  refine ⟨fun x => ?_, fun x => ?_, ins_own h3, ins_own h4⟩
  · rw [ins_ks, h1, List.take_add_one, List.mem_append, List.getElem?_take, if_pos hi, List.getElem?_eq_getElem (by omega)]; simp
  · rw [ins_ks, h2]
    have e : n - i = (n - (i + 1)) + 1 := by omega
    rw [show (l.take n).drop (n - (i + 1)) = (l.take n)[n - (i + 1)]'(by omega) :: (l.take n).drop (n - (i + 1) + 1) from List.drop_eq_getElem_cons (by omega), ← e, List.mem_cons, List.getElem_take]
    have e2 : n - 1 - i = n - (i + 1) := by omega
    simp only [e2]
    exact ⟨fun h => h.symm, fun h => h.symm⟩
theorem Put15.fin {l : List ByteArray} {n : Nat} {L M : List Kv} (h : Put15 l n n L M) (hn : n ≤ l.length) (hL : Srt L) (hM : Srt M) : SetOf (ksL L) (l.take n) ∧ ksL M = ksL L := by
  obtain ⟨h1, h2, h3, h4⟩ := h
  have hl : (l.take n).length = n := by rw [List.length_take]; omega
  rw [List.take_of_length_le (by omega)] at h1
  rw [Nat.sub_self, List.drop_zero] at h2
  exact ⟨srt_set hL h1, SetOf.uniq (srt_set hM h2) (srt_set hL h1)⟩
theorem sl_take15 {w : World} {ao : Option Addr} {cap : Nat} {l : List ByteArray} (h : SliceOf strE 1 w (.slice ao l.length cap) l) (n : Nat) (hn : n ≤ l.length) : SliceOf strE 1 w (.slice ao (l.take n).length cap) (l.take n) := by
  obtain ⟨a', c', e1, h1, h2, h3, h4⟩ := h
  simp only [Value.slice.injEq] at e1
  obtain ⟨rfl, _, rfl⟩ := e1
  have hl : (l.take n).length = n := by rw [List.length_take]; omega
  refine ⟨ao, cap, rfl, by omega, h2, fun e => ⟨by rw [hl]; have := (h3 e).1; omega, (h3 e).2⟩, fun j hj => ?_⟩
  obtain ⟨b, off, e, hr⟩ := h4 j (by omega)
  exact ⟨b, off, e, by rw [List.getElem_take]; exact hr⟩
theorem sl_nilP {n : Nat} {a : Act} (h1 : a.tmps.size = n) (h2 : a.defers = []) : Slots n [] a := ⟨h1, h2, fun t v h => by cases h⟩
theorem sl_consP {n t : Nat} {v : Value} {m : List (Nat × Value)} {a : Act} (h : Slots n m a) (hv : a.tmps.getD t undef = v) : Slots n ((t, v) :: m) a := ⟨h.size, h.defers, fun t' v' q => by
  rw [List.lookup_cons] at q
  by_cases e : t' = t
  · subst e; simp at q; rw [← q]; exact hv
  · rw [show (t' == t) = false by simpa using e] at q; exact h.look t' v' q⟩
/-- Both trees, and the texts that came in. -/
structure Two15 (w : World) (tb ub : Nat) (S U : Nat → Prop) (L M : List Kv) (d e : Int) (v : Value) (m : List ByteArray) (y : World) : Prop where
  t : TrO S y tb L d
  u : TrO U y ub M e
  s : SliceOf strE 1 y v m
  b : Below w.heap.size w y
section
variable {w Y X x : World} {tb ub : Nat} {S U : Nat → Prop} {L M : List Kv} {d e : Int} {v : Value} {m : List ByteArray}
theorem Two15.gr (h : Two15 w tb ub S U L M d e v m Y) (hg : Y.grownBy x none) : Two15 w tb ub S U L M d e v m x :=
  ⟨h.t.gr hg (fun q e => nomatch e), h.u.gr hg (fun q e => nomatch e), h.s.below (grown_below hg), hb_new h.b hg⟩
theorem Dr.after (hX : Dr Y X) {y : World} (hb : Below X.heap.size X y) : Y.grownBy y none := below_grown ((grown_below hX.grown).trans (hb.mono hX.grown.size))
theorem keys_one {S : Nat → Prop} {tb : Nat} {L : List Kv} {d : Int} (h : Two15 w tb ub S U L M d e v m Y) (h2 : TrO S Y tb L d) (F T : ByteArray) (hX : Dr Y X) (hL : L.length ≤ 80000) :
    Calls Try.prog 25 #[pt tb 0, .string F, .string T] X fun e' y => ∃ u, e' = .returned u ∧ Two15 w tb ub S U L M d e v m y ∧ SliceOf strE 1 y u (kcut T (wkL F L)) ∧ ∀ u' m', SliceOf strE 1 Y u' m' → SliceOf strE 1 y u' m' := by
  refine (tkeys_any S X tb L d F T (h2.gr hX.grown (fun q e => nomatch e)) hL).mono ?_
  rintro e' y ⟨u, rfl, hr, hb⟩
  exact ⟨u, rfl, h.gr (hX.after hb), SliceOf.own hr (fun _ _ => rfl), fun u' m' k => k.below (grown_below (hX.after hb))⟩
theorem keys_two (h : Two15 w tb ub S U L M d e v m Y) (F T : ByteArray) (hX : Dr Y X) (hL : M.length ≤ 80000) :
    Calls Try.prog 25 #[pt ub 0, .string F, .string T] X fun e' y => ∃ u, e' = .returned u ∧ Two15 w tb ub S U L M d e v m y ∧ SliceOf strE 1 y u (kcut T (wkL F M)) ∧ ∀ u' m', SliceOf strE 1 Y u' m' → SliceOf strE 1 y u' m' := by
  refine (tkeys_any U X ub M e F T (h.u.gr hX.grown (fun q e => nomatch e)) hL).mono ?_
  rintro e' y ⟨u, rfl, hr, hb⟩
  exact ⟨u, rfl, h.gr (hX.after hb), SliceOf.own hr (fun _ _ => rfl), fun u' m' k => k.below (grown_below (hX.after hb))⟩
theorem same_two (h : Two15 w tb ub S U L M d e v m Y) {u u2 : Value} {k : List ByteArray} (h1 : SliceOf strE 1 Y u k) (h2 : SliceOf strE 1 Y u2 k) (hX : Dr Y X) :
    Calls Try.prog 24 #[u, u2] X fun e' y => e' = .returned (.bool true) ∧ Two15 w tb ub S U L M d e v m y ∧ ∀ u' m', SliceOf strE 1 Y u' m' → SliceOf strE 1 y u' m' := by
  refine (same_any u u2 k X (h1.below (grown_below hX.grown)) (h2.below (grown_below hX.grown))).mono ?_
  rintro e' y ⟨rfl, hb⟩
  exact ⟨rfl, h.gr (hX.after hb), fun u' m' k => k.below (grown_below (hX.after hb))⟩
theorem set_two (h : Two15 w tb ub S U L M d e v m Y) (hX : Dr Y X) (hm : m.length ≤ 1000) (hk : SetOf (ksL L) m) :
    Calls Try.prog 31 #[v] X fun e' y => ∃ u, e' = .returned u ∧ Two15 w tb ub S U L M d e v m y ∧ SliceOf strE 1 y u (ksL L) ∧ ∀ u' m', SliceOf strE 1 Y u' m' → SliceOf strE 1 y u' m' := by
  refine (rset_any v m X (h.s.below (grown_below hX.grown)) hm).mono ?_
  rintro e' y ⟨u, ys, rfl, ⟨hset, -⟩, hr, hb⟩
  obtain rfl := SetOf.uniq hset hk
  exact ⟨u, rfl, h.gr (hX.after hb), SliceOf.own hr (fun _ _ => rfl), fun u' m' k => k.below (grown_below (hX.after hb))⟩
theorem awake_two (h : Two15 w tb ub S U L M d e v m Y) (hX : Dr Y X) :
    Calls Try.prog 28 #[] X fun e' y => e' = .returned (.bool true) ∧ Two15 w tb ub S U L M d e v m y := by
  refine (awake15 X).mono ?_
  rintro e' y ⟨rfl, hb⟩
  exact ⟨rfl, h.gr (hX.after hb)⟩
end
end Go.Proofs.Ythmljllgfigebaa
