/- Package mvcc: rising keys, and what each has. Conditions: none. -/
import Derived.Test.YtfjhlckklgeokaaTrcI
import Derived.Test.YtfjhlckklgeokaaVerB
namespace Go.Proofs.Ytfjhlckklgeokaa
open Go.RowKit Go.PlainAid
set_option linter.unusedVariables false

abbrev Fv := ByteArray → List CellT
def Kup (K : List ByteArray) : Prop := K.Pairwise (fun a b => klt a b = true)
def insY : List ByteArray → ByteArray → List ByteArray
  | [], k => [k]
  | a :: r, k => if klt k a = true then k :: a :: r else if klt a k = true then a :: insY r k else a :: r
def delY : List ByteArray → ByteArray → List ByteArray
  | [], _ => []
  | a :: r, k => if klt k a = true then a :: r else if klt a k = true then a :: delY r k else r
theorem klt_ne {a b : ByteArray} (h : klt a b = true) : a ≠ b := fun e => by rw [e, klt_irr] at h; cases h
theorem ins_keys (L : List Kv) (k : ByteArray) (v : SlT) : (insL L k v).map (·.1) = insY (L.map (·.1)) k := by
  induction L with
  | nil => rfl
  | cons a r ih => simp only [insL, insY, List.map_cons]; split <;> (try split) <;> simp [ih]
theorem del_keys (L : List Kv) (k : ByteArray) : (delL L k).map (·.1) = delY (L.map (·.1)) k := by
  induction L with
  | nil => rfl
  | cons a r ih => simp only [delL, delY, List.map_cons]; split <;> (try split) <;> simp [ih]
theorem mem_insY {K : List ByteArray} {k x : ByteArray} : x ∈ insY K k ↔ x = k ∨ x ∈ K := by
  induction K with
  | nil => simp [insY]
  | cons a r ih =>
    unfold insY
    split
    · simp
    · split
      · rw [List.mem_cons, ih, List.mem_cons]; constructor
        · rintro (h | h | h)
          · exact .inr (.inl h)
          · exact .inl h
          · exact .inr (.inr h)
        · rintro (h | h | h)
          · exact .inr (.inl h)
          · exact .inl h
          · exact .inr (.inr h)
      · rename_i h1 h2
        have e := klt_eq (by simpa using h1) (by simpa using h2)
        subst e
        simp
theorem len_insY (K : List ByteArray) (k : ByteArray) : (insY K k).length ≤ K.length + 1 := by
  induction K with
  | nil => simp [insY]
  | cons a r ih => unfold insY; split; simp; split <;> simp <;> omega
theorem len_delY (K : List ByteArray) (k : ByteArray) : (delY K k).length ≤ K.length := by
  induction K with
  | nil => simp [delY]
  | cons a r ih => unfold delY; split; simp; split <;> simp <;> omega
theorem up_srt {L : List Kv} : Srt L ↔ Kup (L.map (·.1)) := by unfold Srt Kup; rw [List.pairwise_map]
theorem mem_delY {K : List ByteArray} {k x : ByteArray} (h : Kup K) : x ∈ delY K k ↔ x ∈ K ∧ x ≠ k := by
  induction K with
  | nil => simp [delY]
  | cons a r ih =>
    obtain ⟨h1, h2⟩ := List.pairwise_cons.1 h
    unfold delY
    split
    · rename_i q
      constructor
      · intro hx
        refine ⟨hx, ?_⟩
        rcases List.mem_cons.1 hx with rfl | hx
        · exact (klt_ne q).symm
        · exact (klt_ne (klt_tr q (h1 x hx))).symm
      · exact fun hx => hx.1
    · split
      · rename_i q
        rw [List.mem_cons, ih h2, List.mem_cons]
        constructor
        · rintro (rfl | ⟨hx, hn⟩)
          · exact ⟨.inl rfl, klt_ne q⟩
          · exact ⟨.inr hx, hn⟩
        · rintro ⟨rfl | hx, hn⟩
          · exact .inl rfl
          · exact .inr ⟨hx, hn⟩
      · rename_i q1 q2
        have e := klt_eq (by simpa using q1) (by simpa using q2)
        subst e
        rw [List.mem_cons]
        constructor
        · intro hx; exact ⟨.inr hx, (klt_ne (h1 x hx)).symm⟩
        · rintro ⟨rfl | hx, hn⟩
          · exact absurd rfl hn
          · exact hx
theorem get_mem {L : List Kv} {k : ByteArray} (h : Srt L) : (k ∈ L.map (·.1) → (k, getL L k) ∈ L) ∧ (k ∉ L.map (·.1) → getL L k = ⟨none, 0, 0⟩) := by
  induction L with
  | nil => simp [getL]
  | cons a r ih =>
    obtain ⟨h1, h2⟩ := List.pairwise_cons.1 h
    obtain ⟨i1, i2⟩ := ih h2
    rw [List.map_cons, List.mem_cons]
    unfold getL
    split
    · rename_i q
      refine ⟨fun hx => ?_, fun _ => rfl⟩
      exfalso
      rcases hx with rfl | hx
      · rw [klt_irr] at q; cases q
      · obtain ⟨c, hc, rfl⟩ := List.mem_map.1 hx
        have := klt_tr q (h1 c hc); rw [klt_irr] at this; cases this
    · split
      · rename_i q
        refine ⟨fun hx => ?_, fun hx => i2 (fun hq => hx (.inr hq))⟩
        rcases hx with rfl | hx
        · rw [klt_irr] at q; cases q
        · exact List.mem_cons_of_mem _ (i1 hx)
      · rename_i q1 q2
        have e := klt_eq (by simpa using q1) (by simpa using q2)
        exact ⟨fun _ => by rw [e]; exact List.mem_cons_self, fun hx => absurd (.inl e) hx⟩
theorem ins_mem {L : List Kv} {k : ByteArray} {v : SlT} {a : Kv} (h : Srt L) (ha : a ∈ insL L k v) : a = (k, v) ∨ (a ∈ L ∧ a.1 ≠ k) := by
  induction L with
  | nil => simp [insL] at ha; exact .inl ha
  | cons c r ih =>
    obtain ⟨h1, h2⟩ := List.pairwise_cons.1 h
    unfold insL at ha
    split at ha
    · rename_i q
      rcases List.mem_cons.1 ha with rfl | ha
      · exact .inl rfl
      · refine .inr ⟨ha, ?_⟩
        rcases List.mem_cons.1 ha with rfl | ha
        · exact (klt_ne q).symm
        · exact (klt_ne (klt_tr q (h1 a ha))).symm
    · split at ha
      · rename_i q
        rcases List.mem_cons.1 ha with rfl | ha
        · exact .inr ⟨List.mem_cons_self, klt_ne q⟩
        · rcases ih h2 ha with e | ⟨e, hn⟩
          · exact .inl e
          · exact .inr ⟨List.mem_cons_of_mem _ e, hn⟩
      · rename_i q1 q2
        have e := klt_eq (by simpa using q1) (by simpa using q2)
        rcases List.mem_cons.1 ha with rfl | ha
        · exact .inl (by rw [e])
        · exact .inr ⟨List.mem_cons_of_mem _ ha, by rw [e]; exact (klt_ne (h1 a ha)).symm⟩
theorem del_mem {L : List Kv} {k : ByteArray} {a : Kv} (h : Srt L) (ha : a ∈ delL L k) : a ∈ L ∧ a.1 ≠ k := by
  refine ⟨(delL_sub L).subset ha, ?_⟩
  have : a.1 ∈ delY (L.map (·.1)) k := by rw [← del_keys]; exact List.mem_map_of_mem ha
  exact ((mem_delY (up_srt.1 h)).1 this).2
/-- Two rising lists with the same members are one. -/
theorem up_ext {α : Type} {key : α → ByteArray} : ∀ {A B : List α}, A.Pairwise (fun a b => klt (key a) (key b) = true) → B.Pairwise (fun a b => klt (key a) (key b) = true) → (∀ x, x ∈ A ↔ x ∈ B) → A = B
  | [], [], _, _, _ => rfl
  | [], b :: B, _, _, h => absurd ((h b).2 List.mem_cons_self) (by simp)
  | a :: A, [], _, _, h => absurd ((h a).1 List.mem_cons_self) (by simp)
  | a :: A, b :: B, hA, hB, h => by
    obtain ⟨a1, a2⟩ := List.pairwise_cons.1 hA
    obtain ⟨b1, b2⟩ := List.pairwise_cons.1 hB
    have e : a = b := by
      rcases List.mem_cons.1 ((h a).1 List.mem_cons_self) with e | e
      · exact e
      · rcases List.mem_cons.1 ((h b).2 List.mem_cons_self) with e2 | e2
        · exact e2.symm
        · have := klt_tr (a1 b e2) (b1 a e); rw [klt_irr] at this; cases this
    subst e
    rw [up_ext a2 b2 fun x => ?_]
    constructor
    · intro hx
      rcases List.mem_cons.1 ((h x).1 (List.mem_cons_of_mem _ hx)) with e | e
      · subst e; have := a1 x hx; rw [klt_irr] at this; cases this
      · exact e
    · intro hx
      rcases List.mem_cons.1 ((h x).2 (List.mem_cons_of_mem _ hx)) with e | e
      · subst e; have := b1 x hx; rw [klt_irr] at this; cases this
      · exact e
open Classical in
noncomputable def upd (f : Fv) (k : ByteArray) (l : List CellT) : Fv := fun x => if x = k then l else f x
theorem upd_eq (f : Fv) (k : ByteArray) (l : List CellT) : upd f k l k = l := by unfold upd; rw [if_pos rfl]
theorem upd_ne {f : Fv} {k x : ByteArray} {l : List CellT} (h : x ≠ k) : upd f k l x = f x := by unfold upd; rw [if_neg h]
/-- The keys of K are those that have something. -/
structure KOf (K : List ByteArray) (f : Fv) : Prop where
  up : Kup K
  mem : ∀ k, k ∈ K ↔ f k ≠ []
theorem KOf.one {K K' : List ByteArray} {f : Fv} (h : KOf K f) (h' : KOf K' f) : K = K' := up_ext (key := fun x => x) h.up h'.up fun x => by rw [h.mem, h'.mem]
/-- The versions of a key are right, up to a time, and not too many. -/
structure FOk (f : Fv) (B : Int) (n : Nat) : Prop where
  ok : ∀ k, ∀ c ∈ f k, cellOk c
  up : ∀ k, rises 0 (f k) = true
  le : ∀ k, lastTs 0 (f k) ≤ B
  len : ∀ k, (f k).length ≤ n
theorem FOk.mono {f : Fv} {B B' : Int} {n n' : Nat} (h : FOk f B n) (hB : B ≤ B') (hn : n ≤ n') : FOk f B' n' := ⟨h.ok, h.up, fun k => Int.le_trans (h.le k) hB, fun k => Nat.le_trans (h.len k) hn⟩
abbrev OpC := ByteArray × ByteArray × Bool
theorem snocRec {α : Type} {P : List α → Prop} (nil : P []) (append_singleton : ∀ (l : List α) (a : α), P l → P (l ++ [a])) (l : List α) : P l := by
  have : ∀ r : List α, P r.reverse := by
    intro r
    induction r with
    | nil => exact nil
    | cons a r ih => rw [List.reverse_cons]; exact append_singleton _ a ih
  have h := this l.reverse
  rwa [List.reverse_reverse] at h
/-- What a list of operations lays at a time. -/
noncomputable def putsF (f : Fv) (ts : Int) (l : List OpC) : Fv := l.foldl (fun f o => upd f o.1 (f o.1 ++ [(ts, o.2.1, o.2.2)])) f
theorem putsF_snoc (f : Fv) (ts : Int) (l : List OpC) (o : OpC) : putsF f ts (l ++ [o]) = upd (putsF f ts l) o.1 (putsF f ts l o.1 ++ [(ts, o.2.1, o.2.2)]) := by unfold putsF; rw [List.foldl_append]; rfl
theorem putsF_off {f : Fv} {ts : Int} {l : List OpC} {k : ByteArray} : (∀ o ∈ l, o.1 ≠ k) → putsF f ts l k = f k := by
  induction l using snocRec with
  | nil => intro _; rfl
  | append_singleton l o ih =>
    intro h
    rw [putsF_snoc, upd_ne (fun e => h o (by simp) e.symm), ih fun o ho => h o (by simp [ho])]
/-- Each key is laid once at most: it has what it had, or one version more. -/
theorem putsF_at {f : Fv} {ts : Int} {l : List OpC} (hd : l.Pairwise (fun a b => klt a.1 b.1 = true)) (k : ByteArray) : putsF f ts l k = f k ∨ ∃ o ∈ l, o.1 = k ∧ putsF f ts l k = f k ++ [(ts, o.2.1, o.2.2)] := by
  induction l using snocRec with
  | nil => exact .inl rfl
  | append_singleton l o ih =>
    obtain ⟨h1, -, h3⟩ := List.pairwise_append.1 hd
    rw [putsF_snoc]
    by_cases e : k = o.1
    · subst e
      rw [upd_eq, putsF_off fun z hz => klt_ne (h3 z hz o (by simp))]
      exact .inr ⟨o, by simp, rfl, rfl⟩
    · rw [upd_ne e]
      rcases ih h1 with h | ⟨z, hz, h⟩
      · exact .inl h
      · exact .inr ⟨z, by simp [hz], h⟩
theorem FOk.puts {f : Fv} {B ts : Int} {n : Nat} {l : List OpC} (h : FOk f B n) (hB : B < ts) (h0 : 0 < ts ∧ ts < 18446744073709551616) (hd : l.Pairwise (fun a b => klt a.1 b.1 = true)) : FOk (putsF f ts l) ts (n + 1) := by
  have hc : ∀ o : OpC, cellOk (ts, o.2.1, o.2.2) := fun o => by show (Lit.int .u64 ts).wf = true; simp [Lit.wf, IntKind.min, IntKind.max, IntKind.signed, IntKind.bits]; omega
  refine ⟨fun k => ?_, fun k => ?_, fun k => ?_, fun k => ?_⟩ <;> rcases putsF_at (f := f) (ts := ts) hd k with e | ⟨o, ho, hk, e⟩ <;> rw [e]
  · exact h.ok k
  · intro c hc'
    rcases List.mem_append.1 hc' with q | q
    · exact h.ok k c q
    · simp only [List.mem_singleton] at q; rw [q]; exact hc o
  · exact h.up k
  · rw [rises_snoc, h.up k, Bool.true_and]; exact decide_eq_true (by have := h.le k; show _ < ts; omega)
  · have := h.le k; omega
  · rw [lastTs_snoc]; exact Int.le_refl _
  · have := h.len k; omega
  · have := h.len k; simp; omega
noncomputable def pruneF (f : Fv) (h : Int) : Fv := fun k => (f k).drop (pruneN (f k) h)
theorem lastTs_drop : ∀ (l : List CellT) (k : Nat), rises 0 l = true → lastTs 0 (l.drop k) ≤ lastTs 0 l := by
  intro l k hr
  by_cases hk : k < l.length
  · have h1 : 0 < (l.drop k).length := by simp; omega
    rw [lastTs_ts 0 _ h1, lastTs_ts 0 l (by omega), ts_drop, List.length_drop, show k + (l.length - k - 1) = l.length - 1 by omega]; exact Int.le_refl _
  · rw [List.drop_eq_nil_of_le (by omega)]
    by_cases h0 : 0 < l.length
    · rw [lastTs_ts 0 l h0]
      have : ∀ a : Int, lastTs a [] = a := fun a => rfl
      rw [this]
      by_cases h1 : 1 < l.length
      · have := (rises_lt 0 l hr 0 (l.length - 1) (by omega) (by omega)); omega
      · have e : l.length - 1 = 0 := by omega
        rw [e]
        cases l with
        | nil => simp at h0
        | cons c r => simp only [rises, Bool.and_eq_true, decide_eq_true_eq] at hr; show (0 : Int) ≤ c.1; omega
    · obtain rfl : l = [] := List.eq_nil_of_length_eq_zero (by omega)
      exact Int.le_refl _
theorem FOk.prune {f : Fv} {B : Int} {n : Nat} (hf : FOk f B n) (h : Int) : FOk (pruneF f h) B n :=
  ⟨fun k c hc => hf.ok k c (List.mem_of_mem_drop hc), fun k => rises_drop _ (hf.up k), fun k => Int.le_trans (lastTs_drop _ _ (hf.up k)) (hf.le k), fun k => by have := hf.len k; unfold pruneF; rw [List.length_drop]; omega⟩
theorem prune_at {f : Fv} {B : Int} {n : Nat} (hf : FOk f B n) {h t : Int} (ht : h ≤ t) (k : ByteArray) : atS (pruneF f h k) t = atS (f k) t := (prune_law (hf.up k) h h t (Int.le_refl _) ht).2.2.2.symm
theorem puts_at {f : Fv} {B ts : Int} {n : Nat} {l : List OpC} (hd : l.Pairwise (fun a b => klt a.1 b.1 = true)) {t : Int} (ht : t < ts) (k : ByteArray) : atS (putsF f ts l k) t = atS (f k) t := by
  rcases putsF_at (f := f) (ts := ts) hd k with e | ⟨o, ho, hk, e⟩ <;> rw [e]
  exact at_before _ _ ht
end Go.Proofs.Ytfjhlckklgeokaa
