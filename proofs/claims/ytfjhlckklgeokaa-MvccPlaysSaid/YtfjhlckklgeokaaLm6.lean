/- Put together: MvA, MvB. Conditions: as each says. -/
import Derived.Test.YtfjhlckklgeokaaTrcI
import Derived.Test.YtfjhlckklgeokaaVerB
import Derived.Test.YtfjhlckklgeokaaTrcL
/- Package mvcc: rising keys, and what each has. Conditions: none. -/
namespace Go.Proofs.Ytfjhlckklgeokaa
open Go.RowKit Go.PlainAid
set_option linter.unusedVariables false

abbrev Fv := ByteArray → List CellT
def Kup (K : List ByteArray) : Prop := K.Pairwise (fun a b => klt a b = true)
def insY : List ByteArray → ByteArray → List ByteArray
  | [], k => [k]
  | a :: r, k => if klt k a = true then k :: a :: r else if klt a k = true then a :: insY r k else a :: r
def delY : List ByteArray → ByteArray → List ByteArray
  | [], _ => []
  | a :: r, k => if klt k a = true then a :: r else if klt a k = true then a :: delY r k else r
theorem klt_ne {a b : ByteArray} (h : klt a b = true) : a ≠ b := fun e => by rw [e, klt_irr] at h; cases h
theorem ins_keys (L : List Kv) (k : ByteArray) (v : SlT) : (insL L k v).map (·.1) = insY (L.map (·.1)) k := by
  induction L with
  | nil => rfl
  | cons a r ih => simp only [insL, insY, List.map_cons]; split <;> (try split) <;> simp [ih]
theorem del_keys (L : List Kv) (k : ByteArray) : (delL L k).map (·.1) = delY (L.map (·.1)) k := by
  induction L with
  | nil => rfl
  | cons a r ih => simp only [delL, delY, List.map_cons]; split <;> (try split) <;> simp [ih]
theorem mem_insY {K : List ByteArray} {k x : ByteArray} : x ∈ insY K k ↔ x = k ∨ x ∈ K := by
  induction K with
  | nil => simp [insY]
  | cons a r ih =>
    unfold insY
    split
    · simp
    · split
      · rw [List.mem_cons, ih, List.mem_cons]; constructor
        · rintro (h | h | h)
          · exact .inr (.inl h)
          · exact .inl h
          · exact .inr (.inr h)
        · rintro (h | h | h)
          · exact .inr (.inl h)
          · exact .inl h
          · exact .inr (.inr h)
      · rename_i h1 h2
        have e := klt_eq (by simpa using h1) (by simpa using h2)
        subst e
        simp
theorem len_insY (K : List ByteArray) (k : ByteArray) : (insY K k).length ≤ K.length + 1 := by
  induction K with
  | nil => simp [insY]
  | cons a r ih => unfold insY; split; simp; split <;> simp <;> omega
theorem len_delY (K : List ByteArray) (k : ByteArray) : (delY K k).length ≤ K.length := by
  induction K with
  | nil => simp [delY]
  | cons a r ih => unfold delY; split; simp; split <;> simp <;> omega
theorem up_srt {L : List Kv} : Srt L ↔ Kup (L.map (·.1)) := by unfold Srt Kup; rw [List.pairwise_map]
theorem mem_delY {K : List ByteArray} {k x : ByteArray} (h : Kup K) : x ∈ delY K k ↔ x ∈ K ∧ x ≠ k := by
  induction K with
  | nil => simp [delY]
  | cons a r ih =>
    obtain ⟨h1, h2⟩ := List.pairwise_cons.1 h
    unfold delY
    split
    · rename_i q
      constructor
      · intro hx
        refine ⟨hx, ?_⟩
        rcases List.mem_cons.1 hx with rfl | hx
        · exact (klt_ne q).symm
        · exact (klt_ne (klt_tr q (h1 x hx))).symm
      · exact fun hx => hx.1
    · split
      · rename_i q
        rw [List.mem_cons, ih h2, List.mem_cons]
        constructor
        · rintro (rfl | ⟨hx, hn⟩)
          · exact ⟨.inl rfl, klt_ne q⟩
          · exact ⟨.inr hx, hn⟩
        · rintro ⟨rfl | hx, hn⟩
          · exact .inl rfl
          · exact .inr ⟨hx, hn⟩
      · rename_i q1 q2
        have e := klt_eq (by simpa using q1) (by simpa using q2)
        subst e
        rw [List.mem_cons]
        constructor
        · intro hx; exact ⟨.inr hx, (klt_ne (h1 x hx)).symm⟩
        · rintro ⟨rfl | hx, hn⟩
          · exact absurd rfl hn
          · exact hx
theorem get_mem {L : List Kv} {k : ByteArray} (h : Srt L) : (k ∈ L.map (·.1) → (k, getL L k) ∈ L) ∧ (k ∉ L.map (·.1) → getL L k = ⟨none, 0, 0⟩) := by
  induction L with
  | nil => simp [getL]
  | cons a r ih =>
    obtain ⟨h1, h2⟩ := List.pairwise_cons.1 h
    obtain ⟨i1, i2⟩ := ih h2
    rw [List.map_cons, List.mem_cons]
    unfold getL
    split
    · rename_i q
      refine ⟨fun hx => ?_, fun _ => rfl⟩
      exfalso
      rcases hx with rfl | hx
      · rw [klt_irr] at q; cases q
      · obtain ⟨c, hc, rfl⟩ := List.mem_map.1 hx
        have := klt_tr q (h1 c hc); rw [klt_irr] at this; cases this
    · split
      · rename_i q
        refine ⟨fun hx => ?_, fun hx => i2 (fun hq => hx (.inr hq))⟩
        rcases hx with rfl | hx
        · rw [klt_irr] at q; cases q
        · exact List.mem_cons_of_mem _ (i1 hx)
      · rename_i q1 q2
        have e := klt_eq (by simpa using q1) (by simpa using q2)
        exact ⟨fun _ => by rw [e]; exact List.mem_cons_self, fun hx => absurd (.inl e) hx⟩
theorem ins_mem {L : List Kv} {k : ByteArray} {v : SlT} {a : Kv} (h : Srt L) (ha : a ∈ insL L k v) : a = (k, v) ∨ (a ∈ L ∧ a.1 ≠ k) := by
  induction L with
  | nil => simp [insL] at ha; exact .inl ha
  | cons c r ih =>
    obtain ⟨h1, h2⟩ := List.pairwise_cons.1 h
    unfold insL at ha
    split at ha
    · rename_i q
      rcases List.mem_cons.1 ha with rfl | ha
      · exact .inl rfl
      · refine .inr ⟨ha, ?_⟩
        rcases List.mem_cons.1 ha with rfl | ha
        · exact (klt_ne q).symm
        · exact (klt_ne (klt_tr q (h1 a ha))).symm
    · split at ha
      · rename_i q
        rcases List.mem_cons.1 ha with rfl | ha
        · exact .inr ⟨List.mem_cons_self, klt_ne q⟩
        · rcases ih h2 ha with e | ⟨e, hn⟩
          · exact .inl e
          · exact .inr ⟨List.mem_cons_of_mem _ e, hn⟩
      · rename_i q1 q2
        have e := klt_eq (by simpa using q1) (by simpa using q2)
        rcases List.mem_cons.1 ha with rfl | ha
        · exact .inl (by rw [e])
        · exact .inr ⟨List.mem_cons_of_mem _ ha, by rw [e]; exact (klt_ne (h1 a ha)).symm⟩
theorem del_mem {L : List Kv} {k : ByteArray} {a : Kv} (h : Srt L) (ha : a ∈ delL L k) : a ∈ L ∧ a.1 ≠ k := by
  refine ⟨(delL_sub L).subset ha, ?_⟩
  have : a.1 ∈ delY (L.map (·.1)) k := by rw [← del_keys]; exact List.mem_map_of_mem ha
  exact ((mem_delY (up_srt.1 h)).1 this).2
/-- Two rising lists with the same members are one. -/
theorem up_ext {α : Type} {key : α → ByteArray} : ∀ {A B : List α}, A.Pairwise (fun a b => klt (key a) (key b) = true) → B.Pairwise (fun a b => klt (key a) (key b) = true) → (∀ x, x ∈ A ↔ x ∈ B) → A = B
  | [], [], _, _, _ => rfl
  | [], b :: B, _, _, h => absurd ((h b).2 List.mem_cons_self) (by simp)
  | a :: A, [], _, _, h => absurd ((h a).1 List.mem_cons_self) (by simp)
  | a :: A, b :: B, hA, hB, h => by
    obtain ⟨a1, a2⟩ := List.pairwise_cons.1 hA
    obtain ⟨b1, b2⟩ := List.pairwise_cons.1 hB
    have e : a = b := by
      rcases List.mem_cons.1 ((h a).1 List.mem_cons_self) with e | e
      · exact e
      · rcases List.mem_cons.1 ((h b).2 List.mem_cons_self) with e2 | e2
        · exact e2.symm
        · have := klt_tr (a1 b e2) (b1 a e); rw [klt_irr] at this; cases this
    subst e
    rw [up_ext a2 b2 fun x => ?_]
    constructor
    · intro hx
      rcases List.mem_cons.1 ((h x).1 (List.mem_cons_of_mem _ hx)) with e | e
      · subst e; have := a1 x hx; rw [klt_irr] at this; cases this
      · exact e
    · intro hx
      rcases List.mem_cons.1 ((h x).2 (List.mem_cons_of_mem _ hx)) with e | e
      · subst e; have := b1 x hx; rw [klt_irr] at this; cases this
      · exact e
open Classical in
noncomputable def upd (f : Fv) (k : ByteArray) (l : List CellT) : Fv := fun x => if x = k then l else f x
theorem upd_eq (f : Fv) (k : ByteArray) (l : List CellT) : upd f k l k = l := by unfold upd; rw [if_pos rfl]
theorem upd_ne {f : Fv} {k x : ByteArray} {l : List CellT} (h : x ≠ k) : upd f k l x = f x := by unfold upd; rw [if_neg h]
/-- The keys of K are those that have something. -/
structure KOf (K : List ByteArray) (f : Fv) : Prop where
  up : Kup K
  mem : ∀ k, k ∈ K ↔ f k ≠ []
theorem KOf.one {K K' : List ByteArray} {f : Fv} (h : KOf K f) (h' : KOf K' f) : K = K' := up_ext (key := fun x => x) h.up h'.up fun x => by rw [h.mem, h'.mem]
/-- The versions of a key are right, up to a time, and not too many. -/
structure FOk (f : Fv) (B : Int) (n : Nat) : Prop where
  ok : ∀ k, ∀ c ∈ f k, cellOk c
  up : ∀ k, rises 0 (f k) = true
  le : ∀ k, lastTs 0 (f k) ≤ B
  len : ∀ k, (f k).length ≤ n
theorem FOk.mono {f : Fv} {B B' : Int} {n n' : Nat} (h : FOk f B n) (hB : B ≤ B') (hn : n ≤ n') : FOk f B' n' := ⟨h.ok, h.up, fun k => Int.le_trans (h.le k) hB, fun k => Nat.le_trans (h.len k) hn⟩
abbrev OpC := ByteArray × ByteArray × Bool
theorem snocRec {α : Type} {P : List α → Prop} (nil : P []) (append_singleton : ∀ (l : List α) (a : α), P l → P (l ++ [a])) (l : List α) : P l := by
  have : ∀ r : List α, P r.reverse := by
    intro r
    induction r with
    | nil => exact nil
    | cons a r ih => rw [List.reverse_cons]; exact append_singleton _ a ih
  have h := this l.reverse
  rwa [List.reverse_reverse] at h
/-- What a list of operations lays at a time. -/
noncomputable def putsF (f : Fv) (ts : Int) (l : List OpC) : Fv := l.foldl (fun f o => upd f o.1 (f o.1 ++ [(ts, o.2.1, o.2.2)])) f
theorem putsF_snoc (f : Fv) (ts : Int) (l : List OpC) (o : OpC) : putsF f ts (l ++ [o]) = upd (putsF f ts l) o.1 (putsF f ts l o.1 ++ [(ts, o.2.1, o.2.2)]) := by unfold putsF; rw [List.foldl_append]; rfl
theorem putsF_off {f : Fv} {ts : Int} {l : List OpC} {k : ByteArray} : (∀ o ∈ l, o.1 ≠ k) → putsF f ts l k = f k := by
  induction l using snocRec with
  | nil => intro _; rfl
  | append_singleton l o ih =>
    intro h
    rw [putsF_snoc, upd_ne (fun e => h o (by simp) e.symm), ih fun o ho => h o (by simp [ho])]
/-- Each key is laid once at most: it has what it had, or one version more. -/
theorem putsF_at {f : Fv} {ts : Int} {l : List OpC} (hd : l.Pairwise (fun a b => klt a.1 b.1 = true)) (k : ByteArray) : putsF f ts l k = f k ∨ ∃ o ∈ l, o.1 = k ∧ putsF f ts l k = f k ++ [(ts, o.2.1, o.2.2)] := by
  induction l using snocRec with
  | nil => exact .inl rfl
  | append_singleton l o ih =>
    obtain ⟨h1, -, h3⟩ := List.pairwise_append.1 hd
    rw [putsF_snoc]
    by_cases e : k = o.1
    · subst e
      rw [upd_eq, putsF_off fun z hz => klt_ne (h3 z hz o (by simp))]
      exact .inr ⟨o, by simp, rfl, rfl⟩
    · rw [upd_ne e]
      rcases ih h1 with h | ⟨z, hz, h⟩
      · exact .inl h
      · exact .inr ⟨z, by simp [hz], h⟩
theorem FOk.puts {f : Fv} {B ts : Int} {n : Nat} {l : List OpC} (h : FOk f B n) (hB : B < ts) (h0 : 0 < ts ∧ ts < 18446744073709551616) (hd : l.Pairwise (fun a b => klt a.1 b.1 = true)) : FOk (putsF f ts l) ts (n + 1) := by
  have hc : ∀ o : OpC, cellOk (ts, o.2.1, o.2.2) := fun o => by show (Lit.int .u64 ts).wf = true; simp [Lit.wf, IntKind.min, IntKind.max, IntKind.signed, IntKind.bits]; omega
  refine ⟨fun k => ?_, fun k => ?_, fun k => ?_, fun k => ?_⟩ <;> rcases putsF_at (f := f) (ts := ts) hd k with e | ⟨o, ho, hk, e⟩ <;> rw [e]
  · exact h.ok k
  · intro c hc'
    rcases List.mem_append.1 hc' with q | q
    · exact h.ok k c q
    · simp only [List.mem_singleton] at q; rw [q]; exact hc o
  · exact h.up k
  · rw [rises_snoc, h.up k, Bool.true_and]; exact decide_eq_true (by have := h.le k; show _ < ts; omega)
  · have := h.le k; omega
  · rw [lastTs_snoc]; exact Int.le_refl _
  · have := h.len k; omega
  · have := h.len k; simp; omega
noncomputable def pruneF (f : Fv) (h : Int) : Fv := fun k => (f k).drop (pruneN (f k) h)
theorem lastTs_drop : ∀ (l : List CellT) (k : Nat), rises 0 l = true → lastTs 0 (l.drop k) ≤ lastTs 0 l := by
  intro l k hr
  by_cases hk : k < l.length
  · have h1 : 0 < (l.drop k).length := by simp; omega
    rw [lastTs_ts 0 _ h1, lastTs_ts 0 l (by omega), ts_drop, List.length_drop, show k + (l.length - k - 1) = l.length - 1 by omega]; exact Int.le_refl _
  · rw [List.drop_eq_nil_of_le (by omega)]
    by_cases h0 : 0 < l.length
    · rw [lastTs_ts 0 l h0]
      have : ∀ a : Int, lastTs a [] = a := fun a => rfl
      rw [this]
      by_cases h1 : 1 < l.length
      · have := (rises_lt 0 l hr 0 (l.length - 1) (by omega) (by omega)); omega
      · have e : l.length - 1 = 0 := by omega
        rw [e]
        cases l with
        | nil => simp at h0
        | cons c r => simp only [rises, Bool.and_eq_true, decide_eq_true_eq] at hr; show (0 : Int) ≤ c.1; omega
    · obtain rfl : l = [] := List.eq_nil_of_length_eq_zero (by omega)
      exact Int.le_refl _
theorem FOk.prune {f : Fv} {B : Int} {n : Nat} (hf : FOk f B n) (h : Int) : FOk (pruneF f h) B n :=
  ⟨fun k c hc => hf.ok k c (List.mem_of_mem_drop hc), fun k => rises_drop _ (hf.up k), fun k => Int.le_trans (lastTs_drop _ _ (hf.up k)) (hf.le k), fun k => by have := hf.len k; unfold pruneF; rw [List.length_drop]; omega⟩
theorem prune_at {f : Fv} {B : Int} {n : Nat} (hf : FOk f B n) {h t : Int} (ht : h ≤ t) (k : ByteArray) : atS (pruneF f h k) t = atS (f k) t := (prune_law (hf.up k) h h t (Int.le_refl _) ht).2.2.2.symm
theorem puts_at {f : Fv} {B ts : Int} {n : Nat} {l : List OpC} (hd : l.Pairwise (fun a b => klt a.1 b.1 = true)) {t : Int} (ht : t < ts) (k : ByteArray) : atS (putsF f ts l k) t = atS (f k) t := by
  rcases putsF_at (f := f) (ts := ts) hd k with e | ⟨o, ho, hk, e⟩ <;> rw [e]
  exact at_before _ _ ht
end Go.Proofs.Ytfjhlckklgeokaa

/- Package mvcc: a tree of versions as an object: Get, Put, Del, Keys; vers.Put beside it. Conditions: at most 80000 keys, 900 versions each. -/
namespace Go.Proofs.Ytfjhlckklgeokaa
open Go.RowKit Go.PlainAid Go.Shelf
set_option linter.unusedVariables false

theorem own_ne_blk {w : World} {N : Nat} {T : TypeId} {cs : Array Value} {B sz k : Nat} {e : TypeId} {v : Value} {xs : List Value} (h : w.ownsRow B e sz v k xs) (hb : Blk w N T cs) (hT : e ≠ T) : v.ownBlock ≠ some N := fun e1 => by
  rcases h.2 with ⟨hv, _⟩ | ⟨g, cap, cur, hv, _, hh, _⟩
  · rw [hv] at e1; cases e1
  · rw [hv] at e1
    have : g = N := by simpa [Value.ownBlock] using e1
    subst this
    unfold Blk at hb
    rw [hh] at hb
    injection hb with h1; injection h1 with h2 h3
    exact hT h3
def slV (v : SlT) : Value := .slice v.a v.n v.c
def cellRow (w : World) (v : Value) (l : List CellT) : Prop := w.ownsRow 0 71 3 v l.length (l.flatMap cellE)
section
variable {S D : Nat → Prop} {w x : World} {v : Value} {l : List CellT} {tb : Nat} {K : List ByteArray} {f : Fv} {L : List Kv} {d : Int} {t : Tm} {q : Nat}
theorem cellRow.sl (h : cellRow w v l) : SliceOf cellE 3 w v l := SliceOf.own h (fun _ _ => rfl)
theorem cellRow.keep (h : cellRow w v l) (hk : ∀ i, v.ownBlock = some i → x.heap[i]? = w.heap[i]?) : cellRow x v l := row_sameL h hk
theorem TreeAt.blk : ∀ {t : Tm}, TreeAt w t → q ∈ bk t → ∃ cs, Blk w q 89 cs
  | .nil, _, h => by simp [bk] at h
  | .nd b l k v d r, h, hq => by
    simp only [bk, List.mem_cons, List.mem_append] at hq
    rcases hq with rfl | hq | hq
    · exact ⟨_, h.1⟩
    · exact TreeAt.blk h.2.1 hq
    · exact TreeAt.blk h.2.2 hq
theorem TrO.offRow (h : TrO S w tb L d) (hr : cellRow w v l) : ∀ g, v.ownBlock = some g → ¬ S g := fun g hg hq => by
  obtain ⟨t, h1, h2, _, _, _, _, _, _, h9⟩ := h
  rcases (h9 g).1 hq with rfl | hq
  · exact own_ne_blk hr h1 (by decide) hg
  · obtain ⟨cs, hb⟩ := TreeAt.blk h2 hq
    exact own_ne_blk hr hb (by decide) hg
/-- A tree with the versions of each key; S holds all its blocks. -/
def VkO (S : Nat → Prop) (w : World) (tb : Nat) (K : List ByteArray) (f : Fv) : Prop :=
  ∃ (S0 : Nat → Prop) (L : List Kv) (d : Int), TrO S0 w tb L d ∧ L.map (·.1) = K ∧ KOf K f ∧
    (∀ a ∈ L, cellRow w (slV a.2) (f a.1) ∧ ∀ g, (slV a.2).ownBlock = some g → S g) ∧ (∀ q, S0 q → S q) ∧ ∀ q, S q → q < w.heap.size
theorem VkO.ofS (h : VkO S w tb K f) : ∀ q, S q → q < w.heap.size := by obtain ⟨S0, L, d, h1, h2, h3, h4, h5, h6⟩ := h; exact h6
theorem VkO.kof (h : VkO S w tb K f) : KOf K f := by obtain ⟨S0, L, d, h1, h2, h3, h4, h5, h6⟩ := h; exact h3
theorem VkO.keep (h : VkO S w tb K f) (hk : ∀ q, S q → x.heap[q]? = w.heap[q]?) (hz : w.heap.size ≤ x.heap.size) : VkO S x tb K f := by
  obtain ⟨S0, L, d, h1, h2, h3, h4, h5, h6⟩ := h
  exact ⟨S0, L, d, h1.keep fun q hq => hk q (h5 q hq), h2, h3, fun a ha => ⟨(h4 a ha).1.keep fun i hi => hk i ((h4 a ha).2 i hi), (h4 a ha).2⟩, h5, fun q hq => Nat.lt_of_lt_of_le (h6 q hq) hz⟩
theorem VkO.gr {row : Option Nat} (h : VkO S w tb K f) (hg : w.grownBy x row) (hr : ∀ k, row = some k → ¬ S k) : VkO S x tb K f :=
  h.keep (fun q hq => hg.block q (h.ofS q hq) (fun e => hr q e.symm hq)) hg.size
theorem VkO.but (h : VkO S w tb K f) (hb : But D w x) (ha : ∀ q, D q → S q → False) : VkO S x tb K f :=
  h.keep (fun q hq => hb.block q (h.ofS q hq) (fun hd => ha q hd hq)) hb.size
theorem VkO.below (h : VkO S w tb K f) (hb : Below w.heap.size w x) : VkO S x tb K f := h.keep (fun q hq => hb.block q (h.ofS q hq)) hb.size
theorem VkO.ext (h : VkO S w tb K f) (hr : cellRow w v l) : VkO (fun q => S q ∨ v.ownBlock = some q) w tb K f := by
  obtain ⟨S0, L, d, h1, h2, h3, h4, h5, h6⟩ := h
  refine ⟨S0, L, d, h1, h2, h3, fun a ha => ⟨(h4 a ha).1, fun g hg => .inl ((h4 a ha).2 g hg)⟩, fun q hq => .inl (h5 q hq), fun q hq => ?_⟩
  rcases hq with hq | hq
  · exact h6 q hq
  · exact (hr.lt q hq).2
end
set_option maxRecDepth 100000
theorem vget_any (S : Nat → Prop) (w : World) (tb : Nat) (K : List ByteArray) (f : Fv) (k : ByteArray) (h : VkO S w tb K f) :
    Calls Try.prog 27 #[pt tb 0, .string k] w fun e w' => ∃ (v : SlT) (b : Bool), e = .returned (.tuple #[slV v, .bool b]) ∧ cellRow w' (slV v) (f k) ∧ (∀ g, (slV v).ownBlock = some g → S g) ∧ w = w' := by
  obtain ⟨S0, L, d, h1, h2, h3, h4, h5, h6⟩ := h
  refine (tget_any S0 w tb L d k h1).mono ?_
  rintro e w' ⟨rfl, rfl⟩
  obtain ⟨g1, g2⟩ := get_mem (k := k) h1.srt
  by_cases hk : k ∈ L.map (·.1)
  · exact ⟨getL L k, _, rfl, (h4 _ (g1 hk)).1, (h4 _ (g1 hk)).2, rfl⟩
  · have e : f k = [] := by
      have := h3.mem k; rw [h2] at hk
      by_cases q : f k = []
      · exact q
      · exact absurd (this.2 q) hk
    refine ⟨getL L k, _, rfl, ?_, ?_, rfl⟩ <;> rw [g2 hk]
    · rw [e]; exact World.ownsRow_nil _ _ _ _
    · intro g hg; cases hg
theorem vput_any (S : Nat → Prop) (w : World) (tb : Nat) (K : List ByteArray) (f : Fv) (k : ByteArray) (v : SlT) (l : List CellT) (h : VkO S w tb K f) (hv : cellRow w (slV v) l) (hS : ∀ g, (slV v).ownBlock = some g → S g) (hl : l ≠ []) (hK : K.length ≤ 80000) :
    Calls Try.prog 29 #[pt tb 0, .string k, slV v] w fun e w' => ∃ (b : Bool) (S' : Nat → Prop), e = .returned (.bool b) ∧ VkO S' w' tb (insY K k) (upd f k l) ∧ Grew S S' w w' := by
  obtain ⟨S0, L, d, h1, h2, h3, h4, h5, h6⟩ := h
  refine (tput_any S0 w tb L d k v h1 (by rw [← h2, List.length_map] at hK; exact hK)).mono ?_
  rintro e w' ⟨d', S0', rfl, hT, hg⟩
  have hs := h1.srt
  have hkeep : ∀ {u : Value} {m : List CellT}, cellRow w u m → cellRow w' u m := fun hu => hu.keep fun i hi => hg.but.block i (hu.lt i hi).2 (h1.offRow hu i hi)
  refine ⟨_, fun q => S q ∨ S0' q, rfl, ⟨S0', insL L k v, d', hT, by rw [ins_keys, h2], ⟨?_, fun x => ?_⟩, fun a ha => ?_, fun q hq => .inr hq, fun q hq => ?_⟩, fun q hq => ?_, hg.but.mono fun q _ hq => h5 q hq⟩
  · rw [← h2, ← ins_keys]; exact up_srt.1 hT.srt
  · rw [mem_insY]
    by_cases e : x = k
    · subst e; rw [upd_eq]; exact ⟨fun _ => hl, fun _ => .inl rfl⟩
    · rw [upd_ne e, ← h3.mem x]; exact ⟨fun q => q.resolve_left e, .inr⟩
  · rcases ins_mem hs ha with rfl | ⟨ha, hn⟩
    · refine ⟨?_, fun g hg => .inl (hS g hg)⟩
      show cellRow w' (slV v) (upd f k l k)
      rw [upd_eq]; exact hkeep hv
    · rw [upd_ne hn]; exact ⟨hkeep (h4 a ha).1, fun g hg => .inl ((h4 a ha).2 g hg)⟩
  · rcases hq with hq | hq
    · exact Nat.lt_of_lt_of_le (h6 q hq) hg.but.size
    · exact hT.ofS q hq
  · rcases hq with hq | hq
    · exact .inl hq
    · rcases hg.sub q hq with h | h
      · exact .inl (h5 q h)
      · exact .inr h
theorem vdel_any (S : Nat → Prop) (w : World) (tb : Nat) (K : List ByteArray) (f : Fv) (k : ByteArray) (h : VkO S w tb K f) (hK : K.length ≤ 80000) :
    Calls Try.prog 34 #[pt tb 0, .string k] w fun e w' => ∃ (b : Bool) (S' : Nat → Prop), e = .returned (.bool b) ∧ VkO S' w' tb (delY K k) (upd f k []) ∧ Grew S S' w w' := by
  obtain ⟨S0, L, d, h1, h2, h3, h4, h5, h6⟩ := h
  refine (tdel_any S0 w tb L d k h1 (by rw [← h2, List.length_map] at hK; exact hK)).mono ?_
  rintro e w' ⟨d', S0', rfl, hT, hg⟩
  have hs := h1.srt
  have hkeep : ∀ {u : Value} {m : List CellT}, cellRow w u m → cellRow w' u m := fun hu => hu.keep fun i hi => hg.but.block i (hu.lt i hi).2 (h1.offRow hu i hi)
  refine ⟨_, fun q => S q ∨ S0' q, rfl, ⟨S0', delL L k, d', hT, by rw [del_keys, h2], ⟨?_, fun x => ?_⟩, fun a ha => ?_, fun q hq => .inr hq, fun q hq => ?_⟩, fun q hq => ?_, hg.but.mono fun q _ hq => h5 q hq⟩
  · rw [← h2, ← del_keys]; exact up_srt.1 hT.srt
  · rw [mem_delY h3.up]
    by_cases e : x = k
    · subst e; rw [upd_eq]; exact ⟨fun q => absurd rfl q.2, fun q => absurd rfl q⟩
    · rw [upd_ne e, ← h3.mem x]; exact ⟨fun q => q.1, fun q => ⟨q, e⟩⟩
  · obtain ⟨ha, hn⟩ := del_mem hs ha
    rw [upd_ne hn]; exact ⟨hkeep (h4 a ha).1, fun g hg => .inl ((h4 a ha).2 g hg)⟩
  · rcases hq with hq | hq
    · exact Nat.lt_of_lt_of_le (h6 q hq) hg.but.size
    · exact hT.ofS q hq
  · rcases hq with hq | hq
    · exact .inl hq
    · rcases hg.sub q hq with h | h
      · exact .inl (h5 q h)
      · exact .inr h
/-- The range tells this key. -/
def inR (F T k : ByteArray) : Bool := !(klt k F) && !(hit T k)
theorem hit_up {T a b : ByteArray} (h : hit T a = true) (hab : klt a b = true) : hit T b = true := by
  unfold hit at h ⊢
  simp only [Bool.and_eq_true, Bool.not_eq_true'] at h ⊢
  refine ⟨h.1, ?_⟩
  cases hb : Op.bytesLess b.toList T.toList with
  | false => rfl
  | true => have := klt_tr hab (show klt b T = true from hb); rw [show klt a T = false from h.2] at this; cases this
theorem cut_filter {T : ByteArray} : ∀ {l : List ByteArray}, Kup l → kcut T l = l.filter (fun k => !(hit T k))
  | [], _ => rfl
  | a :: r, h => by
    obtain ⟨h1, h2⟩ := List.pairwise_cons.1 h
    have ih := cut_filter (T := T) h2
    unfold kcut at ih ⊢
    rw [List.takeWhile_cons, List.filter_cons]
    cases ha : hit T a with
    | false => simp [ih]
    | true =>
      simp only [Bool.not_true, Bool.false_eq_true, if_false]
      rw [List.filter_eq_nil_iff.2 fun x hx => by simp [hit_up ha (h1 x hx)]]
theorem wk_filter (F : ByteArray) (L : List Kv) : wkL F L = (L.map (·.1)).filter (fun k => !(klt k F)) := by unfold wkL; rw [List.filter_map]; rfl
theorem vkeys_any (S : Nat → Prop) (w : World) (tb : Nat) (K : List ByteArray) (f : Fv) (F T : ByteArray) (h : VkO S w tb K f) (hK : K.length ≤ 80000) :
    Calls Try.prog 32 #[pt tb 0, .string F, .string T] w fun e w' => ∃ u, e = .returned u ∧ w'.ownsRow w.heap.size 9 1 u (K.filter (inR F T)).length ((K.filter (inR F T)).flatMap strE) ∧ Below w.heap.size w w' := by
  obtain ⟨S0, L, d, h1, h2, h3, h4, h5, h6⟩ := h
  have e : kcut T (wkL F L) = K.filter (inR F T) := by
    rw [wk_filter, h2, cut_filter (h3.up.sublist List.filter_sublist), List.filter_filter]
    congr 1; funext k; unfold inR; rw [Bool.and_comm]
  have := tkeys_any S0 w tb L d F T h1 (by rw [← h2, List.length_map] at hK; exact hK)
  rw [e] at this
  exact this
theorem vvput_any (S : Nat → Prop) (w : World) (tb : Nat) (K : List ByteArray) (f : Fv) (v : SlT) (l : List CellT) (c : CellT) (h : VkO S w tb K f) (hs : SliceOf cellE 3 w (slV v) l) (hl : l.length ≤ 900) (h0 : 0 < c.1) (hc : lastTs 0 l < c.1) :
    Calls Try.prog 28 #[slV v, .agg #[.int .u64 c.1, .string c.2.1, .bool c.2.2]] w fun e w' => ∃ (v' : SlT) (S' : Nat → Prop), e = .returned (.tuple #[slV v', .int .i64 0]) ∧ VkO S' w' tb K f ∧ cellRow w' (slV v') (l ++ [c]) ∧ (∀ g, (slV v').ownBlock = some g → S' g) ∧ Grew S S' w w' := by
  refine (put_row (slV v) l c w hs hl h0 hc).mono ?_
  rintro e w' ⟨u, rfl, hr, hb⟩
  obtain ⟨ao, n, cap, rfl⟩ := own_sliceT hr
  have hr0 : cellRow w' (.slice ao n cap) (l ++ [c]) := own_low hr (Nat.zero_le _)
  refine ⟨⟨ao, n, cap⟩, _, rfl, (h.below hb).ext hr0, hr0, fun g hg => .inr hg, fun q hq => ?_, But.of_grown0 (below_grown hb) _⟩
  rcases hq with hq | hq
  · exact .inl hq
  · exact .inr (hr.lt q hq).1
theorem vprune_any (S : Nat → Prop) (w : World) (tb : Nat) (K : List ByteArray) (f : Fv) (v : SlT) (l : List CellT) (t : Int) (h : VkO S w tb K f) (hs : SliceOf cellE 3 w (slV v) l) (hw : ∀ c ∈ l, cellOk c) (hl : l.length ≤ 1000) :
    Calls Try.prog 33 #[slV v, .int .u64 t] w fun e w' => ∃ (v' : SlT) (S' : Nat → Prop), e = .returned (slV v') ∧ VkO S' w' tb K f ∧ cellRow w' (slV v') (l.drop (pruneN l t)) ∧ (∀ g, (slV v').ownBlock = some g → S' g) ∧ Grew S S' w w' := by
  refine (prune_row (slV v) l t w hs hw hl).mono ?_
  rintro e w' ⟨u, rfl, hr, hb⟩
  obtain ⟨ao, n, cap, rfl⟩ := own_sliceT hr
  have hr0 : cellRow w' (.slice ao n cap) (l.drop (pruneN l t)) := own_low hr (Nat.zero_le _)
  refine ⟨⟨ao, n, cap⟩, _, rfl, (h.below hb).ext hr0, hr0, fun g hg => .inr hg, fun q hq => ?_, But.of_grown0 (below_grown hb) _⟩
  rcases hq with hq | hq
  · exact .inl hq
  · exact .inr (hr.lt q hq).1
end Go.Proofs.Ytfjhlckklgeokaa
