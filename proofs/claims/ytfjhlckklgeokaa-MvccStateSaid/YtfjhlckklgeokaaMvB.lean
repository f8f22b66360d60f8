/- Package mvcc: a tree of versions as an object: Get, Put, Del, Keys; vers.Put beside it. Conditions: at most 80000 keys, 900 versions each. -/
import Derived.Test.YtfjhlckklgeokaaTrcL
import Derived.Test.YtfjhlckklgeokaaMvA
namespace Go.Proofs.Ytfjhlckklgeokaa
open Go.RowKit Go.PlainAid Go.Shelf
set_option linter.unusedVariables false

theorem own_ne_blk {w : World} {N : Nat} {T : TypeId} {cs : Array Value} {B sz k : Nat} {e : TypeId} {v : Value} {xs : List Value} (h : w.ownsRow B e sz v k xs) (hb : Blk w N T cs) (hT : e ≠ T) : v.ownBlock ≠ some N := fun e1 => by
  rcases h.2 with ⟨hv, _⟩ | ⟨g, cap, cur, hv, _, hh, _⟩
  · rw [hv] at e1; cases e1
  · rw [hv] at e1
    have : g = N := by simpa [Value.ownBlock] using e1
    subst this
    unfold Blk at hb
    rw [hh] at hb
    injection hb with h1; injection h1 with h2 h3
    exact hT h3
def slV (v : SlT) : Value := .slice v.a v.n v.c
def cellRow (w : World) (v : Value) (l : List CellT) : Prop := w.ownsRow 0 71 3 v l.length (l.flatMap cellE)
section
variable {S D : Nat → Prop} {w x : World} {v : Value} {l : List CellT} {tb : Nat} {K : List ByteArray} {f : Fv} {L : List Kv} {d : Int} {t : Tm} {q : Nat}
theorem cellRow.sl (h : cellRow w v l) : SliceOf cellE 3 w v l := SliceOf.own h (fun _ _ => rfl)
theorem cellRow.keep (h : cellRow w v l) (hk : ∀ i, v.ownBlock = some i → x.heap[i]? = w.heap[i]?) : cellRow x v l := row_sameL h hk
theorem TreeAt.blk : ∀ {t : Tm}, TreeAt w t → q ∈ bk t → ∃ cs, Blk w q 89 cs
  | .nil, _, h => by simp [bk] at h
  | .nd b l k v d r, h, hq => by
    simp only [bk, List.mem_cons, List.mem_append] at hq
    rcases hq with rfl | hq | hq
    · exact ⟨_, h.1⟩
    · exact TreeAt.blk h.2.1 hq
    · exact TreeAt.blk h.2.2 hq
theorem TrO.offRow (h : TrO S w tb L d) (hr : cellRow w v l) : ∀ g, v.ownBlock = some g → ¬ S g := fun g hg hq => by
  obtain ⟨t, h1, h2, _, _, _, _, _, _, h9⟩ := h
  rcases (h9 g).1 hq with rfl | hq
  · exact own_ne_blk hr h1 (by decide) hg
  · obtain ⟨cs, hb⟩ := TreeAt.blk h2 hq
    exact own_ne_blk hr hb (by decide) hg
/-- A tree with the versions of each key; S holds all its blocks. -/
def VkO (S : Nat → Prop) (w : World) (tb : Nat) (K : List ByteArray) (f : Fv) : Prop :=
  ∃ (S0 : Nat → Prop) (L : List Kv) (d : Int), TrO S0 w tb L d ∧ L.map (·.1) = K ∧ KOf K f ∧
    (∀ a ∈ L, cellRow w (slV a.2) (f a.1) ∧ ∀ g, (slV a.2).ownBlock = some g → S g) ∧ (∀ q, S0 q → S q) ∧ ∀ q, S q → q < w.heap.size
theorem VkO.ofS (h : VkO S w tb K f) : ∀ q, S q → q < w.heap.size := by obtain ⟨S0, L, d, h1, h2, h3, h4, h5, h6⟩ := h; exact h6
theorem VkO.kof (h : VkO S w tb K f) : KOf K f := by obtain ⟨S0, L, d, h1, h2, h3, h4, h5, h6⟩ := h; exact h3
theorem VkO.keep (h : VkO S w tb K f) (hk : ∀ q, S q → x.heap[q]? = w.heap[q]?) (hz : w.heap.size ≤ x.heap.size) : VkO S x tb K f := by
  obtain ⟨S0, L, d, h1, h2, h3, h4, h5, h6⟩ := h
  exact ⟨S0, L, d, h1.keep fun q hq => hk q (h5 q hq), h2, h3, fun a ha => ⟨(h4 a ha).1.keep fun i hi => hk i ((h4 a ha).2 i hi), (h4 a ha).2⟩, h5, fun q hq => Nat.lt_of_lt_of_le (h6 q hq) hz⟩
theorem VkO.gr {row : Option Nat} (h : VkO S w tb K f) (hg : w.grownBy x row) (hr : ∀ k, row = some k → ¬ S k) : VkO S x tb K f :=
  h.keep (fun q hq => hg.block q (h.ofS q hq) (fun e => hr q e.symm hq)) hg.size
theorem VkO.but (h : VkO S w tb K f) (hb : But D w x) (ha : ∀ q, D q → S q → False) : VkO S x tb K f :=
  h.keep (fun q hq => hb.block q (h.ofS q hq) (fun hd => ha q hd hq)) hb.size
theorem VkO.below (h : VkO S w tb K f) (hb : Below w.heap.size w x) : VkO S x tb K f := h.keep (fun q hq => hb.block q (h.ofS q hq)) hb.size
theorem VkO.ext (h : VkO S w tb K f) (hr : cellRow w v l) : VkO (fun q => S q ∨ v.ownBlock = some q) w tb K f := by
  obtain ⟨S0, L, d, h1, h2, h3, h4, h5, h6⟩ := h
  refine ⟨S0, L, d, h1, h2, h3, fun a ha => ⟨(h4 a ha).1, fun g hg => .inl ((h4 a ha).2 g hg)⟩, fun q hq => .inl (h5 q hq), fun q hq => ?_⟩
  rcases hq with hq | hq
  · exact h6 q hq
  · exact (hr.lt q hq).2
end
set_option maxRecDepth 100000
theorem vget_any (S : Nat → Prop) (w : World) (tb : Nat) (K : List ByteArray) (f : Fv) (k : ByteArray) (h : VkO S w tb K f) :
    Calls Try.prog 27 #[pt tb 0, .string k] w fun e w' => ∃ (v : SlT) (b : Bool), e = .returned (.tuple #[slV v, .bool b]) ∧ cellRow w' (slV v) (f k) ∧ (∀ g, (slV v).ownBlock = some g → S g) ∧ w = w' := by
  obtain ⟨S0, L, d, h1, h2, h3, h4, h5, h6⟩ := h
  refine (tget_any S0 w tb L d k h1).mono ?_
  rintro e w' ⟨rfl, rfl⟩
  obtain ⟨g1, g2⟩ := get_mem (k := k) h1.srt
  by_cases hk : k ∈ L.map (·.1)
  · exact ⟨getL L k, _, rfl, (h4 _ (g1 hk)).1, (h4 _ (g1 hk)).2, rfl⟩
  · have e : f k = [] := by
      have := h3.mem k; rw [h2] at hk
      by_cases q : f k = []
      · exact q
      · exact absurd (this.2 q) hk
    refine ⟨getL L k, _, rfl, ?_, ?_, rfl⟩ <;> rw [g2 hk]
    · rw [e]; exact World.ownsRow_nil _ _ _ _
    · intro g hg; cases hg
theorem vput_any (S : Nat → Prop) (w : World) (tb : Nat) (K : List ByteArray) (f : Fv) (k : ByteArray) (v : SlT) (l : List CellT) (h : VkO S w tb K f) (hv : cellRow w (slV v) l) (hS : ∀ g, (slV v).ownBlock = some g → S g) (hl : l ≠ []) (hK : K.length ≤ 80000) :
    Calls Try.prog 29 #[pt tb 0, .string k, slV v] w fun e w' => ∃ (b : Bool) (S' : Nat → Prop), e = .returned (.bool b) ∧ VkO S' w' tb (insY K k) (upd f k l) ∧ Grew S S' w w' := by
  obtain ⟨S0, L, d, h1, h2, h3, h4, h5, h6⟩ := h
  refine (tput_any S0 w tb L d k v h1 (by rw [← h2, List.length_map] at hK; exact hK)).mono ?_
  rintro e w' ⟨d', S0', rfl, hT, hg⟩
  have hs := h1.srt
  have hkeep : ∀ {u : Value} {m : List CellT}, cellRow w u m → cellRow w' u m := fun hu => hu.keep fun i hi => hg.but.block i (hu.lt i hi).2 (h1.offRow hu i hi)
  refine ⟨_, fun q => S q ∨ S0' q, rfl, ⟨S0', insL L k v, d', hT, by rw [ins_keys, h2], ⟨?_, fun x => ?_⟩, fun a ha => ?_, fun q hq => .inr hq, fun q hq => ?_⟩, fun q hq => ?_, hg.but.mono fun q _ hq => h5 q hq⟩
  · rw [← h2, ← ins_keys]; exact up_srt.1 hT.srt
  · rw [mem_insY]
    by_cases e : x = k
    · subst e; rw [upd_eq]; exact ⟨fun _ => hl, fun _ => .inl rfl⟩
    · rw [upd_ne e, ← h3.mem x]; exact ⟨fun q => q.resolve_left e, .inr⟩
  · rcases ins_mem hs ha with rfl | ⟨ha, hn⟩
    · refine ⟨?_, fun g hg => .inl (hS g hg)⟩
      show cellRow w' (slV v) (upd f k l k)
      rw [upd_eq]; exact hkeep hv
    · rw [upd_ne hn]; exact ⟨hkeep (h4 a ha).1, fun g hg => .inl ((h4 a ha).2 g hg)⟩
  · rcases hq with hq | hq
    · exact Nat.lt_of_lt_of_le (h6 q hq) hg.but.size
    · exact hT.ofS q hq
  · rcases hq with hq | hq
    · exact .inl hq
    · rcases hg.sub q hq with h | h
      · exact .inl (h5 q h)
      · exact .inr h
theorem vdel_any (S : Nat → Prop) (w : World) (tb : Nat) (K : List ByteArray) (f : Fv) (k : ByteArray) (h : VkO S w tb K f) (hK : K.length ≤ 80000) :
    Calls Try.prog 34 #[pt tb 0, .string k] w fun e w' => ∃ (b : Bool) (S' : Nat → Prop), e = .returned (.bool b) ∧ VkO S' w' tb (delY K k) (upd f k []) ∧ Grew S S' w w' := by
  obtain ⟨S0, L, d, h1, h2, h3, h4, h5, h6⟩ := h
  refine (tdel_any S0 w tb L d k h1 (by rw [← h2, List.length_map] at hK; exact hK)).mono ?_
  rintro e w' ⟨d', S0', rfl, hT, hg⟩
  have hs := h1.srt
  have hkeep : ∀ {u : Value} {m : List CellT}, cellRow w u m → cellRow w' u m := fun hu => hu.keep fun i hi => hg.but.block i (hu.lt i hi).2 (h1.offRow hu i hi)
  refine ⟨_, fun q => S q ∨ S0' q, rfl, ⟨S0', delL L k, d', hT, by rw [del_keys, h2], ⟨?_, fun x => ?_⟩, fun a ha => ?_, fun q hq => .inr hq, fun q hq => ?_⟩, fun q hq => ?_, hg.but.mono fun q _ hq => h5 q hq⟩
  · rw [← h2, ← del_keys]; exact up_srt.1 hT.srt
  · rw [mem_delY h3.up]
    by_cases e : x = k
    · subst e; rw [upd_eq]; exact ⟨fun q => absurd rfl q.2, fun q => absurd rfl q⟩
    · rw [upd_ne e, ← h3.mem x]; exact ⟨fun q => q.1, fun q => ⟨q, e⟩⟩
  · obtain ⟨ha, hn⟩ := del_mem hs ha
    rw [upd_ne hn]; exact ⟨hkeep (h4 a ha).1, fun g hg => .inl ((h4 a ha).2 g hg)⟩
  · rcases hq with hq | hq
    · exact Nat.lt_of_lt_of_le (h6 q hq) hg.but.size
    · exact hT.ofS q hq
  · rcases hq with hq | hq
    · exact .inl hq
    · rcases hg.sub q hq with h | h
      · exact .inl (h5 q h)
      · exact .inr h
/-- The range tells this key. -/
def inR (F T k : ByteArray) : Bool := !(klt k F) && !(hit T k)
theorem hit_up {T a b : ByteArray} (h : hit T a = true) (hab : klt a b = true) : hit T b = true := by
  unfold hit at h ⊢
  simp only [Bool.and_eq_true, Bool.not_eq_true'] at h ⊢
  refine ⟨h.1, ?_⟩
  cases hb : Op.bytesLess b.toList T.toList with
  | false => rfl
  | true => have := klt_tr hab (show klt b T = true from hb); rw [show klt a T = false from h.2] at this; cases this
theorem cut_filter {T : ByteArray} : ∀ {l : List ByteArray}, Kup l → kcut T l = l.filter (fun k => !(hit T k))
  | [], _ => rfl
  | a :: r, h => by
    obtain ⟨h1, h2⟩ := List.pairwise_cons.1 h
    have ih := cut_filter (T := T) h2
    unfold kcut at ih ⊢
    rw [List.takeWhile_cons, List.filter_cons]
    cases ha : hit T a with
    | false => simp [ih]
    | true =>
      simp only [Bool.not_true, Bool.false_eq_true, if_false]
      rw [List.filter_eq_nil_iff.2 fun x hx => by simp [hit_up ha (h1 x hx)]]
theorem wk_filter (F : ByteArray) (L : List Kv) : wkL F L = (L.map (·.1)).filter (fun k => !(klt k F)) := by unfold wkL; rw [List.filter_map]; rfl
theorem vkeys_any (S : Nat → Prop) (w : World) (tb : Nat) (K : List ByteArray) (f : Fv) (F T : ByteArray) (h : VkO S w tb K f) (hK : K.length ≤ 80000) :
    Calls Try.prog 32 #[pt tb 0, .string F, .string T] w fun e w' => ∃ u, e = .returned u ∧ w'.ownsRow w.heap.size 9 1 u (K.filter (inR F T)).length ((K.filter (inR F T)).flatMap strE) ∧ Below w.heap.size w w' := by
  obtain ⟨S0, L, d, h1, h2, h3, h4, h5, h6⟩ := h
  have e : kcut T (wkL F L) = K.filter (inR F T) := by
    rw [wk_filter, h2, cut_filter (h3.up.sublist List.filter_sublist), List.filter_filter]
    congr 1; funext k; unfold inR; rw [Bool.and_comm]
  have := tkeys_any S0 w tb L d F T h1 (by rw [← h2, List.length_map] at hK; exact hK)
  rw [e] at this
  exact this
theorem vvput_any (S : Nat → Prop) (w : World) (tb : Nat) (K : List ByteArray) (f : Fv) (v : SlT) (l : List CellT) (c : CellT) (h : VkO S w tb K f) (hs : SliceOf cellE 3 w (slV v) l) (hl : l.length ≤ 900) (h0 : 0 < c.1) (hc : lastTs 0 l < c.1) :
    Calls Try.prog 28 #[slV v, .agg #[.int .u64 c.1, .string c.2.1, .bool c.2.2]] w fun e w' => ∃ (v' : SlT) (S' : Nat → Prop), e = .returned (.tuple #[slV v', .int .i64 0]) ∧ VkO S' w' tb K f ∧ cellRow w' (slV v') (l ++ [c]) ∧ (∀ g, (slV v').ownBlock = some g → S' g) ∧ Grew S S' w w' := by
  refine (put_row (slV v) l c w hs hl h0 hc).mono ?_
  rintro e w' ⟨u, rfl, hr, hb⟩
  obtain ⟨ao, n, cap, rfl⟩ := own_sliceT hr
  have hr0 : cellRow w' (.slice ao n cap) (l ++ [c]) := own_low hr (Nat.zero_le _)
  refine ⟨⟨ao, n, cap⟩, _, rfl, (h.below hb).ext hr0, hr0, fun g hg => .inr hg, fun q hq => ?_, But.of_grown0 (below_grown hb) _⟩
  rcases hq with hq | hq
  · exact .inl hq
  · exact .inr (hr.lt q hq).1
theorem vprune_any (S : Nat → Prop) (w : World) (tb : Nat) (K : List ByteArray) (f : Fv) (v : SlT) (l : List CellT) (t : Int) (h : VkO S w tb K f) (hs : SliceOf cellE 3 w (slV v) l) (hw : ∀ c ∈ l, cellOk c) (hl : l.length ≤ 1000) :
    Calls Try.prog 33 #[slV v, .int .u64 t] w fun e w' => ∃ (v' : SlT) (S' : Nat → Prop), e = .returned (slV v') ∧ VkO S' w' tb K f ∧ cellRow w' (slV v') (l.drop (pruneN l t)) ∧ (∀ g, (slV v').ownBlock = some g → S' g) ∧ Grew S S' w w' := by
  refine (prune_row (slV v) l t w hs hw hl).mono ?_
  rintro e w' ⟨u, rfl, hr, hb⟩
  obtain ⟨ao, n, cap, rfl⟩ := own_sliceT hr
  have hr0 : cellRow w' (.slice ao n cap) (l.drop (pruneN l t)) := own_low hr (Nat.zero_le _)
  refine ⟨⟨ao, n, cap⟩, _, rfl, (h.below hb).ext hr0, hr0, fun g hg => .inr hg, fun q hq => ?_, But.of_grown0 (below_grown hb) _⟩
  rcases hq with hq | hq
  · exact .inl hq
  · exact .inr (hr.lt q hq).1
end Go.Proofs.Ytfjhlckklgeokaa
