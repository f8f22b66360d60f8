/- Put together: MwG, MwH. Conditions: as each says. -/
import Derived.Test.YtfjhlckklgeokaaMwFLm
import Derived.Test.YtfjhlckklgeokaaLm5
/- The document's store as an object: Put, Prune, Get, Scan, Cells. Conditions: at most 100 calls, 20 operations each. -/
namespace Go.Proofs.Ytfjhlckklgeokaa
open Go.RowKit Go.PlainAid Go.Shelf
set_option linter.unusedVariables false

/-- How many versions there are. -/
def csK (f : Fv) (K : List ByteArray) : Nat := (K.map fun k => (f k).length).sum
theorem csL_K (f : Fv) (L : List Kv) : csL f L = csK f (L.map (·.1)) := by unfold csL csK; rw [List.map_map]; rfl
/-- A store of the document's; m calls at most so far. -/
def RsO (S : Nat → Prop) (w : World) (d : Nat) (f : Fv) (la : Int) (m : Nat) : Prop :=
  ∃ (u : Value) (L : List Kv), Blk w d 31 #[u, .int .u64 la] ∧ w.ownsRow 0 80 2 u L.length (L.flatMap rwE) ∧ RwsK w f L ∧ KOf (L.map (·.1)) f ∧ FOk f la m ∧ (0 ≤ la ∧ la < 18446744073709551616) ∧ L.length ≤ 20 * m ∧
    S d ∧ (∀ i, u.ownBlock = some i → S i) ∧ (∀ a ∈ L, ∀ g, (slV a.2).ownBlock = some g → S g) ∧ ∀ q, S q → q < w.heap.size
section
variable {S D : Nat → Prop} {w x : World} {d m : Nat} {f : Fv} {la : Int}
theorem RsO.ofS (h : RsO S w d f la m) : ∀ q, S q → q < w.heap.size := by
  obtain ⟨u, L, h1, h2, h3, h4, h5, h6, h7, h8, h9, h10, h11⟩ := h; exact h11
theorem RsO.keep (h : RsO S w d f la m) (hk : ∀ q, S q → x.heap[q]? = w.heap[q]?) (hz : w.heap.size ≤ x.heap.size) : RsO S x d f la m := by
  obtain ⟨u, L, h1, h2, h3, h4, h5, h6, h7, h8, h9, h10, h11⟩ := h
  refine ⟨u, L, ?_, row_sameL h2 (fun i hi => hk i (h9 i hi)), fun a ha => (h3 a ha).keep fun i hi => hk i (h10 a ha i hi), h4, h5, h6, h7, h8, h9, h10, fun q hq => Nat.lt_of_lt_of_le (h11 q hq) hz⟩
  unfold Blk at h1 ⊢
  rw [hk d h8]; exact h1
theorem RsO.gr {row : Option Nat} (h : RsO S w d f la m) (hg : w.grownBy x row) (hr : ∀ k, row = some k → ¬ S k) : RsO S x d f la m :=
  h.keep (fun q hq => hg.block q (h.ofS q hq) (fun e => hr q e.symm hq)) hg.size
theorem RsO.but (h : RsO S w d f la m) (hb : But D w x) (ha : ∀ q, D q → S q → False) : RsO S x d f la m :=
  h.keep (fun q hq => hb.block q (h.ofS q hq) (fun hd => ha q hd hq)) hb.size
theorem RsO.laB (h : RsO S w d f la m) : 0 ≤ la ∧ la < 18446744073709551616 := by obtain ⟨u, L, h1, h2, h3, h4, h5, h6, _⟩ := h; exact h6
theorem RsO.blk (h : RsO S w d f la m) : ∃ u, Blk w d 31 #[u, .int .u64 la] := by obtain ⟨u, L, h1, _⟩ := h; exact ⟨u, h1⟩
theorem RsO.mk0 (hb : Blk w d 31 #[.slice none 0 0, .int .u64 0]) : RsO (fun q => q = d) w d (fun _ => []) 0 0 :=
  ⟨_, [], hb, World.ownsRow_nil _ _ _ _, fun a ha => by simp at ha, ⟨List.Pairwise.nil, by simp⟩, ⟨by simp, fun _ => rfl, fun _ => Int.le_refl _, by simp⟩, ⟨by omega, by omega⟩, Nat.le_refl _, rfl, (fun i hi => by cases hi), (fun a ha => by simp at ha), (fun q hq => by have e : q = d := hq; rw [e]; exact hb.lt)⟩
/-- The footprint behind a call that made new rows of old and new parts. -/
theorem rs_grew {u u' : Value} {L M : List Kv} (hS : ∀ q, S q → q < w.heap.size) (h9 : ∀ i, u.ownBlock = some i → S i) (h10 : ∀ a ∈ L, ∀ g, (slV a.2).ownBlock = some g → S g) (hu : ∀ i, u'.ownBlock = some i → u.ownBlock = some i ∨ w.heap.size ≤ i) (hm : ∀ a ∈ M, (∃ b ∈ L, b.2 = a.2) ∨ ∀ g, (slV a.2).ownBlock = some g → w.heap.size ≤ g) (hb : But S w x) :
    Grew S (fun q => S q ∨ u'.ownBlock = some q ∨ ∃ a ∈ M, (slV a.2).ownBlock = some q) w x := ⟨fun q hq => by
  rcases hq with hq | hq | ⟨a, ha, hq⟩
  · exact .inl hq
  · rcases hu q hq with h | h
    · exact .inl (h9 q h)
    · exact .inr h
  · rcases hm a ha with ⟨b, hb2, e⟩ | h
    · exact .inl (h10 b hb2 q (by rw [e]; exact hq))
    · exact .inr (h q hq), hb⟩
theorem rsPut (w : World) (ts : Int) (v : Value) (l : List OpT) (h : RsO S w d f la m) (hs : SliceOf opE 3 w v l) (hvS : l ≠ [] → ∀ k, v.ownBlock = some k → ¬ S k) (hl : l.length ≤ 20) (hts : 0 ≤ ts ∧ ts < 18446744073709551616) (hm : m ≤ 100) :
    Calls Try.prog 12 #[pt d 0, .int .u64 ts, v] w fun e w' => ∃ S' : Nat → Prop, e = .returned (.int .i64 (mvE la ts l)) ∧ RsO S' w' d (mvF f la ts l) (mvLa la ts l) (m + 1) ∧ Grew S S' w w' := by
  obtain ⟨u, L, h1, h2, h3, h4, h5, h6, h7, h8, h9, h10, h11⟩ := h
  refine (rput_blk d u la L f m ts v l w h1 h2 h3 h4 h5 (by omega) (by omega) hs (fun hn k hk hq => hvS hn k hk (by rcases hq with rfl | hq; exact h8; exact h9 k hq)) hts h6 hl).mono ?_
  rintro e w' ⟨u', M, rfl, k1, k2, k3, k4, k5, k6, k7, k8⟩
  refine ⟨_, rfl, ⟨u', M, k1, k2, k3, k4, h5.mv hts, (mvLa_bd h6 hts).1, by omega, .inl h8, fun i hi => .inr (.inl hi), fun a ha g hg => .inr (.inr ⟨a, ha, hg⟩), fun q hq => ?_⟩, rs_grew h11 h9 h10 k6 k7 (k8.mono fun q _ hq => by rcases hq with rfl | hq; exact h8; exact h9 q hq)⟩
  rcases hq with hq | hq | ⟨a, ha, hq⟩
  · exact Nat.lt_of_lt_of_le (h11 q hq) k8.size
  · exact (k2.lt q hq).2
  · exact ((k3 a ha).lt q hq).2
theorem rsPrune (w : World) (h : Int) (hO : RsO S w d f la m) (hh : 0 ≤ h ∧ h < 18446744073709551616) (hm : m ≤ 100) :
    Calls Try.prog 14 #[pt d 0, .int .u64 h] w fun e w' => ∃ S' : Nat → Prop, e = .returned (.int .i64 ((csK f (ksOf f) : Nat) - (csK (pruneF f h) (ksOf (pruneF f h)) : Nat))) ∧ RsO S' w' d (pruneF f h) la (m + 1) ∧ Grew S S' w w' := by
  obtain ⟨u, L, h1, h2, h3, h4, h5, h6, h7, h8, h9, h10, h11⟩ := hO
  refine (rprune_blk d u la L f m h w h1 h2 h3 h4 h5 (by omega) (by omega)).mono ?_
  rintro e w' ⟨u', M, rfl, k1, k2, k3, k4, k5, k6, k8⟩
  have hu : ∀ i, u'.ownBlock = some i → u.ownBlock = some i ∨ w.heap.size ≤ i := fun i hi => .inr (k2.lt i hi).1
  refine ⟨_, by rw [csL_K, csL_K, ksOf_eq h4, ksOf_eq k4], ⟨u', M, k1, own_low k2 (Nat.zero_le _), k3, k4, (h5.prune h).mono (Int.le_refl _) (by omega), h6, by omega, .inl h8, fun i hi => .inr (.inl hi), fun a ha g hg => .inr (.inr ⟨a, ha, hg⟩), fun q hq => ?_⟩, rs_grew (M := M) h11 h9 h10 hu (fun a ha => .inr (k5 a ha)) (k8.mono fun q _ hq => by subst hq; exact h8)⟩
  rcases hq with hq | hq | ⟨a, ha, hq⟩
  · exact Nat.lt_of_lt_of_le (h11 q hq) k8.size
  · exact (k2.lt q hq).2
  · exact ((k3 a ha).lt q hq).2
theorem rsGet (w : World) (k : ByteArray) (t : Int) (h : RsO S w d f la m) (hm : m ≤ 100) :
    Calls Try.prog 36 #[pt d 0, .string k, .int .u64 t] w fun e w' => e = .returned (.tuple #[.string (atS (f k) t).1, .bool (atS (f k) t).2]) ∧ Below w.heap.size w w' := by
  obtain ⟨u, L, h1, h2, h3, h4, h5, h6, h7, _⟩ := h
  exact rget_blk d u la L f m k t w h1 (row_sl h2 rwE_len) h3.ok h4 h5 (by omega) (by omega)
theorem rsScan (w : World) (F T : ByteArray) (t most : Int) (h : RsO S w d f la m) (hm : m ≤ 100) (hmost : -9223372036854775808 ≤ most ∧ most ≤ 9223372036854775807) :
    Calls Try.prog 37 #[pt d 0, .string F, .string T, .int .u64 t, .int .i64 most] w fun e w' => ∃ u, e = .returned (.tuple #[u, .bool (scanM (hitsF f t F T) most)]) ∧ w'.ownsRow w.heap.size 51 2 u (scanL (hitsF f t F T) most).length ((scanL (hitsF f t F T) most).flatMap pairE) ∧ Below w.heap.size w w' := by
  obtain ⟨u, L, h1, h2, h3, h4, h5, h6, h7, _⟩ := h
  have e : hitsF f t F T = hitsL f t F T L := by unfold hitsF hitsL; rw [ksOf_eq h4]
  rw [e]
  exact rscan_blk d u la L f m F T t most w h1 (row_sl h2 rwE_len) h3.ok h4 h5 (by omega) (by omega) hmost
theorem rsCells (w : World) (h : RsO S w d f la m) (hm : m ≤ 100) :
    Calls Try.prog 18 #[pt d 0] w fun e w' => e = .returned (.int .i64 (csK f (ksOf f) : Nat)) ∧ Below w.heap.size w w' := by
  obtain ⟨u, L, h1, h2, h3, h4, h5, h6, h7, _⟩ := h
  have := rcells_blk d u la L f m w h1 (row_sl h2 rwE_len) h3.ok h4 h5 (by omega) (by omega)
  rw [csL_K, ← ksOf_eq h4] at this
  exact this
end
end Go.Proofs.Ytfjhlckklgeokaa

/- How many versions there are behind Put and Prune. Conditions: none. -/
namespace Go.Proofs.Ytfjhlckklgeokaa
open Go.RowKit Go.PlainAid
set_option linter.unusedVariables false

section
variable {f g : Fv} {h la ts : Int} {K K' : List ByteArray} {k : ByteArray} {l : List CellT} {c : CellT}
theorem csK_filter (g : Fv) : ∀ K : List ByteArray, csK g K = csK g (K.filter (fun k => !(g k).isEmpty))
  | [] => rfl
  | k :: r => by
    have ih := csK_filter g r
    unfold csK at ih ⊢
    cases hp : g k with
    | nil => simp [List.filter_cons, hp, ih]
    | cons a b => simp [List.filter_cons, hp, ih]
theorem csK_drop (f : Fv) (h : Int) : ∀ K : List ByteArray, csK f K = csK (pruneF f h) K + goneK f h K
  | [] => rfl
  | k :: r => by
    have ih := csK_drop f h r
    have hp := pruneN_le (f k) h
    unfold csK goneK at ih ⊢
    simp only [List.map_cons, List.sum_cons]
    have : (pruneF f h k).length = (f k).length - pruneN (f k) h := by unfold pruneF; rw [List.length_drop]
    omega
theorem kof_filter (hK : KOf K f) (h : Int) : KOf (K.filter (fun k => !(pruneF f h k).isEmpty)) (pruneF f h) := by
  refine ⟨hK.up.sublist List.filter_sublist, fun k => ?_⟩
  rw [List.mem_filter]
  constructor
  · rintro ⟨_, h2⟩ e; rw [e] at h2; simp at h2
  · intro h2
    refine ⟨(hK.mem k).2 fun e => h2 (by unfold pruneF; rw [e, List.drop_nil]), ?_⟩
    cases hp : pruneF f h k with
    | nil => exact absurd hp h2
    | cons a r => rfl
theorem cs_prune (hK : KOf (ksOf f) f) (h : Int) : csK f (ksOf f) = csK (pruneF f h) (ksOf (pruneF f h)) + goneK f h (ksOf f) := by
  rw [ksOf_eq (kof_filter hK h), ← csK_filter (pruneF f h) (ksOf f)]; exact csK_drop f h _
theorem up_insY (hK : Kup K) (k : ByteArray) : Kup (insY K k) := by
  have h1 : Srt (K.map fun x => (x, (⟨none, 0, 0⟩ : SlT))) := up_srt.2 (by rw [List.map_map]; exact (List.map_id' K).symm ▸ hK)
  have h2 := up_srt.1 (insL_srt (k := k) (v := (⟨none, 0, 0⟩ : SlT)) h1)
  rw [ins_keys, List.map_map] at h2
  have e : List.map ((fun x : Kv => x.1) ∘ fun x => (x, (⟨none, 0, 0⟩ : SlT))) K = K := List.map_id' K
  rw [e] at h2; exact h2
theorem kof_insY (hK : KOf K f) (k : ByteArray) (hl : l ≠ []) : KOf (insY K k) (upd f k l) := by
  refine ⟨up_insY hK.up k, fun x => ?_⟩
  rw [mem_insY]
  by_cases e : x = k
  · subst e; rw [upd_eq]; exact ⟨fun _ => hl, fun _ => .inl rfl⟩
  · rw [upd_ne e, ← hK.mem x]; exact ⟨fun q => q.resolve_left e, .inr⟩
theorem csK_off {l : List CellT} : ∀ {K : List ByteArray}, k ∉ K → csK (upd f k l) K = csK f K
  | [], _ => rfl
  | a :: r, h => by
    have h1 : a ≠ k := fun e => h (by rw [e]; exact List.mem_cons_self)
    have ih := csK_off (l := l) (K := r) (fun q => h (List.mem_cons_of_mem _ q))
    unfold csK at ih ⊢
    simp only [List.map_cons, List.sum_cons, upd_ne h1, ih]
theorem csK_ins : ∀ {K : List ByteArray}, Kup K → (k ∉ K → f k = []) → csK (upd f k (f k ++ [c])) (insY K k) = csK f K + 1
  | [], _, h0 => by
    have := h0 (by simp)
    unfold csK insY; simp [upd_eq, this]
  | a :: r, hK, h0 => by
    obtain ⟨h1, h2⟩ := List.pairwise_cons.1 hK
    unfold insY
    split
    · rename_i q
      have hn : k ∉ a :: r := fun hm => by
        rcases List.mem_cons.1 hm with e | hm
        · rw [e, klt_irr] at q; cases q
        · have := klt_tr q (h1 k hm); rw [klt_irr] at this; cases this
      have := csK_off (f := f) (l := f k ++ [c]) hn
      have hlen : (upd f k (f k ++ [c]) k).length = 1 := by rw [upd_eq, h0 hn]; rfl
      unfold csK at this ⊢
      simp only [List.map_cons, List.sum_cons] at this ⊢
      omega
    · split
      · rename_i q
        have hne : a ≠ k := klt_ne q
        have ih := csK_ins h2 (fun hm => h0 (fun hq => by rcases List.mem_cons.1 hq with e | hq; exact hne e.symm; exact hm hq))
        unfold csK at ih ⊢
        simp only [List.map_cons, List.sum_cons, upd_ne hne, ih]; omega
      · rename_i q1 q2
        have e := klt_eq (by simpa using q1) (by simpa using q2)
        subst e
        have hn : k ∉ r := fun hm => by have := h1 k hm; rw [klt_irr] at this; cases this
        have := csK_off (f := f) (l := f k ++ [c]) hn
        unfold csK at this ⊢
        simp only [List.map_cons, List.sum_cons, upd_eq] at this ⊢
        simp; omega
theorem cs_putsF (hK : KOf (ksOf f) f) (ts : Int) (l : List OpT) : KOf (ksOf (putsF f ts l)) (putsF f ts l) ∧ csK (putsF f ts l) (ksOf (putsF f ts l)) = csK f (ksOf f) + l.length := by
  induction l using snocRec with
  | nil => exact ⟨hK, rfl⟩
  | append_singleton l o ih =>
    obtain ⟨i1, i2⟩ := ih
    rw [putsF_snoc]
    have h1 := kof_insY (l := putsF f ts l o.1 ++ [(ts, o.2.1, o.2.2)]) i1 o.1 (by simp)
    rw [ksOf_eq h1]
    refine ⟨h1, ?_⟩
    rw [csK_ins i1.up (fun hm => by
      by_cases e : putsF f ts l o.1 = []
      · exact e
      · exact absurd ((i1.mem _).2 e) hm), i2, List.length_append, List.length_singleton]; omega
theorem cs_put (hK : KOf (ksOf f) f) {ce : Int} {l : List OpT} (h : ce = (csK f (ksOf f) : Nat)) : mvCe la ts ce l = (csK (mvF f la ts l) (ksOf (mvF f la ts l)) : Nat) := by
  unfold mvCe mvF
  by_cases hE : mvE la ts l = 0
  · rw [if_pos hE, if_pos hE, (cs_putsF hK ts l).2, h]; simp
  · rw [if_neg hE, if_neg hE]; exact h
end
end Go.Proofs.Ytfjhlckklgeokaa
