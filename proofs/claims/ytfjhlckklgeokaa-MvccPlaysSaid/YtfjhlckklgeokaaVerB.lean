/- Package vers: At, Put, Prune; what follows of versions that rise. Conditions: at most 900 versions. -/
import Derived.Test.YtfjhlckklgeokaaVerA
import Derived.Test.YtfjhlckklgeokaaPexB
import Derived.Deep.AppendLies
import Derived.Deep.RegionLaw
namespace Go.Proofs.Ytfjhlckklgeokaa
open Go.RowKit Go.PlainAid
set_option linter.unusedVariables false



def cellAt (l : List CellT) (i : Nat) : CellT := l.getD i (0, ByteArray.empty, false)
theorem cellAt_get {l : List CellT} {i : Nat} (h : i < l.length) : cellAt l i = l[i] := by
  simp [cellAt, List.getD, List.getElem?_eq_getElem h]
/-- What a key is at a time. -/
def atS (l : List CellT) (t : Int) : ByteArray × Bool :=
  if lastI l t < 0 then (ByteArray.empty, false) else if (cellAt l (lastI l t).toNat).2.2 = true then (ByteArray.empty, false) else ((cellAt l (lastI l t).toNat).2.1, true)
theorem atS_none {l : List CellT} {t : Int} (h : lastI l t < 0) : atS l t = (ByteArray.empty, false) := if_pos h
theorem atS_some {l : List CellT} {t : Int} {k : Nat} (h : lastI l t = k) : atS l t = if (cellAt l k).2.2 = true then (ByteArray.empty, false) else ((cellAt l k).2.1, true) := by
  unfold atS; rw [if_neg (by omega), h, Int.toNat_natCast]

set_option maxRecDepth 100000 in
set_option maxHeartbeats 400000 in
theorem at_any (v : Value) (l : List CellT) (t : Int) (w : World) (hs : SliceOf cellE 3 w v l) (hw : ∀ c ∈ l, cellOk c) :
    Calls Try.prog 38 #[v, .int .u64 t] w fun e w' => e = .returned (.tuple #[.string (atS l t).1, .bool (atS l t).2]) ∧ Below w.heap.size w w' := by
  have HS := Lib.hid hs; have HW := Lib.hid hw
  obtain ⟨ao, cap, rfl, hcap, hcm, _, hcell⟩ := hs
  have HC := Lib.hid hcell; clear hcell hw
  have hbd := down_bd l t l.length
  by_cases h0 : lastI l t < 0
  · have HA := Lib.hid (atS_none h0)
    clear hbd
    go_enter Try.func38, Try.ntmps38
    go_wp2_with fail
    refine (place_any _ _ _ _ HS.out HW.out).mono ?_
    rintro e w1 ⟨rfl, hb1⟩
    have HB := Lib.hid hb1; clear hb1
    go_wp2
    go_ret2
    exact ⟨by rw [HA.out]; rfl, HB.out⟩
  · obtain ⟨k, hk⟩ := Int.eq_ofNat_of_zero_le (show 0 ≤ lastI l t by omega)
    have hkl : k < l.length := by have : lastI l t < l.length := hbd.2.1; omega
    have ha := atS_some hk
    have hg := cellAt_get hkl
    obtain ⟨b, off, rfl, hr⟩ := HC.out k hkl
    obtain ⟨c, hc⟩ : ∃ c, c = l[k] := ⟨_, rfl⟩
    rw [← hc] at hr hg
    rw [hg] at ha
    have HK := Lib.hid hk; have HR := Lib.hid hr
    clear hbd hk hg hc h0 hr
    cases hdel : c.2.2 with
    | true =>
      rw [hdel, if_pos rfl] at ha
      have HA := Lib.hid ha; have HDel := Lib.hid hdel
      clear ha hdel
      go_enter Try.func38, Try.ntmps38
      go_wp2_with fail
      refine (place_any _ _ _ _ HS.out HW.out).mono ?_
      rintro e w1 ⟨rfl, hb1⟩
      rw [HK.out]
      have k2 := cell_below hb1 (HR.out 2 _ rfl)
      rw [HDel.out] at k2
      have HB := Lib.hid hb1; clear hb1
      go_wp2
      go_ret2
      exact ⟨by rw [HA.out]; rfl, HB.out⟩
    | false =>
      rw [hdel, if_neg (by simp)] at ha
      have HA := Lib.hid ha; have HDel := Lib.hid hdel
      clear ha hdel
      go_enter Try.func38, Try.ntmps38
      go_wp2_with fail
      refine (place_any _ _ _ _ HS.out HW.out).mono ?_
      rintro e w1 ⟨rfl, hb1⟩
      rw [HK.out]
      have k2 := cell_below hb1 (HR.out 2 _ rfl)
      have k1 := cell_below hb1 (HR.out 1 _ rfl)
      rw [HDel.out] at k2
      have HB := Lib.hid hb1; clear hb1
      go_wp2
      go_ret2
      exact ⟨by rw [HA.out]; rfl, HB.out⟩

theorem info_cell : (Try.prog.info? 71).map (fun i => (i.zero, i.size, i.bytes)) = some (some (.agg #[.int .u64 0, .string ByteArray.empty, .bool false]), 3, 32) := by kernel_rfl
theorem cellE_one (l : List CellT) : ∀ y ∈ l, (cellE y).length = 3 ∧ ∀ u ∈ cellE y, u.oneCell' = true := by
  intro y _; exact ⟨rfl, fun u hu => by simp [cellE] at hu; rcases hu with rfl | rfl | rfl <;> rfl⟩

set_option maxRecDepth 100000 in
set_option maxHeartbeats 400000 in
theorem clone_any (v : Value) (l : List CellT) (w : World) (hs : SliceOf cellE 3 w v l) (hl : l.length ≤ 1000) :
    Calls Try.prog 42 #[v] w fun e w' => ∃ v', e = .returned v' ∧ w'.ownsRow w.heap.size 71 3 v' l.length (l.flatMap cellE) ∧ Below w.heap.size w w' := by
  obtain ⟨i0, hi, hz0, hz1, hz2⟩ := info_parts info_cell
  have HS := Lib.hid (hs.below (w' := w.alloc (.cells #[] 71)) ((Below.refl _ _).alloc (Nat.le_refl _) _))
  have HB := Lib.hid (row_built w #[] 71 3 0 w.heap.size (Nat.le_refl _) rfl (by decide))
  obtain ⟨ao, cap, rfl, hcap, hcm, hnil, hcell⟩ := hs
  have heq := fun W : World => Lib.run_eql_slice_nil (P := Try.prog) W 62 71 ao l.length cap 0 0 Try.underlying62
  cases ao with
  | none =>
    obtain ⟨hl0, rfl⟩ := hnil rfl
    obtain rfl : l = [] := List.eq_nil_of_length_eq_zero hl0
    clear hcell hnil hl0 heq
    have heq := fun W : World => Lib.run_eql_slice_nil (P := Try.prog) W 62 71 none 0 0 0 0 Try.underlying62
    show Calls _ _ #[.slice none 0 0] _ _
    go_enter Try.func42, Try.ntmps42
    go_wp2
    go_ret
    exact ⟨_, rfl, World.ownsRow_nil _ _ _ _, Below.refl _ _⟩
  | some a =>
    clear hcell hnil
    go_enter Try.func42, Try.ntmps42
    go_wp2_with (at_builtin; go_loud (refine wpList_append_src rfl (.tmp 5) (.tmp 6) 62 rfl w.heap.size 71 i0 (.agg #[.int .u64 0, .string ByteArray.empty, .bool false]) 3 32 Try.underlying62 hi hz0 hz1 hz2 rfl (by decide) _ 0 _ rfl HB.out cellE l _ rfl HS.out (cellE_one l) (by unfold maxLen; omega) (by omega) (by simp) ?_); intro v1 w1 hown1 hgr1)
    go_ret
    have hb1 : Below w.heap.size w w1 := ((Below.refl _ _).alloc (Nat.le_refl _) _).grown hgr1 (by simp) (by intro k h; cases h; exact Nat.le_refl _)
    exact ⟨_, rfl, by simpa using hown1, hb1⟩

/-- What is left when versions are pruned. -/
def pruneN (l : List CellT) (h : Int) : Nat :=
  if lastI l h < 0 then 0 else if (cellAt l (lastI l h).toNat).2.2 = true then (lastI l h).toNat + 1 else (lastI l h).toNat
theorem pruneN_le (l : List CellT) (h : Int) : pruneN l h ≤ l.length := by
  have := (down_bd l h l.length).2.1
  unfold pruneN lastI
  split
  · omega
  · split <;> omega
theorem SliceOf.drop {α : Type} {enc : α → List Value} {sz : Nat} {w : World} {b off cap : Nat} {l : List α} (k : Nat) (h : SliceOf enc sz w (.slice (some ⟨b, off, none⟩) l.length cap) l) (hk : k ≤ l.length) :
    (cap = k → SliceOf enc sz w (.slice (some ⟨b, off, none⟩) 0 0) (l.drop k)) ∧ SliceOf enc sz w (.slice (some ⟨b, off + k * sz, none⟩) (l.length - k) (cap - k)) (l.drop k) := by
  obtain ⟨ao, cap', hv, h1, h2, h3, h4⟩ := h
  simp only [Value.slice.injEq, true_and] at hv
  obtain ⟨rfl, rfl⟩ := hv
  have ht : (l.drop k).length = l.length - k := by simp
  refine ⟨fun hc => ?_, ?_⟩
  · have e : l.drop k = [] := List.eq_nil_of_length_eq_zero (by omega)
    rw [e]
    exact ⟨_, _, rfl, by simp, by omega, fun h => (by cases h), fun j hj => absurd hj (by simp)⟩
  · refine ⟨_, _, by rw [ht], by omega, by omega, fun h => (by cases h), fun j hj => ?_⟩
    obtain ⟨b', off', e, hr⟩ := h4 (k + j) (by omega)
    cases e
    refine ⟨b, off + k * sz, rfl, ?_⟩
    rw [show off + k * sz + j * sz = off + (k + j) * sz by rw [Nat.add_mul]; omega]
    rw [List.getElem_drop]
    exact hr

theorem SliceOf.empty {α : Type} (enc : α → List Value) (sz : Nat) (w : World) (a : Addr) (cap : Nat) (h : cap ≤ 9223372036854775807) : SliceOf enc sz w (.slice (some a) 0 cap) ([] : List α) :=
  ⟨some a, cap, rfl, by simp, h, fun h => (by cases h), fun j hj => absurd hj (by simp)⟩




theorem alloc_at (w : World) (o : Obj) : (w.alloc o).heap[w.heap.size]? = some o := by
  show (w.heap.push o)[w.heap.size]? = _
  simp
theorem alloc_at' (w : World) (o : Obj) (B : Nat) (h : w.heap.size = B) : (w.alloc o).heap[B]? = some o := by
  subst h; exact alloc_at w o
theorem own_block {w : World} {B : Nat} {e : TypeId} {k : Nat} {v : Value} {n : Nat} {xs : List Value} (h : w.ownsRow B e k v n xs) : ∀ g, v.ownBlock = some g → B ≤ g := by
  intro g hg
  rcases h.2 with ⟨rfl, _⟩ | ⟨g', cap, cur, rfl, hg', _⟩
  · simp [Value.ownBlock] at hg
  · simp [Value.ownBlock] at hg; omega
theorem own_low {w : World} {B B' : Nat} {e : TypeId} {k : Nat} {v : Value} {n : Nat} {xs : List Value} (h : w.ownsRow B e k v n xs) (hb : B' ≤ B) : w.ownsRow B' e k v n xs := by
  obtain ⟨h1, h2⟩ := h
  refine ⟨h1, ?_⟩
  rcases h2 with h2 | ⟨g, cap, cur, hv, hg, r⟩
  · exact Or.inl h2
  · exact Or.inr ⟨g, cap, cur, hv, Nat.le_trans hb hg, r⟩
theorem box_cells (w : World) (t : Int) (s : ByteArray) (d : Bool) : (w.alloc (.cells #[.int .u64 t, .string s, .bool d] 71)).cell? ⟨w.heap.size, 0, none⟩ = some (.int .u64 t) ∧
    (w.alloc (.cells #[.int .u64 t, .string s, .bool d] 71)).cell? ⟨w.heap.size, 1, none⟩ = some (.string s) ∧ (w.alloc (.cells #[.int .u64 t, .string s, .bool d] 71)).cell? ⟨w.heap.size, 2, none⟩ = some (.bool d) := by
  have h : (w.alloc (.cells #[.int .u64 t, .string s, .bool d] 71)).heap[w.heap.size]? = some (.cells #[.int .u64 t, .string s, .bool d] 71) := alloc_at _ _
  exact ⟨cell_of_row _ _ 0 _ _ _ h, cell_of_row _ _ 1 _ _ _ h, cell_of_row _ _ 2 _ _ _ h⟩



theorem down_above (l : List CellT) (t : Int) : ∀ n j : Nat, down l t n < j → j < n → t < ts l j
  | 0, j, _, h => absurd h (by omega)
  | n + 1, j, h1, h2 => by
    rw [down] at h1
    split at h1
    · omega
    · by_cases hj : j = n
      · subst hj; omega
      · exact down_above l t n j h1 (by omega)
theorem down_mono (l : List CellT) {t t' : Int} (h : t' ≤ t) : ∀ n, down l t' n ≤ down l t n
  | 0 => by simp [down]
  | n + 1 => by
    have h1 := down_mono l h n
    have h2 := (down_bd l t' n).2.1
    rw [down, down]
    split
    · rw [if_pos (by omega)]; omega
    · split <;> omega
theorem lastI_mono (l : List CellT) {t t' : Int} (h : t' ≤ t) : lastI l t' ≤ lastI l t := down_mono l h _
theorem lastI_le {l : List CellT} (hr : rises 0 l = true) {t : Int} {j : Nat} (h : (j : Int) ≤ lastI l t) : ts l j ≤ t := by
  have hb := down_bd l t l.length
  have h2 : ts l (lastI l t).toNat ≤ t := hb.2.2 (show 0 ≤ lastI l t by omega)
  have h3 : lastI l t < l.length := hb.2.1
  by_cases e : (j : Int) = lastI l t
  · rw [← e, Int.toNat_natCast] at h2; exact h2
  · have := (rises_lt 0 l hr j (lastI l t).toNat (by omega) (by omega)).2
    omega
theorem lastI_gt {l : List CellT} {t : Int} {j : Nat} (h : lastI l t < j) (hj : j < l.length) : t < ts l j := down_above l t l.length j h hj
theorem ts_drop (l : List CellT) (k j : Nat) : ts (l.drop k) j = ts l (k + j) := by simp [ts, List.getD, List.getElem?_drop]
theorem cellAt_drop (l : List CellT) (k j : Nat) : cellAt (l.drop k) j = cellAt l (k + j) := by simp [cellAt, List.getD, List.getElem?_drop]
theorem rises_weak : ∀ {a b : Int} {l : List CellT}, rises a l = true → b ≤ a → rises b l = true
  | _, _, [], _, _ => rfl
  | a, b, c :: r, h, hb => by
    simp only [rises, Bool.and_eq_true, decide_eq_true_eq] at h ⊢
    exact ⟨by omega, h.2⟩
theorem rises_drop : ∀ (k : Nat) {a : Int} {l : List CellT}, rises a l = true → rises a (l.drop k) = true
  | 0, _, _, h => h
  | k + 1, _, [], h => h
  | k + 1, a, c :: r, h => by
    simp only [rises, Bool.and_eq_true, decide_eq_true_eq] at h
    rw [List.drop_succ_cons]
    exact rises_drop k (rises_weak h.2 (by omega))
theorem lastI_drop {l : List CellT} (hr : rises 0 l = true) {t : Int} {k : Nat} (h : (k : Int) ≤ lastI l t + 1) : lastI (l.drop k) t = lastI l t - k := by
  have hb : lastI l t < l.length := (down_bd l t l.length).2.1
  obtain ⟨n, hn⟩ := Int.eq_ofNat_of_zero_le (show 0 ≤ lastI l t + 1 - k by omega)
  have := down_at (l := l.drop k) (t := t) n (l.drop k).length (by simp; omega) (fun j hj => by rw [ts_drop]; exact lastI_le hr (by omega)) (fun j hj hjl => by
    rw [ts_drop]; simp at hjl; exact lastI_gt (by omega) (by omega))
  show down _ _ _ = _
  rw [this]; omega
theorem lastI_neg {l : List CellT} {t : Int} {k : Nat} (h : lastI l t + 1 ≤ k) : lastI (l.drop k) t = -1 := by
  have := down_at (l := l.drop k) (t := t) 0 (l.drop k).length (by omega) (fun j hj => by omega) (fun j hj hjl => by
    rw [ts_drop]; simp at hjl; exact lastI_gt (by omega) (by omega))
  show down _ _ _ = _
  rw [this]; rfl
theorem pruneN_zero {l : List CellT} {h : Int} (h1 : lastI l h ≤ 0) (h2 : lastI l h = 0 → (cellAt l 0).2.2 = false) : pruneN l h = 0 := by
  unfold pruneN
  split
  · rfl
  · have e : lastI l h = 0 := by omega
    have := h2 e
    rw [e, Int.toNat_zero, this]; rfl
/-- THE LAW OF PRUNING. -/
theorem prune_law {l : List CellT} (hr : rises 0 l = true) (h t T : Int) (htl : t ≤ h) (hT : h ≤ T) :
    rises 0 (l.drop (pruneN l h)) = true ∧ pruneN (l.drop (pruneN l h)) h = 0 ∧ pruneN (l.drop (pruneN l h)) t = 0 ∧ atS l T = atS (l.drop (pruneN l h)) T := by
  refine ⟨rises_drop _ hr, ?_⟩
  have hm := lastI_mono l hT
  have hbT : -1 ≤ lastI l T := (down_bd l T l.length).1
  by_cases h0 : lastI l h < 0
  · have e : pruneN l h = 0 := if_pos h0
    rw [e, List.drop_zero]
    exact ⟨e, if_pos (by have := lastI_mono l htl; omega), rfl⟩
  · obtain ⟨i, hi⟩ := Int.eq_ofNat_of_zero_le (show 0 ≤ lastI l h by omega)
    have e : pruneN l h = if (cellAt l i).2.2 = true then i + 1 else i := by
      unfold pruneN; rw [if_neg h0, hi, Int.toNat_natCast]
    obtain ⟨j, hj⟩ := Int.eq_ofNat_of_zero_le (show 0 ≤ lastI l T by omega)
    by_cases hd : (cellAt l i).2.2 = true
    · rw [if_pos hd] at e
      rw [e]
      have n1 : lastI (l.drop (i + 1)) h = -1 := lastI_neg (by omega)
      have n2 := lastI_mono (l.drop (i + 1)) htl
      refine ⟨if_pos (by omega), if_pos (by omega), ?_⟩
      have n3 := lastI_drop hr (t := T) (k := i + 1) (by omega)
      by_cases hij : j = i
      · subst hij
        rw [atS_some hj, if_pos hd, atS_none (by omega)]
      · have n4 : lastI (l.drop (i + 1)) T = ((j - (i + 1) : Nat) : Int) := by rw [n3]; omega
        rw [atS_some hj, atS_some n4, cellAt_drop, show i + 1 + (j - (i + 1)) = j by omega]
    · rw [if_neg hd] at e
      rw [e]
      have n1 := lastI_drop hr (t := h) (k := i) (by omega)
      have n2 := lastI_mono (l.drop i) htl
      have hd' : (cellAt (l.drop i) 0).2.2 = false := by rw [cellAt_drop, Nat.add_zero]; simpa using hd
      refine ⟨pruneN_zero (by omega) (fun _ => hd'), pruneN_zero (by omega) (fun _ => hd'), ?_⟩
      have n3 := lastI_drop hr (t := T) (k := i) (by omega)
      have n4 : lastI (l.drop i) T = ((j - i : Nat) : Int) := by rw [n3]; omega
      rw [atS_some hj, atS_some n4, cellAt_drop, show i + (j - i) = j by omega]
theorem ts_app {l : List CellT} (c : CellT) {j : Nat} (h : j < l.length) : ts (l ++ [c]) j = ts l j := by simp [ts, List.getD, List.getElem?_append_left h]
theorem ts_end (l : List CellT) (c : CellT) : ts (l ++ [c]) l.length = c.1 := by simp [ts, List.getD]
theorem cellAt_app {l : List CellT} (c : CellT) {j : Nat} (h : j < l.length) : cellAt (l ++ [c]) j = cellAt l j := by simp [cellAt, List.getD, List.getElem?_append_left h]
theorem cellAt_end (l : List CellT) (c : CellT) : cellAt (l ++ [c]) l.length = c := by simp [cellAt, List.getD]
theorem down_app (l : List CellT) (c : CellT) (t : Int) : ∀ n, n ≤ l.length → down (l ++ [c]) t n = down l t n
  | 0, _ => rfl
  | n + 1, h => by rw [down, down, ts_app c (by omega), down_app l c t n (by omega)]
theorem at_later (l : List CellT) (c : CellT) {t : Int} (h : c.1 ≤ t) : atS (l ++ [c]) t = if c.2.2 = true then (ByteArray.empty, false) else (c.2.1, true) := by
  have e : lastI (l ++ [c]) t = (l.length : Int) := by
    show down (l ++ [c]) t (l ++ [c]).length = _
    rw [List.length_append, List.length_singleton, down, ts_end, if_pos h]
  rw [atS_some e, cellAt_end]
theorem at_before (l : List CellT) (c : CellT) {t : Int} (h : t < c.1) : atS (l ++ [c]) t = atS l t := by
  have e : lastI (l ++ [c]) t = lastI l t := by
    show down (l ++ [c]) t (l ++ [c]).length = _
    rw [List.length_append, List.length_singleton, down, ts_end, if_neg (by omega), down_app l c t _ (Nat.le_refl _)]; rfl
  have hb : lastI l t < l.length := (down_bd l t l.length).2.1
  by_cases h0 : lastI l t < 0
  · rw [atS_none h0, atS_none (by omega)]
  · obtain ⟨k, hk⟩ := Int.eq_ofNat_of_zero_le (show 0 ≤ lastI l t by omega)
    rw [atS_some hk, atS_some (e.trans hk), cellAt_app c (by omega)]


set_option maxRecDepth 100000 in
set_option maxHeartbeats 800000 in
theorem prune_row (v : Value) (l : List CellT) (t : Int) (w : World) (hs : SliceOf cellE 3 w v l) (hw : ∀ c ∈ l, cellOk c) (hl : l.length ≤ 1000) :
    Calls Try.prog 33 #[v, .int .u64 t] w fun e w' => ∃ v', e = .returned v' ∧ w'.ownsRow w.heap.size 71 3 v' (l.drop (pruneN l t)).length ((l.drop (pruneN l t)).flatMap cellE) ∧ Below w.heap.size w w' := by
  have HS := Lib.hid hs; have HW := Lib.hid hw
  obtain ⟨ao, cap, rfl, hcap, hcm, hnil, hcell⟩ := hs
  have HC := Lib.hid hcell; clear hcell hw
  have hbd := down_bd l t l.length
  have hple := pruneN_le l t
  by_cases hl0 : l.length = 0
  · obtain rfl : l = [] := List.eq_nil_of_length_eq_zero hl0
    have HK := Lib.hid (show lastI [] t = -1 from rfl)
    have HA := Lib.hid (show pruneN [] t = 0 from rfl)
    cases ao with
    | none =>
      obtain ⟨_, rfl⟩ := hnil rfl
      clear hbd hple hnil hcap hcm hl0 hl
      show Calls _ _ #[.slice none 0 0, _] _ _
      go_enter Try.func33, Try.ntmps33
      go_wp2_with fail
      refine (place_any _ _ _ _ HS.out HW.out).mono ?_
      rintro e w1 ⟨rfl, hb1⟩
      rw [HK.out]
      have HB := Lib.hid hb1; clear hb1
      go_wp2_with fail
      refine (clone_any _ (([] : List CellT).drop 0) _ ?_ (by simp)).mono ?_
      · exact SliceOf.nil _ _ _
      · rintro e w2 ⟨v2, rfl, hown, hb2⟩
        have hso : w2.ownsRow w.heap.size 71 3 v2 (([] : List CellT).drop 0).length ((([] : List CellT).drop 0).flatMap cellE) := own_low hown HB.out.size
        have HSO := Lib.hid hso; have HB2 := Lib.hid (HB.out.trans (hb2.mono HB.out.size))
        clear hown hb2 hso
        go_wp2
        go_ret
        exact ⟨_, rfl, by rw [HA.out]; exact HSO.out, HB2.out⟩
    | some a =>
      clear hbd hple hnil hcap hl0 hl
      show Calls _ _ #[.slice (some a) 0 cap, _] _ _
      by_cases hc0 : cap = 0
      · obtain rfl : cap = 0 := hc0
        go_enter Try.func33, Try.ntmps33
        go_wp2_with fail
        refine (place_any _ _ _ _ HS.out HW.out).mono ?_
        rintro e w1 ⟨rfl, hb1⟩
        rw [HK.out]
        have HB := Lib.hid hb1; clear hb1
        go_wp2_with fail
        refine (clone_any _ (([] : List CellT).drop 0) _ ?_ (by simp)).mono ?_
        · exact SliceOf.empty _ _ _ _ _ (by omega)
        · rintro e w2 ⟨v2, rfl, hown, hb2⟩
          have hso : w2.ownsRow w.heap.size 71 3 v2 (([] : List CellT).drop 0).length ((([] : List CellT).drop 0).flatMap cellE) := own_low hown HB.out.size
          have HSO := Lib.hid hso; have HB2 := Lib.hid (HB.out.trans (hb2.mono HB.out.size))
          clear hown hb2 hso
          go_wp2
          go_ret
          exact ⟨_, rfl, by rw [HA.out]; exact HSO.out, HB2.out⟩
      · have hcb : ((cap : Int) == 0) = false := by simp; omega
        go_enter Try.func33, Try.ntmps33
        go_wp2_with fail
        refine (place_any _ _ _ _ HS.out HW.out).mono ?_
        rintro e w1 ⟨rfl, hb1⟩
        rw [HK.out]
        have HB := Lib.hid hb1; clear hb1
        go_wp2_with fail
        refine (clone_any _ (([] : List CellT).drop 0) _ ?_ (by simp)).mono ?_
        · exact SliceOf.empty _ _ _ _ _ (by omega)
        · rintro e w2 ⟨v2, rfl, hown, hb2⟩
          have hso : w2.ownsRow w.heap.size 71 3 v2 (([] : List CellT).drop 0).length ((([] : List CellT).drop 0).flatMap cellE) := own_low hown HB.out.size
          have HSO := Lib.hid hso; have HB2 := Lib.hid (HB.out.trans (hb2.mono HB.out.size))
          clear hown hb2 hso
          go_wp2
          go_ret
          exact ⟨_, rfl, by rw [HA.out]; exact HSO.out, HB2.out⟩
  · obtain ⟨b, off, rfl, _⟩ := HC.out 0 (by omega)
    by_cases h0 : lastI l t < 0
    · have HA := Lib.hid (show pruneN l t = 0 from if_pos h0)
      have HK := Lib.hid (show lastI l t = -1 by have : -1 ≤ lastI l t := hbd.1; omega)
      have hcb : ((cap : Int) == 0) = false := by simp; omega
      clear hbd hple h0
      go_enter Try.func33, Try.ntmps33
      go_wp2_with fail
      refine (place_any _ _ _ _ HS.out HW.out).mono ?_
      rintro e w1 ⟨rfl, hb1⟩
      rw [HK.out]
      have HB := Lib.hid hb1; have HS1 := Lib.hid (HS.out.below hb1)
      clear hb1
      go_wp2_with fail
      refine (clone_any _ (l.drop (0)) _ ?_ (by rw [List.length_drop]; omega)).mono ?_
      · exact HS1.out
      · rintro e w2 ⟨v2, rfl, hown, hb2⟩
        have hso : w2.ownsRow w.heap.size 71 3 v2 (l.drop (0)).length ((l.drop (0)).flatMap cellE) := own_low hown HB.out.size
        have HSO := Lib.hid hso; have HB2 := Lib.hid (HB.out.trans (hb2.mono HB.out.size))
        clear hown hb2 hso
        go_wp2
        go_ret
        exact ⟨_, rfl, by rw [HA.out]; exact HSO.out, HB2.out⟩
    · obtain ⟨k, hk⟩ := Int.eq_ofNat_of_zero_le (show 0 ≤ lastI l t by omega)
      have hkl : k < l.length := by have : lastI l t < l.length := hbd.2.1; omega
      have hp : pruneN l t = if (cellAt l k).2.2 = true then k + 1 else k := by unfold pruneN; rw [if_neg h0, hk, Int.toNat_natCast]
      have hg := cellAt_get hkl
      obtain ⟨b', off', hbo, hr⟩ := HC.out k hkl
      cases hbo
      obtain ⟨c, hc⟩ : ∃ c, c = l[k] := ⟨_, rfl⟩
      rw [← hc] at hr hg
      rw [hg] at hp
      have HK := Lib.hid hk; have HR := Lib.hid hr
      clear hbd hple hk hg hc h0 hr
      cases hdel : c.2.2 with
      | true =>
        rw [hdel, if_pos rfl] at hp
        have HA := Lib.hid hp; have HDel := Lib.hid hdel
        clear hp hdel
        by_cases hcc : cap = k + 1
        · have hcb : ((cap : Int) == (k : Int) + 1) = true := by simp; omega
          have hcb2 : (cap == k + 1) = true := by simp; omega
          obtain rfl : cap = k + 1 := hcc
          go_enter Try.func33, Try.ntmps33
          go_wp2_with fail
          refine (place_any _ _ _ _ HS.out HW.out).mono ?_
          rintro e w1 ⟨rfl, hb1⟩
          rw [HK.out]
          have HB := Lib.hid hb1; have HS1 := Lib.hid (HS.out.below hb1)
          have k2 := cell_below hb1 (HR.out 2 _ rfl)
          rw [HDel.out] at k2
          clear hb1
          go_wp2_with fail
          refine (clone_any _ (l.drop (k + 1)) _ ?_ (by rw [List.length_drop]; omega)).mono ?_
          · exact by first | exact (HS1.out.drop (k + 1) (by omega)).1 rfl | exact (by have := (HS1.out.drop (k + 1) (by omega)).1 rfl; rw [show l.length - (k + 1) = 0 by omega]; exact this)
          · rintro e w2 ⟨v2, rfl, hown, hb2⟩
            have hso : w2.ownsRow w.heap.size 71 3 v2 (l.drop (k + 1)).length ((l.drop (k + 1)).flatMap cellE) := own_low hown HB.out.size
            have HSO := Lib.hid hso; have HB2 := Lib.hid (HB.out.trans (hb2.mono HB.out.size))
            clear hown hb2 hso
            go_wp2
            go_ret
            exact ⟨_, rfl, by rw [HA.out]; exact HSO.out, HB2.out⟩
        · have hcb : ((cap : Int) == (k : Int) + 1) = false := by simp; omega
          have hcb2 : ¬ (cap = k + 1) := hcc
          go_enter Try.func33, Try.ntmps33
          go_wp2_with fail
          refine (place_any _ _ _ _ HS.out HW.out).mono ?_
          rintro e w1 ⟨rfl, hb1⟩
          rw [HK.out]
          have HB := Lib.hid hb1; have HS1 := Lib.hid (HS.out.below hb1)
          have k2 := cell_below hb1 (HR.out 2 _ rfl)
          rw [HDel.out] at k2
          clear hb1
          go_wp2_with fail
          refine (clone_any _ (l.drop (k + 1)) _ ?_ (by rw [List.length_drop]; omega)).mono ?_
          · exact (HS1.out.drop (k + 1) (by omega)).2
          · rintro e w2 ⟨v2, rfl, hown, hb2⟩
            have hso : w2.ownsRow w.heap.size 71 3 v2 (l.drop (k + 1)).length ((l.drop (k + 1)).flatMap cellE) := own_low hown HB.out.size
            have HSO := Lib.hid hso; have HB2 := Lib.hid (HB.out.trans (hb2.mono HB.out.size))
            clear hown hb2 hso
            go_wp2
            go_ret
            exact ⟨_, rfl, by rw [HA.out]; exact HSO.out, HB2.out⟩
      | false =>
        rw [hdel, if_neg (by simp)] at hp
        have HA := Lib.hid hp; have HDel := Lib.hid hdel
        clear hp hdel
        have hcb : ((cap : Int) == (k : Int)) = false := by simp; omega
        have hcb2 : ¬ (cap = k) := by omega
        go_enter Try.func33, Try.ntmps33
        go_wp2_with fail
        refine (place_any _ _ _ _ HS.out HW.out).mono ?_
        rintro e w1 ⟨rfl, hb1⟩
        rw [HK.out]
        have HB := Lib.hid hb1; have HS1 := Lib.hid (HS.out.below hb1)
        have k2 := cell_below hb1 (HR.out 2 _ rfl)
        rw [HDel.out] at k2
        clear hb1
        go_wp2_with fail
        refine (clone_any _ (l.drop (k)) _ ?_ (by rw [List.length_drop]; omega)).mono ?_
        · exact (HS1.out.drop k (by omega)).2
        · rintro e w2 ⟨v2, rfl, hown, hb2⟩
          have hso : w2.ownsRow w.heap.size 71 3 v2 (l.drop (k)).length ((l.drop (k)).flatMap cellE) := own_low hown HB.out.size
          have HSO := Lib.hid hso; have HB2 := Lib.hid (HB.out.trans (hb2.mono HB.out.size))
          clear hown hb2 hso
          go_wp2
          go_ret
          exact ⟨_, rfl, by rw [HA.out]; exact HSO.out, HB2.out⟩

set_option maxRecDepth 100000 in
set_option maxHeartbeats 800000 in
theorem put_newR (v : Value) (l : List CellT) (c : CellT) (w : World) (hs : SliceOf cellE 3 w v l) (hl : l.length ≤ 900) (h0 : 0 < c.1) (h1 : l.length = 0) :
    Calls Try.prog 28 #[v, .agg #[.int .u64 c.1, .string c.2.1, .bool c.2.2]] w fun e w' => ∃ v', e = .returned (.tuple #[v', .int .i64 0]) ∧ w'.ownsRow w.heap.size 71 3 v' (l ++ [c]).length ((l ++ [c]).flatMap cellE) ∧ Below w.heap.size w w' := by
  obtain ⟨i0, hi, hz0, hz1, hz2⟩ := info_parts info_cell
  obtain ⟨t, s, d⟩ := c
  replace h0 : 0 < t := h0
  have HS := Lib.hid hs
  obtain ⟨ao, cap, rfl, hcap, hcm, hnil, hcell⟩ := hs
  have hne : (t == 0) = false := by rw [beq_eq_false_iff_ne]; omega
  have hgu : (decide ((0 : Int) < ((l.length : Nat) : Int))) = false := by rw [decide_eq_false_iff_not]; omega
  have hgu2 : (decide (0 < l.length)) = false := by rw [decide_eq_false_iff_not]; omega
  have hgu3 : (decide (((l.length : Nat) : Int) > 0)) = false := by rw [decide_eq_false_iff_not]; omega
  clear hcell hnil
  have HX := Lib.hid (box_cells w t s d)
  have HL := Lib.hid hl; have H1 := Lib.hid h1; clear h1 hl
  go_enter Try.func28, Try.ntmps28
  go_wp2_with fail
  go_quiet (fail)
  go_wp2_with fail
  go_region_law (first | (go_simp; go_at_call 42; refine Calls.mono (clone_any _ _ _ (HS.out.below (by (repeat (first | exact Below.refl _ _ | refine Below.alloc ?_ (by first | omega | (simp; done) | (simp; omega)) _ | refine Below.drew ?_ | refine below_draws ?_ _)))) (by have := HL.out; omega)) ?_; rintro e w2 ⟨v2, rfl, hown, hb2⟩; have hbx : Below (w.alloc (.cells #[.int .u64 t, .string s, .bool d] 71)).heap.size (w.alloc (.cells #[.int .u64 t, .string s, .bool d] 71)) w2 := Below.trans (by (repeat (first | exact Below.refl _ _ | refine Below.alloc ?_ (by first | omega | (simp; done) | (simp; omega)) _ | refine Below.drew ?_ | refine below_draws ?_ _))) (hb2.mono (by simp <;> omega)); have c0 := cell_below hbx HX.out.1; have c1 := cell_below hbx HX.out.2.1; have c2 := cell_below hbx HX.out.2.2; have ho := Lib.hid (own_low (B' := w.heap.size) hown (by simp <;> omega)); clear hown) | (refine step_append_lies _ rfl (.tmp 25) (.tmp 27) 62 rfl w.heap.size 71 i0 (.agg #[.int .u64 0, .string ByteArray.empty, .bool false]) 3 32 Try.underlying62 hi hz0 hz1 hz2 rfl (by decide) _ l.length (l.flatMap cellE) rfl (by first | exact ho.out | exact ho.out.alloc _) _ 1 1 [.int .u64 t, .string s, .bool d] rfl rfl (by first | exact World.news_of_block (alloc_at _ _) | exact fun j u hj => cell_below hb2 (World.news_of_block (alloc_at' _ _ _ (by simp)) j u hj)) (by simp [Value.oneCell']) (by omega) (by have := HL.out; unfold maxLen; omega) (by have := HL.out; omega) (by have := hb2.size; simp at this; simp <;> omega) _ rfl ?_; intro g1 cp1 w3 hown3 hgr3 hg3 hg3s))
  all_goals (
    have hob := Lib.hid (own_block ho.out)
    have HO3 := Lib.hid (own_low (B' := w.heap.size) (show World.ownsRow _ _ 71 3 _ (l ++ [(t, s, d)]).length ((l ++ [(t, s, d)]).flatMap cellE) from by rw [List.flatMap_append, List.length_append]; simp only [List.flatMap_cons, List.flatMap_nil, List.append_nil, List.length_singleton]; exact hown3) (by first | omega | simp | (simp; omega)))
    have hb3 := Lib.hid (Below.trans (Below.trans (B := w.heap.size) (a := w) (by (repeat (first | exact Below.refl _ _ | refine Below.alloc ?_ (by first | omega | (simp; done) | (simp; omega)) _ | refine Below.drew ?_ | refine below_draws ?_ _))) (hb2.mono (by simp <;> omega))) (Below.grown (B := w.heap.size) (by have hsz := hb2.size; simp at hsz; (repeat (first | exact Below.refl _ _ | refine Below.alloc ?_ (by first | omega | (simp; done) | (simp; omega)) _ | refine Below.drew ?_ | refine below_draws ?_ _))) hgr3 (by have := hb2.size; simp at this; simp <;> omega) hob.out))
    clear hown3 hgr3
    go_wp2
    go_ret2
    exact ⟨_, rfl, row_kept_new HO3.out (below_grown (by (repeat (first | exact Below.refl _ _ | refine Below.alloc ?_ (by first | omega | (simp; done) | (simp; omega)) _ | refine Below.drew ?_ | refine below_draws ?_ _)))), hb3.out⟩)

set_option maxRecDepth 100000 in
set_option maxHeartbeats 800000 in
theorem put_oldR (v : Value) (l : List CellT) (c : CellT) (w : World) (hs : SliceOf cellE 3 w v l) (hl : l.length ≤ 900) (h0 : 0 < c.1) (k : Nat) (h1 : l.length = k + 1) (hlt : ts l k < c.1) :
    Calls Try.prog 28 #[v, .agg #[.int .u64 c.1, .string c.2.1, .bool c.2.2]] w fun e w' => ∃ v', e = .returned (.tuple #[v', .int .i64 0]) ∧ w'.ownsRow w.heap.size 71 3 v' (l ++ [c]).length ((l ++ [c]).flatMap cellE) ∧ Below w.heap.size w w' := by
  obtain ⟨i0, hi, hz0, hz1, hz2⟩ := info_parts info_cell
  obtain ⟨t, s, d⟩ := c
  replace h0 : 0 < t := h0
  replace hlt : ts l k < t := hlt
  have HS := Lib.hid hs
  obtain ⟨ao, cap, rfl, hcap, hcm, hnil, hcell⟩ := hs
  obtain ⟨b, off, rfl, hr⟩ := hcell k (by omega)
  have k0 : w.cell? ⟨b, off + k * 3, none⟩ = some (.int .u64 (ts l k)) := by rw [ts_get (by omega)]; exact hr 0 _ rfl
  have k1 := cell_below ((Below.refl w.heap.size w).alloc (Nat.le_refl _) (.cells #[.int .u64 t, .string s, .bool d] 71)) k0
  clear hr
  have hne : (t == 0) = false := by rw [beq_eq_false_iff_ne]; omega
  have hgt : (decide (t ≤ ts l k)) = false := by rw [decide_eq_false_iff_not]; omega
  have hwk : IntKind.i64.wrap (k : Int) = (k : Int) := IntWalk.i64_in _ ⟨by omega, by omega⟩
  clear hcell hnil
  rw [h1] at hcap ⊢
  have HX := Lib.hid (box_cells w t s d)
  have HL := Lib.hid hl; have H1 := Lib.hid h1; clear h1 hl
  go_enter Try.func28, Try.ntmps28
  go_wp2_with fail
  go_quiet (fail)
  go_wp2_with fail
  go_region_law (first | (go_simp; go_at_call 42; refine Calls.mono (clone_any _ l _ (by have h7 := HS.out; rw [H1.out] at h7; exact h7.below (by (repeat (first | exact Below.refl _ _ | refine Below.alloc ?_ (by first | omega | (simp; done) | (simp; omega)) _ | refine Below.drew ?_ | refine below_draws ?_ _)))) (by have := HL.out; have := H1.out; omega)) ?_; rintro e w2 ⟨v2, rfl, hown, hb2⟩; have hbx : Below (w.alloc (.cells #[.int .u64 t, .string s, .bool d] 71)).heap.size (w.alloc (.cells #[.int .u64 t, .string s, .bool d] 71)) w2 := Below.trans (by (repeat (first | exact Below.refl _ _ | refine Below.alloc ?_ (by first | omega | (simp; done) | (simp; omega)) _ | refine Below.drew ?_ | refine below_draws ?_ _))) (hb2.mono (by simp <;> omega)); have c0 := cell_below hbx HX.out.1; have c1 := cell_below hbx HX.out.2.1; have c2 := cell_below hbx HX.out.2.2; have ho := Lib.hid (own_low (B' := w.heap.size) (n := k + 1) (by have h7 := hown; rw [H1.out] at h7; exact h7) (by simp <;> omega)); clear hown) | (refine step_append_lies _ rfl (.tmp 25) (.tmp 27) 62 rfl w.heap.size 71 i0 (.agg #[.int .u64 0, .string ByteArray.empty, .bool false]) 3 32 Try.underlying62 hi hz0 hz1 hz2 rfl (by decide) _ (k + 1) (l.flatMap cellE) rfl (by first | exact ho.out | exact ho.out.alloc _) _ 1 1 [.int .u64 t, .string s, .bool d] rfl rfl (by first | exact World.news_of_block (alloc_at _ _) | exact fun j u hj => cell_below hb2 (World.news_of_block (alloc_at' _ _ _ (by simp)) j u hj)) (by simp [Value.oneCell']) (by omega) (by have := HL.out; have := H1.out; unfold maxLen; omega) (by have := HL.out; have := H1.out; omega) (by have := hb2.size; simp at this; simp <;> omega) _ rfl ?_; intro g1 cp1 w3 hown3 hgr3 hg3 hg3s))
  all_goals (
    have hob := Lib.hid (own_block ho.out)
    have HO3 := Lib.hid (own_low (B' := w.heap.size) (show World.ownsRow _ _ 71 3 _ (l ++ [(t, s, d)]).length ((l ++ [(t, s, d)]).flatMap cellE) from by rw [List.flatMap_append, List.length_append, H1.out]; simp only [List.flatMap_cons, List.flatMap_nil, List.append_nil, List.length_singleton]; exact hown3) (by first | omega | simp | (simp; omega)))
    have hb3 := Lib.hid (Below.trans (Below.trans (B := w.heap.size) (a := w) (by (repeat (first | exact Below.refl _ _ | refine Below.alloc ?_ (by first | omega | (simp; done) | (simp; omega)) _ | refine Below.drew ?_ | refine below_draws ?_ _))) (hb2.mono (by simp <;> omega))) (Below.grown (B := w.heap.size) (by have hsz := hb2.size; simp at hsz; (repeat (first | exact Below.refl _ _ | refine Below.alloc ?_ (by first | omega | (simp; done) | (simp; omega)) _ | refine Below.drew ?_ | refine below_draws ?_ _))) hgr3 (by have := hb2.size; simp at this; simp <;> omega) hob.out))
    clear hown3 hgr3
    go_wp2
    go_ret2
    exact ⟨_, rfl, row_kept_new HO3.out (below_grown (by (repeat (first | exact Below.refl _ _ | refine Below.alloc ?_ (by first | omega | (simp; done) | (simp; omega)) _ | refine Below.drew ?_ | refine below_draws ?_ _)))), hb3.out⟩)

theorem put_row (v : Value) (l : List CellT) (c : CellT) (w : World) (hs : SliceOf cellE 3 w v l) (hl : l.length ≤ 900) (h0 : 0 < c.1) (h : lastTs 0 l < c.1) :
    Calls Try.prog 28 #[v, .agg #[.int .u64 c.1, .string c.2.1, .bool c.2.2]] w fun e w' => ∃ v', e = .returned (.tuple #[v', .int .i64 0]) ∧ w'.ownsRow w.heap.size 71 3 v' (l ++ [c]).length ((l ++ [c]).flatMap cellE) ∧ Below w.heap.size w w' := by
  by_cases h1 : l.length = 0
  · exact put_newR v l c w hs hl h0 h1
  · rw [lastTs_ts 0 l (by omega)] at h
    exact put_oldR v l c w hs hl h0 (l.length - 1) (by omega) h
end Go.Proofs.Ytfjhlckklgeokaa
