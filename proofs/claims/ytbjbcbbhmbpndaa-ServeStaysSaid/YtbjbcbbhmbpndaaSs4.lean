/- Put together: VerBSv, MvASv, MvBSv, MvCSv, MvDSv, MvESv, MvFSv, MvHSv, MvJSv, PexXSv, SrvASv, SrvBSv. Conditions: as each says. -/
import Derived.Test.YtbjbcbbhmbpndaaSs3
import Derived.Test.YtbjbcbbhmbpndaaSs1
import Derived.Deep.AppendLies
import Derived.Deep.RegionLaw
import Derived.Test.YtbjbcbbhmbpndaaSs2
import Derived.Scope
import Derived.Laws.StructEq
/- Package vers: At, Put, Prune; what follows of versions that rise. Conditions: at most 900 versions. -/
namespace Go.Proofs.Ytbjbcbbhmbpndaa
open Go.RowKit Go.PlainAid
set_option linter.unusedVariables false



def cellAt (l : List CellT) (i : Nat) : CellT := l.getD i (0, ByteArray.empty, false)
theorem cellAt_get {l : List CellT} {i : Nat} (h : i < l.length) : cellAt l i = l[i] := by
  simp [cellAt, List.getD, List.getElem?_eq_getElem h]
/-- What a key is at a time. -/
def atS (l : List CellT) (t : Int) : ByteArray × Bool :=
  if lastI l t < 0 then (ByteArray.empty, false) else if (cellAt l (lastI l t).toNat).2.2 = true then (ByteArray.empty, false) else ((cellAt l (lastI l t).toNat).2.1, true)
theorem atS_none {l : List CellT} {t : Int} (h : lastI l t < 0) : atS l t = (ByteArray.empty, false) := if_pos h
theorem atS_some {l : List CellT} {t : Int} {k : Nat} (h : lastI l t = k) : atS l t = if (cellAt l k).2.2 = true then (ByteArray.empty, false) else ((cellAt l k).2.1, true) := by
  unfold atS; rw [if_neg (by omega), h, Int.toNat_natCast]

set_option maxRecDepth 100000 in
set_option maxHeartbeats 400000 in
theorem at_any (v : Value) (l : List CellT) (t : Int) (w : World) (hs : SliceOf cellE 3 w v l) (hw : ∀ c ∈ l, cellOk c) :
    Calls Try.prog 88 #[v, .int .u64 t] w fun e w' => e = .returned (.tuple #[.string (atS l t).1, .bool (atS l t).2]) ∧ Below w.heap.size w w' := by
  have HS := Lib.hid hs; have HW := Lib.hid hw
  obtain ⟨ao, cap, rfl, hcap, hcm, _, hcell⟩ := hs
  have HC := Lib.hid hcell; clear hcell hw
  have hbd := down_bd l t l.length
  by_cases h0 : lastI l t < 0
  · have HA := Lib.hid (atS_none h0)
    clear hbd
    go_enter Try.func88, Try.ntmps88
    go_wp2_with fail
    refine (place_any _ _ _ _ HS.out HW.out).mono ?_
    rintro e w1 ⟨rfl, hb1⟩
    have HB := Lib.hid hb1; clear hb1
    go_wp2
    go_ret2
    exact ⟨by rw [HA.out]; rfl, HB.out⟩
  · obtain ⟨k, hk⟩ := Int.eq_ofNat_of_zero_le (show 0 ≤ lastI l t by omega)
    have hkl : k < l.length := by have : lastI l t < l.length := hbd.2.1; omega
    have ha := atS_some hk
    have hg := cellAt_get hkl
    obtain ⟨b, off, rfl, hr⟩ := HC.out k hkl
    obtain ⟨c, hc⟩ : ∃ c, c = l[k] := ⟨_, rfl⟩
    rw [← hc] at hr hg
    rw [hg] at ha
    have HK := Lib.hid hk; have HR := Lib.hid hr
    clear hbd hk hg hc h0 hr
    cases hdel : c.2.2 with
    | true =>
      rw [hdel, if_pos rfl] at ha
      have HA := Lib.hid ha; have HDel := Lib.hid hdel
      clear ha hdel
      go_enter Try.func88, Try.ntmps88
      go_wp2_with fail
      refine (place_any _ _ _ _ HS.out HW.out).mono ?_
      rintro e w1 ⟨rfl, hb1⟩
      rw [HK.out]
      have k2 := cell_below hb1 (HR.out 2 _ rfl)
      rw [HDel.out] at k2
      have HB := Lib.hid hb1; clear hb1
      go_wp2
      go_ret2
      exact ⟨by rw [HA.out]; rfl, HB.out⟩
    | false =>
      rw [hdel, if_neg (by simp)] at ha
      have HA := Lib.hid ha; have HDel := Lib.hid hdel
      clear ha hdel
      go_enter Try.func88, Try.ntmps88
      go_wp2_with fail
      refine (place_any _ _ _ _ HS.out HW.out).mono ?_
      rintro e w1 ⟨rfl, hb1⟩
      rw [HK.out]
      have k2 := cell_below hb1 (HR.out 2 _ rfl)
      have k1 := cell_below hb1 (HR.out 1 _ rfl)
      rw [HDel.out] at k2
      have HB := Lib.hid hb1; clear hb1
      go_wp2
      go_ret2
      exact ⟨by rw [HA.out]; rfl, HB.out⟩

theorem info_cell : (Try.prog.info? 127).map (fun i => (i.zero, i.size, i.bytes)) = some (some (.agg #[.int .u64 0, .string ByteArray.empty, .bool false]), 3, 32) := by kernel_rfl
theorem cellE_one (l : List CellT) : ∀ y ∈ l, (cellE y).length = 3 ∧ ∀ u ∈ cellE y, u.oneCell' = true := by
  intro y _; exact ⟨rfl, fun u hu => by simp [cellE] at hu; rcases hu with rfl | rfl | rfl <;> rfl⟩

set_option maxRecDepth 100000 in
set_option maxHeartbeats 400000 in
theorem clone_any (v : Value) (l : List CellT) (w : World) (hs : SliceOf cellE 3 w v l) (hl : l.length ≤ 1000) :
    Calls Try.prog 93 #[v] w fun e w' => ∃ v', e = .returned v' ∧ w'.ownsRow w.heap.size 127 3 v' l.length (l.flatMap cellE) ∧ Below w.heap.size w w' := by
  obtain ⟨i0, hi, hz0, hz1, hz2⟩ := info_parts info_cell
  have HS := Lib.hid (hs.below (w' := w.alloc (.cells #[] 127)) ((Below.refl _ _).alloc (Nat.le_refl _) _))
  have HB := Lib.hid (row_built w #[] 127 3 0 w.heap.size (Nat.le_refl _) rfl (by decide))
  obtain ⟨ao, cap, rfl, hcap, hcm, hnil, hcell⟩ := hs
  have heq := fun W : World => Lib.run_eql_slice_nil (P := Try.prog) W 121 127 ao l.length cap 0 0 Try.underlying121
  cases ao with
  | none =>
    obtain ⟨hl0, rfl⟩ := hnil rfl
    obtain rfl : l = [] := List.eq_nil_of_length_eq_zero hl0
    clear hcell hnil hl0 heq
    have heq := fun W : World => Lib.run_eql_slice_nil (P := Try.prog) W 121 127 none 0 0 0 0 Try.underlying121
    show Calls _ _ #[.slice none 0 0] _ _
    go_enter Try.func93, Try.ntmps93
    go_wp2
    go_ret
    exact ⟨_, rfl, World.ownsRow_nil _ _ _ _, Below.refl _ _⟩
  | some a =>
    clear hcell hnil
    go_enter Try.func93, Try.ntmps93
    go_wp2_with (at_builtin; go_loud (refine wpList_append_src rfl (.tmp 5) (.tmp 6) 121 rfl w.heap.size 127 i0 (.agg #[.int .u64 0, .string ByteArray.empty, .bool false]) 3 32 Try.underlying121 hi hz0 hz1 hz2 rfl (by decide) _ 0 _ rfl HB.out cellE l _ rfl HS.out (cellE_one l) (by unfold maxLen; omega) (by omega) (by simp) ?_); intro v1 w1 hown1 hgr1)
    go_ret
    have hb1 : Below w.heap.size w w1 := ((Below.refl _ _).alloc (Nat.le_refl _) _).grown hgr1 (by simp) (by intro k h; cases h; exact Nat.le_refl _)
    exact ⟨_, rfl, by simpa using hown1, hb1⟩

/-- What is left when versions are pruned. -/
def pruneN (l : List CellT) (h : Int) : Nat :=
  if lastI l h < 0 then 0 else if (cellAt l (lastI l h).toNat).2.2 = true then (lastI l h).toNat + 1 else (lastI l h).toNat
theorem pruneN_le (l : List CellT) (h : Int) : pruneN l h ≤ l.length := by
  have := (down_bd l h l.length).2.1
  unfold pruneN lastI
  split
  · omega
  · split <;> omega
theorem SliceOf.drop {α : Type} {enc : α → List Value} {sz : Nat} {w : World} {b off cap : Nat} {l : List α} (k : Nat) (h : SliceOf enc sz w (.slice (some ⟨b, off, none⟩) l.length cap) l) (hk : k ≤ l.length) :
    (cap = k → SliceOf enc sz w (.slice (some ⟨b, off, none⟩) 0 0) (l.drop k)) ∧ SliceOf enc sz w (.slice (some ⟨b, off + k * sz, none⟩) (l.length - k) (cap - k)) (l.drop k) := by
  obtain ⟨ao, cap', hv, h1, h2, h3, h4⟩ := h
  simp only [Value.slice.injEq, true_and] at hv
  obtain ⟨rfl, rfl⟩ := hv
  have ht : (l.drop k).length = l.length - k := by simp
  refine ⟨fun hc => ?_, ?_⟩
  · have e : l.drop k = [] := List.eq_nil_of_length_eq_zero (by omega)
    rw [e]
    exact ⟨_, _, rfl, by simp, by omega, fun h => (by cases h), fun j hj => absurd hj (by simp)⟩
  · refine ⟨_, _, by rw [ht], by omega, by omega, fun h => (by cases h), fun j hj => ?_⟩
    obtain ⟨b', off', e, hr⟩ := h4 (k + j) (by omega)
    cases e
    refine ⟨b, off + k * sz, rfl, ?_⟩
    rw [show off + k * sz + j * sz = off + (k + j) * sz by rw [Nat.add_mul]; omega]
    rw [List.getElem_drop]
    exact hr

theorem SliceOf.empty {α : Type} (enc : α → List Value) (sz : Nat) (w : World) (a : Addr) (cap : Nat) (h : cap ≤ 9223372036854775807) : SliceOf enc sz w (.slice (some a) 0 cap) ([] : List α) :=
  ⟨some a, cap, rfl, by simp, h, fun h => (by cases h), fun j hj => absurd hj (by simp)⟩




theorem valloc_at (w : World) (o : Obj) : (w.alloc o).heap[w.heap.size]? = some o := by
  show (w.heap.push o)[w.heap.size]? = _
  simp
theorem valloc_at' (w : World) (o : Obj) (B : Nat) (h : w.heap.size = B) : (w.alloc o).heap[B]? = some o := by
  subst h; exact valloc_at w o
theorem vown_block {w : World} {B : Nat} {e : TypeId} {k : Nat} {v : Value} {n : Nat} {xs : List Value} (h : w.ownsRow B e k v n xs) : ∀ g, v.ownBlock = some g → B ≤ g := by
  intro g hg
  rcases h.2 with ⟨rfl, _⟩ | ⟨g', cap, cur, rfl, hg', _⟩
  · simp [Value.ownBlock] at hg
  · simp [Value.ownBlock] at hg; omega
theorem own_low {w : World} {B B' : Nat} {e : TypeId} {k : Nat} {v : Value} {n : Nat} {xs : List Value} (h : w.ownsRow B e k v n xs) (hb : B' ≤ B) : w.ownsRow B' e k v n xs := by
  obtain ⟨h1, h2⟩ := h
  refine ⟨h1, ?_⟩
  rcases h2 with h2 | ⟨g, cap, cur, hv, hg, r⟩
  · exact Or.inl h2
  · exact Or.inr ⟨g, cap, cur, hv, Nat.le_trans hb hg, r⟩
theorem box_cells (w : World) (t : Int) (s : ByteArray) (d : Bool) : (w.alloc (.cells #[.int .u64 t, .string s, .bool d] 127)).cell? ⟨w.heap.size, 0, none⟩ = some (.int .u64 t) ∧
    (w.alloc (.cells #[.int .u64 t, .string s, .bool d] 127)).cell? ⟨w.heap.size, 1, none⟩ = some (.string s) ∧ (w.alloc (.cells #[.int .u64 t, .string s, .bool d] 127)).cell? ⟨w.heap.size, 2, none⟩ = some (.bool d) := by
  have h : (w.alloc (.cells #[.int .u64 t, .string s, .bool d] 127)).heap[w.heap.size]? = some (.cells #[.int .u64 t, .string s, .bool d] 127) := valloc_at _ _
  exact ⟨cell_of_row _ _ 0 _ _ _ h, cell_of_row _ _ 1 _ _ _ h, cell_of_row _ _ 2 _ _ _ h⟩



theorem down_above (l : List CellT) (t : Int) : ∀ n j : Nat, down l t n < j → j < n → t < ts l j
  | 0, j, _, h => absurd h (by omega)
  | n + 1, j, h1, h2 => by
    rw [down] at h1
    split at h1
    · omega
    · by_cases hj : j = n
      · subst hj; omega
      · exact down_above l t n j h1 (by omega)
theorem down_mono (l : List CellT) {t t' : Int} (h : t' ≤ t) : ∀ n, down l t' n ≤ down l t n
  | 0 => by simp [down]
  | n + 1 => by
    have h1 := down_mono l h n
    have h2 := (down_bd l t' n).2.1
    rw [down, down]
    split
    · rw [if_pos (by omega)]; omega
    · split <;> omega
theorem lastI_mono (l : List CellT) {t t' : Int} (h : t' ≤ t) : lastI l t' ≤ lastI l t := down_mono l h _
theorem lastI_le {l : List CellT} (hr : rises 0 l = true) {t : Int} {j : Nat} (h : (j : Int) ≤ lastI l t) : ts l j ≤ t := by
  have hb := down_bd l t l.length
  have h2 : ts l (lastI l t).toNat ≤ t := hb.2.2 (show 0 ≤ lastI l t by omega)
  have h3 : lastI l t < l.length := hb.2.1
  by_cases e : (j : Int) = lastI l t
  · rw [← e, Int.toNat_natCast] at h2; exact h2
  · have := (rises_lt 0 l hr j (lastI l t).toNat (by omega) (by omega)).2
    omega
theorem lastI_gt {l : List CellT} {t : Int} {j : Nat} (h : lastI l t < j) (hj : j < l.length) : t < ts l j := down_above l t l.length j h hj
theorem ts_drop (l : List CellT) (k j : Nat) : ts (l.drop k) j = ts l (k + j) := by simp [ts, List.getD, List.getElem?_drop]
theorem cellAt_drop (l : List CellT) (k j : Nat) : cellAt (l.drop k) j = cellAt l (k + j) := by simp [cellAt, List.getD, List.getElem?_drop]
theorem rises_weak : ∀ {a b : Int} {l : List CellT}, rises a l = true → b ≤ a → rises b l = true
  | _, _, [], _, _ => rfl
  | a, b, c :: r, h, hb => by
    simp only [rises, Bool.and_eq_true, decide_eq_true_eq] at h ⊢
    exact ⟨by omega, h.2⟩
theorem rises_drop : ∀ (k : Nat) {a : Int} {l : List CellT}, rises a l = true → rises a (l.drop k) = true
  | 0, _, _, h => h
  | k + 1, _, [], h => h
  | k + 1, a, c :: r, h => by
    simp only [rises, Bool.and_eq_true, decide_eq_true_eq] at h
    rw [List.drop_succ_cons]
    exact rises_drop k (rises_weak h.2 (by omega))
theorem lastI_drop {l : List CellT} (hr : rises 0 l = true) {t : Int} {k : Nat} (h : (k : Int) ≤ lastI l t + 1) : lastI (l.drop k) t = lastI l t - k := by
  have hb : lastI l t < l.length := (down_bd l t l.length).2.1
  obtain ⟨n, hn⟩ := Int.eq_ofNat_of_zero_le (show 0 ≤ lastI l t + 1 - k by omega)
  have := down_at (l := l.drop k) (t := t) n (l.drop k).length (by simp; omega) (fun j hj => by rw [ts_drop]; exact lastI_le hr (by omega)) (fun j hj hjl => by
    rw [ts_drop]; simp at hjl; exact lastI_gt (by omega) (by omega))
  show down _ _ _ = _
  rw [this]; omega
theorem lastI_neg {l : List CellT} {t : Int} {k : Nat} (h : lastI l t + 1 ≤ k) : lastI (l.drop k) t = -1 := by
  have := down_at (l := l.drop k) (t := t) 0 (l.drop k).length (by omega) (fun j hj => by omega) (fun j hj hjl => by
    rw [ts_drop]; simp at hjl; exact lastI_gt (by omega) (by omega))
  show down _ _ _ = _
  rw [this]; rfl
theorem pruneN_zero {l : List CellT} {h : Int} (h1 : lastI l h ≤ 0) (h2 : lastI l h = 0 → (cellAt l 0).2.2 = false) : pruneN l h = 0 := by
  unfold pruneN
  split
  · rfl
  · have e : lastI l h = 0 := by omega
    have := h2 e
    rw [e, Int.toNat_zero, this]; rfl
/-- THE LAW OF PRUNING. -/
theorem prune_law {l : List CellT} (hr : rises 0 l = true) (h t T : Int) (htl : t ≤ h) (hT : h ≤ T) :
    rises 0 (l.drop (pruneN l h)) = true ∧ pruneN (l.drop (pruneN l h)) h = 0 ∧ pruneN (l.drop (pruneN l h)) t = 0 ∧ atS l T = atS (l.drop (pruneN l h)) T := by
  refine ⟨rises_drop _ hr, ?_⟩
  have hm := lastI_mono l hT
  have hbT : -1 ≤ lastI l T := (down_bd l T l.length).1
  by_cases h0 : lastI l h < 0
  · have e : pruneN l h = 0 := if_pos h0
    rw [e, List.drop_zero]
    exact ⟨e, if_pos (by have := lastI_mono l htl; omega), rfl⟩
  · obtain ⟨i, hi⟩ := Int.eq_ofNat_of_zero_le (show 0 ≤ lastI l h by omega)
    have e : pruneN l h = if (cellAt l i).2.2 = true then i + 1 else i := by
      unfold pruneN; rw [if_neg h0, hi, Int.toNat_natCast]
    obtain ⟨j, hj⟩ := Int.eq_ofNat_of_zero_le (show 0 ≤ lastI l T by omega)
    by_cases hd : (cellAt l i).2.2 = true
    · rw [if_pos hd] at e
      rw [e]
      have n1 : lastI (l.drop (i + 1)) h = -1 := lastI_neg (by omega)
      have n2 := lastI_mono (l.drop (i + 1)) htl
      refine ⟨if_pos (by omega), if_pos (by omega), ?_⟩
      have n3 := lastI_drop hr (t := T) (k := i + 1) (by omega)
      by_cases hij : j = i
      · subst hij
        rw [atS_some hj, if_pos hd, atS_none (by omega)]
      · have n4 : lastI (l.drop (i + 1)) T = ((j - (i + 1) : Nat) : Int) := by rw [n3]; omega
        rw [atS_some hj, atS_some n4, cellAt_drop, show i + 1 + (j - (i + 1)) = j by omega]
    · rw [if_neg hd] at e
      rw [e]
      have n1 := lastI_drop hr (t := h) (k := i) (by omega)
      have n2 := lastI_mono (l.drop i) htl
      have hd' : (cellAt (l.drop i) 0).2.2 = false := by rw [cellAt_drop, Nat.add_zero]; simpa using hd
      refine ⟨pruneN_zero (by omega) (fun _ => hd'), pruneN_zero (by omega) (fun _ => hd'), ?_⟩
      have n3 := lastI_drop hr (t := T) (k := i) (by omega)
      have n4 : lastI (l.drop i) T = ((j - i : Nat) : Int) := by rw [n3]; omega
      rw [atS_some hj, atS_some n4, cellAt_drop, show i + (j - i) = j by omega]
theorem ts_app {l : List CellT} (c : CellT) {j : Nat} (h : j < l.length) : ts (l ++ [c]) j = ts l j := by simp [ts, List.getD, List.getElem?_append_left h]
theorem ts_end (l : List CellT) (c : CellT) : ts (l ++ [c]) l.length = c.1 := by simp [ts, List.getD]
theorem cellAt_app {l : List CellT} (c : CellT) {j : Nat} (h : j < l.length) : cellAt (l ++ [c]) j = cellAt l j := by simp [cellAt, List.getD, List.getElem?_append_left h]
theorem down_app (l : List CellT) (c : CellT) (t : Int) : ∀ n, n ≤ l.length → down (l ++ [c]) t n = down l t n
  | 0, _ => rfl
  | n + 1, h => by rw [down, down, ts_app c (by omega), down_app l c t n (by omega)]
theorem at_before (l : List CellT) (c : CellT) {t : Int} (h : t < c.1) : atS (l ++ [c]) t = atS l t := by
  have e : lastI (l ++ [c]) t = lastI l t := by
    show down (l ++ [c]) t (l ++ [c]).length = _
    rw [List.length_append, List.length_singleton, down, ts_end, if_neg (by omega), down_app l c t _ (Nat.le_refl _)]; rfl
  have hb : lastI l t < l.length := (down_bd l t l.length).2.1
  by_cases h0 : lastI l t < 0
  · rw [atS_none h0, atS_none (by omega)]
  · obtain ⟨k, hk⟩ := Int.eq_ofNat_of_zero_le (show 0 ≤ lastI l t by omega)
    rw [atS_some hk, atS_some (e.trans hk), cellAt_app c (by omega)]


set_option maxRecDepth 100000 in
set_option maxHeartbeats 800000 in
theorem prune_row (v : Value) (l : List CellT) (t : Int) (w : World) (hs : SliceOf cellE 3 w v l) (hw : ∀ c ∈ l, cellOk c) (hl : l.length ≤ 1000) :
    Calls Try.prog 65 #[v, .int .u64 t] w fun e w' => ∃ v', e = .returned v' ∧ w'.ownsRow w.heap.size 127 3 v' (l.drop (pruneN l t)).length ((l.drop (pruneN l t)).flatMap cellE) ∧ Below w.heap.size w w' := by
  have HS := Lib.hid hs; have HW := Lib.hid hw
  obtain ⟨ao, cap, rfl, hcap, hcm, hnil, hcell⟩ := hs
  have HC := Lib.hid hcell; clear hcell hw
  have hbd := down_bd l t l.length
  have hple := pruneN_le l t
  by_cases hl0 : l.length = 0
  · obtain rfl : l = [] := List.eq_nil_of_length_eq_zero hl0
    have HK := Lib.hid (show lastI [] t = -1 from rfl)
    have HA := Lib.hid (show pruneN [] t = 0 from rfl)
    cases ao with
    | none =>
      obtain ⟨_, rfl⟩ := hnil rfl
      clear hbd hple hnil hcap hcm hl0 hl
      show Calls _ _ #[.slice none 0 0, _] _ _
      go_enter Try.func65, Try.ntmps65
      go_wp2_with fail
      refine (place_any _ _ _ _ HS.out HW.out).mono ?_
      rintro e w1 ⟨rfl, hb1⟩
      rw [HK.out]
      have HB := Lib.hid hb1; clear hb1
      go_wp2_with fail
      refine (clone_any _ (([] : List CellT).drop 0) _ ?_ (by simp)).mono ?_
      · exact SliceOf.nil _ _ _
      · rintro e w2 ⟨v2, rfl, hown, hb2⟩
        have hso : w2.ownsRow w.heap.size 127 3 v2 (([] : List CellT).drop 0).length ((([] : List CellT).drop 0).flatMap cellE) := own_low hown HB.out.size
        have HSO := Lib.hid hso; have HB2 := Lib.hid (HB.out.trans (hb2.mono HB.out.size))
        clear hown hb2 hso
        go_wp2
        go_ret
        exact ⟨_, rfl, by rw [HA.out]; exact HSO.out, HB2.out⟩
    | some a =>
      clear hbd hple hnil hcap hl0 hl
      show Calls _ _ #[.slice (some a) 0 cap, _] _ _
      by_cases hc0 : cap = 0
      · obtain rfl : cap = 0 := hc0
        go_enter Try.func65, Try.ntmps65
        go_wp2_with fail
        refine (place_any _ _ _ _ HS.out HW.out).mono ?_
        rintro e w1 ⟨rfl, hb1⟩
        rw [HK.out]
        have HB := Lib.hid hb1; clear hb1
        go_wp2_with fail
        refine (clone_any _ (([] : List CellT).drop 0) _ ?_ (by simp)).mono ?_
        · exact SliceOf.empty _ _ _ _ _ (by omega)
        · rintro e w2 ⟨v2, rfl, hown, hb2⟩
          have hso : w2.ownsRow w.heap.size 127 3 v2 (([] : List CellT).drop 0).length ((([] : List CellT).drop 0).flatMap cellE) := own_low hown HB.out.size
          have HSO := Lib.hid hso; have HB2 := Lib.hid (HB.out.trans (hb2.mono HB.out.size))
          clear hown hb2 hso
          go_wp2
          go_ret
          exact ⟨_, rfl, by rw [HA.out]; exact HSO.out, HB2.out⟩
      · have hcb : ((cap : Int) == 0) = false := by simp; omega
        go_enter Try.func65, Try.ntmps65
        go_wp2_with fail
        refine (place_any _ _ _ _ HS.out HW.out).mono ?_
        rintro e w1 ⟨rfl, hb1⟩
        rw [HK.out]
        have HB := Lib.hid hb1; clear hb1
        go_wp2_with fail
        refine (clone_any _ (([] : List CellT).drop 0) _ ?_ (by simp)).mono ?_
        · exact SliceOf.empty _ _ _ _ _ (by omega)
        · rintro e w2 ⟨v2, rfl, hown, hb2⟩
          have hso : w2.ownsRow w.heap.size 127 3 v2 (([] : List CellT).drop 0).length ((([] : List CellT).drop 0).flatMap cellE) := own_low hown HB.out.size
          have HSO := Lib.hid hso; have HB2 := Lib.hid (HB.out.trans (hb2.mono HB.out.size))
          clear hown hb2 hso
          go_wp2
          go_ret
          exact ⟨_, rfl, by rw [HA.out]; exact HSO.out, HB2.out⟩
  · obtain ⟨b, off, rfl, _⟩ := HC.out 0 (by omega)
    by_cases h0 : lastI l t < 0
    · have HA := Lib.hid (show pruneN l t = 0 from if_pos h0)
      have HK := Lib.hid (show lastI l t = -1 by have : -1 ≤ lastI l t := hbd.1; omega)
      have hcb : ((cap : Int) == 0) = false := by simp; omega
      clear hbd hple h0
      go_enter Try.func65, Try.ntmps65
      go_wp2_with fail
      refine (place_any _ _ _ _ HS.out HW.out).mono ?_
      rintro e w1 ⟨rfl, hb1⟩
      rw [HK.out]
      have HB := Lib.hid hb1; have HS1 := Lib.hid (HS.out.below hb1)
      clear hb1
      go_wp2_with fail
      refine (clone_any _ (l.drop (0)) _ ?_ (by rw [List.length_drop]; omega)).mono ?_
      · exact HS1.out
      · rintro e w2 ⟨v2, rfl, hown, hb2⟩
        have hso : w2.ownsRow w.heap.size 127 3 v2 (l.drop (0)).length ((l.drop (0)).flatMap cellE) := own_low hown HB.out.size
        have HSO := Lib.hid hso; have HB2 := Lib.hid (HB.out.trans (hb2.mono HB.out.size))
        clear hown hb2 hso
        go_wp2
        go_ret
        exact ⟨_, rfl, by rw [HA.out]; exact HSO.out, HB2.out⟩
    · obtain ⟨k, hk⟩ := Int.eq_ofNat_of_zero_le (show 0 ≤ lastI l t by omega)
      have hkl : k < l.length := by have : lastI l t < l.length := hbd.2.1; omega
      have hp : pruneN l t = if (cellAt l k).2.2 = true then k + 1 else k := by unfold pruneN; rw [if_neg h0, hk, Int.toNat_natCast]
      have hg := cellAt_get hkl
      obtain ⟨b', off', hbo, hr⟩ := HC.out k hkl
      cases hbo
      obtain ⟨c, hc⟩ : ∃ c, c = l[k] := ⟨_, rfl⟩
      rw [← hc] at hr hg
      rw [hg] at hp
      have HK := Lib.hid hk; have HR := Lib.hid hr
      clear hbd hple hk hg hc h0 hr
      cases hdel : c.2.2 with
      | true =>
        rw [hdel, if_pos rfl] at hp
        have HA := Lib.hid hp; have HDel := Lib.hid hdel
        clear hp hdel
        by_cases hcc : cap = k + 1
        · have hcb : ((cap : Int) == (k : Int) + 1) = true := by simp; omega
          have hcb2 : (cap == k + 1) = true := by simp; omega
          obtain rfl : cap = k + 1 := hcc
          go_enter Try.func65, Try.ntmps65
          go_wp2_with fail
          refine (place_any _ _ _ _ HS.out HW.out).mono ?_
          rintro e w1 ⟨rfl, hb1⟩
          rw [HK.out]
          have HB := Lib.hid hb1; have HS1 := Lib.hid (HS.out.below hb1)
          have k2 := cell_below hb1 (HR.out 2 _ rfl)
          rw [HDel.out] at k2
          clear hb1
          go_wp2_with fail
          refine (clone_any _ (l.drop (k + 1)) _ ?_ (by rw [List.length_drop]; omega)).mono ?_
          · exact by first | exact (HS1.out.drop (k + 1) (by omega)).1 rfl | exact (by have := (HS1.out.drop (k + 1) (by omega)).1 rfl; rw [show l.length - (k + 1) = 0 by omega]; exact this)
          · rintro e w2 ⟨v2, rfl, hown, hb2⟩
            have hso : w2.ownsRow w.heap.size 127 3 v2 (l.drop (k + 1)).length ((l.drop (k + 1)).flatMap cellE) := own_low hown HB.out.size
            have HSO := Lib.hid hso; have HB2 := Lib.hid (HB.out.trans (hb2.mono HB.out.size))
            clear hown hb2 hso
            go_wp2
            go_ret
            exact ⟨_, rfl, by rw [HA.out]; exact HSO.out, HB2.out⟩
        · have hcb : ((cap : Int) == (k : Int) + 1) = false := by simp; omega
          have hcb2 : ¬ (cap = k + 1) := hcc
          go_enter Try.func65, Try.ntmps65
          go_wp2_with fail
          refine (place_any _ _ _ _ HS.out HW.out).mono ?_
          rintro e w1 ⟨rfl, hb1⟩
          rw [HK.out]
          have HB := Lib.hid hb1; have HS1 := Lib.hid (HS.out.below hb1)
          have k2 := cell_below hb1 (HR.out 2 _ rfl)
          rw [HDel.out] at k2
          clear hb1
          go_wp2_with fail
          refine (clone_any _ (l.drop (k + 1)) _ ?_ (by rw [List.length_drop]; omega)).mono ?_
          · exact (HS1.out.drop (k + 1) (by omega)).2
          · rintro e w2 ⟨v2, rfl, hown, hb2⟩
            have hso : w2.ownsRow w.heap.size 127 3 v2 (l.drop (k + 1)).length ((l.drop (k + 1)).flatMap cellE) := own_low hown HB.out.size
            have HSO := Lib.hid hso; have HB2 := Lib.hid (HB.out.trans (hb2.mono HB.out.size))
            clear hown hb2 hso
            go_wp2
            go_ret
            exact ⟨_, rfl, by rw [HA.out]; exact HSO.out, HB2.out⟩
      | false =>
        rw [hdel, if_neg (by simp)] at hp
        have HA := Lib.hid hp; have HDel := Lib.hid hdel
        clear hp hdel
        have hcb : ((cap : Int) == (k : Int)) = false := by simp; omega
        have hcb2 : ¬ (cap = k) := by omega
        go_enter Try.func65, Try.ntmps65
        go_wp2_with fail
        refine (place_any _ _ _ _ HS.out HW.out).mono ?_
        rintro e w1 ⟨rfl, hb1⟩
        rw [HK.out]
        have HB := Lib.hid hb1; have HS1 := Lib.hid (HS.out.below hb1)
        have k2 := cell_below hb1 (HR.out 2 _ rfl)
        rw [HDel.out] at k2
        clear hb1
        go_wp2_with fail
        refine (clone_any _ (l.drop (k)) _ ?_ (by rw [List.length_drop]; omega)).mono ?_
        · exact (HS1.out.drop k (by omega)).2
        · rintro e w2 ⟨v2, rfl, hown, hb2⟩
          have hso : w2.ownsRow w.heap.size 127 3 v2 (l.drop (k)).length ((l.drop (k)).flatMap cellE) := own_low hown HB.out.size
          have HSO := Lib.hid hso; have HB2 := Lib.hid (HB.out.trans (hb2.mono HB.out.size))
          clear hown hb2 hso
          go_wp2
          go_ret
          exact ⟨_, rfl, by rw [HA.out]; exact HSO.out, HB2.out⟩

set_option maxRecDepth 100000 in
set_option maxHeartbeats 800000 in
theorem put_newR (v : Value) (l : List CellT) (c : CellT) (w : World) (hs : SliceOf cellE 3 w v l) (hl : l.length ≤ 900) (h0 : 0 < c.1) (h1 : l.length = 0) :
    Calls Try.prog 62 #[v, .agg #[.int .u64 c.1, .string c.2.1, .bool c.2.2]] w fun e w' => ∃ v', e = .returned (.tuple #[v', .int .i64 0]) ∧ w'.ownsRow w.heap.size 127 3 v' (l ++ [c]).length ((l ++ [c]).flatMap cellE) ∧ Below w.heap.size w w' := by
  obtain ⟨i0, hi, hz0, hz1, hz2⟩ := info_parts info_cell
  obtain ⟨t, s, d⟩ := c
  replace h0 : 0 < t := h0
  have HS := Lib.hid hs
  obtain ⟨ao, cap, rfl, hcap, hcm, hnil, hcell⟩ := hs
  have hne : (t == 0) = false := by rw [beq_eq_false_iff_ne]; omega
  have hgu : (decide ((0 : Int) < ((l.length : Nat) : Int))) = false := by rw [decide_eq_false_iff_not]; omega
  have hgu2 : (decide (0 < l.length)) = false := by rw [decide_eq_false_iff_not]; omega
  have hgu3 : (decide (((l.length : Nat) : Int) > 0)) = false := by rw [decide_eq_false_iff_not]; omega
  clear hcell hnil
  have HX := Lib.hid (box_cells w t s d)
  have HL := Lib.hid hl; have H1 := Lib.hid h1; clear h1 hl
  go_enter Try.func62, Try.ntmps62
  go_wp2_with fail
  go_quiet (fail)
  go_wp2_with fail
  go_region_law (first | (go_simp; go_at_call 93; refine Calls.mono (clone_any _ _ _ (HS.out.below (by (repeat (first | exact Below.refl _ _ | refine Below.alloc ?_ (by first | omega | (simp; done) | (simp; omega)) _ | refine Below.drew ?_ | refine below_draws ?_ _)))) (by have := HL.out; omega)) ?_; rintro e w2 ⟨v2, rfl, hown, hb2⟩; have hbx : Below (w.alloc (.cells #[.int .u64 t, .string s, .bool d] 127)).heap.size (w.alloc (.cells #[.int .u64 t, .string s, .bool d] 127)) w2 := Below.trans (by (repeat (first | exact Below.refl _ _ | refine Below.alloc ?_ (by first | omega | (simp; done) | (simp; omega)) _ | refine Below.drew ?_ | refine below_draws ?_ _))) (hb2.mono (by simp <;> omega)); have c0 := cell_below hbx HX.out.1; have c1 := cell_below hbx HX.out.2.1; have c2 := cell_below hbx HX.out.2.2; have ho := Lib.hid (own_low (B' := w.heap.size) hown (by simp <;> omega)); clear hown) | (refine step_append_lies _ rfl (.tmp 25) (.tmp 27) 121 rfl w.heap.size 127 i0 (.agg #[.int .u64 0, .string ByteArray.empty, .bool false]) 3 32 Try.underlying121 hi hz0 hz1 hz2 rfl (by decide) _ l.length (l.flatMap cellE) rfl (by first | exact ho.out | exact ho.out.alloc _) _ 1 1 [.int .u64 t, .string s, .bool d] rfl rfl (by first | exact World.news_of_block (valloc_at _ _) | exact fun j u hj => cell_below hb2 (World.news_of_block (valloc_at' _ _ _ (by simp)) j u hj)) (by simp [Value.oneCell']) (by omega) (by have := HL.out; unfold maxLen; omega) (by have := HL.out; omega) (by have := hb2.size; simp at this; simp <;> omega) _ rfl ?_; intro g1 cp1 w3 hown3 hgr3 hg3 hg3s))
  all_goals (
    have hob := Lib.hid (vown_block ho.out)
    have HO3 := Lib.hid (own_low (B' := w.heap.size) (show World.ownsRow _ _ 127 3 _ (l ++ [(t, s, d)]).length ((l ++ [(t, s, d)]).flatMap cellE) from by rw [List.flatMap_append, List.length_append]; simp only [List.flatMap_cons, List.flatMap_nil, List.append_nil, List.length_singleton]; exact hown3) (by first | omega | simp | (simp; omega)))
    have hb3 := Lib.hid (Below.trans (Below.trans (B := w.heap.size) (a := w) (by (repeat (first | exact Below.refl _ _ | refine Below.alloc ?_ (by first | omega | (simp; done) | (simp; omega)) _ | refine Below.drew ?_ | refine below_draws ?_ _))) (hb2.mono (by simp <;> omega))) (Below.grown (B := w.heap.size) (by have hsz := hb2.size; simp at hsz; (repeat (first | exact Below.refl _ _ | refine Below.alloc ?_ (by first | omega | (simp; done) | (simp; omega)) _ | refine Below.drew ?_ | refine below_draws ?_ _))) hgr3 (by have := hb2.size; simp at this; simp <;> omega) hob.out))
    clear hown3 hgr3
    go_wp2
    go_ret2
    exact ⟨_, rfl, row_kept_new HO3.out (below_grown (by (repeat (first | exact Below.refl _ _ | refine Below.alloc ?_ (by first | omega | (simp; done) | (simp; omega)) _ | refine Below.drew ?_ | refine below_draws ?_ _)))), hb3.out⟩)

set_option maxRecDepth 100000 in
set_option maxHeartbeats 800000 in
theorem put_oldR (v : Value) (l : List CellT) (c : CellT) (w : World) (hs : SliceOf cellE 3 w v l) (hl : l.length ≤ 900) (h0 : 0 < c.1) (k : Nat) (h1 : l.length = k + 1) (hlt : ts l k < c.1) :
    Calls Try.prog 62 #[v, .agg #[.int .u64 c.1, .string c.2.1, .bool c.2.2]] w fun e w' => ∃ v', e = .returned (.tuple #[v', .int .i64 0]) ∧ w'.ownsRow w.heap.size 127 3 v' (l ++ [c]).length ((l ++ [c]).flatMap cellE) ∧ Below w.heap.size w w' := by
  obtain ⟨i0, hi, hz0, hz1, hz2⟩ := info_parts info_cell
  obtain ⟨t, s, d⟩ := c
  replace h0 : 0 < t := h0
  replace hlt : ts l k < t := hlt
  have HS := Lib.hid hs
  obtain ⟨ao, cap, rfl, hcap, hcm, hnil, hcell⟩ := hs
  obtain ⟨b, off, rfl, hr⟩ := hcell k (by omega)
  have k0 : w.cell? ⟨b, off + k * 3, none⟩ = some (.int .u64 (ts l k)) := by rw [ts_get (by omega)]; exact hr 0 _ rfl
  have k1 := cell_below ((Below.refl w.heap.size w).alloc (Nat.le_refl _) (.cells #[.int .u64 t, .string s, .bool d] 127)) k0
  clear hr
  have hne : (t == 0) = false := by rw [beq_eq_false_iff_ne]; omega
  have hgt : (decide (t ≤ ts l k)) = false := by rw [decide_eq_false_iff_not]; omega
  have hwk : IntKind.i64.wrap (k : Int) = (k : Int) := IntWalk.i64_in _ ⟨by omega, by omega⟩
  clear hcell hnil
  rw [h1] at hcap ⊢
  have HX := Lib.hid (box_cells w t s d)
  have HL := Lib.hid hl; have H1 := Lib.hid h1; clear h1 hl
  go_enter Try.func62, Try.ntmps62
  go_wp2_with fail
  go_quiet (fail)
  go_wp2_with fail
  go_region_law (first | (go_simp; go_at_call 93; refine Calls.mono (clone_any _ l _ (by have h7 := HS.out; rw [H1.out] at h7; exact h7.below (by (repeat (first | exact Below.refl _ _ | refine Below.alloc ?_ (by first | omega | (simp; done) | (simp; omega)) _ | refine Below.drew ?_ | refine below_draws ?_ _)))) (by have := HL.out; have := H1.out; omega)) ?_; rintro e w2 ⟨v2, rfl, hown, hb2⟩; have hbx : Below (w.alloc (.cells #[.int .u64 t, .string s, .bool d] 127)).heap.size (w.alloc (.cells #[.int .u64 t, .string s, .bool d] 127)) w2 := Below.trans (by (repeat (first | exact Below.refl _ _ | refine Below.alloc ?_ (by first | omega | (simp; done) | (simp; omega)) _ | refine Below.drew ?_ | refine below_draws ?_ _))) (hb2.mono (by simp <;> omega)); have c0 := cell_below hbx HX.out.1; have c1 := cell_below hbx HX.out.2.1; have c2 := cell_below hbx HX.out.2.2; have ho := Lib.hid (own_low (B' := w.heap.size) (n := k + 1) (by have h7 := hown; rw [H1.out] at h7; exact h7) (by simp <;> omega)); clear hown) | (refine step_append_lies _ rfl (.tmp 25) (.tmp 27) 121 rfl w.heap.size 127 i0 (.agg #[.int .u64 0, .string ByteArray.empty, .bool false]) 3 32 Try.underlying121 hi hz0 hz1 hz2 rfl (by decide) _ (k + 1) (l.flatMap cellE) rfl (by first | exact ho.out | exact ho.out.alloc _) _ 1 1 [.int .u64 t, .string s, .bool d] rfl rfl (by first | exact World.news_of_block (valloc_at _ _) | exact fun j u hj => cell_below hb2 (World.news_of_block (valloc_at' _ _ _ (by simp)) j u hj)) (by simp [Value.oneCell']) (by omega) (by have := HL.out; have := H1.out; unfold maxLen; omega) (by have := HL.out; have := H1.out; omega) (by have := hb2.size; simp at this; simp <;> omega) _ rfl ?_; intro g1 cp1 w3 hown3 hgr3 hg3 hg3s))
  all_goals (
    have hob := Lib.hid (vown_block ho.out)
    have HO3 := Lib.hid (own_low (B' := w.heap.size) (show World.ownsRow _ _ 127 3 _ (l ++ [(t, s, d)]).length ((l ++ [(t, s, d)]).flatMap cellE) from by rw [List.flatMap_append, List.length_append, H1.out]; simp only [List.flatMap_cons, List.flatMap_nil, List.append_nil, List.length_singleton]; exact hown3) (by first | omega | simp | (simp; omega)))
    have hb3 := Lib.hid (Below.trans (Below.trans (B := w.heap.size) (a := w) (by (repeat (first | exact Below.refl _ _ | refine Below.alloc ?_ (by first | omega | (simp; done) | (simp; omega)) _ | refine Below.drew ?_ | refine below_draws ?_ _))) (hb2.mono (by simp <;> omega))) (Below.grown (B := w.heap.size) (by have hsz := hb2.size; simp at hsz; (repeat (first | exact Below.refl _ _ | refine Below.alloc ?_ (by first | omega | (simp; done) | (simp; omega)) _ | refine Below.drew ?_ | refine below_draws ?_ _))) hgr3 (by have := hb2.size; simp at this; simp <;> omega) hob.out))
    clear hown3 hgr3
    go_wp2
    go_ret2
    exact ⟨_, rfl, row_kept_new HO3.out (below_grown (by (repeat (first | exact Below.refl _ _ | refine Below.alloc ?_ (by first | omega | (simp; done) | (simp; omega)) _ | refine Below.drew ?_ | refine below_draws ?_ _)))), hb3.out⟩)

theorem put_row (v : Value) (l : List CellT) (c : CellT) (w : World) (hs : SliceOf cellE 3 w v l) (hl : l.length ≤ 900) (h0 : 0 < c.1) (h : lastTs 0 l < c.1) :
    Calls Try.prog 62 #[v, .agg #[.int .u64 c.1, .string c.2.1, .bool c.2.2]] w fun e w' => ∃ v', e = .returned (.tuple #[v', .int .i64 0]) ∧ w'.ownsRow w.heap.size 127 3 v' (l ++ [c]).length ((l ++ [c]).flatMap cellE) ∧ Below w.heap.size w w' := by
  by_cases h1 : l.length = 0
  · exact put_newR v l c w hs hl h0 h1
  · rw [lastTs_ts 0 l (by omega)] at h
    exact put_oldR v l c w hs hl h0 (l.length - 1) (by omega) h
end Go.Proofs.Ytbjbcbbhmbpndaa

/- Package mvcc: rising keys, and what each has. Conditions: none. -/
namespace Go.Proofs.Ytbjbcbbhmbpndaa
open Go.RowKit Go.PlainAid
set_option linter.unusedVariables false

abbrev Fv := ByteArray → List CellT
def Kup (K : List ByteArray) : Prop := K.Pairwise (fun a b => klt a b = true)
def insY : List ByteArray → ByteArray → List ByteArray
  | [], k => [k]
  | a :: r, k => if klt k a = true then k :: a :: r else if klt a k = true then a :: insY r k else a :: r
def delY : List ByteArray → ByteArray → List ByteArray
  | [], _ => []
  | a :: r, k => if klt k a = true then a :: r else if klt a k = true then a :: delY r k else r
theorem klt_ne {a b : ByteArray} (h : klt a b = true) : a ≠ b := fun e => by rw [e, klt_irr] at h; cases h
theorem ins_keys (L : List Kv) (k : ByteArray) (v : SlT) : (insL L k v).map (·.1) = insY (L.map (·.1)) k := by
  induction L with
  | nil => rfl
  | cons a r ih => simp only [insL, insY, List.map_cons]; split <;> (try split) <;> simp [ih]
theorem del_keys (L : List Kv) (k : ByteArray) : (delL L k).map (·.1) = delY (L.map (·.1)) k := by
  induction L with
  | nil => rfl
  | cons a r ih => simp only [delL, delY, List.map_cons]; split <;> (try split) <;> simp [ih]
theorem mem_insY {K : List ByteArray} {k x : ByteArray} : x ∈ insY K k ↔ x = k ∨ x ∈ K := by
  induction K with
  | nil => simp [insY]
  | cons a r ih =>
    unfold insY
    split
    · simp
    · split
      · rw [List.mem_cons, ih, List.mem_cons]; constructor
        · rintro (h | h | h)
          · exact .inr (.inl h)
          · exact .inl h
          · exact .inr (.inr h)
        · rintro (h | h | h)
          · exact .inr (.inl h)
          · exact .inl h
          · exact .inr (.inr h)
      · rename_i h1 h2
        have e := klt_eq (by simpa using h1) (by simpa using h2)
        subst e
        simp
theorem len_insY (K : List ByteArray) (k : ByteArray) : (insY K k).length ≤ K.length + 1 := by
  induction K with
  | nil => simp [insY]
  | cons a r ih => unfold insY; split; simp; split <;> simp <;> omega
theorem up_srt {L : List Kv} : Srt L ↔ Kup (L.map (·.1)) := by unfold Srt Kup; rw [List.pairwise_map]
theorem mem_delY {K : List ByteArray} {k x : ByteArray} (h : Kup K) : x ∈ delY K k ↔ x ∈ K ∧ x ≠ k := by
  induction K with
  | nil => simp [delY]
  | cons a r ih =>
    obtain ⟨h1, h2⟩ := List.pairwise_cons.1 h
    unfold delY
    split
    · rename_i q
      constructor
      · intro hx
        refine ⟨hx, ?_⟩
        rcases List.mem_cons.1 hx with rfl | hx
        · exact (klt_ne q).symm
        · exact (klt_ne (klt_tr q (h1 x hx))).symm
      · exact fun hx => hx.1
    · split
      · rename_i q
        rw [List.mem_cons, ih h2, List.mem_cons]
        constructor
        · rintro (rfl | ⟨hx, hn⟩)
          · exact ⟨.inl rfl, klt_ne q⟩
          · exact ⟨.inr hx, hn⟩
        · rintro ⟨rfl | hx, hn⟩
          · exact .inl rfl
          · exact .inr ⟨hx, hn⟩
      · rename_i q1 q2
        have e := klt_eq (by simpa using q1) (by simpa using q2)
        subst e
        rw [List.mem_cons]
        constructor
        · intro hx; exact ⟨.inr hx, (klt_ne (h1 x hx)).symm⟩
        · rintro ⟨rfl | hx, hn⟩
          · exact absurd rfl hn
          · exact hx
theorem get_mem {L : List Kv} {k : ByteArray} (h : Srt L) : (k ∈ L.map (·.1) → (k, getL L k) ∈ L) ∧ (k ∉ L.map (·.1) → getL L k = ⟨none, 0, 0⟩) := by
  induction L with
  | nil => simp [getL]
  | cons a r ih =>
    obtain ⟨h1, h2⟩ := List.pairwise_cons.1 h
    obtain ⟨i1, i2⟩ := ih h2
    rw [List.map_cons, List.mem_cons]
    unfold getL
    split
    · rename_i q
      refine ⟨fun hx => ?_, fun _ => rfl⟩
      exfalso
      rcases hx with rfl | hx
      · rw [klt_irr] at q; cases q
      · obtain ⟨c, hc, rfl⟩ := List.mem_map.1 hx
        have := klt_tr q (h1 c hc); rw [klt_irr] at this; cases this
    · split
      · rename_i q
        refine ⟨fun hx => ?_, fun hx => i2 (fun hq => hx (.inr hq))⟩
        rcases hx with rfl | hx
        · rw [klt_irr] at q; cases q
        · exact List.mem_cons_of_mem _ (i1 hx)
      · rename_i q1 q2
        have e := klt_eq (by simpa using q1) (by simpa using q2)
        exact ⟨fun _ => by rw [e]; exact List.mem_cons_self, fun hx => absurd (.inl e) hx⟩
theorem ins_mem {L : List Kv} {k : ByteArray} {v : SlT} {a : Kv} (h : Srt L) (ha : a ∈ insL L k v) : a = (k, v) ∨ (a ∈ L ∧ a.1 ≠ k) := by
  induction L with
  | nil => simp [insL] at ha; exact .inl ha
  | cons c r ih =>
    obtain ⟨h1, h2⟩ := List.pairwise_cons.1 h
    unfold insL at ha
    split at ha
    · rename_i q
      rcases List.mem_cons.1 ha with rfl | ha
      · exact .inl rfl
      · refine .inr ⟨ha, ?_⟩
        rcases List.mem_cons.1 ha with rfl | ha
        · exact (klt_ne q).symm
        · exact (klt_ne (klt_tr q (h1 a ha))).symm
    · split at ha
      · rename_i q
        rcases List.mem_cons.1 ha with rfl | ha
        · exact .inr ⟨List.mem_cons_self, klt_ne q⟩
        · rcases ih h2 ha with e | ⟨e, hn⟩
          · exact .inl e
          · exact .inr ⟨List.mem_cons_of_mem _ e, hn⟩
      · rename_i q1 q2
        have e := klt_eq (by simpa using q1) (by simpa using q2)
        rcases List.mem_cons.1 ha with rfl | ha
        · exact .inl (by rw [e])
        · exact .inr ⟨List.mem_cons_of_mem _ ha, by rw [e]; exact (klt_ne (h1 a ha)).symm⟩
theorem del_mem {L : List Kv} {k : ByteArray} {a : Kv} (h : Srt L) (ha : a ∈ delL L k) : a ∈ L ∧ a.1 ≠ k := by
  refine ⟨(delL_sub L).subset ha, ?_⟩
  have : a.1 ∈ delY (L.map (·.1)) k := by rw [← del_keys]; exact List.mem_map_of_mem ha
  exact ((mem_delY (up_srt.1 h)).1 this).2
/-- Two rising lists with the same members are one. -/
theorem up_ext {α : Type} {key : α → ByteArray} : ∀ {A B : List α}, A.Pairwise (fun a b => klt (key a) (key b) = true) → B.Pairwise (fun a b => klt (key a) (key b) = true) → (∀ x, x ∈ A ↔ x ∈ B) → A = B
  | [], [], _, _, _ => rfl
  | [], b :: B, _, _, h => absurd ((h b).2 List.mem_cons_self) (by simp)
  | a :: A, [], _, _, h => absurd ((h a).1 List.mem_cons_self) (by simp)
  | a :: A, b :: B, hA, hB, h => by
    obtain ⟨a1, a2⟩ := List.pairwise_cons.1 hA
    obtain ⟨b1, b2⟩ := List.pairwise_cons.1 hB
    have e : a = b := by
      rcases List.mem_cons.1 ((h a).1 List.mem_cons_self) with e | e
      · exact e
      · rcases List.mem_cons.1 ((h b).2 List.mem_cons_self) with e2 | e2
        · exact e2.symm
        · have := klt_tr (a1 b e2) (b1 a e); rw [klt_irr] at this; cases this
    subst e
    rw [up_ext a2 b2 fun x => ?_]
    constructor
    · intro hx
      rcases List.mem_cons.1 ((h x).1 (List.mem_cons_of_mem _ hx)) with e | e
      · subst e; have := a1 x hx; rw [klt_irr] at this; cases this
      · exact e
    · intro hx
      rcases List.mem_cons.1 ((h x).2 (List.mem_cons_of_mem _ hx)) with e | e
      · subst e; have := b1 x hx; rw [klt_irr] at this; cases this
      · exact e
open Classical in
noncomputable def upd (f : Fv) (k : ByteArray) (l : List CellT) : Fv := fun x => if x = k then l else f x
theorem upd_eq (f : Fv) (k : ByteArray) (l : List CellT) : upd f k l k = l := by unfold upd; rw [if_pos rfl]
theorem upd_ne {f : Fv} {k x : ByteArray} {l : List CellT} (h : x ≠ k) : upd f k l x = f x := by unfold upd; rw [if_neg h]
/-- The keys of K are those that have something. -/
structure KOf (K : List ByteArray) (f : Fv) : Prop where
  up : Kup K
  mem : ∀ k, k ∈ K ↔ f k ≠ []
theorem KOf.one {K K' : List ByteArray} {f : Fv} (h : KOf K f) (h' : KOf K' f) : K = K' := up_ext (key := fun x => x) h.up h'.up fun x => by rw [h.mem, h'.mem]
/-- The versions of a key are right, up to a time, and not too many. -/
structure FOk (f : Fv) (B : Int) (n : Nat) : Prop where
  ok : ∀ k, ∀ c ∈ f k, cellOk c
  up : ∀ k, rises 0 (f k) = true
  le : ∀ k, lastTs 0 (f k) ≤ B
  len : ∀ k, (f k).length ≤ n
theorem FOk.mono {f : Fv} {B B' : Int} {n n' : Nat} (h : FOk f B n) (hB : B ≤ B') (hn : n ≤ n') : FOk f B' n' := ⟨h.ok, h.up, fun k => Int.le_trans (h.le k) hB, fun k => Nat.le_trans (h.len k) hn⟩
abbrev OpC := ByteArray × ByteArray × Bool
theorem snocRec {α : Type} {P : List α → Prop} (nil : P []) (append_singleton : ∀ (l : List α) (a : α), P l → P (l ++ [a])) (l : List α) : P l := by
  have : ∀ r : List α, P r.reverse := by
    intro r
    induction r with
    | nil => exact nil
    | cons a r ih => rw [List.reverse_cons]; exact append_singleton _ a ih
  have h := this l.reverse
  rwa [List.reverse_reverse] at h
/-- What a list of operations lays at a time. -/
noncomputable def putsF (f : Fv) (ts : Int) (l : List OpC) : Fv := l.foldl (fun f o => upd f o.1 (f o.1 ++ [(ts, o.2.1, o.2.2)])) f
theorem putsF_snoc (f : Fv) (ts : Int) (l : List OpC) (o : OpC) : putsF f ts (l ++ [o]) = upd (putsF f ts l) o.1 (putsF f ts l o.1 ++ [(ts, o.2.1, o.2.2)]) := by unfold putsF; rw [List.foldl_append]; rfl
theorem putsF_off {f : Fv} {ts : Int} {l : List OpC} {k : ByteArray} : (∀ o ∈ l, o.1 ≠ k) → putsF f ts l k = f k := by
  induction l using snocRec with
  | nil => intro _; rfl
  | append_singleton l o ih =>
    intro h
    rw [putsF_snoc, upd_ne (fun e => h o (by simp) e.symm), ih fun o ho => h o (by simp [ho])]
/-- Each key is laid once at most: it has what it had, or one version more. -/
theorem putsF_at {f : Fv} {ts : Int} {l : List OpC} (hd : l.Pairwise (fun a b => klt a.1 b.1 = true)) (k : ByteArray) : putsF f ts l k = f k ∨ ∃ o ∈ l, o.1 = k ∧ putsF f ts l k = f k ++ [(ts, o.2.1, o.2.2)] := by
  induction l using snocRec with
  | nil => exact .inl rfl
  | append_singleton l o ih =>
    obtain ⟨h1, -, h3⟩ := List.pairwise_append.1 hd
    rw [putsF_snoc]
    by_cases e : k = o.1
    · subst e
      rw [upd_eq, putsF_off fun z hz => klt_ne (h3 z hz o (by simp))]
      exact .inr ⟨o, by simp, rfl, rfl⟩
    · rw [upd_ne e]
      rcases ih h1 with h | ⟨z, hz, h⟩
      · exact .inl h
      · exact .inr ⟨z, by simp [hz], h⟩
theorem FOk.puts {f : Fv} {B ts : Int} {n : Nat} {l : List OpC} (h : FOk f B n) (hB : B < ts) (h0 : 0 < ts ∧ ts < 18446744073709551616) (hd : l.Pairwise (fun a b => klt a.1 b.1 = true)) : FOk (putsF f ts l) ts (n + 1) := by
  have hc : ∀ o : OpC, cellOk (ts, o.2.1, o.2.2) := fun o => by show (Lit.int .u64 ts).wf = true; simp [Lit.wf, IntKind.min, IntKind.max, IntKind.signed, IntKind.bits]; omega
  refine ⟨fun k => ?_, fun k => ?_, fun k => ?_, fun k => ?_⟩ <;> rcases putsF_at (f := f) (ts := ts) hd k with e | ⟨o, ho, hk, e⟩ <;> rw [e]
  · exact h.ok k
  · intro c hc'
    rcases List.mem_append.1 hc' with q | q
    · exact h.ok k c q
    · simp only [List.mem_singleton] at q; rw [q]; exact hc o
  · exact h.up k
  · rw [rises_snoc, h.up k, Bool.true_and]; exact decide_eq_true (by have := h.le k; show _ < ts; omega)
  · have := h.le k; omega
  · rw [lastTs_snoc]; exact Int.le_refl _
  · have := h.len k; omega
  · have := h.len k; simp; omega
noncomputable def pruneF (f : Fv) (h : Int) : Fv := fun k => (f k).drop (pruneN (f k) h)
theorem lastTs_drop : ∀ (l : List CellT) (k : Nat), rises 0 l = true → lastTs 0 (l.drop k) ≤ lastTs 0 l := by
  intro l k hr
  by_cases hk : k < l.length
  · have h1 : 0 < (l.drop k).length := by simp; omega
    rw [lastTs_ts 0 _ h1, lastTs_ts 0 l (by omega), ts_drop, List.length_drop, show k + (l.length - k - 1) = l.length - 1 by omega]; exact Int.le_refl _
  · rw [List.drop_eq_nil_of_le (by omega)]
    by_cases h0 : 0 < l.length
    · rw [lastTs_ts 0 l h0]
      have : ∀ a : Int, lastTs a [] = a := fun a => rfl
      rw [this]
      by_cases h1 : 1 < l.length
      · have := (rises_lt 0 l hr 0 (l.length - 1) (by omega) (by omega)); omega
      · have e : l.length - 1 = 0 := by omega
        rw [e]
        cases l with
        | nil => simp at h0
        | cons c r => simp only [rises, Bool.and_eq_true, decide_eq_true_eq] at hr; show (0 : Int) ≤ c.1; omega
    · obtain rfl : l = [] := List.eq_nil_of_length_eq_zero (by omega)
      exact Int.le_refl _
theorem FOk.prune {f : Fv} {B : Int} {n : Nat} (hf : FOk f B n) (h : Int) : FOk (pruneF f h) B n :=
  ⟨fun k c hc => hf.ok k c (List.mem_of_mem_drop hc), fun k => rises_drop _ (hf.up k), fun k => Int.le_trans (lastTs_drop _ _ (hf.up k)) (hf.le k), fun k => by have := hf.len k; unfold pruneF; rw [List.length_drop]; omega⟩
theorem prune_at {f : Fv} {B : Int} {n : Nat} (hf : FOk f B n) {h t : Int} (ht : h ≤ t) (k : ByteArray) : atS (pruneF f h k) t = atS (f k) t := (prune_law (hf.up k) h h t (Int.le_refl _) ht).2.2.2.symm
theorem puts_at {f : Fv} {B ts : Int} {n : Nat} {l : List OpC} (hd : l.Pairwise (fun a b => klt a.1 b.1 = true)) {t : Int} (ht : t < ts) (k : ByteArray) : atS (putsF f ts l k) t = atS (f k) t := by
  rcases putsF_at (f := f) (ts := ts) hd k with e | ⟨o, ho, hk, e⟩ <;> rw [e]
  exact at_before _ _ ht
end Go.Proofs.Ytbjbcbbhmbpndaa

/- Package mvcc: a tree of versions as an object: Get, Put, Del, Keys; vers.Put beside it. Conditions: at most 80000 keys, 900 versions each. -/
namespace Go.Proofs.Ytbjbcbbhmbpndaa
open Go.RowKit Go.PlainAid Go.Shelf
set_option linter.unusedVariables false

theorem own_ne_blk {w : World} {N : Nat} {T : TypeId} {cs : Array Value} {B sz k : Nat} {e : TypeId} {v : Value} {xs : List Value} (h : w.ownsRow B e sz v k xs) (hb : Blk w N T cs) (hT : e ≠ T) : v.ownBlock ≠ some N := fun e1 => by
  rcases h.2 with ⟨hv, _⟩ | ⟨g, cap, cur, hv, _, hh, _⟩
  · rw [hv] at e1; cases e1
  · rw [hv] at e1
    have : g = N := by simpa [Value.ownBlock] using e1
    subst this
    unfold Blk at hb
    rw [hh] at hb
    injection hb with h1; injection h1 with h2 h3
    exact hT h3
def slV (v : SlT) : Value := .slice v.a v.n v.c
def cellRow (w : World) (v : Value) (l : List CellT) : Prop := w.ownsRow 0 127 3 v l.length (l.flatMap cellE)
section
variable {S D : Nat → Prop} {w x : World} {v : Value} {l : List CellT} {tb : Nat} {K : List ByteArray} {f : Fv} {L : List Kv} {d : Int} {t : Tm} {q : Nat}
theorem cellRow.sl (h : cellRow w v l) : SliceOf cellE 3 w v l := SliceOf.own h (fun _ _ => rfl)
theorem cellRow.keep (h : cellRow w v l) (hk : ∀ i, v.ownBlock = some i → x.heap[i]? = w.heap[i]?) : cellRow x v l := row_sameL h hk
theorem TreeAt.blk : ∀ {t : Tm}, TreeAt w t → q ∈ bk t → ∃ cs, Blk w q 180 cs
  | .nil, _, h => by simp [bk] at h
  | .nd b l k v d r, h, hq => by
    simp only [bk, List.mem_cons, List.mem_append] at hq
    rcases hq with rfl | hq | hq
    · exact ⟨_, h.1⟩
    · exact TreeAt.blk h.2.1 hq
    · exact TreeAt.blk h.2.2 hq
theorem TrO.offRow (h : TrO S w tb L d) (hr : cellRow w v l) : ∀ g, v.ownBlock = some g → ¬ S g := fun g hg hq => by
  obtain ⟨t, h1, h2, _, _, _, _, _, _, h9⟩ := h
  rcases (h9 g).1 hq with rfl | hq
  · exact own_ne_blk hr h1 (by decide) hg
  · obtain ⟨cs, hb⟩ := TreeAt.blk h2 hq
    exact own_ne_blk hr hb (by decide) hg
/-- A tree with the versions of each key; S holds all its blocks. -/
def VkO (S : Nat → Prop) (w : World) (tb : Nat) (K : List ByteArray) (f : Fv) : Prop :=
  ∃ (S0 : Nat → Prop) (L : List Kv) (d : Int), TrO S0 w tb L d ∧ L.map (·.1) = K ∧ KOf K f ∧
    (∀ a ∈ L, cellRow w (slV a.2) (f a.1) ∧ ∀ g, (slV a.2).ownBlock = some g → S g) ∧ (∀ q, S0 q → S q) ∧ ∀ q, S q → q < w.heap.size
theorem VkO.ofS (h : VkO S w tb K f) : ∀ q, S q → q < w.heap.size := by obtain ⟨S0, L, d, h1, h2, h3, h4, h5, h6⟩ := h; exact h6
theorem VkO.kof (h : VkO S w tb K f) : KOf K f := by obtain ⟨S0, L, d, h1, h2, h3, h4, h5, h6⟩ := h; exact h3
theorem VkO.keep (h : VkO S w tb K f) (hk : ∀ q, S q → x.heap[q]? = w.heap[q]?) (hz : w.heap.size ≤ x.heap.size) : VkO S x tb K f := by
  obtain ⟨S0, L, d, h1, h2, h3, h4, h5, h6⟩ := h
  exact ⟨S0, L, d, h1.keep fun q hq => hk q (h5 q hq), h2, h3, fun a ha => ⟨(h4 a ha).1.keep fun i hi => hk i ((h4 a ha).2 i hi), (h4 a ha).2⟩, h5, fun q hq => Nat.lt_of_lt_of_le (h6 q hq) hz⟩
theorem VkO.gr {row : Option Nat} (h : VkO S w tb K f) (hg : w.grownBy x row) (hr : ∀ k, row = some k → ¬ S k) : VkO S x tb K f :=
  h.keep (fun q hq => hg.block q (h.ofS q hq) (fun e => hr q e.symm hq)) hg.size
theorem VkO.but (h : VkO S w tb K f) (hb : But D w x) (ha : ∀ q, D q → S q → False) : VkO S x tb K f :=
  h.keep (fun q hq => hb.block q (h.ofS q hq) (fun hd => ha q hd hq)) hb.size
theorem VkO.below (h : VkO S w tb K f) (hb : Below w.heap.size w x) : VkO S x tb K f := h.keep (fun q hq => hb.block q (h.ofS q hq)) hb.size
theorem VkO.ext (h : VkO S w tb K f) (hr : cellRow w v l) : VkO (fun q => S q ∨ v.ownBlock = some q) w tb K f := by
  obtain ⟨S0, L, d, h1, h2, h3, h4, h5, h6⟩ := h
  refine ⟨S0, L, d, h1, h2, h3, fun a ha => ⟨(h4 a ha).1, fun g hg => .inl ((h4 a ha).2 g hg)⟩, fun q hq => .inl (h5 q hq), fun q hq => ?_⟩
  rcases hq with hq | hq
  · exact h6 q hq
  · exact (hr.lt q hq).2
end
set_option maxRecDepth 100000
theorem vget_any (S : Nat → Prop) (w : World) (tb : Nat) (K : List ByteArray) (f : Fv) (k : ByteArray) (h : VkO S w tb K f) :
    Calls Try.prog 61 #[pt tb 0, .string k] w fun e w' => ∃ (v : SlT) (b : Bool), e = .returned (.tuple #[slV v, .bool b]) ∧ cellRow w' (slV v) (f k) ∧ (∀ g, (slV v).ownBlock = some g → S g) ∧ w = w' := by
  obtain ⟨S0, L, d, h1, h2, h3, h4, h5, h6⟩ := h
  refine (tget_any S0 w tb L d k h1).mono ?_
  rintro e w' ⟨rfl, rfl⟩
  obtain ⟨g1, g2⟩ := get_mem (k := k) h1.srt
  by_cases hk : k ∈ L.map (·.1)
  · exact ⟨getL L k, _, rfl, (h4 _ (g1 hk)).1, (h4 _ (g1 hk)).2, rfl⟩
  · have e : f k = [] := by
      have := h3.mem k; rw [h2] at hk
      by_cases q : f k = []
      · exact q
      · exact absurd (this.2 q) hk
    refine ⟨getL L k, _, rfl, ?_, ?_, rfl⟩ <;> rw [g2 hk]
    · rw [e]; exact World.ownsRow_nil _ _ _ _
    · intro g hg; cases hg
theorem vput_any (S : Nat → Prop) (w : World) (tb : Nat) (K : List ByteArray) (f : Fv) (k : ByteArray) (v : SlT) (l : List CellT) (h : VkO S w tb K f) (hv : cellRow w (slV v) l) (hS : ∀ g, (slV v).ownBlock = some g → S g) (hl : l ≠ []) (hK : K.length ≤ 80000) :
    Calls Try.prog 63 #[pt tb 0, .string k, slV v] w fun e w' => ∃ (b : Bool) (S' : Nat → Prop), e = .returned (.bool b) ∧ VkO S' w' tb (insY K k) (upd f k l) ∧ Grew S S' w w' := by
  obtain ⟨S0, L, d, h1, h2, h3, h4, h5, h6⟩ := h
  refine (tput_any S0 w tb L d k v h1 (by rw [← h2, List.length_map] at hK; exact hK)).mono ?_
  rintro e w' ⟨d', S0', rfl, hT, hg⟩
  have hs := h1.srt
  have hkeep : ∀ {u : Value} {m : List CellT}, cellRow w u m → cellRow w' u m := fun hu => hu.keep fun i hi => hg.but.block i (hu.lt i hi).2 (h1.offRow hu i hi)
  refine ⟨_, fun q => S q ∨ S0' q, rfl, ⟨S0', insL L k v, d', hT, by rw [ins_keys, h2], ⟨?_, fun x => ?_⟩, fun a ha => ?_, fun q hq => .inr hq, fun q hq => ?_⟩, fun q hq => ?_, hg.but.mono fun q _ hq => h5 q hq⟩
  · rw [← h2, ← ins_keys]; exact up_srt.1 hT.srt
  · rw [mem_insY]
    by_cases e : x = k
    · subst e; rw [upd_eq]; exact ⟨fun _ => hl, fun _ => .inl rfl⟩
    · rw [upd_ne e, ← h3.mem x]; exact ⟨fun q => q.resolve_left e, .inr⟩
  · rcases ins_mem hs ha with rfl | ⟨ha, hn⟩
    · refine ⟨?_, fun g hg => .inl (hS g hg)⟩
      show cellRow w' (slV v) (upd f k l k)
      rw [upd_eq]; exact hkeep hv
    · rw [upd_ne hn]; exact ⟨hkeep (h4 a ha).1, fun g hg => .inl ((h4 a ha).2 g hg)⟩
  · rcases hq with hq | hq
    · exact Nat.lt_of_lt_of_le (h6 q hq) hg.but.size
    · exact hT.ofS q hq
  · rcases hq with hq | hq
    · exact .inl hq
    · rcases hg.sub q hq with h | h
      · exact .inl (h5 q h)
      · exact .inr h
theorem vdel_any (S : Nat → Prop) (w : World) (tb : Nat) (K : List ByteArray) (f : Fv) (k : ByteArray) (h : VkO S w tb K f) (hK : K.length ≤ 80000) :
    Calls Try.prog 66 #[pt tb 0, .string k] w fun e w' => ∃ (b : Bool) (S' : Nat → Prop), e = .returned (.bool b) ∧ VkO S' w' tb (delY K k) (upd f k []) ∧ Grew S S' w w' := by
  obtain ⟨S0, L, d, h1, h2, h3, h4, h5, h6⟩ := h
  refine (tdel_any S0 w tb L d k h1 (by rw [← h2, List.length_map] at hK; exact hK)).mono ?_
  rintro e w' ⟨d', S0', rfl, hT, hg⟩
  have hs := h1.srt
  have hkeep : ∀ {u : Value} {m : List CellT}, cellRow w u m → cellRow w' u m := fun hu => hu.keep fun i hi => hg.but.block i (hu.lt i hi).2 (h1.offRow hu i hi)
  refine ⟨_, fun q => S q ∨ S0' q, rfl, ⟨S0', delL L k, d', hT, by rw [del_keys, h2], ⟨?_, fun x => ?_⟩, fun a ha => ?_, fun q hq => .inr hq, fun q hq => ?_⟩, fun q hq => ?_, hg.but.mono fun q _ hq => h5 q hq⟩
  · rw [← h2, ← del_keys]; exact up_srt.1 hT.srt
  · rw [mem_delY h3.up]
    by_cases e : x = k
    · subst e; rw [upd_eq]; exact ⟨fun q => absurd rfl q.2, fun q => absurd rfl q⟩
    · rw [upd_ne e, ← h3.mem x]; exact ⟨fun q => q.1, fun q => ⟨q, e⟩⟩
  · obtain ⟨ha, hn⟩ := del_mem hs ha
    rw [upd_ne hn]; exact ⟨hkeep (h4 a ha).1, fun g hg => .inl ((h4 a ha).2 g hg)⟩
  · rcases hq with hq | hq
    · exact Nat.lt_of_lt_of_le (h6 q hq) hg.but.size
    · exact hT.ofS q hq
  · rcases hq with hq | hq
    · exact .inl hq
    · rcases hg.sub q hq with h | h
      · exact .inl (h5 q h)
      · exact .inr h
/-- The range tells this key. -/
def inR (F T k : ByteArray) : Bool := !(klt k F) && !(hit T k)
theorem hit_up {T a b : ByteArray} (h : hit T a = true) (hab : klt a b = true) : hit T b = true := by
  unfold hit at h ⊢
  simp only [Bool.and_eq_true, Bool.not_eq_true'] at h ⊢
  refine ⟨h.1, ?_⟩
  cases hb : Op.bytesLess b.toList T.toList with
  | false => rfl
  | true => have := klt_tr hab (show klt b T = true from hb); rw [show klt a T = false from h.2] at this; cases this
theorem cut_filter {T : ByteArray} : ∀ {l : List ByteArray}, Kup l → kcut T l = l.filter (fun k => !(hit T k))
  | [], _ => rfl
  | a :: r, h => by
    obtain ⟨h1, h2⟩ := List.pairwise_cons.1 h
    have ih := cut_filter (T := T) h2
    unfold kcut at ih ⊢
    rw [List.takeWhile_cons, List.filter_cons]
    cases ha : hit T a with
    | false => simp [ih]
    | true =>
      simp only [Bool.not_true, Bool.false_eq_true, if_false]
      rw [List.filter_eq_nil_iff.2 fun x hx => by simp [hit_up ha (h1 x hx)]]
theorem wk_filter (F : ByteArray) (L : List Kv) : wkL F L = (L.map (·.1)).filter (fun k => !(klt k F)) := by unfold wkL; rw [List.filter_map]; rfl
theorem vkeys_any (S : Nat → Prop) (w : World) (tb : Nat) (K : List ByteArray) (f : Fv) (F T : ByteArray) (h : VkO S w tb K f) (hK : K.length ≤ 80000) :
    Calls Try.prog 64 #[pt tb 0, .string F, .string T] w fun e w' => ∃ u, e = .returned u ∧ w'.ownsRow w.heap.size 9 1 u (K.filter (inR F T)).length ((K.filter (inR F T)).flatMap strE) ∧ Below w.heap.size w w' := by
  obtain ⟨S0, L, d, h1, h2, h3, h4, h5, h6⟩ := h
  have e : kcut T (wkL F L) = K.filter (inR F T) := by
    rw [wk_filter, h2, cut_filter (h3.up.sublist List.filter_sublist), List.filter_filter]
    congr 1; funext k; unfold inR; rw [Bool.and_comm]
  have := tkeys_any S0 w tb L d F T h1 (by rw [← h2, List.length_map] at hK; exact hK)
  rw [e] at this
  exact this
theorem vvput_any (S : Nat → Prop) (w : World) (tb : Nat) (K : List ByteArray) (f : Fv) (v : SlT) (l : List CellT) (c : CellT) (h : VkO S w tb K f) (hs : SliceOf cellE 3 w (slV v) l) (hl : l.length ≤ 900) (h0 : 0 < c.1) (hc : lastTs 0 l < c.1) :
    Calls Try.prog 62 #[slV v, .agg #[.int .u64 c.1, .string c.2.1, .bool c.2.2]] w fun e w' => ∃ (v' : SlT) (S' : Nat → Prop), e = .returned (.tuple #[slV v', .int .i64 0]) ∧ VkO S' w' tb K f ∧ cellRow w' (slV v') (l ++ [c]) ∧ (∀ g, (slV v').ownBlock = some g → S' g) ∧ Grew S S' w w' := by
  refine (put_row (slV v) l c w hs hl h0 hc).mono ?_
  rintro e w' ⟨u, rfl, hr, hb⟩
  obtain ⟨ao, n, cap, rfl⟩ := own_sliceT hr
  have hr0 : cellRow w' (.slice ao n cap) (l ++ [c]) := own_low hr (Nat.zero_le _)
  refine ⟨⟨ao, n, cap⟩, _, rfl, (h.below hb).ext hr0, hr0, fun g hg => .inr hg, fun q hq => ?_, But.of_grown0 (below_grown hb) _⟩
  rcases hq with hq | hq
  · exact .inl hq
  · exact .inr (hr.lt q hq).1
end Go.Proofs.Ytbjbcbbhmbpndaa

/- Package mvcc: zero, Get, Put. Conditions: at most 70000 keys, 800 versions each, 20 operations. -/
namespace Go.Proofs.Ytbjbcbbhmbpndaa
open Go.RowKit Go.PlainAid
set_option linter.unusedVariables false
set_option linter.unusedSimpArgs false

set_option maxRecDepth 100000 in
theorem mzero_any (b : Nat) (p : Value) (u : Value) (c : Value) (w : World) (hB : Blk w b 119 #[.bool true, p, u, c]) :
    Calls Try.prog 59 #[pt b 0] w fun e w' => e = .returned (.bool false) ∧ w = w' := by
 have hB0 := Below.refl w.heap.size w
 have hl_hB := hB.lt
 refine co_enter (n := 12) Try.func59 rfl rfl rfl [(0, pt b 0)] rfl (fun a h0 => ?_)
 refine co_seq ?_
 refine co_reg ?_
 refine pk0 (v := .bool false) h0 rfl fun a1 h1 => ?_; clear h0
 refine pl_nil ?_
 refine co_then ?_
 refine co_seq ?_
 refine co_reg ?_
 refine pk0 (v := pt b 0) h1 rfl fun a2 h2 => ?_; clear h1
 refine pk0 (v := .bool false) h2 rfl fun a3 h3 => ?_; clear h2
 refine pk0 (v := .bool false) h3 rfl fun a4 h4 => ?_; clear h3
 refine pk0 (v := pt b 0) h4 rfl fun a5 h5 => ?_; clear h4
 refine pk0 (v := pt b 0) h5 rfl fun a6 h6 => ?_; clear h5
 refine pk0 (v := pt b 0) h6 rfl fun a7 h7 => ?_; clear h6
 refine pk (v := .bool true) h7 rfl (rn_load1 rfl rfl Try.isAgg4 (hB.cell rfl)) fun a8 h8 => ?_; clear h7
 refine pk0 (v := .bool false) h8 rfl fun a9 h9 => ?_; clear h8
 refine pk0 (v := .bool false) h9 rfl fun a10 h10 => ?_; clear h9
 refine pk0 (v := .bool false) h10 rfl fun a11 h11 => ?_; clear h10
 refine pl_nil ?_
 refine co_then ?_
 refine wp_ret ?_
 refine co_ret1 h11 rfl rfl ?_
 exact ⟨rfl, rfl⟩

theorem cellE_len (c : CellT) : (cellE c).length = 3 := rfl
theorem cellE_oneC (c : CellT) : ∀ u ∈ cellE c, u.oneCell' = true := by intro u hu; simp [cellE] at hu; rcases hu with rfl | rfl | rfl <;> rfl
section
variable {S : Nat → Prop} {w x : World}
theorem sl_butN {α : Type} {enc : α → List Value} {sz : Nat} {v : Value} {l : List α} (h : SliceOf enc sz w v l) (hb : But S w x) (hv : l ≠ [] → ∀ k, v.ownBlock = some k → ¬ S k) : SliceOf enc sz x v l := by
  obtain ⟨ao, cap, rfl, h1, h2, h3, h4⟩ := h
  refine ⟨ao, cap, rfl, h1, h2, h3, fun j hj => ?_⟩
  obtain ⟨b, off, e, hr⟩ := h4 j hj
  subst e
  refine ⟨b, off, rfl, fun i u hu => ?_⟩
  have hc := hr i u hu
  have hlt := World.block_lt_of_cell? w _ hc
  exact (World.cell?_of_block (w := w) (hb.block b hlt (hv (fun q => by subst q; simp at hj) b rfl))).trans hc
end
theorem chkL_up : ∀ (p : Option ByteArray) (l : List OpT), chkL p l = 0 → (∀ q, p = some q → ∀ z ∈ l, klt q z.1 = true) ∧ l.Pairwise (fun a b => klt a.1 b.1 = true)
  | _, [], _ => ⟨fun _ _ z hz => by simp at hz, List.Pairwise.nil⟩
  | p, o :: r, h => by
    unfold chkL at h
    split at h
    · rename_i h0; exact absurd h h0
    · split at h
      · rename_i hu
        obtain ⟨h1, h2⟩ := chkL_up (some o.1) r h
        refine ⟨fun q e z hz => ?_, List.pairwise_cons.2 ⟨fun z hz => h1 o.1 rfl z hz, h2⟩⟩
        subst e
        rcases List.mem_cons.1 hz with rfl | hz
        · exact hu
        · exact klt_tr (show klt q o.1 = true from hu) (h1 o.1 rfl z hz)
      · cases h
theorem chkB_up {l : List OpT} {c r : Int} (h : chkB c r l = 0) : l.Pairwise (fun a b => klt a.1 b.1 = true) := (chkL_up none l (chkB_ok h).2.2.2).2
/-- What Put answers, and what it comes to. -/
def mvE (la ts : Int) (l : List OpT) : Int := if ts = 0 then 5 else if ts ≤ la then 18 else chkB 0 1 l
noncomputable def mvF (f : Fv) (la ts : Int) (l : List OpT) : Fv := if mvE la ts l = 0 then putsF f ts l else f
def mvLa (la ts : Int) (l : List OpT) : Int := if mvE la ts l = 0 then ts else la
def mvCe (la ts ce : Int) (l : List OpT) : Int := if mvE la ts l = 0 then ce + l.length else ce
section
variable {la ts ce : Int} {l : List OpT} {f : Fv} {n k : Nat} {y : OpT}
theorem mvE_a (h : ts = 0) : mvE la ts l = 5 := if_pos h
theorem mvE_b (h : ¬ ts = 0) (h2 : ts ≤ la) : mvE la ts l = 18 := by unfold mvE; rw [if_neg h, if_pos h2]
theorem mvE_c (h : ¬ ts = 0) (h2 : ¬ ts ≤ la) : mvE la ts l = chkB 0 1 l := by unfold mvE; rw [if_neg h, if_neg h2]
theorem mv_now (hF : FOk f la n) (hup : l.Pairwise (fun a b => klt a.1 b.1 = true)) (hy : l[k]? = some y) (hlt : la < ts) (hn : n ≤ 800) : (putsF f ts (l.take k) y.1).length ≤ 900 ∧ lastTs 0 (putsF f ts (l.take k) y.1) < ts := by
  obtain ⟨hk, e⟩ := List.getElem?_eq_some_iff.1 hy
  have e2 : putsF f ts (l.take k) y.1 = f y.1 := putsF_off fun o ho => by
    obtain ⟨j, hj, e3⟩ := List.mem_iff_getElem.1 ho
    rw [List.length_take] at hj
    rw [List.getElem_take] at e3
    rw [← e3, ← e]
    exact klt_ne (List.pairwise_iff_getElem.1 hup j k (by omega) hk (by omega))
  rw [e2]
  have h1 := hF.len y.1; have h2 := hF.le y.1
  exact ⟨by omega, by omega⟩
theorem mv_take (hy : l[k]? = some y) : putsF f ts (l.take (k + 1)) = upd (putsF f ts (l.take k)) y.1 (putsF f ts (l.take k) y.1 ++ [(ts, y.2.1, y.2.2)]) := by rw [takeO_at hy, putsF_snoc]
end
theorem strE_len (x : ByteArray) : (strE x).length = 1 := rfl
theorem vkeys2_any (S : Nat → Prop) (w : World) (tb : Nat) (K : List ByteArray) (f : Fv) (F T : ByteArray) (h : VkO S w tb K f) (hK : K.length ≤ 80000) :
    Calls Try.prog 64 #[pt tb 0, .string F, .string T] w fun e w' => ∃ (ao : Option Addr) (nn cap : Nat), e = .returned (.slice ao nn cap) ∧ w'.ownsRow w.heap.size 9 1 (.slice ao nn cap) (K.filter (inR F T)).length ((K.filter (inR F T)).flatMap strE) ∧ Below w.heap.size w w' := by
  refine (vkeys_any S w tb K f F T h hK).mono ?_
  rintro e w' ⟨u, rfl, hr, hb⟩
  obtain ⟨ao, n, cap, rfl⟩ := own_sliceT hr
  exact ⟨ao, n, cap, rfl, hr, hb⟩
set_option maxRecDepth 100000
theorem mget_blk (b tb : Nat) (u c : Value) (S : Nat → Prop) (K : List ByteArray) (f : Fv) (k : ByteArray) (t la : Int) (n : Nat) (w : World) (hB : Blk w b 119 #[.bool true, pt tb 0, u, c]) (hV : VkO S w tb K f) (hF : FOk f la n) :
    Calls Try.prog 51 #[pt b 0, .string k, .int .u64 t] w fun e w' => e = .returned (.tuple #[.string (atS (f k) t).1, .bool (atS (f k) t).2]) ∧ Below w.heap.size w w' := by
  have c1 : w.cell? ⟨b, 1, none⟩ = some (pt tb 0) := hB.cell (k := 1) rfl
  have HB := Lib.hid hB; have HV := Lib.hid hV; have HF := Lib.hid hF; clear hB hV hF
  go_enter Try.func51, Try.ntmps51
  go_wp2_with fail
  refine (mzero_any b _ _ _ w HB.out).mono ?_
  rintro e w1 ⟨rfl, rfl⟩
  go_wp2_with fail
  refine (vget_any S _ tb K f k HV.out).mono ?_
  rintro e w2 ⟨v, bb, rfl, hr, -, rfl⟩
  have HS := Lib.hid (cellRow.sl hr); clear hr
  unfold slV at HS ⊢
  go_wp2_with fail
  refine (at_any _ _ t _ HS.out (HF.out.ok k)).mono ?_
  rintro e w3 ⟨rfl, hb⟩
  have HBB := Lib.hid hb; clear hb
  go_wp2
  go_ret2
  exact ⟨rfl, HBB.out⟩

set_option maxRecDepth 100000 in
set_option maxHeartbeats 3200000 in
theorem mput_blk (S : Nat → Prop) (b : Nat) (tb : Nat) (K : List ByteArray) (f : Fv) (la : Int) (ce : Int) (n : Nat) (ts : Int) (v : Value) (l : List OpT) (w : World) (hB : Blk w b 119 #[.bool true, pt tb 0, .int .u64 la, .int .i64 ce]) (hV : VkO S w tb K f) (hSb : ¬ S b) (hF : FOk f la n) (hn : n ≤ 800) (hla : 0 ≤ la ∧ la < 18446744073709551616) (hce : -100000000000 ≤ ce ∧ ce ≤ 100000000000) (hs : SliceOf opE 3 w v l) (hvS : l ≠ [] → ∀ k, v.ownBlock = some k → ¬ (k = b ∨ S k)) (hts : 0 ≤ ts ∧ ts < 18446744073709551616) (hK : K.length ≤ 70000) (hl : l.length ≤ 20) :
    Calls Try.prog 22 #[pt b 0, .int .u64 ts, v] w fun e w' => ∃ (S' : Nat → Prop) (K' : List ByteArray), e = .returned (.int .i64 (mvE la ts l)) ∧ Blk w' b 119 #[.bool true, pt tb 0, .int .u64 (mvLa la ts l), .int .i64 (mvCe la ts ce l)] ∧ VkO S' w' tb K' (mvF f la ts l) ∧ (∀ q, S' q → (q = b ∨ S q) ∨ w.heap.size ≤ q) ∧ ¬ S' b ∧ K'.length ≤ K.length + l.length ∧ But (fun q => q = b ∨ S q) w w' := by
 have hB0 := But.refl (fun q => q = b ∨ S q) w
 have hl_hB := hB.lt
 have hl_hs := sl_len hs
 have hinS : ∀ k, S k → (k = b ∨ S k) ∨ w.heap.size ≤ k := fun k hk => .inl (.inr hk)
 have hinb : (b = b ∨ S b) ∨ w.heap.size ≤ b := .inl (.inl rfl)
 refine co_enter (n := 77) Try.func22 rfl rfl rfl [(0, pt b 0), (1, .int .u64 ts), (2, v)] rfl (fun a h0 => ?_)
 refine co_seq ?_
 refine co_reg ?_
 refine pk0 (v := .int .i64 0) h0 rfl fun a1 h1 => ?_; clear h0
 refine pl_nil ?_
 refine co_then ?_
 refine co_seq ?_
 refine co_seq ?_
 refine co_reg ?_
 refine pk0 (v := pt b 0) h1 rfl fun a2 h2 => ?_; clear h1
 refine pw h2 rfl (op_call (args := #[pt b 0]) (R := fun res xw => res = .bool false ∧ w = xw) rfl rfl rfl (by kernel_rfl) (by kernel_rfl) (Try.call59 _ _) (mzero_any b (pt tb 0) (.int .u64 la) (.int .i64 ce) w hB) (by rintro e x ⟨rfl, rfl⟩; exact ⟨_, rfl, rfl, rfl⟩)) ?_; clear h2
 rintro _ _ a3 ⟨rfl, rfl⟩ h3
 refine pl_nil ?_
 refine co_then ?_
 refine co_false h3 rfl ?_
 refine wp_skip ?_
 refine co_then ?_
 refine co_seq ?_
 refine co_seq ?_
 refine co_reg ?_
 refine pk0 (v := .int .u64 ts) h3 rfl fun a5 h5 => ?_; clear h3
 refine pk0 (v := .bool (ts == 0)) h5 rfl fun a6 h6 => ?_; clear h5
 refine pl_nil ?_
 refine co_then ?_
 cases hc7 : (ts == 0)
 ·
  rw [hc7] at h6
  have hp8 : ¬ (ts = 0) := by first | simpa using hc7 | simpa [and_assoc] using hc7
  clear hc7
  refine co_false h6 rfl ?_
  refine wp_skip ?_
  refine co_then ?_
  refine co_seq ?_
  refine co_seq ?_
  refine co_reg ?_
  refine pk0 (v := .int .u64 ts) h6 rfl fun a9 h9 => ?_; clear h6
  refine pk0 (v := pt b 0) h9 rfl fun a10 h10 => ?_; clear h9
  refine pk0 (v := pt b 0) h10 rfl fun a11 h11 => ?_; clear h10
  refine pk0 (v := pt b 2) h11 rfl fun a12 h12 => ?_; clear h11
  refine pk (v := .int .u64 la) h12 rfl (rn_load1 rfl rfl Try.isAgg23 (hB.cell rfl)) fun a13 h13 => ?_; clear h12
  refine pk0 (v := .bool (decide (ts ≤ la))) h13 rfl fun a14 h14 => ?_; clear h13
  refine pl_nil ?_
  refine co_then ?_
  cases hc15 : (decide (ts ≤ la))
  ·
   rw [hc15] at h14
   have hp16 : ¬ (ts ≤ la) := of_decide_eq_false hc15
   clear hc15
   refine co_false h14 rfl ?_
   refine wp_skip ?_
   refine co_then ?_
   refine co_seq ?_
   refine co_seq ?_
   refine co_reg ?_
   refine pk0 (v := v) h14 rfl fun a17 h17 => ?_; clear h14
   refine pk (v := .agg #[.int .i64 0, .int .i64 1, v]) h17 rfl (by obtain ⟨_, _, _, hq⟩ := sl_form (sl_butN hs hB0 hvS); subst hq; kernel_rfl) fun a18 h18 => ?_; clear h17
   refine pw h18 rfl (op_call (args := #[.agg #[.int .i64 0, .int .i64 1, v]]) (R := fun res xw => res = .int .i64 (chkB 0 1 l) ∧ Below w.heap.size w xw) rfl rfl rfl (by kernel_rfl) (by kernel_rfl) (Try.call60 _ _) (opsCheck_any 0 1 v l w (sl_butN hs hB0 hvS)) (by rintro e x ⟨rfl, h⟩; exact ⟨_, rfl, rfl, h⟩)) ?_; clear h18
   rintro _ w20 a19 ⟨rfl, hb21⟩ h19
   have hz22 := hb21.size
   have ho23 := VkO.ofS hV
   refine pk0 (v := .int .i64 (chkB 0 1 l)) h19 rfl fun a24 h24 => ?_; clear h19
   refine pl_nil ?_
   refine co_then ?_
   refine co_seq ?_
   refine co_reg ?_
   refine pk0 (v := .int .i64 (chkB 0 1 l)) h24 rfl fun a25 h25 => ?_; clear h24
   refine pk0 (v := .bool ((chkB 0 1 l) != 0)) h25 rfl fun a26 h26 => ?_; clear h25
   refine pl_nil ?_
   refine co_then ?_
   have hB28 := fbU_call hB0 hb21
   cases hc27 : ((chkB 0 1 l) != 0)
   ·
    rw [hc27] at h26
    have hp29 : ¬ ((chkB 0 1 l) ≠ 0) := by first | simpa using hc27 | simpa [and_assoc] using hc27
    clear hc27
    refine co_false h26 rfl ?_
    refine wp_skip ?_
    refine co_then ?_
    refine co_seq ?_
    refine co_seq ?_
    refine co_reg ?_
    refine pk0 (v := v) h26 rfl fun a30 h30 => ?_; clear h26
    refine pk (v := .int .i64 ((l.length : Nat) : Int)) h30 rfl (rn_len rfl rfl Try.underlying30 (sl_butN hs hB28 hvS)) fun a31 h31 => ?_; clear h30
    refine pk0 (v := .int .i64 0) h31 rfl fun a32 h32 => ?_; clear h31
    refine pl_nil ?_
    refine co_then ?_
    refine wp_block ?_
    have hE0 : chkB 0 1 l = 0 := by omega
    have hup := chkB_up hE0
    have hlt9 : la < ts := by omega
    have hE9 : mvE la ts l = 0 := by rw [mvE_c (by omega) (by omega)]; exact hE0
    have hin9 := hinS
    have hof9 := hSb
    have h33 : Slots 77 [(0, pt b 0), (1, .int .u64 ts), (2, v), (30, v), (31, .int .i64 ((l.length : Nat) : Int)), (32, .int .i64 0)] _ := h32.sub ⟨rfl, rfl, rfl, rfl, rfl, rfl, trivial⟩; clear h32
    refine co_loop (fun mm a x => ∃ (k : Nat) (SA : Nat → Prop) (KA : List ByteArray) (ca : Int), Slots 77 [(0, pt b 0), (1, .int .u64 ts), (2, v), (30, v), (31, .int .i64 ((l.length : Nat) : Int)), (32, .int .i64 ((k : Nat) : Int))] a ∧ mm = l.length - k ∧ (k ≤ l.length) ∧ (∀ k, SA k → (k = b ∨ S k) ∨ w.heap.size ≤ k) ∧ (¬ SA b) ∧ (KA.length ≤ K.length + k) ∧ (ca = ce + k) ∧ Blk x b 119 #[.bool true, pt tb 0, .int .u64 la, .int .i64 ca] ∧ VkO SA x tb KA (putsF f ts (l.take k)) ∧ But (fun q => q = b ∨ S q) w x) (l.length - 0) ?_ ?_
    have hk34 := hB.below hb21
    have hO35 := VkO.gr hV (below_grown hb21) (fun k e => by cases e)
    · exact ⟨0, S, K, ce, h33.sub ⟨rfl, rfl, rfl, rfl, rfl, (slot_eq rfl (congrArg (Value.int .i64) (by first | rfl | omega))), trivial⟩, rfl, by omega, by exact hin9, by exact hof9, by omega, by omega, hk34, hO35, hB28⟩
    · rintro k36 a37 w38 ⟨k, SA, KA, ca, h37, rfl, hi39, hi40, hi41, hi42, hi43, hf44, hf45, hB46⟩
      have hz47 := hB46.size
      have hl48 := hf44.lt
      have hinA : ∀ k, SA k → (k = b ∨ S k) ∨ w.heap.size ≤ k := by assumption
      have hofA : ¬ SA b := by assumption
      refine co_seq ?_
      refine co_reg ?_
      refine pk0 (v := .bool (decide (((k : Nat) : Int) < ((l.length : Nat) : Int)))) h37 rfl fun a49 h49 => ?_; clear h37
      refine pl_nil ?_
      refine co_then ?_
      refine co_seq ?_
      cases hc50 : (decide (((k : Nat) : Int) < ((l.length : Nat) : Int)))
      ·
       rw [hc50] at h49
       have hp51 : ¬ (((k : Nat) : Int) < ((l.length : Nat) : Int)) := of_decide_eq_false hc50
       clear hc50
       refine co_false h49 rfl ?_
       refine wp_exit ?_
       refine co_thenX ?_
       refine co_thenX ?_
       refine co_blockX ?_
       refine co_then ?_
       refine co_seq ?_
       refine co_reg ?_
       refine pk0 (v := pt b 0) h49 rfl fun a52 h52 => ?_; clear h49
       refine pk0 (v := .int .u64 ts) h52 rfl fun a53 h53 => ?_; clear h52
       refine pk0 (v := pt b 0) h53 rfl fun a54 h54 => ?_; clear h53
       refine pk0 (v := pt b 2) h54 rfl fun a55 h55 => ?_; clear h54
       refine pwD h55 rfl (op_store1 rfl rfl rfl rfl Try.sizeOf23 hf44 rfl) ?_; clear h55
       rintro _ w57 a56 ⟨hk58, hz59, hg60⟩ h56
       have hk58' : Blk w57 b 119 #[.bool true, pt tb 0, .int .u64 ts, .int .i64 ca] := hk58; clear hk58
       have hz61 := hg60.size
       refine pl_nil ?_
       refine co_then ?_
       refine co_seq ?_
       refine co_reg ?_
       refine pk0 (v := .int .i64 0) h56 rfl fun a62 h62 => ?_; clear h56
       refine pl_nil ?_
       refine co_then ?_
       refine wp_ret ?_
       refine co_ret1 h62 rfl rfl ?_
       have hO63 := VkO.gr hf45 hg60 (fun k e => by cases e; exact hofA)
       have hB64 := fbU_at hB46 hg60 (fun hlt => by rcases hinb with hq | hq; exact hq; omega)
       have hk9 : l.take k = l := List.take_of_length_le (by omega)
       have hE := hE9
       have hQ1 := hO63
       have hQ2 := hk58'
       have hc9 : ca = ce + l.length := by omega
       rw [hk9] at hQ1; rw [hc9] at hQ2
       exact ⟨_, _, by rw [hE], by unfold mvLa mvCe; rw [if_pos hE, if_pos hE]; exact hQ2, by unfold mvF; rw [if_pos hE]; exact hQ1, hinA, hofA, by omega, hB64⟩
      ·
       rw [hc50] at h49
       have hp65 : ((k : Nat) : Int) < ((l.length : Nat) : Int) := of_decide_eq_true hc50
       clear hc50
       refine co_true h49 rfl ?_
       refine wp_skip ?_
       refine co_then ?_
       refine co_seq ?_
       refine wp_block ?_
       refine co_seq ?_
       refine co_reg ?_
       obtain ⟨y66, hy66⟩ : ∃ z, l[k]? = some z := ⟨_, List.getElem?_eq_getElem (by first | omega | (simp; done) | (simp; omega))⟩
       refine pk (v := pt (blkOf v) (offOf v + k * 3)) h49 rfl (rn_index rfl rfl rfl Try.underlying30 Try.sizeOf90 (sl_butN hs hB46 hvS) (by omega) (by first | omega | (simp; done) | (simp; omega))) fun a67 h67 => ?_; clear h49
       refine pk (v := .agg #[.string y66.1, .string y66.2.1, .bool y66.2.2]) h67 rfl (rn_loadN rfl rfl Try.underlying90 rfl (by kernel_rfl) (sl_at (sl_butN hs hB46 hvS) hy66)) fun a68 h68 => ?_; clear h67
       refine pw h68 rfl (op_new (v := fun N => pt N 0) (T := 90) (cs := #[.string (⟨#[]⟩), .string (⟨#[]⟩), .bool false]) (by kernel_rfl) (by kernel_rfl) (by kernel_rfl)) ?_; clear h68
       rintro _ w70 a69 ⟨N71, rfl, hN74, hz75, hk73, hg72⟩ h69
       have hz76 := hg72.size
       have ho77 := off_new (VkO.ofS hf45) hN74
       try dsimp only at h69
       refine pwD h69 rfl (op_storeN rfl rfl rfl (by kernel_rfl) (by kernel_rfl) hk73 rfl) ?_; clear h69
       rintro _ w79 a78 ⟨hk80, hz81, hg82⟩ h78
       have hk80' : Blk w79 N71 90 #[.string y66.1, .string y66.2.1, .bool y66.2.2] := hk80; clear hk80
       have hz83 := hg82.size
       refine pl_nil ?_
       refine co_then ?_
       refine co_seq ?_
       refine dr_gen (fun x => But (fun q => q = b ∨ S q) w x ∧ Blk x b 119 #[.bool true, pt tb 0, .int .u64 la, .int .i64 ca] ∧ Blk x N71 90 #[.string y66.1, .string y66.2.1, .bool y66.2.2]) (by kernel_rfl) (fun w84 hg85 => ?_) (fun w84 hg85 => ?_)
       ·
        have hz86 := hg85.size
        have hB87 := fbU_new hB46 hg72
        have hB88 := fbU_at hB87 hg82 (fun hlt => absurd hlt (by omega))
        have hB89 := fbU_new hB88 hg85
        have hk90 := hf44.kept hg72 (by simp)
        have hk91 := hk90.kept hg82 (by simp; omega)
        have hk92 := hk91.kept hg85 (by simp)
        have hk93 := hk80'.kept hg85 (by simp)
        exact ⟨hB89, hk92, hk93⟩
       have hz94 := hg85.size
       have hB95 := fbU_new hB46 hg72
       have hB96 := fbU_at hB95 hg82 (fun hlt => absurd hlt (by omega))
       have hB97 := fbU_new hB96 hg85
       have hk98 := hf44.kept hg72 (by simp)
       have hk99 := hk98.kept hg82 (by simp; omega)
       have hk100 := hk99.kept hg85 (by simp)
       have hk101 := hk80'.kept hg85 (by simp)
       refine dk0 0 (v := pt b 0) h78 rfl rfl ⟨hB97, hk100, hk101⟩ fun a102 h102 => ?_; clear h78
       refine dk0 1 (v := pt b 0) h102 rfl rfl ⟨hB97, hk100, hk101⟩ fun a103 h103 => ?_; clear h102
       refine dk0 2 (v := pt b 1) h103 rfl rfl ⟨hB97, hk100, hk101⟩ fun a104 h104 => ?_; clear h103
       refine dk 3 (v := pt tb 0) h104 rfl rfl ⟨hB97, hk100, hk101⟩ (fun x hx => (rn_load1 rfl rfl Try.isAgg117 (hx.2.1.cell rfl))) fun a105 h105 => ?_; clear h104
       refine dk0 4 (v := pt N71 0) h105 rfl rfl ⟨hB97, hk100, hk101⟩ fun a106 h106 => ?_; clear h105
       refine dk 5 (v := .string y66.1) h106 rfl rfl ⟨hB97, hk100, hk101⟩ (fun x hx => (rn_load1 rfl rfl Try.isAgg9 (hx.2.2.cell rfl))) fun a107 h107 => ?_; clear h106
       have hO110 := VkO.gr hf45 hg72 (fun k e => by cases e)
       have hO111 := VkO.gr hO110 hg82 (fun k e => by cases e; exact ho77)
       have hO112 := VkO.gr hO111 hg85 (fun k e => by cases e)
       refine d1 6 h107 rfl rfl (op_call (args := #[pt tb 0, .string y66.1]) (R := fun res xw => ∃ (v : SlT) (b : Bool), res = .tuple #[.slice v.a v.n v.c, .bool b] ∧ xw.ownsRow 0 127 3 (.slice v.a v.n v.c) ((putsF f ts (l.take k)) y66.1).length (((putsF f ts (l.take k)) y66.1).flatMap cellE) ∧ (∀ g, (Value.slice v.a v.n v.c).ownBlock = some g → SA g) ∧ w84 = xw) rfl rfl rfl (by kernel_rfl) (by kernel_rfl) (Try.call61 _ _) (vget_any SA w84 tb KA (putsF f ts (l.take k)) y66.1 hO112) (by rintro e x ⟨v, b, h0, h⟩; exact ⟨_, h0, v, b, rfl, h⟩)) ?_ ?_; clear h107
       ·
        rintro _ _ ⟨vv113, bb114, rfl, hr115, hi116, rfl⟩
        exact ⟨hB97, hk100, hk101⟩
       rintro _ _ a108 ⟨vv113, bb114, rfl, hr115, hi116, rfl⟩ h108
       refine dk0 7 (v := .tuple #[.slice vv113.a vv113.n vv113.c, .bool bb114]) h108 rfl rfl ⟨hB97, hk100, hk101⟩ fun a117 h117 => ?_; clear h108
       refine dk0 8 (v := .slice vv113.a vv113.n vv113.c) h117 rfl rfl ⟨hB97, hk100, hk101⟩ fun a118 h118 => ?_; clear h117
       refine dk0 9 (v := .bool bb114) h118 rfl rfl ⟨hB97, hk100, hk101⟩ fun a119 h119 => ?_; clear h118
       refine dk0 10 (v := .slice vv113.a vv113.n vv113.c) h119 rfl rfl ⟨hB97, hk100, hk101⟩ fun a120 h120 => ?_; clear h119
       refine dk0 11 (v := .bool bb114) h120 rfl rfl ⟨hB97, hk100, hk101⟩ fun a121 h121 => ?_; clear h120
       refine dr_done (by kernel_rfl) ?_
       refine co_then ?_
       refine co_seq ?_
       refine co_reg ?_
       refine pk0 (v := .slice vv113.a vv113.n vv113.c) h121 rfl fun a122 h122 => ?_; clear h121
       refine pk0 (v := .int .u64 ts) h122 rfl fun a123 h123 => ?_; clear h122
       refine pk0 (v := pt N71 1) h123 rfl fun a124 h124 => ?_; clear h123
       refine pk (v := .string y66.2.1) h124 rfl (rn_load1 rfl rfl Try.isAgg9 (hk101.cell rfl)) fun a125 h125 => ?_; clear h124
       refine pk0 (v := pt N71 2) h125 rfl fun a126 h126 => ?_; clear h125
       refine pk (v := .bool y66.2.2) h126 rfl (rn_load1 rfl rfl Try.isAgg4 (hk101.cell rfl)) fun a127 h127 => ?_; clear h126
       refine pk0 (v := .agg #[.int .u64 ts, .string y66.2.1, .bool y66.2.2]) h127 rfl fun a128 h128 => ?_; clear h127
       have hm131 := mv_now hF hup hy66 hlt9 hn
       refine pw h128 rfl (op_call (args := #[.slice vv113.a vv113.n vv113.c, .agg #[.int .u64 ts, .string y66.2.1, .bool y66.2.2]]) (R := fun res xw => ∃ v' : SlT, ∃ S' : Nat → Prop, res = .tuple #[.slice v'.a v'.n v'.c, .int .i64 0] ∧ VkO S' xw tb KA (putsF f ts (l.take k)) ∧ (xw.ownsRow 0 127 3 (.slice v'.a v'.n v'.c) (((putsF f ts (l.take k)) y66.1) ++ [(ts, y66.2.1, y66.2.2)]).length ((((putsF f ts (l.take k)) y66.1) ++ [(ts, y66.2.1, y66.2.2)]).flatMap cellE)) ∧ (∀ g, (Value.slice v'.a v'.n v'.c).ownBlock = some g → S' g) ∧ Grew SA S' w84 xw) rfl rfl rfl (by kernel_rfl) (by kernel_rfl) (Try.call62 _ _) (vvput_any SA w84 tb KA (putsF f ts (l.take k)) vv113 ((putsF f ts (l.take k)) y66.1) (ts, y66.2.1, y66.2.2) hO112 (row_sl hr115 cellE_len) hm131.1 (by show (0 : Int) < ts; have := hlt9; have := hla; omega) hm131.2) (by rintro e x ⟨v', S', h0, h⟩; exact ⟨_, h0, v', S', rfl, h⟩)) ?_; clear h128
       rintro _ w130 a129 ⟨v'132, S133, rfl, hO134, hq136, hq137, hx135⟩ h129
       have hB138 := fbU_foot hB97 hx135.but (fun i hi hq => by rcases hinA i hq with k | k; exact k; omega)
       have hz139 := hB138.size
       have hz140 := hx135.but.size
       have hin141 : ∀ q, S133 q → (q = b ∨ S q) ∨ w.heap.size ≤ q := fun q hq => by rcases hx135.sub q hq with k | k; exact hinA q k; exact .inr (by omega)
       refine pk0 (v := .tuple #[.slice v'132.a v'132.n v'132.c, .int .i64 0]) h129 rfl fun a142 h142 => ?_; clear h129
       refine pk0 (v := .slice v'132.a v'132.n v'132.c) h142 rfl fun a143 h143 => ?_; clear h142
       refine pk0 (v := .int .i64 0) h143 rfl fun a144 h144 => ?_; clear h143
       refine pk0 (v := .slice v'132.a v'132.n v'132.c) h144 rfl fun a145 h145 => ?_; clear h144
       refine pk0 (v := .int .i64 0) h145 rfl fun a146 h146 => ?_; clear h145
       refine pl_nil ?_
       refine co_then ?_
       refine co_seq ?_
       refine dr_gen (fun x => But (fun q => q = b ∨ S q) w x ∧ Blk x b 119 #[.bool true, pt tb 0, .int .u64 la, .int .i64 ca] ∧ Blk x N71 90 #[.string y66.1, .string y66.2.1, .bool y66.2.2]) (by kernel_rfl) (fun w147 hg148 => ?_) (fun w147 hg148 => ?_)
       ·
        have hz149 := hg148.size
        have hB150 := fbU_new hB138 hg148
        have hk151 := Blk.butS hk100 hx135.but hofA
        have hk152 := hk151.kept hg148 (by simp)
        have hk153 := Blk.butS hk101 hx135.but ho77
        have hk154 := hk153.kept hg148 (by simp)
        exact ⟨hB150, hk152, hk154⟩
       have hz155 := hg148.size
       have hB156 := fbU_new hB138 hg148
       have hk157 := Blk.butS hk100 hx135.but hofA
       have hk158 := hk157.kept hg148 (by simp)
       have hk159 := Blk.butS hk101 hx135.but ho77
       have hk160 := hk159.kept hg148 (by simp)
       refine dk0 0 (v := pt b 0) h146 rfl rfl ⟨hB156, hk158, hk160⟩ fun a161 h161 => ?_; clear h146
       refine dk0 1 (v := pt b 0) h161 rfl rfl ⟨hB156, hk158, hk160⟩ fun a162 h162 => ?_; clear h161
       refine dk0 2 (v := pt b 1) h162 rfl rfl ⟨hB156, hk158, hk160⟩ fun a163 h163 => ?_; clear h162
       refine dk 3 (v := pt tb 0) h163 rfl rfl ⟨hB156, hk158, hk160⟩ (fun x hx => (rn_load1 rfl rfl Try.isAgg117 (hx.2.1.cell rfl))) fun a164 h164 => ?_; clear h163
       refine dk0 4 (v := pt N71 0) h164 rfl rfl ⟨hB156, hk158, hk160⟩ fun a165 h165 => ?_; clear h164
       refine dk 5 (v := .string y66.1) h165 rfl rfl ⟨hB156, hk158, hk160⟩ (fun x hx => (rn_load1 rfl rfl Try.isAgg9 (hx.2.2.cell rfl))) fun a166 h166 => ?_; clear h165
       refine dk0 6 (v := .slice v'132.a v'132.n v'132.c) h166 rfl rfl ⟨hB156, hk158, hk160⟩ fun a167 h167 => ?_; clear h166
       have hO170 := VkO.gr hO134 hg148 (fun k e => by cases e)
       have hr171 := row_kept_new hq136 hg148
       refine d1 7 h167 rfl rfl (op_call (args := #[pt tb 0, .string y66.1, .slice v'132.a v'132.n v'132.c]) (R := fun res xw => ∃ b' : Bool, ∃ S' : Nat → Prop, res = .bool b' ∧ VkO S' xw tb (insY KA y66.1) (upd (putsF f ts (l.take k)) y66.1 (((putsF f ts (l.take k)) y66.1) ++ [(ts, y66.2.1, y66.2.2)])) ∧ Grew S133 S' w147 xw) rfl rfl rfl (by kernel_rfl) (by kernel_rfl) (Try.call63 _ _) (vput_any S133 w147 tb KA (putsF f ts (l.take k)) y66.1 v'132 (((putsF f ts (l.take k)) y66.1) ++ [(ts, y66.2.1, y66.2.2)]) hO170 hr171 hq137 (by simp) (by omega)) (by rintro e x ⟨b', S', h0, h⟩; exact ⟨_, h0, b', S', rfl, h⟩)) ?_ ?_; clear h167
       ·
        rintro _ w169 ⟨b'172, S173, rfl, hO174, hx175⟩
        have hB176 := fbU_foot hB156 hx175.but (fun i hi hq => by rcases hin141 i hq with k | k; exact k; omega)
        have hz177 := hB176.size
        have hz178 := hx175.but.size
        have hin179 : ∀ q, S173 q → (q = b ∨ S q) ∨ w.heap.size ≤ q := fun q hq => by rcases hx175.sub q hq with k | k; exact hin141 q k; exact .inr (by omega)
        have hl180 := len_insY KA y66.1
        have hk181 := Blk.butS hk158 hx175.but (Grew.off hx135 hofA hk100.lt)
        have hk182 := Blk.butS hk160 hx175.but (Grew.off hx135 ho77 hk101.lt)
        exact ⟨hB176, hk181, hk182⟩
       rintro _ w169 a168 ⟨b'172, S173, rfl, hO174, hx175⟩ h168
       have hB176 := fbU_foot hB156 hx175.but (fun i hi hq => by rcases hin141 i hq with k | k; exact k; omega)
       have hz177 := hB176.size
       have hz178 := hx175.but.size
       have hin179 : ∀ q, S173 q → (q = b ∨ S q) ∨ w.heap.size ≤ q := fun q hq => by rcases hx175.sub q hq with k | k; exact hin141 q k; exact .inr (by omega)
       have hl180 := len_insY KA y66.1
       refine dr_done (by kernel_rfl) ?_
       refine co_then ?_
       refine co_reg ?_
       refine pk0 (v := pt b 0) h168 rfl fun a181 h181 => ?_; clear h168
       refine pk0 (v := pt b 0) h181 rfl fun a182 h182 => ?_; clear h181
       refine pk0 (v := pt b 3) h182 rfl fun a183 h183 => ?_; clear h182
       have hk184 := Blk.butS hk158 hx175.but (Grew.off hx135 hofA hk100.lt)
       refine pk (v := .int .i64 ca) h183 rfl (rn_load1 rfl rfl Try.isAgg3 (hk184.cell rfl)) fun a185 h185 => ?_; clear h183
       refine pk (v := .int .i64 (ca + 1)) h185 rfl (rn_arith rfl rfl rfl rfl rfl rfl (IntWalk.i64_in _ (by omega))) fun a186 h186 => ?_; clear h185
       refine pk0 (v := pt b 0) h186 rfl fun a187 h187 => ?_; clear h186
       refine pk0 (v := pt b 3) h187 rfl fun a188 h188 => ?_; clear h187
       refine pwD h188 rfl (op_store1 rfl rfl rfl rfl Try.sizeOf3 hk184 rfl) ?_; clear h188
       rintro _ w190 a189 ⟨hk191, hz192, hg193⟩ h189
       have hk191' : Blk w190 b 119 #[.bool true, pt tb 0, .int .u64 la, .int .i64 (ca + 1)] := hk191; clear hk191
       have hz194 := hg193.size
       refine pl_nil ?_
       refine co_blockN ?_
       refine co_then ?_
       refine co_reg ?_
       refine pk (v := .int .i64 ((k + 1 : Nat) : Int)) h189 rfl (rn_arith' rfl rfl rfl rfl rfl rfl (IntWalk.i64_in _ (by omega)) (by omega)) fun a195 h195 => ?_; clear h189
       refine pk0 (v := .int .i64 ((k + 1 : Nat) : Int)) h195 rfl fun a196 h196 => ?_; clear h195
       refine pl_nil ?_
       refine co_then ?_
       refine ⟨(l.length - (k + 1)), by omega, ?_⟩
       have hin9 := hin179
       have hof9 := (Grew.off hx175 (Grew.off hx135 hofA hk100.lt) hk158.lt)
       have hO197 := VkO.gr hO174 hg193 (fun k e => by cases e; exact (Grew.off hx175 (Grew.off hx135 hofA hk100.lt) hk158.lt))
       have hB198 := fbU_at hB176 hg193 (fun hlt => by rcases hinb with hq | hq; exact hq; omega)
       exact ⟨k + 1, S173, (insY KA y66.1), (ca + 1), h196.sub ⟨rfl, rfl, rfl, rfl, rfl, rfl, trivial⟩, rfl, by omega, by exact hin9, by exact hof9, by omega, by omega, hk191', (by rw [mv_take (by assumption)]; exact hO197), hB198⟩
   ·
    rw [hc27] at h26
    have hp199 : (chkB 0 1 l) ≠ 0 := by first | simpa using hc27 | simpa [and_assoc] using hc27
    clear hc27
    refine co_true h26 rfl ?_
    refine co_seq ?_
    refine co_reg ?_
    refine pk0 (v := .int .i64 (chkB 0 1 l)) h26 rfl fun a200 h200 => ?_; clear h26
    refine pk0 (v := .int .i64 (chkB 0 1 l)) h200 rfl fun a201 h201 => ?_; clear h200
    refine pl_nil ?_
    refine co_then ?_
    refine wp_ret ?_
    refine co_thenR ?_
    refine co_ret1 h201 rfl rfl ?_
    have hk202 := hB.below hb21
    have hO203 := VkO.gr hV (below_grown hb21) (fun k e => by cases e)
    have hE : mvE la ts l = (chkB 0 1 l) := mvE_c (by omega) (by omega)
    have hz9 : ¬ mvE la ts l = 0 := by rw [hE]; omega
    exact ⟨_, _, by rw [hE], by unfold mvLa mvCe; rw [if_neg hz9, if_neg hz9]; exact hk202, by unfold mvF; rw [if_neg hz9]; exact hO203, hinS, hSb, by omega, hB28⟩
  ·
   rw [hc15] at h14
   have hp204 : ts ≤ la := of_decide_eq_true hc15
   clear hc15
   refine co_true h14 rfl ?_
   refine co_seq ?_
   refine co_reg ?_
   refine pk0 (v := .int .i64 18) h14 rfl fun a205 h205 => ?_; clear h14
   refine pl_nil ?_
   refine co_then ?_
   refine wp_ret ?_
   refine co_thenR ?_
   refine co_ret1 h205 rfl rfl ?_
   have hE : mvE la ts l = 18 := mvE_b (by omega) (by omega)
   have hz9 : ¬ mvE la ts l = 0 := by rw [hE]; omega
   exact ⟨_, _, by rw [hE], by unfold mvLa mvCe; rw [if_neg hz9, if_neg hz9]; exact hB, by unfold mvF; rw [if_neg hz9]; exact hV, hinS, hSb, by omega, hB0⟩
 ·
  rw [hc7] at h6
  have hp206 : ts = 0 := by first | simpa using hc7 | simpa [and_assoc] using hc7
  clear hc7
  refine co_true h6 rfl ?_
  refine co_seq ?_
  refine co_reg ?_
  refine pk0 (v := .int .i64 5) h6 rfl fun a207 h207 => ?_; clear h6
  refine pl_nil ?_
  refine co_then ?_
  refine wp_ret ?_
  refine co_thenR ?_
  refine co_ret1 h207 rfl rfl ?_
  have hE : mvE la ts l = 5 := mvE_a (by omega)
  have hz9 : ¬ mvE la ts l = 0 := by rw [hE]; omega
  exact ⟨_, _, by rw [hE], by unfold mvLa mvCe; rw [if_neg hz9, if_neg hz9]; exact hB, by unfold mvF; rw [if_neg hz9]; exact hV, hinS, hSb, by omega, hB0⟩
end Go.Proofs.Ytbjbcbbhmbpndaa

/- Package mvcc: Scan. Conditions: at most 70000 keys, 800 versions each. -/
namespace Go.Proofs.Ytbjbcbbhmbpndaa
open Go.RowKit Go.PlainAid
set_option linter.unusedVariables false
set_option linter.unusedSimpArgs false


section
variable {Q : Exit → Act → World → Prop} {a : Act} {w : World}
theorem co_scopeR (h : Q .ret a w) : Exit.noGoto Q .ret a w := h
end
abbrev PairT := ByteArray × ByteArray
def pairE (p : PairT) : List Value := [.string p.1, .string p.2]
theorem pairE_len (p : PairT) : (pairE p).length = 2 := rfl
def hits (f : Fv) (t : Int) (ks : List ByteArray) : List PairT := (ks.filter (fun k => (atS (f k) t).2)).map (fun k => (k, (atS (f k) t).1))
def scanL (H : List PairT) (most : Int) : List PairT := H.take most.toNat
def scanM (H : List PairT) (most : Int) : Bool := decide (most.toNat < H.length)
section
variable {f : Fv} {t most : Int} {ks : List ByteArray} {k : Nat} {y : ByteArray}
theorem hits_yes (hy : ks[k]? = some y) (h : (atS (f y) t).2 = true) : hits f t (ks.take k) ++ [(y, (atS (f y) t).1)] = hits f t (ks.take (k + 1)) := by
  unfold hits; rw [takeO_at hy, List.filter_append, List.map_append]; simp [List.filter_cons, h]
theorem hits_no (hy : ks[k]? = some y) (h : (atS (f y) t).2 = false) : hits f t (ks.take k) = hits f t (ks.take (k + 1)) := by
  unfold hits; rw [takeO_at hy, List.filter_append, List.map_append]; simp [List.filter_cons, h]
theorem hits_le : (hits f t (ks.take k)).length ≤ k := by
  unfold hits; rw [List.length_map]; exact Nat.le_trans (List.length_filter_le _ _) (by rw [List.length_take]; omega)
theorem scan_all {H : List PairT} (h : H = [] ∨ (H.length : Int) ≤ most) : H = scanL H most ∧ scanM H most = false := by
  unfold scanL scanM
  rcases h with rfl | h
  · simp
  · exact ⟨(List.take_of_length_le (by omega)).symm, decide_eq_false (by omega)⟩
theorem scan_cut (hy : ks[k]? = some y) (h : (atS (f y) t).2 = true) (hl : ¬ ((hits f t (ks.take k)).length : Int) < most) (hm : hits f t (ks.take k) = [] ∨ ((hits f t (ks.take k)).length : Int) ≤ most) : hits f t (ks.take k) = scanL (hits f t ks) most ∧ scanM (hits f t ks) most = true := by
  have e : hits f t ks = hits f t (ks.take k) ++ (y, (atS (f y) t).1) :: hits f t (ks.drop (k + 1)) := by
    have e1 : ks = ks.take (k + 1) ++ ks.drop (k + 1) := (List.take_append_drop _ _).symm
    have e2 : hits f t ks = hits f t (ks.take (k + 1)) ++ hits f t (ks.drop (k + 1)) := by
      conv => lhs; rw [e1]
      unfold hits; rw [List.filter_append, List.map_append]
    rw [e2, ← hits_yes hy h]; simp
  have hn : most.toNat = (hits f t (ks.take k)).length := by
    rcases hm with hm | hm
    · rw [hm] at hl ⊢; simp at hl ⊢; omega
    · omega
  unfold scanL scanM
  rw [hn, e]
  exact ⟨by simp, decide_eq_true (by simp)⟩
end

set_option maxRecDepth 100000 in
set_option maxHeartbeats 3200000 in
theorem mscan_blk (S : Nat → Prop) (b : Nat) (tb : Nat) (K : List ByteArray) (f : Fv) (la : Int) (ce : Int) (n : Nat) (F : ByteArray) (T : ByteArray) (t : Int) (most : Int) (w : World) (hB : Blk w b 119 #[.bool true, pt tb 0, .int .u64 la, .int .i64 ce]) (hV : VkO S w tb K f) (hSb : ¬ S b) (hF : FOk f la n) (hn : n ≤ 800) (hla : 0 ≤ la ∧ la < 18446744073709551616) (hce : -100000000000 ≤ ce ∧ ce ≤ 100000000000) (hK : K.length ≤ 70000) (hmost : -9223372036854775808 ≤ most ∧ most ≤ 9223372036854775807) :
    Calls Try.prog 56 #[pt b 0, .string F, .string T, .int .u64 t, .int .i64 most] w fun e w' => ∃ (u : Value), e = .returned (.tuple #[u, .bool (scanM (hits f t (K.filter (inR F T))) most)]) ∧ w'.ownsRow w.heap.size 88 2 u (scanL (hits f t (K.filter (inR F T))) most).length ((scanL (hits f t (K.filter (inR F T))) most).flatMap pairE) ∧ Below w.heap.size w w' := by
 have hB0 := Below.refl w.heap.size w
 have hl_hB := hB.lt
 have hofS := VkO.ofS hV
 refine co_enter (n := 54) Try.func56 rfl rfl rfl [(0, pt b 0), (1, .string F), (2, .string T), (3, .int .u64 t), (4, .int .i64 most)] rfl (fun a h0 => ?_)
 refine co_seq ?_
 refine co_reg ?_
 refine pk0 (v := .slice none 0 0) h0 rfl fun a1 h1 => ?_; clear h0
 refine pk0 (v := .bool false) h1 rfl fun a2 h2 => ?_; clear h1
 refine pl_nil ?_
 refine co_then ?_
 refine wp_scope_straight ?_
 refine co_seq ?_
 refine co_seq ?_
 refine co_reg ?_
 refine pk0 (v := pt b 0) h2 rfl fun a3 h3 => ?_; clear h2
 refine pw h3 rfl (op_call (args := #[pt b 0]) (R := fun res xw => res = .bool false ∧ w = xw) rfl rfl rfl (by kernel_rfl) (by kernel_rfl) (Try.call59 _ _) (mzero_any b (pt tb 0) (.int .u64 la) (.int .i64 ce) w hB) (by rintro e x ⟨rfl, rfl⟩; exact ⟨_, rfl, rfl, rfl⟩)) ?_; clear h3
 rintro _ _ a4 ⟨rfl, rfl⟩ h4
 refine pl_nil ?_
 refine co_then ?_
 refine co_false h4 rfl ?_
 refine wp_skip ?_
 refine co_then ?_
 refine co_seq ?_
 refine co_reg ?_
 refine pk0 (v := .slice none 0 0) h4 rfl fun a6 h6 => ?_; clear h4
 refine pl_nil ?_
 refine co_then ?_
 refine co_seq ?_
 refine co_reg ?_
 refine pk0 (v := .bool false) h6 rfl fun a7 h7 => ?_; clear h6
 refine pl_nil ?_
 refine co_then ?_
 refine co_seq ?_
 refine wp_label ?_
 refine co_then ?_
 refine co_seq ?_
 refine co_seq ?_
 refine co_reg ?_
 refine pk0 (v := pt b 0) h7 rfl fun a8 h8 => ?_; clear h7
 refine pk0 (v := pt b 0) h8 rfl fun a9 h9 => ?_; clear h8
 refine pk0 (v := pt b 1) h9 rfl fun a10 h10 => ?_; clear h9
 refine pk (v := pt tb 0) h10 rfl (rn_load1 rfl rfl Try.isAgg117 (hB.cell rfl)) fun a11 h11 => ?_; clear h10
 refine pk0 (v := .string F) h11 rfl fun a12 h12 => ?_; clear h11
 refine pk0 (v := .string T) h12 rfl fun a13 h13 => ?_; clear h12
 have ho21 := VkO.ofS hV
 refine pw h13 rfl (op_call (args := #[pt tb 0, .string F, .string T]) (R := fun res xw => ∃ (ao : Option Addr) (nn cap : Nat), res = .slice ao nn cap ∧ xw.ownsRow w.heap.size 9 1 (.slice ao nn cap) (K.filter (inR F T)).length ((K.filter (inR F T)).flatMap strE) ∧ Below w.heap.size w xw) rfl rfl rfl (by kernel_rfl) (by kernel_rfl) (Try.call64 _ _) (vkeys2_any S w tb K f F T hV (by omega)) (by rintro e x ⟨ao, nn, cap, h0, h⟩; exact ⟨_, h0, ao, nn, cap, rfl, h⟩)) ?_; clear h13
 rintro _ w15 a14 ⟨ao16, nn17, cp18, rfl, hr19, hb20⟩ h14
 have hz22 := hb20.size
 have ho23 := VkO.ofS hV
 have hl24 : (K.filter (inR F T)).length ≤ K.length := List.length_filter_le _ _
 refine pk (v := .int .i64 (((K.filter (inR F T)).length : Nat) : Int)) h14 rfl (rn_lenOwn rfl rfl Try.underlying129 hr19) fun a25 h25 => ?_; clear h14
 refine pk0 (v := .int .i64 0) h25 rfl fun a26 h26 => ?_; clear h25
 refine pl_nil ?_
 refine co_then ?_
 refine wp_block ?_
 have h27 : Slots 54 [(0, pt b 0), (1, .string F), (2, .string T), (3, .int .u64 t), (4, .int .i64 most), (12, .slice none 0 0), (13, .bool false), (26, .slice ao16 nn17 cp18), (27, .int .i64 (((K.filter (inR F T)).length : Nat) : Int)), (28, .int .i64 0)] _ := h26.sub ⟨rfl, rfl, rfl, rfl, rfl, rfl, rfl, rfl, rfl, rfl, trivial⟩; clear h26
 refine co_loop (fun mm a x => ∃ (k : Nat) (u : Value), Slots 54 [(0, pt b 0), (1, .string F), (2, .string T), (3, .int .u64 t), (4, .int .i64 most), (12, u), (13, .bool false), (26, .slice ao16 nn17 cp18), (27, .int .i64 (((K.filter (inR F T)).length : Nat) : Int)), (28, .int .i64 ((k : Nat) : Int))] a ∧ mm = (K.filter (inR F T)).length - k ∧ (k ≤ (K.filter (inR F T)).length) ∧ ((hits f t ((K.filter (inR F T)).take k)) = [] ∨ ((hits f t ((K.filter (inR F T)).take k)).length : Int) ≤ most) ∧ Blk x b 119 #[.bool true, pt tb 0, .int .u64 la, .int .i64 ce] ∧ VkO S x tb K f ∧ x.ownsRow w.heap.size 9 1 (.slice ao16 nn17 cp18) (K.filter (inR F T)).length ((K.filter (inR F T)).flatMap strE) ∧ x.ownsRow w.heap.size 88 2 u (hits f t ((K.filter (inR F T)).take k)).length ((hits f t ((K.filter (inR F T)).take k)).flatMap pairE) ∧ Below w.heap.size w x) ((K.filter (inR F T)).length - 0) ?_ ?_
 have hk28 := hB.below hb20
 have hO29 := VkO.gr hV (below_grown hb20) (fun k e => by cases e)
 have hB30 := hb_call hB0 hb20
 · exact ⟨0, (.slice none 0 0), h27.sub ⟨rfl, rfl, rfl, rfl, rfl, rfl, rfl, rfl, rfl, (slot_eq rfl (congrArg (Value.int .i64) (by first | rfl | omega))), trivial⟩, rfl, by omega, by first | exact .inl rfl | (rw [← hits_yes (by assumption) (by assumption)]; right; rw [List.length_append, List.length_singleton]; omega) | (rw [← hits_no (by assumption) (by assumption)]; assumption), hk28, hO29, hr19, (row_nilL _ _ _ _ _), hB30⟩
 · rintro k31 a32 w33 ⟨k, u, h32, rfl, hi34, hi35, hf36, hf37, hf38, hf39, hB40⟩
   have hz41 := hB40.size
   have hl42 := hf36.lt
   have hhl := hits_le (f := f) (t := t) (ks := (K.filter (inR F T))) (k := k)
   refine co_seq ?_
   refine co_reg ?_
   refine pk0 (v := .bool (decide (((k : Nat) : Int) < (((K.filter (inR F T)).length : Nat) : Int)))) h32 rfl fun a43 h43 => ?_; clear h32
   refine pl_nil ?_
   refine co_then ?_
   refine co_seq ?_
   cases hc44 : (decide (((k : Nat) : Int) < (((K.filter (inR F T)).length : Nat) : Int)))
   ·
    rw [hc44] at h43
    have hp45 : ¬ (((k : Nat) : Int) < (((K.filter (inR F T)).length : Nat) : Int)) := of_decide_eq_false hc44
    clear hc44
    refine co_false h43 rfl ?_
    refine wp_exit ?_
    refine co_thenX ?_
    refine co_thenX ?_
    refine co_blockX ?_
    refine co_then ?_
    refine co_seq ?_
    refine co_reg ?_
    refine pk0 (v := u) h43 rfl fun a46 h46 => ?_; clear h43
    refine pk0 (v := .bool false) h46 rfl fun a47 h47 => ?_; clear h46
    refine pk0 (v := u) h47 rfl fun a48 h48 => ?_; clear h47
    refine pk0 (v := .bool false) h48 rfl fun a49 h49 => ?_; clear h48
    refine pl_nil ?_
    refine co_then ?_
    refine wp_ret ?_
    refine co_scopeR ?_
    refine co_ret2 h49 rfl rfl rfl ?_
    have hk9 : (K.filter (inR F T)).take k = (K.filter (inR F T)) := List.take_of_length_le (by omega); have hq := scan_all (most := most) (H := hits f t ((K.filter (inR F T)).take k)) (by assumption); rw [hk9] at hq
    exact ⟨_, by rw [hq.2], row_eq hf39 (by rw [hk9]; exact hq.1), hB40⟩
   ·
    rw [hc44] at h43
    have hp50 : ((k : Nat) : Int) < (((K.filter (inR F T)).length : Nat) : Int) := of_decide_eq_true hc44
    clear hc44
    refine co_true h43 rfl ?_
    refine wp_skip ?_
    refine co_then ?_
    refine co_seq ?_
    refine wp_block ?_
    refine co_seq ?_
    refine co_reg ?_
    obtain ⟨y51, hy51⟩ : ∃ z, (K.filter (inR F T))[k]? = some z := ⟨_, List.getElem?_eq_getElem (by first | omega | (simp; done) | (simp; omega))⟩
    refine pk (v := pt (blkOf (.slice ao16 nn17 cp18)) (offOf (.slice ao16 nn17 cp18) + k * 1)) h43 rfl (rn_index rfl rfl rfl Try.underlying129 Try.sizeOf9 (row_sl hf38 strE_len) (by omega) (by first | omega | (simp; done) | (simp; omega))) fun a52 h52 => ?_; clear h43
    refine pk (v := .string y51) h52 rfl (rn_load1 rfl rfl Try.isAgg9 ((sl_at (row_sl hf38 strE_len) hy51) 0 _ rfl)) fun a53 h53 => ?_; clear h52
    refine pk0 (v := .string y51) h53 rfl fun a54 h54 => ?_; clear h53
    refine pl_nil ?_
    refine co_then ?_
    refine co_seq ?_
    refine co_reg ?_
    refine pk0 (v := pt b 0) h54 rfl fun a55 h55 => ?_; clear h54
    refine pk0 (v := .string y51) h55 rfl fun a56 h56 => ?_; clear h55
    refine pk0 (v := .int .u64 t) h56 rfl fun a57 h57 => ?_; clear h56
    refine pw h57 rfl (op_call (args := #[pt b 0, .string y51, .int .u64 t]) (R := fun res xw => res = .tuple #[.string (atS (f y51) t).1, .bool (atS (f y51) t).2] ∧ Below w33.heap.size w33 xw) rfl rfl rfl (by kernel_rfl) (by kernel_rfl) (Try.call51 _ _) (mget_blk b tb (.int .u64 la) (.int .i64 ce) S K f y51 t la n w33 hf36 hf37 hF) (by rintro e x ⟨rfl, h⟩; exact ⟨_, rfl, rfl, h⟩)) ?_; clear h57
    rintro _ w59 a58 ⟨rfl, hb60⟩ h58
    have hz61 := hb60.size
    have ho62 := VkO.ofS hf37
    refine pk0 (v := .tuple #[.string ((atS (f y51) t).1), .bool ((atS (f y51) t).2)]) h58 rfl fun a63 h63 => ?_; clear h58
    refine pk0 (v := .string ((atS (f y51) t).1)) h63 rfl fun a64 h64 => ?_; clear h63
    refine pk0 (v := .bool ((atS (f y51) t).2)) h64 rfl fun a65 h65 => ?_; clear h64
    refine pk0 (v := .string ((atS (f y51) t).1)) h65 rfl fun a66 h66 => ?_; clear h65
    refine pk0 (v := .bool ((atS (f y51) t).2)) h66 rfl fun a67 h67 => ?_; clear h66
    refine pl_nil ?_
    refine co_then ?_
    refine co_seq ?_
    refine co_seq ?_
    refine co_reg ?_
    refine pk0 (v := .bool ((atS (f y51) t).2)) h67 rfl fun a68 h68 => ?_; clear h67
    have hB70 := hb_call hB40 hb60
    cases hc69 : ((atS (f y51) t).2)
    ·
     rw [hc69] at h68
     refine pk0 (v := .bool true) h68 rfl fun a71 h71 => ?_; clear h68
     refine pl_nil ?_
     refine co_then ?_
     refine co_true h71 rfl ?_
     refine wp_exit ?_
     refine co_thenX ?_
     refine co_blockX ?_
     refine co_then ?_
     refine co_reg ?_
     refine pk (v := .int .i64 ((k + 1 : Nat) : Int)) h71 rfl (rn_arith' rfl rfl rfl rfl rfl rfl (IntWalk.i64_in _ (by omega)) (by omega)) fun a72 h72 => ?_; clear h71
     refine pk0 (v := .int .i64 ((k + 1 : Nat) : Int)) h72 rfl fun a73 h73 => ?_; clear h72
     refine pl_nil ?_
     refine co_then ?_
     refine ⟨((K.filter (inR F T)).length - (k + 1)), by omega, ?_⟩
     have hk74 := hf36.below hb60
     have hO75 := VkO.gr hf37 (below_grown hb60) (fun k e => by cases e)
     have hr76 := row_kept_new hf38 (below_grown hb60)
     have hr77 := row_kept_new hf39 (below_grown hb60)
     exact ⟨k + 1, u, h73.sub ⟨rfl, rfl, rfl, rfl, rfl, rfl, rfl, rfl, rfl, rfl, trivial⟩, rfl, by omega, by first | exact .inl rfl | (rw [← hits_yes (by assumption) (by assumption)]; right; rw [List.length_append, List.length_singleton]; omega) | (rw [← hits_no (by assumption) (by assumption)]; assumption), hk74, hO75, hr76, (row_eq hr77 (by first | rfl | exact hits_yes (by assumption) (by assumption) | exact hits_no (by assumption) (by assumption) | exact hits_no (by assumption) (by simpa using (by assumption)))), hB70⟩
    ·
     rw [hc69] at h68
     refine pk0 (v := .bool false) h68 rfl fun a78 h78 => ?_; clear h68
     refine pl_nil ?_
     refine co_then ?_
     refine co_false h78 rfl ?_
     refine wp_skip ?_
     refine co_then ?_
     refine co_seq ?_
     refine co_seq ?_
     refine co_reg ?_
     refine pk0 (v := u) h78 rfl fun a79 h79 => ?_; clear h78
     have hr80 := row_kept_new hf39 (below_grown hb60)
     refine pk (v := .int .i64 (((hits f t ((K.filter (inR F T)).take k)).length : Nat) : Int)) h79 rfl (rn_lenOwn rfl rfl Try.underlying35 hr80) fun a81 h81 => ?_; clear h79
     refine pk0 (v := .int .i64 most) h81 rfl fun a82 h82 => ?_; clear h81
     refine pk0 (v := .bool (decide ((((hits f t ((K.filter (inR F T)).take k)).length : Nat) : Int) ≥ most))) h82 rfl fun a83 h83 => ?_; clear h82
     refine pl_nil ?_
     refine co_then ?_
     cases hc84 : (decide ((((hits f t ((K.filter (inR F T)).take k)).length : Nat) : Int) ≥ most))
     ·
      rw [hc84] at h83
      have hp85 : ¬ ((((hits f t ((K.filter (inR F T)).take k)).length : Nat) : Int) ≥ most) := of_decide_eq_false hc84
      clear hc84
      refine co_false h83 rfl ?_
      refine wp_skip ?_
      refine co_then ?_
      refine co_reg ?_
      refine pk0 (v := u) h83 rfl fun a86 h86 => ?_; clear h83
      refine pk0 (v := .string y51) h86 rfl fun a87 h87 => ?_; clear h86
      refine pk0 (v := .string ((atS (f y51) t).1)) h87 rfl fun a88 h88 => ?_; clear h87
      refine pk0 (v := .agg #[.string y51, .string ((atS (f y51) t).1)]) h88 rfl fun a89 h89 => ?_; clear h88
      refine pw h89 rfl (op_new (v := fun N => .slice (some ⟨N, 0, none⟩) 1 1) (T := 88) (cs := #[.string y51, .string ((atS (f y51) t).1)]) (by kernel_rfl) (by kernel_rfl) (by kernel_rfl)) ?_; clear h89
      rintro _ w91 a90 ⟨N92, rfl, hN95, hz96, hk94, hg93⟩ h90
      have hr98 := row_kept_new hf38 (below_grown hb60)
      have ha97 := row_fresh hr98 hN95
      have ha99 := row_fresh hr80 hN95
      have hz100 := hg93.size
      have hO102 := VkO.gr hf37 (below_grown hb60) (fun k e => by cases e)
      have ho101 := off_new (VkO.ofS hO102) hN95
      try dsimp only at h90
      have hr109 := row_kept_new hr80 hg93
      refine pw h90 rfl (op_append rfl w.heap.size 88 (z := .agg #[.string (⟨#[]⟩), .string (⟨#[]⟩)]) (size := 2) (bytes := 32) Try.underlying35 (by kernel_rfl) rfl rfl rfl hr109 rfl hk94 rfl (by kernel_rfl) (by first | omega | (simp only [List.length_nil, List.length_append, List.length_cons, List.length_take, List.length_drop]; omega)) (by first | omega | (simp only [List.length_nil, List.length_append, List.length_cons, List.length_take, List.length_drop]; omega)) (by omega)) ?_; clear h90
      rintro v105 w104 a103 ⟨hr106, hg107⟩ h103
      have hr106' : w104.ownsRow w.heap.size 88 2 v105 (((hits f t ((K.filter (inR F T)).take k)) ++ [(y51, (atS (f y51) t).1)]).length) (((hits f t ((K.filter (inR F T)).take k)) ++ [(y51, (atS (f y51) t).1)]).flatMap pairE) := row_push (y := (y51, (atS (f y51) t).1)) hr106 rfl rfl; clear hr106
      have hz110 := hg107.size
      refine pk0 (v := v105) h103 rfl fun a111 h111 => ?_; clear h103
      refine pl_nil ?_
      refine co_blockN ?_
      refine co_then ?_
      refine co_reg ?_
      refine pk (v := .int .i64 ((k + 1 : Nat) : Int)) h111 rfl (rn_arith' rfl rfl rfl rfl rfl rfl (IntWalk.i64_in _ (by omega)) (by omega)) fun a112 h112 => ?_; clear h111
      refine pk0 (v := .int .i64 ((k + 1 : Nat) : Int)) h112 rfl fun a113 h113 => ?_; clear h112
      refine pl_nil ?_
      refine co_then ?_
      refine ⟨((K.filter (inR F T)).length - (k + 1)), by omega, ?_⟩
      have hk114 := hf36.below hb60
      have hk115 := hk114.kept hg93 (by simp)
      have hk116 := hk115.kept hg107 (own_neT hr109 hk115 (by decide))
      have hO117 := VkO.gr hO102 hg93 (fun k e => by cases e)
      have hO118 := VkO.gr hO117 hg107 (fun k e => (offR_row hofS hr109 (Nat.le_refl _)) k e)
      have hr119 := row_kept_new hr98 hg93
      have hr120 := row_kept_row hr119 hr109 hg107 (by decide)
      have hB121 := hb_new hB70 hg93
      have hB122 := hb_row hB121 hr109 (by omega) hg107
      exact ⟨k + 1, v105, h113.sub ⟨rfl, rfl, rfl, rfl, rfl, rfl, rfl, rfl, rfl, rfl, trivial⟩, rfl, by omega, by first | exact .inl rfl | (rw [← hits_yes (by assumption) (by assumption)]; right; rw [List.length_append, List.length_singleton]; omega) | (rw [← hits_no (by assumption) (by assumption)]; assumption), hk116, hO118, hr120, (row_eq hr106' (by first | rfl | exact hits_yes (by assumption) (by assumption) | exact hits_no (by assumption) (by assumption) | exact hits_no (by assumption) (by simpa using (by assumption)))), hB122⟩
     ·
      rw [hc84] at h83
      have hp123 : (((hits f t ((K.filter (inR F T)).take k)).length : Nat) : Int) ≥ most := of_decide_eq_true hc84
      clear hc84
      refine co_true h83 rfl ?_
      refine co_seq ?_
      refine co_reg ?_
      refine pk0 (v := .bool true) h83 rfl fun a124 h124 => ?_; clear h83
      refine pl_nil ?_
      refine co_then ?_
      refine wp_exit ?_
      refine co_thenX ?_
      refine co_blockY (by decide) ?_
      refine co_thenX ?_
      refine co_thenX ?_
      refine co_blockX ?_
      refine co_then ?_
      refine co_seq ?_
      refine co_reg ?_
      refine pk0 (v := u) h124 rfl fun a125 h125 => ?_; clear h124
      refine pk0 (v := .bool true) h125 rfl fun a126 h126 => ?_; clear h125
      refine pk0 (v := u) h126 rfl fun a127 h127 => ?_; clear h126
      refine pk0 (v := .bool true) h127 rfl fun a128 h128 => ?_; clear h127
      refine pl_nil ?_
      refine co_then ?_
      refine wp_ret ?_
      refine co_scopeR ?_
      refine co_ret2 h128 rfl rfl rfl ?_
      have hq := scan_cut (most := most) (by assumption) (by assumption : (atS (f _) t).2 = true) (by omega) (by assumption)
      exact ⟨_, by rw [hq.2], row_eq hr80 hq.1, hB70⟩
end Go.Proofs.Ytbjbcbbhmbpndaa

/- Package mvcc: Prune. Conditions: at most 70000 keys, 800 versions each. -/
namespace Go.Proofs.Ytbjbcbbhmbpndaa
open Go.RowKit Go.PlainAid
set_option linter.unusedVariables false
set_option linter.unusedSimpArgs false


theorem vprune2_any (S : Nat → Prop) (w : World) (tb : Nat) (K : List ByteArray) (f : Fv) (v : SlT) (l : List CellT) (t : Int) (h : VkO S w tb K f) (hr : cellRow w (slV v) l) (hi : ∀ g, (slV v).ownBlock = some g → S g) (hw : ∀ c ∈ l, cellOk c) (hl : l.length ≤ 1000) :
    Calls Try.prog 65 #[slV v, .int .u64 t] w fun e w' => ∃ (ao : Option Addr) (nn cap : Nat) (S' : Nat → Prop), e = .returned (.slice ao nn cap) ∧ VkO S' w' tb K f ∧ cellRow w' (.slice ao nn cap) (l.drop (pruneN l t)) ∧ (∀ g, (Value.slice ao nn cap).ownBlock = some g → S' g) ∧ cellRow w' (slV v) l ∧ Grew S S' w w' := by
  refine (prune_row (slV v) l t w hr.sl hw hl).mono ?_
  rintro e w' ⟨u, rfl, hr1, hb⟩
  obtain ⟨ao, n, cap, rfl⟩ := own_sliceT hr1
  have hr0 : cellRow w' (.slice ao n cap) (l.drop (pruneN l t)) := own_low hr1 (Nat.zero_le _)
  refine ⟨ao, n, cap, _, rfl, (h.below hb).ext hr0, hr0, fun g hg => .inr hg, row_kept_new hr (below_grown hb), fun q hq => ?_, But.of_grown0 (below_grown hb) _⟩
  rcases hq with hq | hq
  · exact .inl hq
  · exact .inr (hr1.lt q hq).1
open Classical in
noncomputable def prF (f : Fv) (h : Int) (M : List ByteArray) : Fv := fun x => if x ∈ M then (f x).drop (pruneN (f x) h) else f x
section
variable {f g : Fv} {h la : Int} {K A B : List ByteArray} {k n : Nat} {y : ByteArray}
theorem prF_nil : prF f h (K.take 0) = f := by funext x; unfold prF; rw [if_neg (by simp)]
theorem prF_all (hK : KOf K f) : prF f h K = pruneF f h := by
  funext x; unfold prF pruneF
  by_cases hx : x ∈ K
  · rw [if_pos hx]
  · rw [if_neg hx]
    have e : f x = [] := by
      by_cases q : f x = []
      · exact q
      · exact absurd ((hK.mem x).2 q) hx
    rw [e, List.drop_nil]
theorem prF_at (hup : Kup K) (hy : K[k]? = some y) : prF f h (K.take k) y = f y := by
  unfold prF; rw [if_neg]
  intro hm
  obtain ⟨hk, e⟩ := List.getElem?_eq_some_iff.1 hy
  obtain ⟨j, hj, e3⟩ := List.mem_iff_getElem.1 hm
  rw [List.length_take] at hj
  rw [List.getElem_take] at e3
  exact klt_ne (List.pairwise_iff_getElem.1 hup j k (by omega) hk (by omega)) (e3.trans e.symm)
theorem prF_step (hup : Kup K) (hy : K[k]? = some y) : prF f h (K.take (k + 1)) = upd (prF f h (K.take k)) y ((prF f h (K.take k) y).drop (pruneN (prF f h (K.take k) y) h)) := by
  rw [prF_at hup hy]
  funext x
  by_cases e : x = y
  · subst e; rw [upd_eq]; unfold prF; rw [takeO_at hy, if_pos (by simp)]
  · rw [upd_ne e]; unfold prF; rw [takeO_at hy]
    by_cases hm : x ∈ K.take k
    · rw [if_pos hm, if_pos (by simp [hm])]
    · rw [if_neg hm, if_neg (by simp [hm, e])]
theorem prF_step0 (hup : Kup K) (hy : K[k]? = some y) (h0 : ((prF f h (K.take k) y).drop (pruneN (prF f h (K.take k) y) h)).length = 0) : prF f h (K.take (k + 1)) = upd (prF f h (K.take k)) y [] := by
  rw [prF_step hup hy, List.eq_nil_of_length_eq_zero h0]
theorem FOk.prF (hf : FOk f la n) (M : List ByteArray) : FOk (prF f h M) la n := by
  have hp := hf.prune h
  refine ⟨fun k => ?_, fun k => ?_, fun k => ?_, fun k => ?_⟩ <;> unfold Go.Proofs.Ytbjbcbbhmbpndaa.prF <;> split
  · exact hp.ok k
  · exact hf.ok k
  · exact hp.up k
  · exact hf.up k
  · exact hp.le k
  · exact hf.le k
  · exact hp.len k
  · exact hf.len k
open Classical in
theorem up_len (hA : Kup A) (hB : Kup B) (h : ∀ x ∈ A, x ∈ B) : A.length ≤ B.length := by
  have e : A = B.filter (fun x => decide (x ∈ A)) := up_ext (key := fun x => x) hA (hB.sublist List.filter_sublist) fun x => by
    rw [List.mem_filter]
    exact ⟨fun hx => ⟨h x hx, decide_eq_true hx⟩, fun hx => of_decide_eq_true hx.2⟩
  rw [e]; exact List.length_filter_le _ _
theorem prF_len (hK : KOf K f) (hA : KOf A (prF f h (K.take k))) : A.length ≤ K.length := up_len hA.up hK.up fun x hx => by
  have h1 := (hA.mem x).1 hx
  refine (hK.mem x).2 fun e => h1 ?_
  unfold prF; split <;> rw [e]
  exact List.drop_nil
def goneK (f : Fv) (h : Int) (M : List ByteArray) : Nat := (M.map fun x => pruneN (f x) h).sum
theorem goneK_at (hy : K[k]? = some y) : goneK f h (K.take (k + 1)) = goneK f h (K.take k) + pruneN (f y) h := by
  unfold goneK; rw [takeO_at hy, List.map_append, List.sum_append]; simp
theorem ne_len0 {α : Type} {l : List α} (h : ¬ ((l.length : Nat) : Int) = 0) : l ≠ [] := fun e => h (by rw [e]; rfl)
end
theorem inR_all (K : List ByteArray) : K.filter (inR ⟨#[]⟩ ⟨#[]⟩) = K := List.filter_eq_self.2 fun k _ => by
  have e0 : (⟨#[]⟩ : ByteArray).toList = [] := by rw [Go.ByteArray.toList_eq]
  unfold inR hit
  rw [e0]
  cases hk : klt k ⟨#[]⟩ with
  | false => rfl
  | true =>
    exfalso
    have : ∀ l : List UInt8, Op.bytesLess l [] = false := fun l => by cases l <;> rfl
    have e : Op.bytesLess k.toList (⟨#[]⟩ : ByteArray).toList = true := hk
    rw [e0, this] at e; cases e
theorem vkeys3_any (S : Nat → Prop) (w : World) (tb : Nat) (K : List ByteArray) (f : Fv) (h : VkO S w tb K f) (hK : K.length ≤ 80000) :
    Calls Try.prog 64 #[pt tb 0, .string ⟨#[]⟩, .string ⟨#[]⟩] w fun e w' => ∃ (ao : Option Addr) (nn cap : Nat), e = .returned (.slice ao nn cap) ∧ w'.ownsRow w.heap.size 9 1 (.slice ao nn cap) K.length (K.flatMap strE) ∧ Below w.heap.size w w' := by
  have := vkeys2_any S w tb K f ⟨#[]⟩ ⟨#[]⟩ h hK
  rw [inR_all] at this
  exact this

set_option maxRecDepth 100000 in
set_option maxHeartbeats 3200000 in
theorem mprune_blk (S : Nat → Prop) (b : Nat) (tb : Nat) (K : List ByteArray) (f : Fv) (la : Int) (ce : Int) (n : Nat) (h : Int) (w : World) (hB : Blk w b 119 #[.bool true, pt tb 0, .int .u64 la, .int .i64 ce]) (hV : VkO S w tb K f) (hSb : ¬ S b) (hF : FOk f la n) (hn : n ≤ 800) (hla : 0 ≤ la ∧ la < 18446744073709551616) (hce : -100000000000 ≤ ce ∧ ce ≤ 100000000000) (hh : 0 ≤ h ∧ h < 18446744073709551616) (hK : K.length ≤ 70000) :
    Calls Try.prog 23 #[pt b 0, .int .u64 h] w fun e w' => ∃ (S' : Nat → Prop) (K' : List ByteArray) (g' : Int), e = .returned (.int .i64 g') ∧ Blk w' b 119 #[.bool true, pt tb 0, .int .u64 la, .int .i64 (ce - g')] ∧ VkO S' w' tb K' (pruneF f h) ∧ (∀ q, S' q → (q = b ∨ S q) ∨ w.heap.size ≤ q) ∧ ¬ S' b ∧ K'.length ≤ K.length ∧ (0 ≤ g' ∧ g' ≤ 100000000) ∧ g' = ((goneK f h K : Nat) : Int) ∧ But (fun q => q = b ∨ S q) w w' := by
 have hB0 := But.refl (fun q => q = b ∨ S q) w
 have hl_hB := hB.lt
 have hinS : ∀ k, S k → (k = b ∨ S k) ∨ w.heap.size ≤ k := fun k hk => .inl (.inr hk)
 have hinb : (b = b ∨ S b) ∨ w.heap.size ≤ b := .inl (.inl rfl)
 have hKup := (VkO.kof hV).up
 refine co_enter (n := 68) Try.func23 rfl rfl rfl [(0, pt b 0), (1, .int .u64 h)] rfl (fun a h0 => ?_)
 refine co_seq ?_
 refine co_reg ?_
 refine pk0 (v := .int .i64 0) h0 rfl fun a1 h1 => ?_; clear h0
 refine pl_nil ?_
 refine co_then ?_
 refine co_seq ?_
 refine co_seq ?_
 refine co_reg ?_
 refine pk0 (v := pt b 0) h1 rfl fun a2 h2 => ?_; clear h1
 refine pw h2 rfl (op_call (args := #[pt b 0]) (R := fun res xw => res = .bool false ∧ w = xw) rfl rfl rfl (by kernel_rfl) (by kernel_rfl) (Try.call59 _ _) (mzero_any b (pt tb 0) (.int .u64 la) (.int .i64 ce) w hB) (by rintro e x ⟨rfl, rfl⟩; exact ⟨_, rfl, rfl, rfl⟩)) ?_; clear h2
 rintro _ _ a3 ⟨rfl, rfl⟩ h3
 refine pl_nil ?_
 refine co_then ?_
 refine co_false h3 rfl ?_
 refine wp_skip ?_
 refine co_then ?_
 refine co_seq ?_
 refine co_reg ?_
 refine pk0 (v := .int .i64 0) h3 rfl fun a5 h5 => ?_; clear h3
 refine pl_nil ?_
 refine co_then ?_
 refine co_seq ?_
 refine co_seq ?_
 refine co_reg ?_
 refine pk0 (v := pt b 0) h5 rfl fun a6 h6 => ?_; clear h5
 refine pk0 (v := pt b 0) h6 rfl fun a7 h7 => ?_; clear h6
 refine pk0 (v := pt b 1) h7 rfl fun a8 h8 => ?_; clear h7
 refine pk (v := pt tb 0) h8 rfl (rn_load1 rfl rfl Try.isAgg117 (hB.cell rfl)) fun a9 h9 => ?_; clear h8
 have ho17 := VkO.ofS hV
 refine pw h9 rfl (op_call (args := #[pt tb 0, .string (⟨#[]⟩), .string (⟨#[]⟩)]) (R := fun res xw => ∃ (ao : Option Addr) (nn cap : Nat), res = .slice ao nn cap ∧ xw.ownsRow w.heap.size 9 1 (.slice ao nn cap) K.length (K.flatMap strE) ∧ Below w.heap.size w xw) rfl rfl rfl (by kernel_rfl) (by kernel_rfl) (Try.call64 _ _) (vkeys3_any S w tb K f hV (by omega)) (by rintro e x ⟨ao, nn, cap, h0, h⟩; exact ⟨_, h0, ao, nn, cap, rfl, h⟩)) ?_; clear h9
 rintro _ w11 a10 ⟨ao12, nn13, cp14, rfl, hr15, hb16⟩ h10
 have hz18 := hb16.size
 have ho19 := VkO.ofS hV
 have hl20 : K.length ≤ K.length := Nat.le_refl _
 refine pk (v := .int .i64 ((K.length : Nat) : Int)) h10 rfl (rn_lenOwn rfl rfl Try.underlying129 hr15) fun a21 h21 => ?_; clear h10
 refine pk0 (v := .int .i64 0) h21 rfl fun a22 h22 => ?_; clear h21
 refine pl_nil ?_
 refine co_then ?_
 refine wp_block ?_
 have hin9 := hinS
 have hof9 := hSb
 have hor9 : ∀ i, (Value.slice ao12 nn13 cp14).ownBlock = some i → ¬ S i := (offR_row ho19 hr15 (Nat.le_refl _))
 have hkl9 := Nat.le_refl K.length
 have hgn9 : (0 : Int) = ((goneK f h (K.take 0) : Nat) : Int) := rfl
 have h23 : Slots 68 [(0, pt b 0), (1, .int .u64 h), (5, .int .i64 0), (17, .slice ao12 nn13 cp14), (18, .int .i64 ((K.length : Nat) : Int)), (19, .int .i64 0)] _ := h22.sub ⟨rfl, rfl, rfl, rfl, rfl, rfl, trivial⟩; clear h22
 refine co_loop (fun mm a x => ∃ (k : Nat) (SA : Nat → Prop) (KA : List ByteArray) (ga : Int), Slots 68 [(0, pt b 0), (1, .int .u64 h), (5, .int .i64 ga), (17, .slice ao12 nn13 cp14), (18, .int .i64 ((K.length : Nat) : Int)), (19, .int .i64 ((k : Nat) : Int))] a ∧ mm = K.length - k ∧ (k ≤ K.length) ∧ (∀ k, SA k → (k = b ∨ S k) ∨ w.heap.size ≤ k) ∧ (¬ SA b) ∧ (∀ i, (Value.slice ao12 nn13 cp14).ownBlock = some i → ¬ SA i) ∧ (KA.length ≤ K.length) ∧ (0 ≤ ga ∧ ga ≤ 1000 * k) ∧ (ga = ((goneK f h (K.take k) : Nat) : Int)) ∧ Blk x b 119 #[.bool true, pt tb 0, .int .u64 la, .int .i64 ce] ∧ VkO SA x tb KA (prF f h (K.take k)) ∧ x.ownsRow w.heap.size 9 1 (.slice ao12 nn13 cp14) K.length (K.flatMap strE) ∧ But (fun q => q = b ∨ S q) w x) (K.length - 0) ?_ ?_
 have hk24 := hB.below hb16
 have hO25 := VkO.gr hV (below_grown hb16) (fun k e => by cases e)
 have hB26 := fbU_call hB0 hb16
 · exact ⟨0, S, K, 0, h23.sub ⟨rfl, rfl, rfl, rfl, rfl, (slot_eq rfl (congrArg (Value.int .i64) (by first | rfl | omega))), trivial⟩, rfl, by omega, by exact hin9, by exact hof9, by exact hor9, by exact hkl9, by omega, by exact hgn9, hk24, (by rw [prF_nil]; exact hO25), hr15, hB26⟩
 · rintro k27 a28 w29 ⟨k, SA, KA, ga, h28, rfl, hi30, hi31, hi32, hi33, hi34, hi35, hi36, hf37, hf38, hf39, hB40⟩
   have hz41 := hB40.size
   have hl42 := hf37.lt
   have hgnA : ga = ((goneK f h (K.take k) : Nat) : Int) := by assumption
   have hinA : ∀ k, SA k → (k = b ∨ S k) ∨ w.heap.size ≤ k := by assumption
   have hofA : ¬ SA b := by assumption
   have horA : ∀ i, (Value.slice ao12 nn13 cp14).ownBlock = some i → ¬ SA i := by assumption
   have hFA := FOk.prF (h := h) hF (K.take k)
   refine co_seq ?_
   refine co_reg ?_
   refine pk0 (v := .bool (decide (((k : Nat) : Int) < ((K.length : Nat) : Int)))) h28 rfl fun a43 h43 => ?_; clear h28
   refine pl_nil ?_
   refine co_then ?_
   refine co_seq ?_
   cases hc44 : (decide (((k : Nat) : Int) < ((K.length : Nat) : Int)))
   ·
    rw [hc44] at h43
    have hp45 : ¬ (((k : Nat) : Int) < ((K.length : Nat) : Int)) := of_decide_eq_false hc44
    clear hc44
    refine co_false h43 rfl ?_
    refine wp_exit ?_
    refine co_thenX ?_
    refine co_thenX ?_
    refine co_blockX ?_
    refine co_then ?_
    refine co_seq ?_
    refine co_reg ?_
    refine pk0 (v := pt b 0) h43 rfl fun a46 h46 => ?_; clear h43
    refine pk0 (v := pt b 0) h46 rfl fun a47 h47 => ?_; clear h46
    refine pk0 (v := pt b 3) h47 rfl fun a48 h48 => ?_; clear h47
    refine pk (v := .int .i64 ce) h48 rfl (rn_load1 rfl rfl Try.isAgg3 (hf37.cell rfl)) fun a49 h49 => ?_; clear h48
    refine pk0 (v := .int .i64 ga) h49 rfl fun a50 h50 => ?_; clear h49
    refine pk (v := .int .i64 (ce - ga)) h50 rfl (rn_arith rfl rfl rfl rfl rfl rfl (IntWalk.i64_in _ (by omega))) fun a51 h51 => ?_; clear h50
    refine pk0 (v := pt b 0) h51 rfl fun a52 h52 => ?_; clear h51
    refine pk0 (v := pt b 3) h52 rfl fun a53 h53 => ?_; clear h52
    refine pwD h53 rfl (op_store1 rfl rfl rfl rfl Try.sizeOf3 hf37 rfl) ?_; clear h53
    rintro _ w55 a54 ⟨hk56, hz57, hg58⟩ h54
    have hk56' : Blk w55 b 119 #[.bool true, pt tb 0, .int .u64 la, .int .i64 (ce - ga)] := hk56; clear hk56
    have hz59 := hg58.size
    refine pl_nil ?_
    refine co_then ?_
    refine co_seq ?_
    refine co_reg ?_
    refine pk0 (v := .int .i64 ga) h54 rfl fun a60 h60 => ?_; clear h54
    refine pk0 (v := .int .i64 ga) h60 rfl fun a61 h61 => ?_; clear h60
    refine pl_nil ?_
    refine co_then ?_
    refine wp_ret ?_
    refine co_ret1 h61 rfl rfl ?_
    have hO62 := VkO.gr hf38 hg58 (fun k e => by cases e; exact hofA)
    have hB63 := fbU_at hB40 hg58 (fun hlt => by rcases hinb with hq | hq; exact hq; omega)
    have hk9 : K.take k = K := List.take_of_length_le (by omega)
    have hQ1 := hO62
    rw [hk9, prF_all (VkO.kof hV)] at hQ1
    exact ⟨_, _, _, rfl, hk56', hQ1, hinA, hofA, by omega, by omega, by rw [← hk9]; exact hgnA, hB63⟩
   ·
    rw [hc44] at h43
    have hp64 : ((k : Nat) : Int) < ((K.length : Nat) : Int) := of_decide_eq_true hc44
    clear hc44
    refine co_true h43 rfl ?_
    refine wp_skip ?_
    refine co_then ?_
    refine co_seq ?_
    refine wp_block ?_
    refine co_seq ?_
    refine co_reg ?_
    obtain ⟨y65, hy65⟩ : ∃ z, K[k]? = some z := ⟨_, List.getElem?_eq_getElem (by first | omega | (simp; done) | (simp; omega))⟩
    refine pk (v := pt (blkOf (.slice ao12 nn13 cp14)) (offOf (.slice ao12 nn13 cp14) + k * 1)) h43 rfl (rn_index rfl rfl rfl Try.underlying129 Try.sizeOf9 (row_sl hf39 strE_len) (by omega) (by first | omega | (simp; done) | (simp; omega))) fun a66 h66 => ?_; clear h43
    refine pk (v := .string y65) h66 rfl (rn_load1 rfl rfl Try.isAgg9 ((sl_at (row_sl hf39 strE_len) hy65) 0 _ rfl)) fun a67 h67 => ?_; clear h66
    refine pk0 (v := .string y65) h67 rfl fun a68 h68 => ?_; clear h67
    refine pl_nil ?_
    refine co_then ?_
    refine co_seq ?_
    refine co_reg ?_
    refine pk0 (v := pt b 0) h68 rfl fun a69 h69 => ?_; clear h68
    refine pk0 (v := pt b 0) h69 rfl fun a70 h70 => ?_; clear h69
    refine pk0 (v := pt b 1) h70 rfl fun a71 h71 => ?_; clear h70
    refine pk (v := pt tb 0) h71 rfl (rn_load1 rfl rfl Try.isAgg117 (hf37.cell rfl)) fun a72 h72 => ?_; clear h71
    refine pk0 (v := .string y65) h72 rfl fun a73 h73 => ?_; clear h72
    refine pw h73 rfl (op_call (args := #[pt tb 0, .string y65]) (R := fun res xw => ∃ (v : SlT) (b : Bool), res = .tuple #[.slice v.a v.n v.c, .bool b] ∧ xw.ownsRow 0 127 3 (.slice v.a v.n v.c) ((prF f h (K.take k)) y65).length (((prF f h (K.take k)) y65).flatMap cellE) ∧ (∀ g, (Value.slice v.a v.n v.c).ownBlock = some g → SA g) ∧ w29 = xw) rfl rfl rfl (by kernel_rfl) (by kernel_rfl) (Try.call61 _ _) (vget_any SA w29 tb KA (prF f h (K.take k)) y65 hf38) (by rintro e x ⟨v, b, h0, h⟩; exact ⟨_, h0, v, b, rfl, h⟩)) ?_; clear h73
    rintro _ _ a74 ⟨vv76, bb77, rfl, hr78, hi79, rfl⟩ h74
    refine pk0 (v := .tuple #[.slice vv76.a vv76.n vv76.c, .bool bb77]) h74 rfl fun a80 h80 => ?_; clear h74
    refine pk0 (v := .slice vv76.a vv76.n vv76.c) h80 rfl fun a81 h81 => ?_; clear h80
    refine pk0 (v := .bool bb77) h81 rfl fun a82 h82 => ?_; clear h81
    refine pk0 (v := .slice vv76.a vv76.n vv76.c) h82 rfl fun a83 h83 => ?_; clear h82
    refine pk0 (v := .bool bb77) h83 rfl fun a84 h84 => ?_; clear h83
    refine pl_nil ?_
    refine co_then ?_
    refine co_seq ?_
    refine co_reg ?_
    refine pk0 (v := .slice vv76.a vv76.n vv76.c) h84 rfl fun a85 h85 => ?_; clear h84
    refine pk0 (v := .int .u64 h) h85 rfl fun a86 h86 => ?_; clear h85
    have hl89 := hFA.len y65; have hl89d : (((prF f h (K.take k)) y65).drop (pruneN ((prF f h (K.take k)) y65) h)).length ≤ ((prF f h (K.take k)) y65).length := by rw [List.length_drop]; omega
    refine pw h86 rfl (op_call (args := #[.slice vv76.a vv76.n vv76.c, .int .u64 h]) (R := fun res xw => ∃ v' : SlT, ∃ S' : Nat → Prop, res = .slice v'.a v'.n v'.c ∧ VkO S' xw tb KA (prF f h (K.take k)) ∧ (xw.ownsRow 0 127 3 (.slice v'.a v'.n v'.c) (((prF f h (K.take k)) y65).drop (pruneN ((prF f h (K.take k)) y65) h)).length ((((prF f h (K.take k)) y65).drop (pruneN ((prF f h (K.take k)) y65) h)).flatMap cellE)) ∧ (∀ g, (Value.slice v'.a v'.n v'.c).ownBlock = some g → S' g) ∧ (xw.ownsRow 0 127 3 (.slice vv76.a vv76.n vv76.c) ((prF f h (K.take k)) y65).length (((prF f h (K.take k)) y65).flatMap cellE)) ∧ Grew SA S' w29 xw) rfl rfl rfl (by kernel_rfl) (by kernel_rfl) (Try.call65 _ _) (vprune2_any SA w29 tb KA (prF f h (K.take k)) vv76 ((prF f h (K.take k)) y65) h hf38 hr78 hi79 (hFA.ok y65) (by omega)) (by rintro e x ⟨ao, nn, cap, S', h0, h⟩; exact ⟨_, h0, ⟨ao, nn, cap⟩, S', rfl, h⟩)) ?_; clear h86
    rintro _ w88 a87 ⟨v'90, S91, rfl, hO92, hq94, hq95, hq96, hx93⟩ h87
    have hB97 := fbU_foot hB40 hx93.but (fun i hi hq => by rcases hinA i hq with k | k; exact k; omega)
    have hz98 := hB97.size
    have hz99 := hx93.but.size
    have hin100 : ∀ q, S91 q → (q = b ∨ S q) ∨ w.heap.size ≤ q := fun q hq => by rcases hx93.sub q hq with k | k; exact hinA q k; exact .inr (by omega)
    obtain ⟨m101, hm101⟩ : ∃ z : Nat, z = ((prF f h (K.take k)) y65).length := ⟨_, rfl⟩; rw [← hm101] at hq96
    obtain ⟨m102, hm102⟩ : ∃ z : Nat, z = (((prF f h (K.take k)) y65).drop (pruneN ((prF f h (K.take k)) y65) h)).length := ⟨_, rfl⟩; rw [← hm102] at hq94
    have hl103 : m101 ≤ n := by omega
    have hl104 : m102 ≤ m101 := by omega
    refine pk0 (v := .slice v'90.a v'90.n v'90.c) h87 rfl fun a105 h105 => ?_; clear h87
    refine pl_nil ?_
    refine co_then ?_
    refine co_seq ?_
    refine co_reg ?_
    refine pk0 (v := .int .i64 ga) h105 rfl fun a106 h106 => ?_; clear h105
    refine pk0 (v := .slice vv76.a vv76.n vv76.c) h106 rfl fun a107 h107 => ?_; clear h106
    refine pk (v := .int .i64 ((m101 : Nat) : Int)) h107 rfl (rn_lenOwn rfl rfl Try.underlying121 hq96) fun a108 h108 => ?_; clear h107
    refine pk0 (v := .slice v'90.a v'90.n v'90.c) h108 rfl fun a109 h109 => ?_; clear h108
    refine pk (v := .int .i64 ((m102 : Nat) : Int)) h109 rfl (rn_lenOwn rfl rfl Try.underlying121 hq94) fun a110 h110 => ?_; clear h109
    refine pk (v := .int .i64 (((m101 : Nat) : Int) - ((m102 : Nat) : Int))) h110 rfl (rn_arith rfl rfl rfl rfl rfl rfl (IntWalk.i64_in _ (by omega))) fun a111 h111 => ?_; clear h110
    refine pk (v := .int .i64 (ga + (((m101 : Nat) : Int) - ((m102 : Nat) : Int)))) h111 rfl (rn_arith rfl rfl rfl rfl rfl rfl (IntWalk.i64_in _ (by omega))) fun a112 h112 => ?_; clear h111
    refine pk0 (v := .int .i64 (ga + (((m101 : Nat) : Int) - ((m102 : Nat) : Int)))) h112 rfl fun a113 h113 => ?_; clear h112
    refine pl_nil ?_
    refine co_then ?_
    refine co_seq ?_
    refine co_reg ?_
    refine pk0 (v := .slice v'90.a v'90.n v'90.c) h113 rfl fun a114 h114 => ?_; clear h113
    refine pk (v := .int .i64 ((m102 : Nat) : Int)) h114 rfl (rn_lenOwn rfl rfl Try.underlying121 hq94) fun a115 h115 => ?_; clear h114
    refine pk0 (v := .bool (((m102 : Nat) : Int) == 0)) h115 rfl fun a116 h116 => ?_; clear h115
    refine pl_nil ?_
    refine co_then ?_
    cases hc117 : (((m102 : Nat) : Int) == 0)
    ·
     rw [hc117] at h116
     have hp118 : ¬ (((m102 : Nat) : Int) = 0) := by first | simpa using hc117 | simpa [and_assoc] using hc117
     clear hc117
     refine co_false h116 rfl ?_
     refine co_reg ?_
     refine pk0 (v := pt b 0) h116 rfl fun a119 h119 => ?_; clear h116
     refine pk0 (v := pt b 0) h119 rfl fun a120 h120 => ?_; clear h119
     refine pk0 (v := pt b 1) h120 rfl fun a121 h121 => ?_; clear h120
     have hk122 := Blk.butS hf37 hx93.but hofA
     refine pk (v := pt tb 0) h121 rfl (rn_load1 rfl rfl Try.isAgg117 (hk122.cell rfl)) fun a123 h123 => ?_; clear h121
     refine pk0 (v := .string y65) h123 rfl fun a124 h124 => ?_; clear h123
     refine pk0 (v := .slice v'90.a v'90.n v'90.c) h124 rfl fun a125 h125 => ?_; clear h124
     refine pw h125 rfl (op_call (args := #[pt tb 0, .string y65, .slice v'90.a v'90.n v'90.c]) (R := fun res xw => ∃ b' : Bool, ∃ S' : Nat → Prop, res = .bool b' ∧ VkO S' xw tb (insY KA y65) (upd (prF f h (K.take k)) y65 (((prF f h (K.take k)) y65).drop (pruneN ((prF f h (K.take k)) y65) h))) ∧ Grew S91 S' w88 xw) rfl rfl rfl (by kernel_rfl) (by kernel_rfl) (Try.call63 _ _) (vput_any S91 w88 tb KA (prF f h (K.take k)) y65 v'90 (((prF f h (K.take k)) y65).drop (pruneN ((prF f h (K.take k)) y65) h)) hO92 (by have hz9 := hq94; rw [hm102] at hz9; exact hz9) hq95 (ne_len0 (by omega)) (by omega)) (by rintro e x ⟨b', S', h0, h⟩; exact ⟨_, h0, b', S', rfl, h⟩)) ?_; clear h125
     rintro _ w127 a126 ⟨b'128, S129, rfl, hO130, hx131⟩ h126
     have hr132 := own_butS hf39 hx93.but horA
     have hB133 := fbU_foot hB97 hx131.but (fun i hi hq => by rcases hin100 i hq with k | k; exact k; omega)
     have hz134 := hB133.size
     have hz135 := hx131.but.size
     have hin136 : ∀ q, S129 q → (q = b ∨ S q) ∨ w.heap.size ≤ q := fun q hq => by rcases hx131.sub q hq with k | k; exact hin100 q k; exact .inr (by omega)
     have hl137 := len_insY KA y65
     refine pl_nil ?_
     refine co_blockN ?_
     refine co_then ?_
     refine co_reg ?_
     refine pk (v := .int .i64 ((k + 1 : Nat) : Int)) h126 rfl (rn_arith' rfl rfl rfl rfl rfl rfl (IntWalk.i64_in _ (by omega)) (by omega)) fun a138 h138 => ?_; clear h126
     refine pk0 (v := .int .i64 ((k + 1 : Nat) : Int)) h138 rfl fun a139 h139 => ?_; clear h138
     refine pl_nil ?_
     refine co_then ?_
     refine ⟨(K.length - (k + 1)), by omega, ?_⟩
     have hin9 := hin136
     have hof9 := (Grew.off hx131 (Grew.off hx93 hofA hf37.lt) hk122.lt)
     have hor9 : ∀ i, (Value.slice ao12 nn13 cp14).ownBlock = some i → ¬ S129 i := (Grew.offR hx131 hr132 (Grew.offR hx93 hf39 horA))
     have hkl9 := prF_len (VkO.kof hV) (VkO.kof (show VkO _ _ _ _ (prF f h (K.take (k + 1))) from by rw [prF_step hKup (by assumption)]; exact hO130))
     have hpa9 := prF_at (f := f) (h := h) hKup hy65
     have hgs9 := goneK_at (f := f) (h := h) hy65
     have hpl9 := pruneN_le (f y65) h
     have he19 : m101 = (f y65).length := by rw [hm101, hpa9]
     have he29 : m102 = (f y65).length - pruneN (f y65) h := by rw [hm102, List.length_drop, hpa9]
     have hgn9 : (ga + (((m101 : Nat) : Int) - ((m102 : Nat) : Int))) = ((goneK f h (K.take (k + 1)) : Nat) : Int) := by omega
     have hk140 := Blk.butS hk122 hx131.but (Grew.off hx93 hofA hf37.lt)
     have hr141 := own_butS hr132 hx131.but (Grew.offR hx93 hf39 horA)
     exact ⟨k + 1, S129, (insY KA y65), (ga + (((m101 : Nat) : Int) - ((m102 : Nat) : Int))), h139.sub ⟨rfl, rfl, rfl, rfl, rfl, rfl, trivial⟩, rfl, by omega, by exact hin9, by exact hof9, by exact hor9, by exact hkl9, by omega, by exact hgn9, hk140, (show VkO _ _ _ _ (prF f h (K.take (k + 1))) from by rw [prF_step hKup (by assumption)]; exact hO130), hr141, hB133⟩
    ·
     rw [hc117] at h116
     have hp142 : ((m102 : Nat) : Int) = 0 := by first | simpa using hc117 | simpa [and_assoc] using hc117
     clear hc117
     refine co_true h116 rfl ?_
     refine co_reg ?_
     refine pk0 (v := pt b 0) h116 rfl fun a143 h143 => ?_; clear h116
     refine pk0 (v := pt b 0) h143 rfl fun a144 h144 => ?_; clear h143
     refine pk0 (v := pt b 1) h144 rfl fun a145 h145 => ?_; clear h144
     have hk146 := Blk.butS hf37 hx93.but hofA
     refine pk (v := pt tb 0) h145 rfl (rn_load1 rfl rfl Try.isAgg117 (hk146.cell rfl)) fun a147 h147 => ?_; clear h145
     refine pk0 (v := .string y65) h147 rfl fun a148 h148 => ?_; clear h147
     refine pw h148 rfl (op_call (args := #[pt tb 0, .string y65]) (R := fun res xw => ∃ b' : Bool, ∃ S' : Nat → Prop, res = .bool b' ∧ VkO S' xw tb (delY KA y65) (upd (prF f h (K.take k)) y65 []) ∧ Grew S91 S' w88 xw) rfl rfl rfl (by kernel_rfl) (by kernel_rfl) (Try.call66 _ _) (vdel_any S91 w88 tb KA (prF f h (K.take k)) y65 hO92 (by omega)) (by rintro e x ⟨b', S', h0, h⟩; exact ⟨_, h0, b', S', rfl, h⟩)) ?_; clear h148
     rintro _ w150 a149 ⟨b'151, S152, rfl, hO153, hx154⟩ h149
     have hr155 := own_butS hf39 hx93.but horA
     have hB156 := fbU_foot hB97 hx154.but (fun i hi hq => by rcases hin100 i hq with k | k; exact k; omega)
     have hz157 := hB156.size
     have hz158 := hx154.but.size
     have hin159 : ∀ q, S152 q → (q = b ∨ S q) ∨ w.heap.size ≤ q := fun q hq => by rcases hx154.sub q hq with k | k; exact hin100 q k; exact .inr (by omega)
     refine pl_nil ?_
     refine co_blockN ?_
     refine co_then ?_
     refine co_reg ?_
     refine pk (v := .int .i64 ((k + 1 : Nat) : Int)) h149 rfl (rn_arith' rfl rfl rfl rfl rfl rfl (IntWalk.i64_in _ (by omega)) (by omega)) fun a160 h160 => ?_; clear h149
     refine pk0 (v := .int .i64 ((k + 1 : Nat) : Int)) h160 rfl fun a161 h161 => ?_; clear h160
     refine pl_nil ?_
     refine co_then ?_
     refine ⟨(K.length - (k + 1)), by omega, ?_⟩
     have hin9 := hin159
     have hof9 := (Grew.off hx154 (Grew.off hx93 hofA hf37.lt) hk146.lt)
     have hor9 : ∀ i, (Value.slice ao12 nn13 cp14).ownBlock = some i → ¬ S152 i := (Grew.offR hx154 hr155 (Grew.offR hx93 hf39 horA))
     have hkl9 := prF_len (VkO.kof hV) (VkO.kof (show VkO _ _ _ _ (prF f h (K.take (k + 1))) from by rw [prF_step0 hKup (by assumption) (by omega)]; exact hO153))
     have hpa9 := prF_at (f := f) (h := h) hKup hy65
     have hgs9 := goneK_at (f := f) (h := h) hy65
     have hpl9 := pruneN_le (f y65) h
     have he19 : m101 = (f y65).length := by rw [hm101, hpa9]
     have he29 : m102 = (f y65).length - pruneN (f y65) h := by rw [hm102, List.length_drop, hpa9]
     have hgn9 : (ga + (((m101 : Nat) : Int) - ((m102 : Nat) : Int))) = ((goneK f h (K.take (k + 1)) : Nat) : Int) := by omega
     have hk162 := Blk.butS hk146 hx154.but (Grew.off hx93 hofA hf37.lt)
     have hr163 := own_butS hr155 hx154.but (Grew.offR hx93 hf39 horA)
     exact ⟨k + 1, S152, (delY KA y65), (ga + (((m101 : Nat) : Int) - ((m102 : Nat) : Int))), h161.sub ⟨rfl, rfl, rfl, rfl, rfl, rfl, trivial⟩, rfl, by omega, by exact hin9, by exact hof9, by exact hor9, by exact hkl9, by omega, by exact hgn9, hk162, (show VkO _ _ _ _ (prF f h (K.take (k + 1))) from by rw [prF_step0 hKup (by assumption) (by omega)]; exact hO153), hr163, hB156⟩
end Go.Proofs.Ytbjbcbbhmbpndaa

/- Package mvcc: the program's store as an object: New, Put, Prune, Get, Scan, Last, Cells; those that nobody made. Conditions: at most 100 calls, 20 operations each. -/
namespace Go.Proofs.Ytbjbcbbhmbpndaa
open Go.RowKit Go.PlainAid Go.Shelf
set_option linter.unusedVariables false

/-- The keys that have something, rising. -/
noncomputable def ksOf (f : Fv) : List ByteArray := open Classical in if h : ∃ K, KOf K f then h.choose else []
theorem ksOf_eq {f : Fv} {K : List ByteArray} (h : KOf K f) : ksOf f = K := by
  unfold ksOf; rw [dif_pos ⟨K, h⟩]; exact KOf.one (Exists.choose_spec (⟨K, h⟩ : ∃ K, KOf K f)) h
/-- A store that was made: what each key has, the last timestamp, the versions' number; m calls at most so far. -/
def MvO (S : Nat → Prop) (w : World) (b : Nat) (f : Fv) (la ce : Int) (m : Nat) : Prop :=
  ∃ (tb : Nat) (S1 : Nat → Prop) (K : List ByteArray), Blk w b 119 #[.bool true, pt tb 0, .int .u64 la, .int .i64 ce] ∧ VkO S1 w tb K f ∧ ¬ S1 b ∧ (∀ q, S q ↔ q = b ∨ S1 q) ∧ FOk f la m ∧ (0 ≤ la ∧ la < 18446744073709551616) ∧ K.length ≤ 20 * m ∧ (-100000000 * (m : Int) ≤ ce ∧ ce ≤ 100000000 * (m : Int))
section
variable {S D : Nat → Prop} {w x : World} {b m : Nat} {f : Fv} {la ce : Int}
theorem MvO.ofS (h : MvO S w b f la ce m) : ∀ q, S q → q < w.heap.size := fun q hq => by
  obtain ⟨tb, S1, K, h1, h2, h3, h4, _⟩ := h
  rcases (h4 q).1 hq with rfl | hq
  · exact h1.lt
  · exact h2.ofS q hq
theorem MvO.keep (h : MvO S w b f la ce m) (hk : ∀ q, S q → x.heap[q]? = w.heap[q]?) (hz : w.heap.size ≤ x.heap.size) : MvO S x b f la ce m := by
  obtain ⟨tb, S1, K, h1, h2, h3, h4, h5⟩ := h
  refine ⟨tb, S1, K, ?_, h2.keep (fun q hq => hk q ((h4 q).2 (.inr hq))) hz, h3, h4, h5⟩
  unfold Blk at h1 ⊢
  rw [hk b ((h4 b).2 (.inl rfl))]; exact h1
theorem MvO.gr {row : Option Nat} (h : MvO S w b f la ce m) (hg : w.grownBy x row) (hr : ∀ k, row = some k → ¬ S k) : MvO S x b f la ce m :=
  h.keep (fun q hq => hg.block q (h.ofS q hq) (fun e => hr q e.symm hq)) hg.size
theorem MvO.but (h : MvO S w b f la ce m) (hb : But D w x) (ha : ∀ q, D q → S q → False) : MvO S x b f la ce m :=
  h.keep (fun q hq => hb.block q (h.ofS q hq) (fun hd => ha q hd hq)) hb.size
theorem MvO.fok (h : MvO S w b f la ce m) : FOk f la m := by obtain ⟨tb, S1, K, h1, h2, h3, h4, h5, _⟩ := h; exact h5
theorem MvO.laB (h : MvO S w b f la ce m) : 0 ≤ la ∧ la < 18446744073709551616 := by obtain ⟨tb, S1, K, h1, h2, h3, h4, h5, h6, _⟩ := h; exact h6
theorem MvO.kof (h : MvO S w b f la ce m) : KOf (ksOf f) f := by obtain ⟨tb, S1, K, h1, h2, _⟩ := h; rw [ksOf_eq h2.kof]; exact h2.kof
theorem mvLa_bd {ts : Int} {l : List OpT} (h : 0 ≤ la ∧ la < 18446744073709551616) (hts : 0 ≤ ts ∧ ts < 18446744073709551616) : (0 ≤ mvLa la ts l ∧ mvLa la ts l < 18446744073709551616) ∧ la ≤ mvLa la ts l := by
  unfold mvLa
  split
  · rename_i hE
    by_cases h1 : ts = 0
    · rw [mvE_a h1] at hE; cases hE
    · by_cases h2 : ts ≤ la
      · rw [mvE_b h1 h2] at hE; cases hE
      · exact ⟨hts, by omega⟩
  · exact ⟨h, Int.le_refl _⟩
theorem mv_good {ts : Int} {l : List OpT} (hE : mvE la ts l = 0) : ¬ ts = 0 ∧ la < ts ∧ chkB 0 1 l = 0 := by
  by_cases h1 : ts = 0
  · rw [mvE_a h1] at hE; cases hE
  · by_cases h2 : ts ≤ la
    · rw [mvE_b h1 h2] at hE; cases hE
    · rw [mvE_c h1 h2] at hE; exact ⟨h1, by omega, hE⟩
theorem FOk.mv {ts : Int} {l : List OpT} (h : FOk f la m) (hts : 0 ≤ ts ∧ ts < 18446744073709551616) : FOk (mvF f la ts l) (mvLa la ts l) (m + 1) := by
  unfold mvF mvLa
  by_cases hE : mvE la ts l = 0
  · obtain ⟨h1, h2, h3⟩ := mv_good hE
    rw [if_pos hE, if_pos hE]
    exact h.puts h2 ⟨by omega, hts.2⟩ (chkB_up h3)
  · rw [if_neg hE, if_neg hE]; exact h.mono (Int.le_refl _) (by omega)
theorem mvPut (w : World) (ts : Int) (v : Value) (l : List OpT) (h : MvO S w b f la ce m) (hs : SliceOf opE 3 w v l) (hvS : l ≠ [] → ∀ k, v.ownBlock = some k → ¬ S k) (hl : l.length ≤ 20) (hts : 0 ≤ ts ∧ ts < 18446744073709551616) (hm : m ≤ 100) :
    Calls Try.prog 22 #[pt b 0, .int .u64 ts, v] w fun e w' => ∃ S' : Nat → Prop, e = .returned (.int .i64 (mvE la ts l)) ∧ MvO S' w' b (mvF f la ts l) (mvLa la ts l) (mvCe la ts ce l) (m + 1) ∧ Grew S S' w w' := by
  obtain ⟨tb, S1, K, h1, h2, h3, h4, h5, h6, h7, h8⟩ := h
  refine (mput_blk S1 b tb K f la ce m ts v l w h1 h2 h3 h5 (by omega) h6 (by omega) hs (fun hn k hk hq => hvS hn k hk ((h4 k).2 hq)) hts (by omega) hl).mono ?_
  rintro e w' ⟨S', K', rfl, k1, k2, k3, k4, k5, k6⟩
  refine ⟨fun q => q = b ∨ S' q, rfl, ⟨tb, S', K', k1, k2, k4, fun q => Iff.rfl, h5.mv hts, (mvLa_bd h6 hts).1, by omega, ?_⟩, fun q hq => ?_, k6.mono fun q _ hq => (h4 q).2 hq⟩
  · unfold mvCe; split <;> omega
  · rcases hq with rfl | hq
    · exact .inl ((h4 _).2 (.inl rfl))
    · rcases k3 q hq with k | k
      · exact .inl ((h4 q).2 k)
      · exact .inr k
theorem mvPruneX (w : World) (h : Int) (hO : MvO S w b f la ce m) (hh : 0 ≤ h ∧ h < 18446744073709551616) (hm : m ≤ 100) :
    Calls Try.prog 23 #[pt b 0, .int .u64 h] w fun e w' => ∃ (g : Int) (S' : Nat → Prop), e = .returned (.int .i64 g) ∧ MvO S' w' b (pruneF f h) la (ce - g) (m + 1) ∧ Grew S S' w w' ∧ g = ((goneK f h (ksOf f) : Nat) : Int) := by
  obtain ⟨tb, S1, K, h1, h2, h3, h4, h5, h6, h7, h8⟩ := hO
  refine (mprune_blk S1 b tb K f la ce m h w h1 h2 h3 h5 (by omega) h6 (by omega) hh (by omega)).mono ?_
  rintro e w' ⟨S', K', g, rfl, k1, k2, k3, k4, k5, k6, k8, k7⟩
  refine ⟨g, fun q => q = b ∨ S' q, rfl, ⟨tb, S', K', k1, k2, k4, fun q => Iff.rfl, (h5.prune h).mono (Int.le_refl _) (by omega), h6, by omega, by omega⟩, ⟨fun q hq => ?_, k7.mono fun q _ hq => (h4 q).2 hq⟩, by rw [ksOf_eq h2.kof]; exact k8⟩
  rcases hq with rfl | hq
  · exact .inl ((h4 _).2 (.inl rfl))
  · rcases k3 q hq with k | k
    · exact .inl ((h4 q).2 k)
    · exact .inr k
theorem mvPrune (w : World) (h : Int) (hO : MvO S w b f la ce m) (hh : 0 ≤ h ∧ h < 18446744073709551616) (hm : m ≤ 100) :
    Calls Try.prog 23 #[pt b 0, .int .u64 h] w fun e w' => ∃ (g : Int) (S' : Nat → Prop), e = .returned (.int .i64 g) ∧ MvO S' w' b (pruneF f h) la (ce - g) (m + 1) ∧ Grew S S' w w' :=
  (mvPruneX w h hO hh hm).mono fun e x ⟨g, S', h1, h2, h3, _⟩ => ⟨g, S', h1, h2, h3⟩
theorem mvGet (w : World) (k : ByteArray) (t : Int) (h : MvO S w b f la ce m) :
    Calls Try.prog 51 #[pt b 0, .string k, .int .u64 t] w fun e w' => e = .returned (.tuple #[.string (atS (f k) t).1, .bool (atS (f k) t).2]) ∧ Below w.heap.size w w' := by
  obtain ⟨tb, S1, K, h1, h2, h3, h4, h5, _⟩ := h
  exact mget_blk b tb _ _ S1 K f k t la m w h1 h2 h5
/-- What a scan tells, were there no limit. -/
noncomputable def hitsF (f : Fv) (t : Int) (F T : ByteArray) : List PairT := hits f t ((ksOf f).filter (inR F T))
theorem mvScan (w : World) (F T : ByteArray) (t most : Int) (h : MvO S w b f la ce m) (hm : m ≤ 100) (hmost : -9223372036854775808 ≤ most ∧ most ≤ 9223372036854775807) :
    Calls Try.prog 56 #[pt b 0, .string F, .string T, .int .u64 t, .int .i64 most] w fun e w' => ∃ u, e = .returned (.tuple #[u, .bool (scanM (hitsF f t F T) most)]) ∧ w'.ownsRow w.heap.size 88 2 u (scanL (hitsF f t F T) most).length ((scanL (hitsF f t F T) most).flatMap pairE) ∧ Below w.heap.size w w' := by
  obtain ⟨tb, S1, K, h1, h2, h3, h4, h5, h6, h7, h8⟩ := h
  unfold hitsF
  rw [ksOf_eq h2.kof]
  exact mscan_blk S1 b tb K f la ce m F T t most w h1 h2 h3 h5 (by omega) h6 (by omega) (by omega) hmost
end
set_option maxRecDepth 100000
theorem mvLast {S : Nat → Prop} {b m : Nat} {f : Fv} {la ce : Int} (w : World) (h : MvO S w b f la ce m) : Calls Try.prog 24 #[pt b 0] w fun e w' => e = .returned (.int .u64 la) ∧ w = w' := by
  obtain ⟨tb, S1, K, h1, h2, _⟩ := h
  have c2 : w.cell? ⟨b, 2, none⟩ = some (.int .u64 la) := h1.cell (k := 2) rfl
  have HB := Lib.hid h1; clear h1 h2
  go_enter Try.func24, Try.ntmps24
  go_wp2_with fail
  refine (mzero_any b _ _ _ w HB.out).mono ?_
  rintro e w1 ⟨rfl, rfl⟩
  go_wp2
  go_ret
  exact ⟨rfl, rfl⟩
theorem mvNew (w : World) : Calls Try.prog 45 #[] w fun e w' => ∃ (N : Nat) (S : Nat → Prop), e = .returned (pt N 0) ∧ MvO S w' N (fun _ => []) 0 0 0 ∧ (∀ q, S q → w.heap.size ≤ q) ∧ Below w.heap.size w w' := by
  go_enter Try.func45, Try.ntmps45
  go_wp2_with fail
  refine (tnew_any w).mono ?_
  rintro e w1 ⟨S0, rfl, hT, hlo, hb⟩
  have HT := Lib.hid hT; have HL := Lib.hid hlo; have HB := Lib.hid hb; clear hT hlo hb
  go_wp2
  go_ret
  have hg := World.grownBy_alloc w1 (.cells #[.bool true, pt w.heap.size 0, .int .u64 0, .int .i64 0] 119) none
  refine ⟨w1.heap.size, fun q => q = w1.heap.size ∨ S0 q, rfl, ⟨w.heap.size, S0, [], World.alloc_heap_new w1 _, ⟨S0, [], 0, HT.out.gr hg (fun k e => by cases e), rfl, ⟨List.Pairwise.nil, by simp⟩, by simp, fun q hq => hq, fun q hq => Nat.lt_of_lt_of_le (HT.out.ofS q hq) hg.size⟩, fun hq => by have := HT.out.ofS _ hq; omega, fun q => Iff.rfl, ⟨by simp, fun _ => rfl, fun _ => Int.le_refl _, by simp⟩, by omega, by simp, by omega⟩, fun q hq => ?_, HB.out.alloc HB.out.size _⟩
  rcases hq with rfl | hq
  · exact HB.out.size
  · exact HL.out q hq
/-- Nobody made it. -/
def NoMv (w : World) (p : Value) : Prop := p = .pointer none ∨ ∃ b u v c, p = pt b 0 ∧ Blk w b 119 #[.bool false, u, v, c]
theorem NoMv.gr {w x : World} {p : Value} (h : NoMv w p) (hg : w.grownBy x none) : NoMv x p := by
  rcases h with rfl | ⟨b, u, v, c, rfl, h⟩
  · exact .inl rfl
  · exact .inr ⟨b, u, v, c, rfl, h.kept hg (by simp)⟩
end Go.Proofs.Ytbjbcbbhmbpndaa

/- catenalaw16: what comes in; few, SamePairs, awake. Conditions: none. -/
namespace Go.Proofs.Ytbjbcbbhmbpndaa
open Go.RowKit Go.PlainAid
set_option linter.unusedVariables false
set_option linter.unusedSimpArgs false


structure MActT where
  c : Int
  ts : Int
  v : Value
  l : List OpT
  k : ByteArray
  to : ByteArray
  n : Int
instance : Inhabited MActT := ⟨⟨0, 0, .slice none 0 0, [], ⟨#[]⟩, ⟨#[]⟩, 0⟩⟩
structure MActOk (w : World) (a : MActT) : Prop where
  ops : SliceOf opE 3 w a.v a.l
  t0 : 0 ≤ a.ts
  t1 : a.ts < 18446744073709551616
  n0 : (Lit.int .i64 a.n).wf = true
theorem opE_ne (l : List OpT) : ∀ y ∈ l, opE y ≠ [] := fun y _ => by simp [opE]
section
variable {H : Type} {enc : TypeId × Value → H} {w : World} {base : Nat} {spare : Nat → Bool} {held : Bool}
open Go.ChangeShapes Go.WideShapes Go.Deep
set_option maxRecDepth 10000 in
theorem elem_op (n : Nat) (cs : List Value) (x : DataW H × List MemPlace) (h : DataW.trod enc Try.prog w base spare held n 90 cs = some x) : ∃ p : OpT, cs = opE p ∧ True := by
  obtain ⟨hl, m, hf⟩ := trod_fields Try.underlying90 (by kernel_rfl) (by kernel_rfl) h
  have hl3 : cs.length = 3 := hl
  clear hl
  match cs, hl3 with
  | [c0, c1, c2], _ =>
    obtain ⟨_, y0, e0, h0⟩ := hf 0 _ rfl
    obtain ⟨_, y1, e1, h1⟩ := hf 1 _ rfl
    obtain ⟨_, y2, e2, h2⟩ := hf 2 _ rfl
    cases e0; cases e1; cases e2
    obtain ⟨a, e0, _⟩ := DataW.trod_string Try.underlying9 h0
    obtain ⟨b, e1, _⟩ := DataW.trod_string Try.underlying9 h1
    obtain ⟨c, e2, _⟩ := DataW.trod_bool Try.underlying4 h2
    simp only [List.cons.injEq, and_true] at e0 e1 e2
    subst e0 e1 e2
    exact ⟨(a, b, c), rfl, trivial⟩
theorem open_ops {fuel : Nat} {cs : List Value} {x : DataW H × List MemPlace} (h : DataW.trod enc Try.prog w base spare held fuel 30 cs = some x) :
    ∃ (l : List OpT) (v : Value), cs = [v] ∧ SliceOf opE 3 w v l ∧ ∀ p ∈ l, True :=
  open_rows opE 3 (fun _ => True) Try.underlying30 (by kernel_rfl) (by omega) elem_op h
end
def Few (l : List MActT) (n : Nat) : Prop := ∀ a ∈ l.take n, a.l.length ≤ 20
instance (l : List MActT) (n : Nat) : Decidable (Few l n) := by unfold Few; infer_instance
theorem Few.step {l : List MActT} {i : Nat} {y : MActT} (h : Few l i) (hy : l[i]? = some y) (h2 : y.l.length ≤ 20) : Few l (i + 1) := by
  unfold Few at h ⊢
  rw [takeO_at hy]
  intro a ha
  rw [List.mem_append, List.mem_singleton] at ha
  rcases ha with ha | rfl; exact h a ha; exact h2
theorem Few.not {l : List MActT} {i : Nat} {y : MActT} (hy : l[i]? = some y) (hi : i < 40) (h2 : y.l.length > 20) : ¬ Few l 40 := fun h => by
  have := h y (List.mem_of_getElem? (i := i) (by rw [List.getElem?_take, if_pos hi]; exact hy)); omega
theorem Few.all {l : List MActT} {i : Nat} (h : Few l i) (hi : l.length ≤ i ∨ 40 ≤ i) : Few l 40 := by
  rcases hi with hi | hi
  · intro a ha; exact h a (by rw [List.take_of_length_le hi]; exact List.mem_of_mem_take ha)
  · intro a ha
    obtain ⟨j, hj⟩ := List.getElem?_of_mem ha
    have hl := (List.getElem?_eq_some_iff.1 hj).1
    rw [List.length_take] at hl
    rw [List.getElem?_take, if_pos (by omega)] at hj
    exact h a (List.mem_of_getElem? (i := j) (by rw [List.getElem?_take, if_pos (by omega)]; exact hj))
theorem Few.at {l : List MActT} {i : Nat} {y : MActT} (h : Few l 40) (hy : l[i]? = some y) (hi : i < 40) : y.l.length ≤ 20 := h y (List.mem_of_getElem? (i := i) (by rw [List.getElem?_take, if_pos hi]; exact hy))

def eqP (x y : PairT) : Bool := x.1.toList == y.1.toList && x.2.toList == y.2.toList
theorem eq_pair (a b d e : ByteArray) (w : World) : (binOp .eql 88 (.agg #[.string a, .string b]) (.agg #[.string d, .string e])).run Try.prog w = .ok (.bool (a.toList == d.toList && b.toList == e.toList)) w := by
  have u := Try.underlying9
  have hS : Try.prog.underlying 88 = some (.struct (Try.prog.fieldsOf 88)) := by kernel_rfl
  have hp : Try.prog.stoodInHeld 88 = false := by kernel_rfl
  have hf : (Try.prog.fieldsOf 88).toList.map (fun f => (f.offset, f.type)) = [(0, 9), (1, 9)] := by kernel_rfl
  rw [run_eql_struct, show (10000 : Nat) = 9999 + 1 from rfl, run_equalIn_agg w 9999 88 _ _ hS hp]
  simp only [Program.fieldsOf, Try.underlying88]
  go_simp
  by_cases h1 : a.toList = d.toList <;> by_cases h2 : b.toList = e.toList <;> simp [h1, h2]
def sameP : List PairT → List PairT → Bool
  | [], [] => true
  | x :: a, y :: b => eqP x y && sameP a b
  | _, _ => false
theorem sameP_len : ∀ {a b : List PairT}, a.length ≠ b.length → false = sameP a b
  | [], [], h => absurd rfl h
  | [], _ :: _, _ => rfl
  | _ :: _, [], _ => rfl
  | x :: a, y :: b, h => by
    show false = (eqP x y && sameP a b)
    rw [← sameP_len (a := a) (b := b) (fun e => h (by simp [e]))]; simp
theorem dropP {α : Type} {l : List α} {i : Nat} {y : α} (h : l[i]? = some y) : l.drop i = y :: l.drop (i + 1) := by
  obtain ⟨hi, rfl⟩ := List.getElem?_eq_some_iff.1 h
  exact List.drop_eq_getElem_cons hi
theorem sameP_step {a b : List PairT} {i : Nat} {x y : PairT} {z : Bool} (h : sameP (a.drop i) (b.drop i) = z) (hx : a[i]? = some x) (hy : b[i]? = some y) (he : eqP x y = true) : sameP (a.drop (i + 1)) (b.drop (i + 1)) = z := by
  rw [dropP hx, dropP hy] at h; unfold sameP at h; rwa [he, Bool.true_and] at h
theorem sameP_no {a b : List PairT} {i : Nat} {x y : PairT} {z : Bool} (h : sameP (a.drop i) (b.drop i) = z) (hx : a[i]? = some x) (hy : b[i]? = some y) (he : eqP x y = false) : false = z := by
  rw [dropP hx, dropP hy] at h; unfold sameP at h; rwa [he, Bool.false_and] at h
theorem sameP_end {a b : List PairT} {i : Nat} {z : Bool} (h : sameP (a.drop i) (b.drop i) = z) (hl : a.length = b.length) (hi : a.length ≤ i) : true = z := by
  rw [List.drop_eq_nil_of_le hi, List.drop_eq_nil_of_le (by omega)] at h; exact h
theorem eqP_of {x y : PairT} {b : Bool} (h : (!(x.1.toList == y.1.toList && x.2.toList == y.2.toList)) = b) : eqP x y = !b := by unfold eqP; rw [← h]; simp
theorem sameP_refl : ∀ a : List PairT, sameP a a = true
  | [] => rfl
  | x :: a => by show (eqP x x && sameP a a) = true; rw [sameP_refl a]; unfold eqP; simp


set_option maxRecDepth 100000 in
theorem rsamePairs_any (v : Value) (l : List PairT) (v2 : Value) (l2 : List PairT) (w : World) (hs : SliceOf pairE 2 w v l) (hs2 : SliceOf pairE 2 w v2 l2) :
    Calls Try.prog 25 #[v, v2] w fun e w' => e = .returned (.bool (sameP l l2)) ∧ Below w.heap.size w w' := by
 have hB0 := Below.refl w.heap.size w
 have hl_hs := sl_len hs
 have hl_hs2 := sl_len hs2
 refine co_enter (n := 32) Try.func25 rfl rfl rfl [(0, v), (1, v2)] rfl (fun a h0 => ?_)
 refine co_seq ?_
 refine co_reg ?_
 refine pk0 (v := .bool false) h0 rfl fun a1 h1 => ?_; clear h0
 refine pl_nil ?_
 refine co_then ?_
 refine co_seq ?_
 refine co_seq ?_
 refine co_reg ?_
 refine pk0 (v := v) h1 rfl fun a2 h2 => ?_; clear h1
 refine pk (v := .int .i64 ((l.length : Nat) : Int)) h2 rfl (rn_len rfl rfl Try.underlying35 hs) fun a3 h3 => ?_; clear h2
 refine pk0 (v := v2) h3 rfl fun a4 h4 => ?_; clear h3
 refine pk (v := .int .i64 ((l2.length : Nat) : Int)) h4 rfl (rn_len rfl rfl Try.underlying35 hs2) fun a5 h5 => ?_; clear h4
 refine pk0 (v := .bool (((l.length : Nat) : Int) != ((l2.length : Nat) : Int))) h5 rfl fun a6 h6 => ?_; clear h5
 refine pl_nil ?_
 refine co_then ?_
 cases hc7 : (((l.length : Nat) : Int) != ((l2.length : Nat) : Int))
 ·
  rw [hc7] at h6
  have hp8 : ¬ (((l.length : Nat) : Int) ≠ ((l2.length : Nat) : Int)) := by first | simpa using hc7 | simpa [and_assoc] using hc7
  clear hc7
  refine co_false h6 rfl ?_
  refine wp_skip ?_
  refine co_then ?_
  refine co_seq ?_
  refine co_seq ?_
  refine co_reg ?_
  refine pk0 (v := .int .i64 0) h6 rfl fun a9 h9 => ?_; clear h6
  refine pl_nil ?_
  refine co_then ?_
  refine wp_block ?_
  have h10 : Slots 32 [(0, v), (1, v2), (4, .bool false), (5, .int .i64 0)] _ := h9.sub ⟨rfl, rfl, rfl, rfl, trivial⟩; clear h9
  refine co_loop (fun mm a x => ∃ (i : Nat), Slots 32 [(0, v), (1, v2), (4, .bool false), (5, .int .i64 ((i : Nat) : Int))] a ∧ mm = l.length - i ∧ (i ≤ l.length) ∧ (l.length = l2.length) ∧ (sameP (l.drop i) (l2.drop i) = sameP l l2) ∧ Below w.heap.size w x) (l.length - 0) ?_ ?_
  · exact ⟨0, h10.sub ⟨rfl, rfl, rfl, (slot_eq rfl (congrArg (Value.int .i64) (by first | rfl | omega))), trivial⟩, rfl, by omega, by omega, by first | rfl | exact hL', hB0⟩
  · rintro k11 a12 w13 ⟨i, h12, rfl, hi14, hi15, hi16, hB17⟩
    have hz18 := hB17.size
    have hL : sameP (l.drop i) (l2.drop i) = sameP l l2 := by assumption
    refine co_seq ?_
    refine co_seq ?_
    refine co_reg ?_
    refine pk0 (v := .int .i64 ((i : Nat) : Int)) h12 rfl fun a19 h19 => ?_; clear h12
    refine pk0 (v := v) h19 rfl fun a20 h20 => ?_; clear h19
    refine pk (v := .int .i64 ((l.length : Nat) : Int)) h20 rfl (rn_len rfl rfl Try.underlying35 (hs.below hB17)) fun a21 h21 => ?_; clear h20
    refine pk0 (v := .bool (decide (((i : Nat) : Int) < ((l.length : Nat) : Int)))) h21 rfl fun a22 h22 => ?_; clear h21
    refine pk0 (v := .bool (decide (((i : Nat) : Int) < ((l.length : Nat) : Int)))) h22 rfl fun a23 h23 => ?_; clear h22
    cases hc24 : (decide (((i : Nat) : Int) < ((l.length : Nat) : Int)))
    ·
     rw [hc24] at h23
     have hp25 : ¬ (((i : Nat) : Int) < ((l.length : Nat) : Int)) := of_decide_eq_false hc24
     clear hc24
     refine psk h23 rfl fun a26 h26 => ?_; clear h23
     refine psk h26 rfl fun a27 h27 => ?_; clear h26
     refine psk h27 rfl fun a28 h28 => ?_; clear h27
     refine psk h28 rfl fun a29 h29 => ?_; clear h28
     refine pk0 (v := .bool false) h29 rfl fun a30 h30 => ?_; clear h29
     refine pl_nil ?_
     refine co_then ?_
     refine co_false h30 rfl ?_
     refine wp_exit ?_
     refine co_thenX ?_
     refine co_thenX ?_
     refine co_blockX ?_
     refine co_then ?_
     refine co_seq ?_
     refine co_reg ?_
     refine pk0 (v := .bool true) h30 rfl fun a31 h31 => ?_; clear h30
     refine pl_nil ?_
     refine co_then ?_
     refine wp_ret ?_
     refine co_ret1 h31 rfl rfl ?_
     exact ⟨ret_bool (sameP_end (i := i) hL (by omega) (by omega)), hB17⟩
    ·
     rw [hc24] at h23
     have hp32 : ((i : Nat) : Int) < ((l.length : Nat) : Int) := of_decide_eq_true hc24
     clear hc24
     refine pk0 (v := .int .i64 ((i : Nat) : Int)) h23 rfl fun a33 h33 => ?_; clear h23
     refine pk0 (v := v2) h33 rfl fun a34 h34 => ?_; clear h33
     refine pk (v := .int .i64 ((l2.length : Nat) : Int)) h34 rfl (rn_len rfl rfl Try.underlying35 (hs2.below hB17)) fun a35 h35 => ?_; clear h34
     refine pk0 (v := .bool (decide (((i : Nat) : Int) < ((l2.length : Nat) : Int)))) h35 rfl fun a36 h36 => ?_; clear h35
     refine pk0 (v := .bool (decide (((i : Nat) : Int) < ((l2.length : Nat) : Int)))) h36 rfl fun a37 h37 => ?_; clear h36
     refine pl_nil ?_
     refine co_then ?_
     have hc38 : (decide (((i : Nat) : Int) < ((l2.length : Nat) : Int))) = true := decide_eq_true (by omega)
     rw [hc38] at h37; clear hc38
     refine co_true h37 rfl ?_
     refine wp_skip ?_
     refine co_then ?_
     refine co_seq ?_
     refine wp_block ?_
     refine co_seq ?_
     refine dr_eq (by kernel_rfl) (fun w39 hg40 => ?_)
     have hz41 := hg40.size
     refine dk0 0 (v := v) h37 rfl rfl rfl fun a42 h42 => ?_; clear h37
     refine dk0 1 (v := .int .i64 ((i : Nat) : Int)) h42 rfl rfl rfl fun a43 h43 => ?_; clear h42
     have hB45 := hb_new hB17 hg40
     obtain ⟨y44, hy44⟩ : ∃ z, l[i]? = some z := ⟨_, List.getElem?_eq_getElem (by first | omega | (simp; done) | (simp; omega))⟩
     refine dk 2 (v := pt (blkOf v) (offOf v + i * 2)) h43 rfl rfl rfl (fun x hx => by subst hx; exact (rn_index rfl rfl rfl Try.underlying35 Try.sizeOf88 (hs.below hB45) (by omega) (by first | omega | (simp; done) | (simp; omega)))) fun a46 h46 => ?_; clear h43
     refine dk 3 (v := .agg #[.string y44.1, .string y44.2]) h46 rfl rfl rfl (fun x hx => by subst hx; exact (rn_loadN rfl rfl Try.underlying88 rfl (by kernel_rfl) (sl_at (hs.below hB45) hy44))) fun a47 h47 => ?_; clear h46
     refine dk0 4 (v := v2) h47 rfl rfl rfl fun a48 h48 => ?_; clear h47
     refine dk0 5 (v := .int .i64 ((i : Nat) : Int)) h48 rfl rfl rfl fun a49 h49 => ?_; clear h48
     obtain ⟨y50, hy50⟩ : ∃ z, l2[i]? = some z := ⟨_, List.getElem?_eq_getElem (by first | omega | (simp; done) | (simp; omega))⟩
     refine dk 6 (v := pt (blkOf v2) (offOf v2 + i * 2)) h49 rfl rfl rfl (fun x hx => by subst hx; exact (rn_index rfl rfl rfl Try.underlying35 Try.sizeOf88 (hs2.below hB45) (by omega) (by first | omega | (simp; done) | (simp; omega)))) fun a51 h51 => ?_; clear h49
     refine dk 7 (v := .agg #[.string y50.1, .string y50.2]) h51 rfl rfl rfl (fun x hx => by subst hx; exact (rn_loadN rfl rfl Try.underlying88 rfl (by kernel_rfl) (sl_at (hs2.below hB45) hy50))) fun a52 h52 => ?_; clear h51
     refine dk 8 (v := .bool (!(y44.1.toList == y50.1.toList && y44.2.toList == y50.2.toList))) h52 rfl rfl rfl (fun x hx => by subst hx; exact (rn_neS rfl rfl rfl Try.eqGuardType88 (eq_pair _ _ _ _ _))) fun a53 h53 => ?_; clear h52
     refine dr_done (by kernel_rfl) ?_
     refine co_then ?_
     cases hc54 : (!(y44.1.toList == y50.1.toList && y44.2.toList == y50.2.toList))
     ·
      rw [hc54] at h53
      refine co_false h53 rfl ?_
      refine wp_skip ?_
      refine co_blockN ?_
      refine co_then ?_
      refine co_reg ?_
      refine pk0 (v := .int .i64 ((i : Nat) : Int)) h53 rfl fun a55 h55 => ?_; clear h53
      refine pk (v := .int .i64 ((i + 1 : Nat) : Int)) h55 rfl (rn_arith' rfl rfl rfl rfl rfl rfl (IntWalk.i64_in _ (by omega)) (by omega)) fun a56 h56 => ?_; clear h55
      refine pk0 (v := .int .i64 ((i + 1 : Nat) : Int)) h56 rfl fun a57 h57 => ?_; clear h56
      refine pl_nil ?_
      refine co_then ?_
      refine ⟨(l.length - (i + 1)), by omega, ?_⟩
      have hL' := sameP_step (i := i) hL hy44 hy50 (eqP_of (b := false) (by assumption))
      exact ⟨i + 1, h57.sub ⟨rfl, rfl, rfl, rfl, trivial⟩, rfl, by omega, by omega, by first | rfl | exact hL', hB45⟩
     ·
      rw [hc54] at h53
      refine co_true h53 rfl ?_
      refine co_seq ?_
      refine co_reg ?_
      refine pk0 (v := .bool false) h53 rfl fun a58 h58 => ?_; clear h53
      refine pl_nil ?_
      refine co_then ?_
      refine wp_ret ?_
      refine co_blockR ?_
      refine co_thenR ?_
      refine co_thenR ?_
      refine co_blockR ?_
      refine co_thenR ?_
      refine co_ret1 h58 rfl rfl ?_
      exact ⟨ret_bool (sameP_no (i := i) hL hy44 hy50 (eqP_of (b := true) (by assumption))), hB45⟩
 ·
  rw [hc7] at h6
  have hp59 : ((l.length : Nat) : Int) ≠ ((l2.length : Nat) : Int) := by first | simpa using hc7 | simpa [and_assoc] using hc7
  clear hc7
  refine co_true h6 rfl ?_
  refine co_seq ?_
  refine co_reg ?_
  refine pk0 (v := .bool false) h6 rfl fun a60 h60 => ?_; clear h6
  refine pl_nil ?_
  refine co_then ?_
  refine wp_ret ?_
  refine co_thenR ?_
  refine co_ret1 h60 rfl rfl ?_
  exact ⟨ret_bool (sameP_len (by omega)), hB0⟩

theorem MActOk.below {w x : World} {a : MActT} (h : MActOk w a) (hb : Below w.heap.size w x) : MActOk x a := ⟨h.ops.below hb, h.t0, h.t1, h.n0⟩
def awA : List OpT := [(⟨#[97]⟩, ⟨#[49]⟩, false)]
noncomputable def awF : Fv := mvF (fun _ => []) 0 3 awA
theorem aw_ok : chkB 0 1 awA = 0 := by rfl
theorem aw_e : mvE 0 3 awA = 0 := by rw [mvE_c (by decide) (by decide), aw_ok]
theorem awPut {S : Nat → Prop} {b : Nat} (w : World) (v : Value) (h : MvO S w b (fun _ => []) 0 0 0) (hs : SliceOf opE 3 w v awA) (hvS : awA ≠ [] → ∀ k, v.ownBlock = some k → ¬ S k) :
    Calls Try.prog 22 #[pt b 0, .int .u64 3, v] w fun e w' => ∃ S' : Nat → Prop, e = .returned (.int .i64 0) ∧ MvO S' w' b awF 3 1 1 ∧ Grew S S' w w' := by
  have := mvPut w 3 v awA h hs hvS (by decide) (by decide) (by decide)
  rw [aw_e, show mvLa 0 3 awA = 3 from by unfold mvLa; rw [if_pos aw_e], show mvCe 0 3 0 awA = 1 from by unfold mvCe; rw [if_pos aw_e]; rfl] at this
  exact this
end Go.Proofs.Ytbjbcbbhmbpndaa

/- MvccStays. Conditions: none. -/
namespace Go.Proofs.Ytbjbcbbhmbpndaa
open Go.RowKit Go.PlainAid
set_option linter.unusedVariables false
set_option linter.unusedSimpArgs false


section
variable {f g : Fv} {la ts t : Int} {l : List OpT} {n : Nat} {K K' : List ByteArray} {p : ByteArray → Bool} {F T : ByteArray}
theorem mv_keep (h : FOk f la n) (ht : t ≤ la) (x : ByteArray) : atS (mvF f la ts l x) t = atS (f x) t := by
  unfold mvF
  by_cases hE : mvE la ts l = 0
  · obtain ⟨h1, h2, h3⟩ := mv_good hE
    rw [if_pos hE]; exact puts_at (B := la) (n := n) (chkB_up h3) (by omega) x
  · rw [if_neg hE]
theorem has_ne {x : ByteArray} (h : (atS (f x) t).2 = true) : f x ≠ [] := fun e => by rw [e] at h; cases h
theorem hits_same (hK : KOf K f) (hK' : KOf K' g) (h : ∀ x, atS (g x) t = atS (f x) t) : hits g t (K'.filter p) = hits f t (K.filter p) := by
  have e : (K'.filter p).filter (fun k => (atS (g k) t).2) = (K.filter p).filter (fun k => (atS (f k) t).2) :=
    up_ext (key := fun x => x) ((hK'.up.sublist List.filter_sublist).sublist List.filter_sublist) ((hK.up.sublist List.filter_sublist).sublist List.filter_sublist) fun x => by
      simp only [List.mem_filter]
      rw [h x]
      constructor
      · rintro ⟨⟨h1, h2⟩, h3⟩; exact ⟨⟨(hK.mem x).2 (has_ne h3), h2⟩, h3⟩
      · rintro ⟨⟨h1, h2⟩, h3⟩; exact ⟨⟨(hK'.mem x).2 (has_ne (t := t) (by rw [h x]; exact h3)), h2⟩, h3⟩
  unfold hits
  rw [e]
  exact List.map_congr_left fun x _ => by rw [h x]
theorem hits_sameF (hK : KOf (ksOf f) f) (hK' : KOf (ksOf g) g) (h : ∀ x, atS (g x) t = atS (f x) t) : hitsF g t F T = hitsF f t F T := hits_same hK hK' h
end

end Go.Proofs.Ytbjbcbbhmbpndaa

/- A call of a method value: its receiver stands ahead of the arguments. Conditions: none. -/
namespace Go.Proofs.Ytbjbcbbhmbpndaa
open Go.RowKit
section
variable {P : Program} {n : Nat} {m : List (Nat × Value)} {o : Oper} {w : World}
theorem op_callB {c : Call} {q : Operand} {f : FuncId} {args bnd : Array Value} {E : Ending → World → Prop} {R : Value → World → Prop} (ho : o.op = .call c) (hc : c.callee = .value q) (hf : ev m q = some (.func (.func f) bnd #[]))
    (hok : okOps m o.op = true) (hargs : bnd ++ c.args.map (lk m) = args) (hcall : (callFunc f args).run P w = .ok (.enter f args) w) (h : Calls P f args w E) (hE : ∀ e w', E e w' → ∃ v, e = .returned v ∧ R v w') : Op1 P n m o w R := by
  intro a ha K Q hN
  have he : execOp a.eval o = execOp (lk m) o := execOp_congr o (fun cs b e => by simp [e] at ho) (fun x hx => ha.lk (Array.all_eq_true_iff_forall_mem.1 hok x hx))
  unfold Oper.wp
  rw [he]
  have hfx : lk m q = .func (.func f) bnd #[] := by simp [lk, hf]
  have : (execOp (lk m) o).run P w = .ok (.enter f args) w := by
    simp only [execOp, ho, resolve, hc, hfx, Deferred.ofValue, Sem.run_bind, Sem.run_pure, Result.andThen_ok, invoke]
    simp only [Array.append_empty, hargs]
    exact hcall
  rw [this, Oper.upon_enter]
  refine h.mono fun e w' he => ?_
  obtain ⟨v, rfl, hv⟩ := hE e w' he
  exact hN v w' hv
end
end Go.Proofs.Ytbjbcbbhmbpndaa

/- Packages bound and serve: Check, At, No. Conditions: none. -/
namespace Go.Proofs.Ytbjbcbbhmbpndaa
open Go.RowKit Go.PlainAid
set_option linter.unusedVariables false
set_option linter.unusedSimpArgs false


/-- What bound.Check tells. -/
def bdC (t mk hz : Int) : Int := if t > mk then 12 else if t < hz then 13 else 0
theorem bd_a {t mk hz : Int} (h : mk = t ∧ hz = t) : 0 = bdC t mk hz := by unfold bdC; rw [if_neg (by omega), if_neg (by omega)]
theorem bd_b {t mk hz : Int} (h : t > mk) : 12 = bdC t mk hz := by unfold bdC; rw [if_pos h]
theorem bd_c {t mk hz : Int} (h : ¬ t > mk) (h2 : t < hz) : 13 = bdC t mk hz := by unfold bdC; rw [if_neg h, if_pos h2]
theorem bd_d {t mk hz : Int} (h : ¬ t > mk) (h2 : ¬ t < hz) : 0 = bdC t mk hz := by unfold bdC; rw [if_neg h, if_neg h2]
theorem bd_0 {t mk hz : Int} (h : bdC t mk hz = 0) : t ≤ mk ∧ hz ≤ t := by
  unfold bdC at h; split at h
  · omega
  · split at h <;> omega
theorem eq_bnd (a b d e : Int) (w : World) : (binOp .eql 209 (.agg #[.int .u64 a, .int .u64 b]) (.agg #[.int .u64 d, .int .u64 e])).run Try.prog w = .ok (.bool (a == d && b == e)) w := by
  have u := Try.underlying23
  have hS : Try.prog.underlying 209 = some (.struct (Try.prog.fieldsOf 209)) := by kernel_rfl
  have hp : Try.prog.stoodInHeld 209 = false := by kernel_rfl
  rw [run_eql_struct, show (10000 : Nat) = 9999 + 1 from rfl, run_equalIn_agg w 9999 209 _ _ hS hp]
  simp only [Program.fieldsOf, Try.underlying209]
  go_simp
  by_cases h1 : a = d <;> by_cases h2 : b = e <;> simp [h1, h2]
def mxI (a b : Int) : Int := if a < b then b else a
def mnI (a b : Int) : Int := if b < a then b else a
theorem mxI_p (a b : Int) : mxI a b ≥ a ∧ mxI a b ≥ b ∧ (mxI a b = a ∨ mxI a b = b) := by unfold mxI; split <;> omega
theorem mnI_p (a b : Int) : mnI a b ≤ a ∧ mnI a b ≤ b ∧ (mnI a b = a ∨ mnI a b = b) := by unfold mnI; split <;> omega
/-- Is it a reading that may be? What it tells. -/
def rdL (f : Fv) (k : ByteArray) (t : Int) : List PairT := if (atS (f k) t).2 = true then [(k, (atS (f k) t).1)] else []
theorem get_y {f : Fv} {k : ByteArray} {t : Int} (h : (atS (f k) t).2 = true) : [(k, (atS (f k) t).1)] = rdL f k t := by unfold rdL; rw [if_pos h]
theorem get_n {f : Fv} {k : ByteArray} {t : Int} (h : (atS (f k) t).2 = false) : [] = rdL f k t := by unfold rdL; rw [if_neg (by rw [h]; simp)]
noncomputable def psL (f : Fv) (d : MsgD) : List PairT := if d.k = 8 then rdL f d.key d.at_ else scanL (hitsF f d.at_ d.key d.to_) (mnI d.n 32)
noncomputable def flL (f : Fv) (d : MsgD) : Bool := if d.k = 8 then false else scanM (hitsF f d.at_ d.key d.to_) (mnI d.n 32)
theorem ps_8 {f : Fv} {d : MsgD} (h : d.k = 8) : rdL f d.key d.at_ = psL f d := by unfold psL; rw [if_pos h]
theorem fl_8 {f : Fv} {d : MsgD} (h : d.k = 8) : false = flL f d := by unfold flL; rw [if_pos h]
theorem ps_9 {f : Fv} {d : MsgD} (h : d.k = 9) : scanL (hitsF f d.at_ d.key d.to_) (mnI d.n 32) = psL f d := by unfold psL; rw [if_neg (by omega)]
theorem fl_9 {f : Fv} {d : MsgD} (h : d.k = 9) : scanM (hitsF f d.at_ d.key d.to_) (mnI d.n 32) = flL f d := by unfold flL; rw [if_neg (by omega)]

set_option maxRecDepth 100000 in
theorem bdm_any (mk : Int) (hz : Int) (t : Int) (w : World)  :
    Calls Try.prog 119 #[.agg #[.int .u64 mk, .int .u64 hz], .int .u64 t] w fun e w' => e = .returned (.int .i64 (bdC t mk hz)) ∧ Below w.heap.size w w' := by
 have hB0 := Below.refl w.heap.size w
 refine co_enter (n := 18) Try.func119 rfl rfl rfl [(0, .agg #[.int .u64 mk, .int .u64 hz]), (1, .int .u64 t)] rfl (fun a h0 => ?_)
 refine co_seq ?_
 refine co_reg ?_
 refine pw h0 rfl (op_new (v := fun N => pt N 0) (T := 209) (cs := #[.int .u64 mk, .int .u64 hz]) (by kernel_rfl) (by kernel_rfl) (by kernel_rfl)) ?_; clear h0
 rintro _ w2 a1 ⟨N3, rfl, hN6, hz7, hk5, hg4⟩ h1
 have hz8 := hg4.size
 try dsimp only at h1
 refine pk0 (v := .int .i64 0) h1 rfl fun a9 h9 => ?_; clear h1
 refine pl_nil ?_
 refine co_then ?_
 refine co_seq ?_
 refine co_seq ?_
 refine co_reg ?_
 refine pk (v := .agg #[.int .u64 mk, .int .u64 hz]) h9 rfl (rn_loadN rfl rfl Try.underlying209 rfl (by kernel_rfl) hk5.all) fun a10 h10 => ?_; clear h9
 refine pk0 (v := .int .u64 t) h10 rfl fun a11 h11 => ?_; clear h10
 refine pk0 (v := .int .u64 t) h11 rfl fun a12 h12 => ?_; clear h11
 refine pk0 (v := .agg #[.int .u64 t, .int .u64 t]) h12 rfl fun a13 h13 => ?_; clear h12
 refine pk (v := .bool (mk == t && hz == t)) h13 rfl (rn_eqS rfl rfl rfl Try.eqGuardType209 (eq_bnd _ _ _ _ _)) fun a14 h14 => ?_; clear h13
 refine pl_nil ?_
 refine co_then ?_
 have hB16 := hb_new hB0 hg4
 cases hc15 : (mk == t && hz == t)
 ·
  rw [hc15] at h14
  have hp17 : ¬ (mk = t ∧ hz = t) := by first | simpa using hc15 | simpa [and_assoc] using hc15
  clear hc15
  refine co_false h14 rfl ?_
  refine wp_skip ?_
  refine co_then ?_
  refine co_seq ?_
  refine co_seq ?_
  refine co_reg ?_
  refine pk0 (v := .int .u64 t) h14 rfl fun a18 h18 => ?_; clear h14
  refine pk0 (v := pt N3 0) h18 rfl fun a19 h19 => ?_; clear h18
  refine pk (v := .int .u64 mk) h19 rfl (rn_load1 rfl rfl Try.isAgg23 (hk5.cell rfl)) fun a20 h20 => ?_; clear h19
  refine pk0 (v := .bool (decide (t > mk))) h20 rfl fun a21 h21 => ?_; clear h20
  refine pl_nil ?_
  refine co_then ?_
  cases hc22 : (decide (t > mk))
  ·
   rw [hc22] at h21
   have hp23 : ¬ (t > mk) := of_decide_eq_false hc22
   clear hc22
   refine co_false h21 rfl ?_
   refine wp_skip ?_
   refine co_then ?_
   refine co_seq ?_
   refine co_seq ?_
   refine co_reg ?_
   refine pk0 (v := .int .u64 t) h21 rfl fun a24 h24 => ?_; clear h21
   refine pk0 (v := pt N3 1) h24 rfl fun a25 h25 => ?_; clear h24
   refine pk (v := .int .u64 hz) h25 rfl (rn_load1 rfl rfl Try.isAgg23 (hk5.cell rfl)) fun a26 h26 => ?_; clear h25
   refine pk0 (v := .bool (decide (t < hz))) h26 rfl fun a27 h27 => ?_; clear h26
   refine pl_nil ?_
   refine co_then ?_
   cases hc28 : (decide (t < hz))
   ·
    rw [hc28] at h27
    have hp29 : ¬ (t < hz) := of_decide_eq_false hc28
    clear hc28
    refine co_false h27 rfl ?_
    refine wp_skip ?_
    refine co_then ?_
    refine co_seq ?_
    refine co_reg ?_
    refine pk0 (v := .int .i64 0) h27 rfl fun a30 h30 => ?_; clear h27
    refine pl_nil ?_
    refine co_then ?_
    refine wp_ret ?_
    refine co_ret1 h30 rfl rfl ?_
    exact ⟨ret_int (by first | exact bd_b (by omega) | exact bd_c (by omega) (by omega) | exact bd_d (by omega) (by omega) | exact bd_a (by omega)), hB16⟩
   ·
    rw [hc28] at h27
    have hp31 : t < hz := of_decide_eq_true hc28
    clear hc28
    refine co_true h27 rfl ?_
    refine co_seq ?_
    refine co_reg ?_
    refine pk0 (v := .int .i64 13) h27 rfl fun a32 h32 => ?_; clear h27
    refine pl_nil ?_
    refine co_then ?_
    refine wp_ret ?_
    refine co_thenR ?_
    refine co_ret1 h32 rfl rfl ?_
    exact ⟨ret_int (by first | exact bd_b (by omega) | exact bd_c (by omega) (by omega) | exact bd_d (by omega) (by omega) | exact bd_a (by omega)), hB16⟩
  ·
   rw [hc22] at h21
   have hp33 : t > mk := of_decide_eq_true hc22
   clear hc22
   refine co_true h21 rfl ?_
   refine co_seq ?_
   refine co_reg ?_
   refine pk0 (v := .int .i64 12) h21 rfl fun a34 h34 => ?_; clear h21
   refine pl_nil ?_
   refine co_then ?_
   refine wp_ret ?_
   refine co_thenR ?_
   refine co_ret1 h34 rfl rfl ?_
   exact ⟨ret_int (by first | exact bd_b (by omega) | exact bd_c (by omega) (by omega) | exact bd_d (by omega) (by omega) | exact bd_a (by omega)), hB16⟩
 ·
  rw [hc15] at h14
  have hp35 : mk = t ∧ hz = t := by first | simpa using hc15 | simpa [and_assoc] using hc15
  clear hc15
  refine co_true h14 rfl ?_
  refine co_seq ?_
  refine co_reg ?_
  refine pk0 (v := .int .i64 0) h14 rfl fun a36 h36 => ?_; clear h14
  refine pl_nil ?_
  refine co_then ?_
  refine wp_ret ?_
  refine co_thenR ?_
  refine co_ret1 h36 rfl rfl ?_
  exact ⟨ret_int (by first | exact bd_b (by omega) | exact bd_c (by omega) (by omega) | exact bd_d (by omega) (by omega) | exact bd_a (by omega)), hB16⟩
set_option maxRecDepth 100000 in
theorem bd_any (t : Int) (mk : Int) (hz : Int) (w : World)  :
    Calls Try.prog 89 #[.int .u64 t, .int .u64 mk, .int .u64 hz] w fun e w' => e = .returned (.int .i64 (bdC t mk hz)) ∧ Below w.heap.size w w' := by
 have hB0 := Below.refl w.heap.size w
 refine co_enter (n := 12) Try.func89 rfl rfl rfl [(0, .int .u64 t), (1, .int .u64 mk), (2, .int .u64 hz)] rfl (fun a h0 => ?_)
 refine co_seq ?_
 refine co_reg ?_
 refine pk0 (v := .int .i64 0) h0 rfl fun a1 h1 => ?_; clear h0
 refine pl_nil ?_
 refine co_then ?_
 refine co_seq ?_
 refine co_reg ?_
 refine pk0 (v := .int .u64 mk) h1 rfl fun a2 h2 => ?_; clear h1
 refine pk0 (v := .int .u64 hz) h2 rfl fun a3 h3 => ?_; clear h2
 refine pk0 (v := .agg #[.int .u64 mk, .int .u64 hz]) h3 rfl fun a4 h4 => ?_; clear h3
 refine pk0 (v := .int .u64 t) h4 rfl fun a5 h5 => ?_; clear h4
 refine pw h5 rfl (op_call (args := #[.agg #[.int .u64 mk, .int .u64 hz], .int .u64 t]) (R := fun res xw => res = .int .i64 (bdC t mk hz) ∧ Below w.heap.size w xw) rfl rfl rfl (by kernel_rfl) (by kernel_rfl) (Try.call119 _ _) (bdm_any mk hz t w ) (by rintro e x ⟨rfl, hb8⟩; exact ⟨_, rfl, ⟨rfl, hb8⟩⟩)) ?_; clear h5
 rintro _ w7 a6 ⟨rfl, hb8⟩ h6
 have hz9 := hb8.size
 refine pk0 (v := .int .i64 (bdC t mk hz)) h6 rfl fun a10 h10 => ?_; clear h6
 refine pl_nil ?_
 refine co_then ?_
 refine wp_ret ?_
 refine co_ret1 h10 rfl rfl ?_
 have hB11 := hb_call hB0 hb8
 exact ⟨rfl, hB11⟩
set_option maxRecDepth 100000 in
theorem srvAt_any (mk : Int) (hz : Int) (ep : Int) (hd : Int) (w : World)  :
    Calls Try.prog 12 #[.int .u64 mk, .int .u64 hz, .int .i64 ep, .int .i64 hd] w fun e w' => e = .returned (.agg #[.int .u64 mk, .int .u64 hz, .int .i64 (mxI ep 0), .int .i64 (mxI hd 0)]) ∧ Below w.heap.size w w' := by
 have hB0 := Below.refl w.heap.size w
 refine co_enter (n := 16) Try.func12 rfl rfl rfl [(0, .int .u64 mk), (1, .int .u64 hz), (2, .int .i64 ep), (3, .int .i64 hd)] rfl (fun a h0 => ?_)
 refine co_seq ?_
 refine co_reg ?_
 refine pw h0 rfl (op_new (v := fun N => pt N 0) (T := 45) (cs := #[.int .u64 0, .int .u64 0, .int .i64 0, .int .i64 0]) (by kernel_rfl) (by kernel_rfl) (by kernel_rfl)) ?_; clear h0
 rintro _ w2 a1 ⟨N3, rfl, hN6, hz7, hk5, hg4⟩ h1
 have hz8 := hg4.size
 try dsimp only at h1
 refine pl_nil ?_
 refine co_then ?_
 refine co_seq ?_
 refine co_reg ?_
 refine pk0 (v := .int .u64 mk) h1 rfl fun a9 h9 => ?_; clear h1
 refine pk0 (v := .int .u64 hz) h9 rfl fun a10 h10 => ?_; clear h9
 refine pk0 (v := .int .i64 ep) h10 rfl fun a11 h11 => ?_; clear h10
 have hmm12 := mxI_p ep 0
 refine pk0 (v := .int .i64 (mxI ep 0)) h11 rfl fun a13 h13 => ?_; clear h11
 refine pk0 (v := .int .i64 hd) h13 rfl fun a14 h14 => ?_; clear h13
 have hmm15 := mxI_p hd 0
 refine pk0 (v := .int .i64 (mxI hd 0)) h14 rfl fun a16 h16 => ?_; clear h14
 refine pk0 (v := .agg #[.int .u64 mk, .int .u64 hz, .int .i64 (mxI ep 0), .int .i64 (mxI hd 0)]) h16 rfl fun a17 h17 => ?_; clear h16
 refine pwD h17 rfl (op_storeN rfl rfl rfl (by kernel_rfl) (by kernel_rfl) hk5 rfl) ?_; clear h17
 rintro _ w19 a18 ⟨hk20, hz21, hg22⟩ h18
 have hk20' : Blk w19 N3 45 #[.int .u64 mk, .int .u64 hz, .int .i64 (mxI ep 0), .int .i64 (mxI hd 0)] := hk20; clear hk20
 have hz23 := hg22.size
 refine pl_nil ?_
 refine co_then ?_
 refine wp_ret ?_
 refine co_retC (Q := fun _ _ _ => True) h18 rfl rfl hk20' Try.underlying45 rfl (by kernel_rfl) ?_
 have hB24 := hb_new hB0 hg4
 have hB25 := hb_at hB24 hg22 (by omega)
 exact ⟨rfl, hB25⟩
set_option maxRecDepth 100000 in
theorem srvNo_any (mk : Int) (hz : Int) (ep : Int) (hd : Int) (rq : Int) (er : Int) (w : World)  :
    Calls Try.prog 20 #[.agg #[.int .u64 mk, .int .u64 hz, .int .i64 ep, .int .i64 hd], .int .i64 rq, .int .i64 er] w fun e w' => e = .returned (.agg #[.int .i64 7, .int .i64 ep, .int .i64 rq, .int .i64 0, .bool false, .int .u64 0, .int .u64 0, .int .i64 hd, .int .i64 0, .int .i64 0, .int .i64 er, .string (⟨#[]⟩), .string (⟨#[]⟩), .int .i64 0, .slice none 0 0, .int .u64 0, .int .i64 0, .int .i64 0, .slice none 0 0, .slice none 0 0, .slice none 0 0, .slice none 0 0]) ∧ Below w.heap.size w w' := by
 have hB0 := Below.refl w.heap.size w
 refine co_enter (n := 14) Try.func20 rfl rfl rfl [(0, .agg #[.int .u64 mk, .int .u64 hz, .int .i64 ep, .int .i64 hd]), (1, .int .i64 rq), (2, .int .i64 er)] rfl (fun a h0 => ?_)
 refine co_seq ?_
 refine co_reg ?_
 refine pw h0 rfl (op_new (v := fun N => pt N 0) (T := 45) (cs := #[.int .u64 mk, .int .u64 hz, .int .i64 ep, .int .i64 hd]) (by kernel_rfl) (by kernel_rfl) (by kernel_rfl)) ?_; clear h0
 rintro _ w2 a1 ⟨N3, rfl, hN6, hz7, hk5, hg4⟩ h1
 have hz8 := hg4.size
 try dsimp only at h1
 refine pw h1 rfl (op_new (v := fun N => pt N 0) (T := 37) (cs := #[.int .i64 0, .int .i64 0, .int .i64 0, .int .i64 0, .bool false, .int .u64 0, .int .u64 0, .int .i64 0, .int .i64 0, .int .i64 0, .int .i64 0, .string (⟨#[]⟩), .string (⟨#[]⟩), .int .i64 0, .slice none 0 0, .int .u64 0, .int .i64 0, .int .i64 0, .slice none 0 0, .slice none 0 0, .slice none 0 0, .slice none 0 0]) (by kernel_rfl) (by kernel_rfl) (by kernel_rfl)) ?_; clear h1
 rintro _ w10 a9 ⟨N11, rfl, hN14, hz15, hk13, hg12⟩ h9
 have hz16 := hg12.size
 try dsimp only at h9
 refine pl_nil ?_
 refine co_then ?_
 refine co_seq ?_
 refine co_reg ?_
 refine pk0 (v := .int .i64 rq) h9 rfl fun a17 h17 => ?_; clear h9
 refine pk0 (v := .int .i64 er) h17 rfl fun a18 h18 => ?_; clear h17
 refine pk0 (v := pt N3 2) h18 rfl fun a19 h19 => ?_; clear h18
 have hk20 := hk5.kept hg12 (by simp)
 refine pk (v := .int .i64 ep) h19 rfl (rn_load1 rfl rfl Try.isAgg3 (hk20.cell rfl)) fun a21 h21 => ?_; clear h19
 refine pk0 (v := pt N3 3) h21 rfl fun a22 h22 => ?_; clear h21
 refine pk (v := .int .i64 hd) h22 rfl (rn_load1 rfl rfl Try.isAgg3 (hk20.cell rfl)) fun a23 h23 => ?_; clear h22
 refine pk0 (v := .agg #[.int .i64 7, .int .i64 ep, .int .i64 rq, .int .i64 0, .bool false, .int .u64 0, .int .u64 0, .int .i64 hd, .int .i64 0, .int .i64 0, .int .i64 er, .string (⟨#[]⟩), .string (⟨#[]⟩), .int .i64 0, .slice none 0 0, .int .u64 0, .int .i64 0, .int .i64 0, .slice none 0 0, .slice none 0 0, .slice none 0 0, .slice none 0 0]) h23 rfl fun a24 h24 => ?_; clear h23
 refine pwD h24 rfl (op_storeN rfl rfl rfl (all_cons rfl (all_cons rfl (all_cons rfl (all_cons rfl (all_cons rfl (all_cons rfl (all_cons rfl (all_cons rfl (all_cons rfl (all_cons rfl (all_cons rfl (all_cons rfl (all_cons rfl (all_cons rfl (all_cons rfl (all_cons rfl (all_cons rfl (all_cons rfl (all_cons rfl (all_cons rfl (all_cons rfl (all_cons rfl all_nil)))))))))))))))))))))) (by kernel_rfl) hk13 rfl) ?_; clear h24
 rintro _ w26 a25 ⟨hk27, hz28, hg29⟩ h25
 have hk27' : Blk w26 N11 37 #[.int .i64 7, .int .i64 ep, .int .i64 rq, .int .i64 0, .bool false, .int .u64 0, .int .u64 0, .int .i64 hd, .int .i64 0, .int .i64 0, .int .i64 er, .string (⟨#[]⟩), .string (⟨#[]⟩), .int .i64 0, .slice none 0 0, .int .u64 0, .int .i64 0, .int .i64 0, .slice none 0 0, .slice none 0 0, .slice none 0 0, .slice none 0 0] := hk27; clear hk27
 have hz30 := hg29.size
 refine pl_nil ?_
 refine co_then ?_
 refine wp_ret ?_
 refine co_retC (Q := fun _ _ _ => True) h25 rfl rfl hk27' Try.underlying37 rfl (by kernel_rfl) ?_
 have hB31 := hb_new hB0 hg4
 have hB32 := hb_new hB31 hg12
 have hB33 := hb_at hB32 hg29 (by omega)
 exact ⟨rfl, hB33⟩
end Go.Proofs.Ytbjbcbbhmbpndaa

/- Package serve: what Get and Scan read. Conditions: at most 100 calls, 20 operations each. -/
namespace Go.Proofs.Ytbjbcbbhmbpndaa
open Go.RowKit Go.PlainAid
set_option linter.unusedVariables false
set_option linter.unusedSimpArgs false

set_option maxRecDepth 100000 in
theorem srvGetF_any (S : Nat → Prop) (b : Nat) (f : Fv) (la : Int) (ce : Int) (m : Nat) (G : Nat) (X : Nat) (d : MsgD) (mv : Value) (bv : Value) (ev : Value) (sv : Value) (pv : Value) (w : World) (hO : MvO S w b f la ce m) (hm : m ≤ 100) (hm : SliceOf memE 2 w mv d.cms) (hb : SliceOf opE 3 w bv d.bl) (he : SliceOf entE 4 w ev d.en) (ht : SliceOf (intE .u64) 1 w sv d.st) (hp : SliceOf prE 2 w pv d.pr) (hG : Blk w G 110 #[.func (.func 51) #[pt b 0] #[]]) (hX : Blk w X 37 #[.int .i64 d.k, .int .i64 d.ep, .int .i64 d.rq, .int .i64 d.sr, .bool d.fg, .int .u64 d.at_, .int .u64 d.la, .int .i64 d.n, .int .i64 d.m, .int .i64 d.p, .int .i64 d.e, .string d.key, .string d.to_, .int .i64 d.cep, mv, .int .u64 d.cfl, .int .i64 d.bc, .int .i64 d.br, bv, ev, sv, pv]) :
    Calls Try.prog 53 #[pt G 0, pt X 0] w fun e w' => ∃ (u : Value), e = .returned (.tuple #[u, .bool false]) ∧ w'.ownsRow w.heap.size 88 2 u (rdL f d.key d.at_).length ((rdL f d.key d.at_).flatMap pairE) ∧ Below w.heap.size w w' := by
 have hB0 := Below.refl w.heap.size w
 have hl_hm := sl_len hm
 have hl_hb := sl_len hb
 have hl_he := sl_len he
 have hl_ht := sl_len ht
 have hl_hp := sl_len hp
 have hl_hG := hG.lt
 have hl_hX := hX.lt
 have hoS := MvO.ofS hO
 refine co_enter (n := 22) Try.func53 rfl rfl rfl [(0, pt G 0), (1, pt X 0)] rfl (fun a h0 => ?_)
 refine co_seq ?_
 refine co_reg ?_
 refine pk0 (v := .slice none 0 0) h0 rfl fun a1 h1 => ?_; clear h0
 refine pk0 (v := .bool false) h1 rfl fun a2 h2 => ?_; clear h1
 refine pl_nil ?_
 refine co_then ?_
 refine co_seq ?_
 refine co_reg ?_
 refine pk (v := .func (.func 51) #[pt b 0] #[]) h2 rfl (rn_load1 rfl rfl Try.isAgg110 (hG.cell rfl)) fun a3 h3 => ?_; clear h2
 refine pk0 (v := pt X 11) h3 rfl fun a4 h4 => ?_; clear h3
 refine pk (v := .string d.key) h4 rfl (rn_load1 rfl rfl Try.isAgg9 (hX.cell rfl)) fun a5 h5 => ?_; clear h4
 refine pk0 (v := pt X 5) h5 rfl fun a6 h6 => ?_; clear h5
 refine pk (v := .int .u64 d.at_) h6 rfl (rn_load1 rfl rfl Try.isAgg23 (hX.cell rfl)) fun a7 h7 => ?_; clear h6
 refine pw h7 rfl (op_callB (args := #[pt b 0, .string d.key, .int .u64 d.at_]) (R := fun res xw => res = .tuple #[.string ((atS (f d.key) d.at_).1), .bool ((atS (f d.key) d.at_).2)] ∧ Below w.heap.size w xw) rfl rfl rfl (by kernel_rfl) (by kernel_rfl) (Try.call51 _ _) (mvGet w d.key d.at_ hO) (by rintro e x ⟨rfl, h⟩; exact ⟨_, rfl, rfl, h⟩)) ?_; clear h7
 rintro _ w9 a8 ⟨rfl, hb10⟩ h8
 have hz11 := hb10.size
 have ho12 := MvO.ofS hO
 refine pk0 (v := .tuple #[.string ((atS (f d.key) d.at_).1), .bool ((atS (f d.key) d.at_).2)]) h8 rfl fun a13 h13 => ?_; clear h8
 refine pk0 (v := .string ((atS (f d.key) d.at_).1)) h13 rfl fun a14 h14 => ?_; clear h13
 refine pk0 (v := .bool ((atS (f d.key) d.at_).2)) h14 rfl fun a15 h15 => ?_; clear h14
 refine pk0 (v := .string ((atS (f d.key) d.at_).1)) h15 rfl fun a16 h16 => ?_; clear h15
 refine pk0 (v := .bool ((atS (f d.key) d.at_).2)) h16 rfl fun a17 h17 => ?_; clear h16
 refine pl_nil ?_
 refine co_then ?_
 refine co_seq ?_
 refine co_seq ?_
 refine co_reg ?_
 refine pk0 (v := .bool ((atS (f d.key) d.at_).2)) h17 rfl fun a18 h18 => ?_; clear h17
 have hB20 := hb_call hB0 hb10
 cases hc19 : ((atS (f d.key) d.at_).2)
 ·
  rw [hc19] at h18
  refine pk0 (v := .bool true) h18 rfl fun a21 h21 => ?_; clear h18
  refine pl_nil ?_
  refine co_then ?_
  refine co_true h21 rfl ?_
  refine co_seq ?_
  refine co_reg ?_
  refine pk0 (v := .slice none 0 0) h21 rfl fun a22 h22 => ?_; clear h21
  refine pk0 (v := .bool false) h22 rfl fun a23 h23 => ?_; clear h22
  refine pl_nil ?_
  refine co_then ?_
  refine wp_ret ?_
  refine co_thenR ?_
  refine co_ret2 h23 rfl rfl rfl ?_
  have hgg := get_n (f := f) (k := d.key) (t := d.at_) (by assumption)
  exact ⟨_, rfl, (row_eq (row_nilL _ _ _ _ _) hgg), hB20⟩
 ·
  rw [hc19] at h18
  refine pk0 (v := .bool false) h18 rfl fun a24 h24 => ?_; clear h18
  refine pl_nil ?_
  refine co_then ?_
  refine co_false h24 rfl ?_
  refine wp_skip ?_
  refine co_then ?_
  refine co_seq ?_
  refine co_reg ?_
  refine pk0 (v := pt X 11) h24 rfl fun a25 h25 => ?_; clear h24
  have hk26 := hX.below hb10
  refine pk (v := .string d.key) h25 rfl (rn_load1 rfl rfl Try.isAgg9 (hk26.cell rfl)) fun a27 h27 => ?_; clear h25
  refine pk0 (v := .string ((atS (f d.key) d.at_).1)) h27 rfl fun a28 h28 => ?_; clear h27
  refine pk0 (v := .agg #[.string d.key, .string ((atS (f d.key) d.at_).1)]) h28 rfl fun a29 h29 => ?_; clear h28
  refine pw h29 rfl (op_new (v := fun N => .slice (some ⟨N, 0, none⟩) 1 1) (T := 88) (cs := #[.string d.key, .string ((atS (f d.key) d.at_).1)]) (by kernel_rfl) (by kernel_rfl) (by kernel_rfl)) ?_; clear h29
  rintro _ w31 a30 ⟨N32, rfl, hN35, hz36, hk34, hg33⟩ h30
  have hz37 := hg33.size
  have hO39 := MvO.gr hO (below_grown hb10) (fun k e => by cases e)
  have ho38 := off_new (MvO.ofS hO39) hN35
  try dsimp only at h30
  refine pk0 (v := .slice (some ⟨N32, 0, none⟩) 1 1) h30 rfl fun a40 h40 => ?_; clear h30
  refine pk0 (v := .bool false) h40 rfl fun a41 h41 => ?_; clear h40
  refine pl_nil ?_
  refine co_then ?_
  refine wp_ret ?_
  refine co_ret2 h41 rfl rfl rfl ?_
  have hr42 := row_of_cells (enc := pairE) (sz := 2) ([(d.key, (atS (f d.key) d.at_).1)] : List PairT) hk34 (Nat.le_refl _) rfl rfl (by unfold maxLen; simp)
  have hB43 := hb_new hB20 hg33
  have hgg := get_y (f := f) (k := d.key) (t := d.at_) (by assumption)
  exact ⟨_, rfl, (row_eq (row_lows hr42 (by omega)) hgg), hB43⟩
set_option maxRecDepth 100000 in
theorem srvScanF_any (S : Nat → Prop) (b : Nat) (f : Fv) (la : Int) (ce : Int) (m : Nat) (G : Nat) (X : Nat) (d : MsgD) (mv : Value) (bv : Value) (ev : Value) (sv : Value) (pv : Value) (w : World) (hO : MvO S w b f la ce m) (hm : m ≤ 100) (hm : SliceOf memE 2 w mv d.cms) (hb : SliceOf opE 3 w bv d.bl) (he : SliceOf entE 4 w ev d.en) (ht : SliceOf (intE .u64) 1 w sv d.st) (hp : SliceOf prE 2 w pv d.pr) (hG : Blk w G 115 #[.func (.func 56) #[pt b 0] #[]]) (hX : Blk w X 37 #[.int .i64 d.k, .int .i64 d.ep, .int .i64 d.rq, .int .i64 d.sr, .bool d.fg, .int .u64 d.at_, .int .u64 d.la, .int .i64 d.n, .int .i64 d.m, .int .i64 d.p, .int .i64 d.e, .string d.key, .string d.to_, .int .i64 d.cep, mv, .int .u64 d.cfl, .int .i64 d.bc, .int .i64 d.br, bv, ev, sv, pv]) (hn : -9223372036854775808 ≤ d.n ∧ d.n ≤ 9223372036854775807) :
    Calls Try.prog 57 #[pt G 0, pt X 0] w fun e w' => ∃ (u : Value), e = .returned (.tuple #[u, .bool (scanM (hitsF f d.at_ d.key d.to_) (mnI d.n 32))]) ∧ w'.ownsRow w.heap.size 88 2 u (scanL (hitsF f d.at_ d.key d.to_) (mnI d.n 32)).length ((scanL (hitsF f d.at_ d.key d.to_) (mnI d.n 32)).flatMap pairE) ∧ Below w.heap.size w w' := by
 have hB0 := Below.refl w.heap.size w
 have hl_hm := sl_len hm
 have hl_hb := sl_len hb
 have hl_he := sl_len he
 have hl_ht := sl_len ht
 have hl_hp := sl_len hp
 have hl_hG := hG.lt
 have hl_hX := hX.lt
 have hoS := MvO.ofS hO
 refine co_enter (n := 17) Try.func57 rfl rfl rfl [(0, pt G 0), (1, pt X 0)] rfl (fun a h0 => ?_)
 refine co_seq ?_
 refine co_reg ?_
 refine pk0 (v := .slice none 0 0) h0 rfl fun a1 h1 => ?_; clear h0
 refine pk0 (v := .bool false) h1 rfl fun a2 h2 => ?_; clear h1
 refine pl_nil ?_
 refine co_then ?_
 refine co_seq ?_
 refine co_reg ?_
 refine pk (v := .func (.func 56) #[pt b 0] #[]) h2 rfl (rn_load1 rfl rfl Try.isAgg115 (hG.cell rfl)) fun a3 h3 => ?_; clear h2
 refine pk0 (v := pt X 11) h3 rfl fun a4 h4 => ?_; clear h3
 refine pk (v := .string d.key) h4 rfl (rn_load1 rfl rfl Try.isAgg9 (hX.cell rfl)) fun a5 h5 => ?_; clear h4
 refine pk0 (v := pt X 12) h5 rfl fun a6 h6 => ?_; clear h5
 refine pk (v := .string d.to_) h6 rfl (rn_load1 rfl rfl Try.isAgg9 (hX.cell rfl)) fun a7 h7 => ?_; clear h6
 refine pk0 (v := pt X 5) h7 rfl fun a8 h8 => ?_; clear h7
 refine pk (v := .int .u64 d.at_) h8 rfl (rn_load1 rfl rfl Try.isAgg23 (hX.cell rfl)) fun a9 h9 => ?_; clear h8
 refine pk0 (v := pt X 7) h9 rfl fun a10 h10 => ?_; clear h9
 refine pk (v := .int .i64 d.n) h10 rfl (rn_load1 rfl rfl Try.isAgg3 (hX.cell rfl)) fun a11 h11 => ?_; clear h10
 have hmm12 := mnI_p d.n 32
 refine pk0 (v := .int .i64 (mnI d.n 32)) h11 rfl fun a13 h13 => ?_; clear h11
 refine pw h13 rfl (op_callB (args := #[pt b 0, .string d.key, .string d.to_, .int .u64 d.at_, .int .i64 (mnI d.n 32)]) (R := fun res xw => ∃ (ao : Option Addr) (nn cap : Nat), res = .tuple #[.slice ao nn cap, .bool (scanM (hitsF f d.at_ d.key d.to_) (mnI d.n 32))] ∧ xw.ownsRow w.heap.size 88 2 (.slice ao nn cap) (scanL (hitsF f d.at_ d.key d.to_) (mnI d.n 32)).length ((scanL (hitsF f d.at_ d.key d.to_) (mnI d.n 32)).flatMap pairE) ∧ Below w.heap.size w xw) rfl rfl rfl (by kernel_rfl) (by kernel_rfl) (Try.call56 _ _) (mvScan w d.key d.to_ d.at_ (mnI d.n 32) hO (by omega) (by omega)) (by rintro e x ⟨u, h0, h⟩; obtain ⟨ao, nn, cap, rfl⟩ := own_sliceT h.1; exact ⟨_, h0, ao, nn, cap, rfl, h⟩)) ?_; clear h13
 rintro _ w15 a14 ⟨ao16, nn17, cp18, rfl, hr19, hb20⟩ h14
 have hz21 := hb20.size
 have ho22 := MvO.ofS hO
 refine pk0 (v := .slice ao16 nn17 cp18) h14 rfl fun a23 h23 => ?_; clear h14
 refine pk0 (v := .bool (scanM (hitsF f d.at_ d.key d.to_) (mnI d.n 32))) h23 rfl fun a24 h24 => ?_; clear h23
 refine pk0 (v := .slice ao16 nn17 cp18) h24 rfl fun a25 h25 => ?_; clear h24
 refine pk0 (v := .bool (scanM (hitsF f d.at_ d.key d.to_) (mnI d.n 32))) h25 rfl fun a26 h26 => ?_; clear h25
 refine pl_nil ?_
 refine co_then ?_
 refine wp_ret ?_
 refine co_ret2 h26 rfl rfl rfl ?_
 have hB27 := hb_call hB0 hb20
 exact ⟨_, rfl, (row_lows hr19 (by omega)), hB27⟩
end Go.Proofs.Ytbjbcbbhmbpndaa
