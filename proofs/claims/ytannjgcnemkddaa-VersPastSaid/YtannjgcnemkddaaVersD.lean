/- Package vers: what At, Clone, Prune answer. Conditions: lists of at most 1000 versions where one is copied. -/
import Derived.Test.YtannjgcnemkddaaVersC
namespace Go.Proofs.Ytannjgcnemkddaa
open Go.RowKit Go.PlainAid

def cellAt (l : List CellT) (i : Nat) : CellT := l.getD i (0, ByteArray.empty, false)
theorem cellAt_get {l : List CellT} {i : Nat} (h : i < l.length) : cellAt l i = l[i] := by
  simp [cellAt, List.getD, List.getElem?_eq_getElem h]
/-- What a key is at a time. -/
def atS (l : List CellT) (t : Int) : ByteArray × Bool :=
  if lastI l t < 0 then (ByteArray.empty, false) else if (cellAt l (lastI l t).toNat).2.2 = true then (ByteArray.empty, false) else ((cellAt l (lastI l t).toNat).2.1, true)
theorem atS_none {l : List CellT} {t : Int} (h : lastI l t < 0) : atS l t = (ByteArray.empty, false) := if_pos h
theorem atS_some {l : List CellT} {t : Int} {k : Nat} (h : lastI l t = k) : atS l t = if (cellAt l k).2.2 = true then (ByteArray.empty, false) else ((cellAt l k).2.1, true) := by
  unfold atS; rw [if_neg (by omega), h, Int.toNat_natCast]

set_option maxRecDepth 100000 in
set_option maxHeartbeats 400000 in
theorem at_any (v : Value) (l : List CellT) (t : Int) (w : World) (hs : SliceOf cellE 3 w v l) (hw : ∀ c ∈ l, cellOk c) :
    Calls Try.prog 30 #[v, .int .u64 t] w fun e w' => e = .returned (.tuple #[.string (atS l t).1, .bool (atS l t).2]) ∧ Below w.heap.size w w' := by
  have HS := Lib.hid hs; have HW := Lib.hid hw
  obtain ⟨ao, cap, rfl, hcap, hcm, _, hcell⟩ := hs
  have HC := Lib.hid hcell; clear hcell hw
  have hbd := down_bd l t l.length
  by_cases h0 : lastI l t < 0
  · have HA := Lib.hid (atS_none h0)
    clear hbd
    go_enter Try.func30, Try.ntmps30
    go_wp2_with fail
    refine (place_any _ _ _ _ HS.out HW.out).mono ?_
    rintro e w1 ⟨rfl, hb1⟩
    have HB := Lib.hid hb1; clear hb1
    go_wp2
    go_ret2
    exact ⟨by rw [HA.out]; rfl, HB.out⟩
  · obtain ⟨k, hk⟩ := Int.eq_ofNat_of_zero_le (show 0 ≤ lastI l t by omega)
    have hkl : k < l.length := by have : lastI l t < l.length := hbd.2.1; omega
    have ha := atS_some hk
    have hg := cellAt_get hkl
    obtain ⟨b, off, rfl, hr⟩ := HC.out k hkl
    obtain ⟨c, hc⟩ : ∃ c, c = l[k] := ⟨_, rfl⟩
    rw [← hc] at hr hg
    rw [hg] at ha
    have HK := Lib.hid hk; have HR := Lib.hid hr
    clear hbd hk hg hc h0 hr
    cases hdel : c.2.2 with
    | true =>
      rw [hdel, if_pos rfl] at ha
      have HA := Lib.hid ha; have HDel := Lib.hid hdel
      clear ha hdel
      go_enter Try.func30, Try.ntmps30
      go_wp2_with fail
      refine (place_any _ _ _ _ HS.out HW.out).mono ?_
      rintro e w1 ⟨rfl, hb1⟩
      rw [HK.out]
      have k2 := cell_below hb1 (HR.out 2 _ rfl)
      rw [HDel.out] at k2
      have HB := Lib.hid hb1; clear hb1
      go_wp2
      go_ret2
      exact ⟨by rw [HA.out]; rfl, HB.out⟩
    | false =>
      rw [hdel, if_neg (by simp)] at ha
      have HA := Lib.hid ha; have HDel := Lib.hid hdel
      clear ha hdel
      go_enter Try.func30, Try.ntmps30
      go_wp2_with fail
      refine (place_any _ _ _ _ HS.out HW.out).mono ?_
      rintro e w1 ⟨rfl, hb1⟩
      rw [HK.out]
      have k2 := cell_below hb1 (HR.out 2 _ rfl)
      have k1 := cell_below hb1 (HR.out 1 _ rfl)
      rw [HDel.out] at k2
      have HB := Lib.hid hb1; clear hb1
      go_wp2
      go_ret2
      exact ⟨by rw [HA.out]; rfl, HB.out⟩

theorem info_cell : (Try.prog.info? 38).map (fun i => (i.zero, i.size, i.bytes)) = some (some (.agg #[.int .u64 0, .string ByteArray.empty, .bool false]), 3, 32) := by kernel_rfl
theorem cellE_one (l : List CellT) : ∀ y ∈ l, (cellE y).length = 3 ∧ ∀ u ∈ cellE y, u.oneCell' = true := by
  intro y _; exact ⟨rfl, fun u hu => by simp [cellE] at hu; rcases hu with rfl | rfl | rfl <;> rfl⟩

set_option maxRecDepth 100000 in
set_option maxHeartbeats 400000 in
theorem clone_any (v : Value) (l : List CellT) (w : World) (hs : SliceOf cellE 3 w v l) (hl : l.length ≤ 1000) :
    Calls Try.prog 66 #[v] w fun e w' => ∃ v', e = .returned v' ∧ w'.ownsRow w.heap.size 38 3 v' l.length (l.flatMap cellE) ∧ Below w.heap.size w w' := by
  obtain ⟨i0, hi, hz0, hz1, hz2⟩ := info_parts info_cell
  have HS := Lib.hid (hs.below (w' := w.alloc (.cells #[] 38)) ((Below.refl _ _).alloc (Nat.le_refl _) _))
  have HB := Lib.hid (row_built w #[] 38 3 0 w.heap.size (Nat.le_refl _) rfl (by decide))
  obtain ⟨ao, cap, rfl, hcap, hcm, hnil, hcell⟩ := hs
  have heq := fun W : World => Lib.run_eql_slice_nil (P := Try.prog) W 35 38 ao l.length cap 0 0 Try.underlying35
  cases ao with
  | none =>
    obtain ⟨hl0, rfl⟩ := hnil rfl
    obtain rfl : l = [] := List.eq_nil_of_length_eq_zero hl0
    clear hcell hnil hl0 heq
    have heq := fun W : World => Lib.run_eql_slice_nil (P := Try.prog) W 35 38 none 0 0 0 0 Try.underlying35
    show Calls _ _ #[.slice none 0 0] _ _
    go_enter Try.func66, Try.ntmps66
    go_wp2
    go_ret
    exact ⟨_, rfl, World.ownsRow_nil _ _ _ _, Below.refl _ _⟩
  | some a =>
    clear hcell hnil
    go_enter Try.func66, Try.ntmps66
    go_wp2_with (at_builtin; go_loud (refine wpList_append_src rfl (.tmp 5) (.tmp 6) 35 rfl w.heap.size 38 i0 (.agg #[.int .u64 0, .string ByteArray.empty, .bool false]) 3 32 Try.underlying35 hi hz0 hz1 hz2 rfl (by decide) _ 0 _ rfl HB.out cellE l _ rfl HS.out (cellE_one l) (by unfold maxLen; omega) (by omega) (by simp) ?_); intro v1 w1 hown1 hgr1)
    go_ret
    have hb1 : Below w.heap.size w w1 := ((Below.refl _ _).alloc (Nat.le_refl _) _).grown hgr1 (by simp) (by intro k h; cases h; exact Nat.le_refl _)
    exact ⟨_, rfl, by simpa using hown1, hb1⟩

/-- What is left when versions are pruned. -/
def pruneN (l : List CellT) (h : Int) : Nat :=
  if lastI l h < 0 then 0 else if (cellAt l (lastI l h).toNat).2.2 = true then (lastI l h).toNat + 1 else (lastI l h).toNat
theorem pruneN_le (l : List CellT) (h : Int) : pruneN l h ≤ l.length := by
  have := (down_bd l h l.length).2.1
  unfold pruneN lastI
  split
  · omega
  · split <;> omega
theorem SliceOf.drop {α : Type} {enc : α → List Value} {sz : Nat} {w : World} {b off cap : Nat} {l : List α} (k : Nat) (h : SliceOf enc sz w (.slice (some ⟨b, off, none⟩) l.length cap) l) (hk : k ≤ l.length) :
    (cap = k → SliceOf enc sz w (.slice (some ⟨b, off, none⟩) 0 0) (l.drop k)) ∧ SliceOf enc sz w (.slice (some ⟨b, off + k * sz, none⟩) (l.length - k) (cap - k)) (l.drop k) := by
  obtain ⟨ao, cap', hv, h1, h2, h3, h4⟩ := h
  simp only [Value.slice.injEq, true_and] at hv
  obtain ⟨rfl, rfl⟩ := hv
  have ht : (l.drop k).length = l.length - k := by simp
  refine ⟨fun hc => ?_, ?_⟩
  · have e : l.drop k = [] := List.eq_nil_of_length_eq_zero (by omega)
    rw [e]
    exact ⟨_, _, rfl, by simp, by omega, fun h => (by cases h), fun j hj => absurd hj (by simp)⟩
  · refine ⟨_, _, by rw [ht], by omega, by omega, fun h => (by cases h), fun j hj => ?_⟩
    obtain ⟨b', off', e, hr⟩ := h4 (k + j) (by omega)
    cases e
    refine ⟨b, off + k * sz, rfl, ?_⟩
    rw [show off + k * sz + j * sz = off + (k + j) * sz by rw [Nat.add_mul]; omega]
    rw [List.getElem_drop]
    exact hr

theorem SliceOf.empty {α : Type} (enc : α → List Value) (sz : Nat) (w : World) (a : Addr) (cap : Nat) (h : cap ≤ 9223372036854775807) : SliceOf enc sz w (.slice (some a) 0 cap) ([] : List α) :=
  ⟨some a, cap, rfl, by simp, h, fun h => (by cases h), fun j hj => absurd hj (by simp)⟩

set_option maxRecDepth 100000 in
set_option maxHeartbeats 800000 in
theorem prune_any (v : Value) (l : List CellT) (t : Int) (w : World) (hs : SliceOf cellE 3 w v l) (hw : ∀ c ∈ l, cellOk c) (hl : l.length ≤ 1000) :
    Calls Try.prog 35 #[v, .int .u64 t] w fun e w' => ∃ v', e = .returned v' ∧ SliceOf cellE 3 w' v' (l.drop (pruneN l t)) ∧ Below w.heap.size w w' := by
  have HS := Lib.hid hs; have HW := Lib.hid hw
  obtain ⟨ao, cap, rfl, hcap, hcm, hnil, hcell⟩ := hs
  have HC := Lib.hid hcell; clear hcell hw
  have hbd := down_bd l t l.length
  have hple := pruneN_le l t
  by_cases hl0 : l.length = 0
  · obtain rfl : l = [] := List.eq_nil_of_length_eq_zero hl0
    have HK := Lib.hid (show lastI [] t = -1 from rfl)
    have HA := Lib.hid (show pruneN [] t = 0 from rfl)
    cases ao with
    | none =>
      obtain ⟨_, rfl⟩ := hnil rfl
      clear hbd hple hnil hcap hcm hl0 hl
      show Calls _ _ #[.slice none 0 0, _] _ _
      go_enter Try.func35, Try.ntmps35
      go_wp2_with fail
      refine (place_any _ _ _ _ HS.out HW.out).mono ?_
      rintro e w1 ⟨rfl, hb1⟩
      rw [HK.out]
      have HB := Lib.hid hb1; clear hb1
      go_wp2_with fail
      refine (clone_any _ (([] : List CellT).drop 0) _ ?_ (by simp)).mono ?_
      · exact SliceOf.nil _ _ _
      · rintro e w2 ⟨v2, rfl, hown, hb2⟩
        have hso : SliceOf cellE 3 w2 v2 (([] : List CellT).drop 0) := SliceOf.own hown (fun y _ => rfl)
        have HSO := Lib.hid hso; have HB2 := Lib.hid (HB.out.trans (hb2.mono HB.out.size))
        clear hown hb2 hso
        go_wp2
        go_ret
        exact ⟨_, rfl, by rw [HA.out]; exact HSO.out, HB2.out⟩
    | some a =>
      clear hbd hple hnil hcap hl0 hl
      show Calls _ _ #[.slice (some a) 0 cap, _] _ _
      by_cases hc0 : cap = 0
      · obtain rfl : cap = 0 := hc0
        go_enter Try.func35, Try.ntmps35
        go_wp2_with fail
        refine (place_any _ _ _ _ HS.out HW.out).mono ?_
        rintro e w1 ⟨rfl, hb1⟩
        rw [HK.out]
        have HB := Lib.hid hb1; clear hb1
        go_wp2_with fail
        refine (clone_any _ (([] : List CellT).drop 0) _ ?_ (by simp)).mono ?_
        · exact SliceOf.empty _ _ _ _ _ (by omega)
        · rintro e w2 ⟨v2, rfl, hown, hb2⟩
          have hso : SliceOf cellE 3 w2 v2 (([] : List CellT).drop 0) := SliceOf.own hown (fun y _ => rfl)
          have HSO := Lib.hid hso; have HB2 := Lib.hid (HB.out.trans (hb2.mono HB.out.size))
          clear hown hb2 hso
          go_wp2
          go_ret
          exact ⟨_, rfl, by rw [HA.out]; exact HSO.out, HB2.out⟩
      · have hcb : ((cap : Int) == 0) = false := by simp; omega
        go_enter Try.func35, Try.ntmps35
        go_wp2_with fail
        refine (place_any _ _ _ _ HS.out HW.out).mono ?_
        rintro e w1 ⟨rfl, hb1⟩
        rw [HK.out]
        have HB := Lib.hid hb1; clear hb1
        go_wp2_with fail
        refine (clone_any _ (([] : List CellT).drop 0) _ ?_ (by simp)).mono ?_
        · exact SliceOf.empty _ _ _ _ _ (by omega)
        · rintro e w2 ⟨v2, rfl, hown, hb2⟩
          have hso : SliceOf cellE 3 w2 v2 (([] : List CellT).drop 0) := SliceOf.own hown (fun y _ => rfl)
          have HSO := Lib.hid hso; have HB2 := Lib.hid (HB.out.trans (hb2.mono HB.out.size))
          clear hown hb2 hso
          go_wp2
          go_ret
          exact ⟨_, rfl, by rw [HA.out]; exact HSO.out, HB2.out⟩
  · obtain ⟨b, off, rfl, _⟩ := HC.out 0 (by omega)
    by_cases h0 : lastI l t < 0
    · have HA := Lib.hid (show pruneN l t = 0 from if_pos h0)
      have HK := Lib.hid (show lastI l t = -1 by have : -1 ≤ lastI l t := hbd.1; omega)
      have hcb : ((cap : Int) == 0) = false := by simp; omega
      clear hbd hple h0
      go_enter Try.func35, Try.ntmps35
      go_wp2_with fail
      refine (place_any _ _ _ _ HS.out HW.out).mono ?_
      rintro e w1 ⟨rfl, hb1⟩
      rw [HK.out]
      have HB := Lib.hid hb1; have HS1 := Lib.hid (HS.out.below hb1)
      clear hb1
      go_wp2_with fail
      refine (clone_any _ (l.drop (0)) _ ?_ (by rw [List.length_drop]; omega)).mono ?_
      · exact HS1.out
      · rintro e w2 ⟨v2, rfl, hown, hb2⟩
        have hso : SliceOf cellE 3 w2 v2 (l.drop (0)) := SliceOf.own hown (fun y _ => rfl)
        have HSO := Lib.hid hso; have HB2 := Lib.hid (HB.out.trans (hb2.mono HB.out.size))
        clear hown hb2 hso
        go_wp2
        go_ret
        exact ⟨_, rfl, by rw [HA.out]; exact HSO.out, HB2.out⟩
    · obtain ⟨k, hk⟩ := Int.eq_ofNat_of_zero_le (show 0 ≤ lastI l t by omega)
      have hkl : k < l.length := by have : lastI l t < l.length := hbd.2.1; omega
      have hp : pruneN l t = if (cellAt l k).2.2 = true then k + 1 else k := by unfold pruneN; rw [if_neg h0, hk, Int.toNat_natCast]
      have hg := cellAt_get hkl
      obtain ⟨b', off', hbo, hr⟩ := HC.out k hkl
      cases hbo
      obtain ⟨c, hc⟩ : ∃ c, c = l[k] := ⟨_, rfl⟩
      rw [← hc] at hr hg
      rw [hg] at hp
      have HK := Lib.hid hk; have HR := Lib.hid hr
      clear hbd hple hk hg hc h0 hr
      cases hdel : c.2.2 with
      | true =>
        rw [hdel, if_pos rfl] at hp
        have HA := Lib.hid hp; have HDel := Lib.hid hdel
        clear hp hdel
        by_cases hcc : cap = k + 1
        · have hcb : ((cap : Int) == (k : Int) + 1) = true := by simp; omega
          have hcb2 : (cap == k + 1) = true := by simp; omega
          obtain rfl : cap = k + 1 := hcc
          go_enter Try.func35, Try.ntmps35
          go_wp2_with fail
          refine (place_any _ _ _ _ HS.out HW.out).mono ?_
          rintro e w1 ⟨rfl, hb1⟩
          rw [HK.out]
          have HB := Lib.hid hb1; have HS1 := Lib.hid (HS.out.below hb1)
          have k2 := cell_below hb1 (HR.out 2 _ rfl)
          rw [HDel.out] at k2
          clear hb1
          go_wp2_with fail
          refine (clone_any _ (l.drop (k + 1)) _ ?_ (by rw [List.length_drop]; omega)).mono ?_
          · exact by first | exact (HS1.out.drop (k + 1) (by omega)).1 rfl | exact (by have := (HS1.out.drop (k + 1) (by omega)).1 rfl; rw [show l.length - (k + 1) = 0 by omega]; exact this)
          · rintro e w2 ⟨v2, rfl, hown, hb2⟩
            have hso : SliceOf cellE 3 w2 v2 (l.drop (k + 1)) := SliceOf.own hown (fun y _ => rfl)
            have HSO := Lib.hid hso; have HB2 := Lib.hid (HB.out.trans (hb2.mono HB.out.size))
            clear hown hb2 hso
            go_wp2
            go_ret
            exact ⟨_, rfl, by rw [HA.out]; exact HSO.out, HB2.out⟩
        · have hcb : ((cap : Int) == (k : Int) + 1) = false := by simp; omega
          have hcb2 : ¬ (cap = k + 1) := hcc
          go_enter Try.func35, Try.ntmps35
          go_wp2_with fail
          refine (place_any _ _ _ _ HS.out HW.out).mono ?_
          rintro e w1 ⟨rfl, hb1⟩
          rw [HK.out]
          have HB := Lib.hid hb1; have HS1 := Lib.hid (HS.out.below hb1)
          have k2 := cell_below hb1 (HR.out 2 _ rfl)
          rw [HDel.out] at k2
          clear hb1
          go_wp2_with fail
          refine (clone_any _ (l.drop (k + 1)) _ ?_ (by rw [List.length_drop]; omega)).mono ?_
          · exact (HS1.out.drop (k + 1) (by omega)).2
          · rintro e w2 ⟨v2, rfl, hown, hb2⟩
            have hso : SliceOf cellE 3 w2 v2 (l.drop (k + 1)) := SliceOf.own hown (fun y _ => rfl)
            have HSO := Lib.hid hso; have HB2 := Lib.hid (HB.out.trans (hb2.mono HB.out.size))
            clear hown hb2 hso
            go_wp2
            go_ret
            exact ⟨_, rfl, by rw [HA.out]; exact HSO.out, HB2.out⟩
      | false =>
        rw [hdel, if_neg (by simp)] at hp
        have HA := Lib.hid hp; have HDel := Lib.hid hdel
        clear hp hdel
        have hcb : ((cap : Int) == (k : Int)) = false := by simp; omega
        have hcb2 : ¬ (cap = k) := by omega
        go_enter Try.func35, Try.ntmps35
        go_wp2_with fail
        refine (place_any _ _ _ _ HS.out HW.out).mono ?_
        rintro e w1 ⟨rfl, hb1⟩
        rw [HK.out]
        have HB := Lib.hid hb1; have HS1 := Lib.hid (HS.out.below hb1)
        have k2 := cell_below hb1 (HR.out 2 _ rfl)
        rw [HDel.out] at k2
        clear hb1
        go_wp2_with fail
        refine (clone_any _ (l.drop (k)) _ ?_ (by rw [List.length_drop]; omega)).mono ?_
        · exact (HS1.out.drop k (by omega)).2
        · rintro e w2 ⟨v2, rfl, hown, hb2⟩
          have hso : SliceOf cellE 3 w2 v2 (l.drop (k)) := SliceOf.own hown (fun y _ => rfl)
          have HSO := Lib.hid hso; have HB2 := Lib.hid (HB.out.trans (hb2.mono HB.out.size))
          clear hown hb2 hso
          go_wp2
          go_ret
          exact ⟨_, rfl, by rw [HA.out]; exact HSO.out, HB2.out⟩
end Go.Proofs.Ytannjgcnemkddaa
