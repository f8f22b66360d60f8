/- Put together: VerC, VerD. Conditions: as each says. -/
import Derived.Test.YtfjhlckklgeokaaVerB
import Derived.Deep.AppendLies
/- catenaref14: the last place, At. Conditions: none. -/
namespace Go.Proofs.Ytfjhlckklgeokaa
open Go.RowKit Go.PlainAid

set_option maxRecDepth 100000 in
set_option maxHeartbeats 400000 in
theorem rlast_same (v : Value) (l : List CellT) (t : Int) (w : World) (hs : SliceOf cellE 3 w v l) :
    Calls Try.prog 48 #[v, .int .u64 t] w fun e w' => e = .returned (.int .i64 (lastI l t)) ∧ w = w' := by
  obtain ⟨ao, cap, rfl, hcap, hcm, _, hcell⟩ := hs
  have HC := Lib.hid hcell; clear hcell
  go_enter Try.func48, Try.ntmps48
  go_wp2
  go_loopg [5] (l.length + 1) (fun g s5 wr => ∃ k : Nat, s5 = .int .i64 ((k : Int) - 1) ∧ k ≤ l.length ∧ k + 1 ≤ g ∧ lastI l t = down l t k ∧ w = wr)
  case atStart => exact ⟨l.length, rfl, by omega, by omega, rfl, rfl⟩
  case round =>
    obtain ⟨k, rfl, hk, hg, hd, rfl⟩ := hrel
    have HD := Lib.hid hd; clear hd
    by_cases h0 : 0 < k
    · obtain ⟨i, rfl⟩ : ∃ i, k = i + 1 := ⟨k - 1, by omega⟩
      have hi : i < l.length := by omega
      obtain ⟨b, off, rfl, hr⟩ := HC.out i hi
      have hc := hr 0 _ rfl
      rw [Nat.add_zero] at hc
      have hix : ((i + 1 : Nat) : Int) - 1 = (i : Int) := by omega
      have hx := ts_get hi
      obtain ⟨x, hxe⟩ : ∃ x, x = l[i].1 := ⟨_, rfl⟩
      rw [← hxe] at hc hx
      have HX := Lib.hid hx
      clear hr hx hxe
      by_cases hle : x ≤ t
      · have HF := Lib.hid (show lastI l t = i by rw [HD.out, down, HX.out, if_pos hle])
        clear HD
        go_wp2
        go_ret
        exact ⟨ret_int (by rw [HF.out]; omega), rfl⟩
      · have HF := Lib.hid (show lastI l t = down l t i by rw [HD.out, down, HX.out, if_neg hle])
        clear HD
        go_wp2
        go_roundg (gk - 1)
        case rel => exact ⟨i, rfl, by omega, by omega, HF.out, rfl⟩
        case measure => omega
    · obtain rfl : k = 0 := by omega
      have HF := Lib.hid (show lastI l t = -1 from HD.out)
      have hneg : ((0 : Nat) : Int) - 1 = -1 := by omega
      clear HD
      go_wp2
      go_ret
      exact ⟨by rw [HF.out]; rfl, rfl⟩
theorem rlast_any (v : Value) (l : List CellT) (t : Int) (w : World) (hs : SliceOf cellE 3 w v l) (_hw : ∀ c ∈ l, cellOk c) :
    Calls Try.prog 48 #[v, .int .u64 t] w fun e w' => e = .returned (.int .i64 (lastI l t)) ∧ Below w.heap.size w w' :=
  (rlast_same v l t w hs).mono fun e w' ⟨h, hw⟩ => ⟨h, hw ▸ Below.refl _ _⟩

set_option maxRecDepth 100000 in
set_option maxHeartbeats 400000 in
theorem rat_any (v : Value) (l : List CellT) (t : Int) (w : World) (hs : SliceOf cellE 3 w v l) (hw : ∀ c ∈ l, cellOk c) :
    Calls Try.prog 49 #[v, .int .u64 t] w fun e w' => e = .returned (.tuple #[.string (atS l t).1, .bool (atS l t).2]) ∧ Below w.heap.size w w' := by
  have HS := Lib.hid hs; have HW := Lib.hid hw
  obtain ⟨ao, cap, rfl, hcap, hcm, _, hcell⟩ := hs
  have HC := Lib.hid hcell; clear hcell hw
  have hbd := down_bd l t l.length
  by_cases h0 : lastI l t < 0
  · have HA := Lib.hid (atS_none h0)
    clear hbd
    go_enter Try.func49, Try.ntmps49
    go_wp2_with fail
    refine (rlast_any _ _ _ _ HS.out HW.out).mono ?_
    rintro e w1 ⟨rfl, hb1⟩
    have HB := Lib.hid hb1; clear hb1
    go_wp2
    go_ret2
    exact ⟨by rw [HA.out]; rfl, HB.out⟩
  · obtain ⟨k, hk⟩ := Int.eq_ofNat_of_zero_le (show 0 ≤ lastI l t by omega)
    have hkl : k < l.length := by have : lastI l t < l.length := hbd.2.1; omega
    have ha := atS_some hk
    have hg := cellAt_get hkl
    obtain ⟨b, off, rfl, hr⟩ := HC.out k hkl
    obtain ⟨c, hc⟩ : ∃ c, c = l[k] := ⟨_, rfl⟩
    rw [← hc] at hr hg
    rw [hg] at ha
    have HK := Lib.hid hk; have HR := Lib.hid hr
    clear hbd hk hg hc h0 hr
    cases hdel : c.2.2 with
    | true =>
      rw [hdel, if_pos rfl] at ha
      have HA := Lib.hid ha; have HDel := Lib.hid hdel
      clear ha hdel
      go_enter Try.func49, Try.ntmps49
      go_wp2_with fail
      refine (rlast_any _ _ _ _ HS.out HW.out).mono ?_
      rintro e w1 ⟨rfl, hb1⟩
      rw [HK.out]
      have k2 := cell_below hb1 (HR.out 2 _ rfl)
      rw [HDel.out] at k2
      have HB := Lib.hid hb1; clear hb1
      go_wp2
      go_ret2
      exact ⟨by rw [HA.out]; rfl, HB.out⟩
    | false =>
      rw [hdel, if_neg (by simp)] at ha
      have HA := Lib.hid ha; have HDel := Lib.hid hdel
      clear ha hdel
      go_enter Try.func49, Try.ntmps49
      go_wp2_with fail
      refine (rlast_any _ _ _ _ HS.out HW.out).mono ?_
      rintro e w1 ⟨rfl, hb1⟩
      rw [HK.out]
      have k2 := cell_below hb1 (HR.out 2 _ rfl)
      have k1 := cell_below hb1 (HR.out 1 _ rfl)
      rw [HDel.out] at k2
      have HB := Lib.hid hb1; clear hb1
      go_wp2
      go_ret2
      exact ⟨by rw [HA.out]; rfl, HB.out⟩

end Go.Proofs.Ytfjhlckklgeokaa

/- Package catenaref14: Prune answers a row of its own. Conditions: at most 1000 versions. -/
namespace Go.Proofs.Ytfjhlckklgeokaa
open Go.RowKit Go.PlainAid
set_option linter.unusedVariables false
theorem row_empty (w : World) (T : TypeId) (sz B base : Nat) (h : w.heap.size = B) (hb : base ≤ B) : (w.alloc (.cells #[] T)).ownsRow base T sz (.slice (some ⟨B, 0, none⟩) 0 0) 0 [] := by
  subst h
  exact row_built w #[] T sz 0 base hb (by simp) (by decide)


set_option maxRecDepth 100000 in
set_option maxHeartbeats 800000 in
theorem rprune_row (v : Value) (l : List CellT) (t : Int) (w : World) (hs : SliceOf cellE 3 w v l) (hw : ∀ c ∈ l, cellOk c) (hl : l.length ≤ 1000) (hne : l ≠ []) :
    Calls Try.prog 35 #[v, .int .u64 t] w fun e w' => ∃ v', e = .returned v' ∧ w'.ownsRow w.heap.size 71 3 v' (l.drop (pruneN l t)).length ((l.drop (pruneN l t)).flatMap cellE) ∧ Below w.heap.size w w' := by
  obtain ⟨i0, hi, hz0, hz1, hz2⟩ := info_parts info_cell
  have HS := Lib.hid hs; have HW := Lib.hid hw
  obtain ⟨ao, cap, rfl, hcap, hcm, hnil, hcell⟩ := hs
  have HC := Lib.hid hcell; clear hcell hw
  have hbd := down_bd l t l.length
  have hple := pruneN_le l t
  by_cases hl0 : l.length = 0
  · exact absurd (List.eq_nil_of_length_eq_zero hl0) hne
  · obtain ⟨b, off, rfl, _⟩ := HC.out 0 (by omega)
    by_cases h0 : lastI l t < 0
    · have HA := Lib.hid (show pruneN l t = 0 from if_pos h0)
      have HK := Lib.hid (show lastI l t = -1 by have : -1 ≤ lastI l t := hbd.1; omega)
      have hcb : ((cap : Int) == 0) = false := by simp; omega
      clear hbd hple h0
      go_enter Try.func35, Try.ntmps35
      go_wp2_with fail
      refine (rlast_any _ _ _ _ HS.out HW.out).mono ?_
      rintro e w1 ⟨rfl, hb1⟩
      rw [HK.out]
      have HB := Lib.hid hb1; have HS1 := Lib.hid (HS.out.below hb1)
      clear hb1
      go_wp2_with (at_builtin; go_loud (refine wpList_append_src rfl (.tmp 20) (.tmp 23) 62 rfl w1.heap.size 71 i0 (.agg #[.int .u64 0, .string ByteArray.empty, .bool false]) 3 32 Try.underlying62 hi hz0 hz1 hz2 rfl (by decide) _ 0 [] rfl (row_empty _ _ _ _ _ rfl (Nat.le_refl _)) cellE (l.drop (0)) _ rfl (SliceOf.below (w := w1) (by exact HS1.out) (by (repeat (first | exact Below.refl _ _ | refine Below.alloc ?_ (by first | omega | (simp; done) | (simp; omega)) _ | refine Below.drew ?_ | refine below_draws ?_ _)))) (cellE_one _) (by rw [List.length_drop]; unfold maxLen; first | omega | (simp; omega)) (by rw [List.length_drop]; first | omega | (simp; omega)) (by simp) ?_); intro v2 w2 hown hgr)
      have hb2 : Below w1.heap.size w1 w2 := Below.grown (by (repeat (first | exact Below.refl _ _ | refine Below.alloc ?_ (by first | omega | (simp; done) | (simp; omega)) _ | refine Below.drew ?_ | refine below_draws ?_ _))) hgr (by simp) (fun k hk => by cases hk; simp)
      have hso : w2.ownsRow w.heap.size 71 3 v2 (l.drop (0)).length ((l.drop (0)).flatMap cellE) := own_low (by have h7 := hown; rwa [Nat.zero_add] at h7) (by first | exact HB.out.size | (have := HB.out.size; omega))
      have HSO := Lib.hid hso; have HB2 := Lib.hid (HB.out.trans (hb2.mono HB.out.size))
      clear hown hgr hb2 hso
      go_wp2
      go_ret
      exact ⟨_, rfl, by rw [HA.out]; exact HSO.out, HB2.out⟩
    · obtain ⟨k, hk⟩ := Int.eq_ofNat_of_zero_le (show 0 ≤ lastI l t by omega)
      have hkl : k < l.length := by have : lastI l t < l.length := hbd.2.1; omega
      have hp : pruneN l t = if (cellAt l k).2.2 = true then k + 1 else k := by unfold pruneN; rw [if_neg h0, hk, Int.toNat_natCast]
      have hg := cellAt_get hkl
      obtain ⟨b', off', hbo, hr⟩ := HC.out k hkl
      cases hbo
      obtain ⟨c, hc⟩ : ∃ c, c = l[k] := ⟨_, rfl⟩
      rw [← hc] at hr hg
      rw [hg] at hp
      have HK := Lib.hid hk; have HR := Lib.hid hr
      clear hbd hple hk hg hc h0 hr
      cases hdel : c.2.2 with
      | true =>
        rw [hdel, if_pos rfl] at hp
        have HA := Lib.hid hp; have HDel := Lib.hid hdel
        clear hp hdel
        by_cases hcc : cap = k + 1
        · have hcb : ((cap : Int) == (k : Int) + 1) = true := by simp; omega
          have hcb2 : (cap == k + 1) = true := by simp; omega
          obtain rfl : cap = k + 1 := hcc
          go_enter Try.func35, Try.ntmps35
          go_wp2_with fail
          refine (rlast_any _ _ _ _ HS.out HW.out).mono ?_
          rintro e w1 ⟨rfl, hb1⟩
          rw [HK.out]
          have HB := Lib.hid hb1; have HS1 := Lib.hid (HS.out.below hb1)
          have k2 := cell_below hb1 (HR.out 2 _ rfl)
          rw [HDel.out] at k2
          clear hb1
          go_wp2_with (at_builtin; go_loud (refine wpList_append_src rfl (.tmp 20) (.tmp 23) 62 rfl w1.heap.size 71 i0 (.agg #[.int .u64 0, .string ByteArray.empty, .bool false]) 3 32 Try.underlying62 hi hz0 hz1 hz2 rfl (by decide) _ 0 [] rfl (row_empty _ _ _ _ _ rfl (Nat.le_refl _)) cellE (l.drop (k + 1)) _ rfl (SliceOf.below (w := w1) (by first | exact (HS1.out.drop (k + 1) (by omega)).1 rfl | exact (by have := (HS1.out.drop (k + 1) (by omega)).1 rfl; rw [show l.length - (k + 1) = 0 by omega]; exact this)) (by (repeat (first | exact Below.refl _ _ | refine Below.alloc ?_ (by first | omega | (simp; done) | (simp; omega)) _ | refine Below.drew ?_ | refine below_draws ?_ _)))) (cellE_one _) (by rw [List.length_drop]; unfold maxLen; first | omega | (simp; omega)) (by rw [List.length_drop]; first | omega | (simp; omega)) (by simp) ?_); intro v2 w2 hown hgr)
          have hb2 : Below w1.heap.size w1 w2 := Below.grown (by (repeat (first | exact Below.refl _ _ | refine Below.alloc ?_ (by first | omega | (simp; done) | (simp; omega)) _ | refine Below.drew ?_ | refine below_draws ?_ _))) hgr (by simp) (fun k hk => by cases hk; simp)
          have hso : w2.ownsRow w.heap.size 71 3 v2 (l.drop (k + 1)).length ((l.drop (k + 1)).flatMap cellE) := own_low (by have h7 := hown; rwa [Nat.zero_add] at h7) (by first | exact HB.out.size | (have := HB.out.size; omega))
          have HSO := Lib.hid hso; have HB2 := Lib.hid (HB.out.trans (hb2.mono HB.out.size))
          clear hown hgr hb2 hso
          go_wp2
          go_ret
          exact ⟨_, rfl, by rw [HA.out]; exact HSO.out, HB2.out⟩
        · have hcb : ((cap : Int) == (k : Int) + 1) = false := by simp; omega
          have hcb2 : ¬ (cap = k + 1) := hcc
          go_enter Try.func35, Try.ntmps35
          go_wp2_with fail
          refine (rlast_any _ _ _ _ HS.out HW.out).mono ?_
          rintro e w1 ⟨rfl, hb1⟩
          rw [HK.out]
          have HB := Lib.hid hb1; have HS1 := Lib.hid (HS.out.below hb1)
          have k2 := cell_below hb1 (HR.out 2 _ rfl)
          rw [HDel.out] at k2
          clear hb1
          go_wp2_with (at_builtin; go_loud (refine wpList_append_src rfl (.tmp 20) (.tmp 23) 62 rfl w1.heap.size 71 i0 (.agg #[.int .u64 0, .string ByteArray.empty, .bool false]) 3 32 Try.underlying62 hi hz0 hz1 hz2 rfl (by decide) _ 0 [] rfl (row_empty _ _ _ _ _ rfl (Nat.le_refl _)) cellE (l.drop (k + 1)) _ rfl (SliceOf.below (w := w1) (by exact (HS1.out.drop (k + 1) (by omega)).2) (by (repeat (first | exact Below.refl _ _ | refine Below.alloc ?_ (by first | omega | (simp; done) | (simp; omega)) _ | refine Below.drew ?_ | refine below_draws ?_ _)))) (cellE_one _) (by rw [List.length_drop]; unfold maxLen; first | omega | (simp; omega)) (by rw [List.length_drop]; first | omega | (simp; omega)) (by simp) ?_); intro v2 w2 hown hgr)
          have hb2 : Below w1.heap.size w1 w2 := Below.grown (by (repeat (first | exact Below.refl _ _ | refine Below.alloc ?_ (by first | omega | (simp; done) | (simp; omega)) _ | refine Below.drew ?_ | refine below_draws ?_ _))) hgr (by simp) (fun k hk => by cases hk; simp)
          have hso : w2.ownsRow w.heap.size 71 3 v2 (l.drop (k + 1)).length ((l.drop (k + 1)).flatMap cellE) := own_low (by have h7 := hown; rwa [Nat.zero_add] at h7) (by first | exact HB.out.size | (have := HB.out.size; omega))
          have HSO := Lib.hid hso; have HB2 := Lib.hid (HB.out.trans (hb2.mono HB.out.size))
          clear hown hgr hb2 hso
          go_wp2
          go_ret
          exact ⟨_, rfl, by rw [HA.out]; exact HSO.out, HB2.out⟩
      | false =>
        rw [hdel, if_neg (by simp)] at hp
        have HA := Lib.hid hp; have HDel := Lib.hid hdel
        clear hp hdel
        have hcb : ((cap : Int) == (k : Int)) = false := by simp; omega
        have hcb2 : ¬ (cap = k) := by omega
        go_enter Try.func35, Try.ntmps35
        go_wp2_with fail
        refine (rlast_any _ _ _ _ HS.out HW.out).mono ?_
        rintro e w1 ⟨rfl, hb1⟩
        rw [HK.out]
        have HB := Lib.hid hb1; have HS1 := Lib.hid (HS.out.below hb1)
        have k2 := cell_below hb1 (HR.out 2 _ rfl)
        rw [HDel.out] at k2
        clear hb1
        go_wp2_with (at_builtin; go_loud (refine wpList_append_src rfl (.tmp 20) (.tmp 23) 62 rfl w1.heap.size 71 i0 (.agg #[.int .u64 0, .string ByteArray.empty, .bool false]) 3 32 Try.underlying62 hi hz0 hz1 hz2 rfl (by decide) _ 0 [] rfl (row_empty _ _ _ _ _ rfl (Nat.le_refl _)) cellE (l.drop (k)) _ rfl (SliceOf.below (w := w1) (by exact (HS1.out.drop k (by omega)).2) (by (repeat (first | exact Below.refl _ _ | refine Below.alloc ?_ (by first | omega | (simp; done) | (simp; omega)) _ | refine Below.drew ?_ | refine below_draws ?_ _)))) (cellE_one _) (by rw [List.length_drop]; unfold maxLen; first | omega | (simp; omega)) (by rw [List.length_drop]; first | omega | (simp; omega)) (by simp) ?_); intro v2 w2 hown hgr)
        have hb2 : Below w1.heap.size w1 w2 := Below.grown (by (repeat (first | exact Below.refl _ _ | refine Below.alloc ?_ (by first | omega | (simp; done) | (simp; omega)) _ | refine Below.drew ?_ | refine below_draws ?_ _))) hgr (by simp) (fun k hk => by cases hk; simp)
        have hso : w2.ownsRow w.heap.size 71 3 v2 (l.drop (k)).length ((l.drop (k)).flatMap cellE) := own_low (by have h7 := hown; rwa [Nat.zero_add] at h7) (by first | exact HB.out.size | (have := HB.out.size; omega))
        have HSO := Lib.hid hso; have HB2 := Lib.hid (HB.out.trans (hb2.mono HB.out.size))
        clear hown hgr hb2 hso
        go_wp2
        go_ret
        exact ⟨_, rfl, by rw [HA.out]; exact HSO.out, HB2.out⟩

end Go.Proofs.Ytfjhlckklgeokaa
