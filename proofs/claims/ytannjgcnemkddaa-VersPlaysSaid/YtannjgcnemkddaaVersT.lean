/- catenaref14.Prune. Conditions: lists of at most 1000 versions. -/
import Derived.Test.YtannjgcnemkddaaVersS
namespace Go.Proofs.Ytannjgcnemkddaa
open Go.RowKit Go.PlainAid

set_option maxRecDepth 100000 in
set_option maxHeartbeats 800000 in
theorem rprune_any (v : Value) (l : List CellT) (t : Int) (w : World) (hs : SliceOf cellE 3 w v l) (hw : ∀ c ∈ l, cellOk c) (hl : l.length ≤ 1000) :
    Calls Try.prog 36 #[v, .int .u64 t] w fun e w' => ∃ v', e = .returned v' ∧ SliceOf cellE 3 w' v' (l.drop (pruneN l t)) ∧ Below w.heap.size w w' := by
  obtain ⟨i0, hi, hz0, hz1, hz2⟩ := info_parts info_cell
  have HS := Lib.hid hs; have HW := Lib.hid hw
  obtain ⟨ao, cap, rfl, hcap, hcm, hnil, hcell⟩ := hs
  have HC := Lib.hid hcell; clear hcell hw
  have hbd := down_bd l t l.length
  have hple := pruneN_le l t
  by_cases hl0 : l.length = 0
  · obtain rfl : l = [] := List.eq_nil_of_length_eq_zero hl0
    have HK := Lib.hid (show lastI [] t = -1 from rfl)
    have HA := Lib.hid (show pruneN [] t = 0 from rfl)
    cases ao with
    | none =>
      obtain ⟨_, rfl⟩ := hnil rfl
      clear hbd hple hnil hcap hcm hl0 hl
      show Calls _ _ #[.slice none 0 0, _] _ _
      go_enter Try.func36, Try.ntmps36
      go_wp2_with fail
      refine (rlast_any _ _ _ _ HS.out HW.out).mono ?_
      rintro e w1 ⟨rfl, hb1⟩
      rw [HK.out]
      have HB := Lib.hid hb1; clear hb1
      go_wp2_with (at_builtin; go_loud (refine wpList_append_src rfl (.tmp 20) (.tmp 23) 35 rfl w1.heap.size 38 i0 (.agg #[.int .u64 0, .string ByteArray.empty, .bool false]) 3 32 Try.underlying35 hi hz0 hz1 hz2 rfl (by decide) _ 0 [] rfl (row_empty _ _ _ _ _ rfl (Nat.le_refl _)) cellE (([] : List CellT).drop 0) _ rfl (SliceOf.below (w := w1) (by exact SliceOf.nil _ _ _) (by (repeat (first | exact Below.refl _ _ | refine Below.alloc ?_ (by first | omega | (simp; done) | (simp; omega)) _ | refine Below.drew ?_ | refine below_draws ?_ _)))) (cellE_one _) (by rw [List.length_drop]; unfold maxLen; first | omega | (simp; omega)) (by rw [List.length_drop]; first | omega | (simp; omega)) (by simp) ?_); intro v2 w2 hown hgr)
      have hb2 : Below w1.heap.size w1 w2 := Below.grown (by (repeat (first | exact Below.refl _ _ | refine Below.alloc ?_ (by first | omega | (simp; done) | (simp; omega)) _ | refine Below.drew ?_ | refine below_draws ?_ _))) hgr (by simp) (fun k hk => by cases hk; simp)
      have hso : SliceOf cellE 3 w2 v2 (([] : List CellT).drop 0) := SliceOf.own (by have h7 := hown; rwa [Nat.zero_add] at h7) (fun y _ => rfl)
      have HSO := Lib.hid hso; have HB2 := Lib.hid (HB.out.trans (hb2.mono HB.out.size))
      clear hown hgr hb2 hso
      go_wp2
      go_ret
      exact ⟨_, rfl, by rw [HA.out]; exact HSO.out, HB2.out⟩
    | some a =>
      clear hbd hple hnil hcap hl0 hl
      show Calls _ _ #[.slice (some a) 0 cap, _] _ _
      by_cases hc0 : cap = 0
      · obtain rfl : cap = 0 := hc0
        go_enter Try.func36, Try.ntmps36
        go_wp2_with fail
        refine (rlast_any _ _ _ _ HS.out HW.out).mono ?_
        rintro e w1 ⟨rfl, hb1⟩
        rw [HK.out]
        have HB := Lib.hid hb1; clear hb1
        go_wp2
        go_ret
        exact ⟨_, rfl, by rw [HA.out]; exact SliceOf.empty _ _ _ _ _ (by omega), HB.out.alloc HB.out.size _⟩
      · have hcb : ((cap : Int) == 0) = false := by simp; omega
        go_enter Try.func36, Try.ntmps36
        go_wp2_with fail
        refine (rlast_any _ _ _ _ HS.out HW.out).mono ?_
        rintro e w1 ⟨rfl, hb1⟩
        rw [HK.out]
        have HB := Lib.hid hb1; clear hb1
        go_wp2
        go_ret
        exact ⟨_, rfl, by rw [HA.out]; exact SliceOf.empty _ _ _ _ _ (by omega), HB.out.alloc HB.out.size _⟩
  · obtain ⟨b, off, rfl, _⟩ := HC.out 0 (by omega)
    by_cases h0 : lastI l t < 0
    · have HA := Lib.hid (show pruneN l t = 0 from if_pos h0)
      have HK := Lib.hid (show lastI l t = -1 by have : -1 ≤ lastI l t := hbd.1; omega)
      have hcb : ((cap : Int) == 0) = false := by simp; omega
      clear hbd hple h0
      go_enter Try.func36, Try.ntmps36
      go_wp2_with fail
      refine (rlast_any _ _ _ _ HS.out HW.out).mono ?_
      rintro e w1 ⟨rfl, hb1⟩
      rw [HK.out]
      have HB := Lib.hid hb1; have HS1 := Lib.hid (HS.out.below hb1)
      clear hb1
      go_wp2_with (at_builtin; go_loud (refine wpList_append_src rfl (.tmp 20) (.tmp 23) 35 rfl w1.heap.size 38 i0 (.agg #[.int .u64 0, .string ByteArray.empty, .bool false]) 3 32 Try.underlying35 hi hz0 hz1 hz2 rfl (by decide) _ 0 [] rfl (row_empty _ _ _ _ _ rfl (Nat.le_refl _)) cellE (l.drop (0)) _ rfl (SliceOf.below (w := w1) (by exact HS1.out) (by (repeat (first | exact Below.refl _ _ | refine Below.alloc ?_ (by first | omega | (simp; done) | (simp; omega)) _ | refine Below.drew ?_ | refine below_draws ?_ _)))) (cellE_one _) (by rw [List.length_drop]; unfold maxLen; first | omega | (simp; omega)) (by rw [List.length_drop]; first | omega | (simp; omega)) (by simp) ?_); intro v2 w2 hown hgr)
      have hb2 : Below w1.heap.size w1 w2 := Below.grown (by (repeat (first | exact Below.refl _ _ | refine Below.alloc ?_ (by first | omega | (simp; done) | (simp; omega)) _ | refine Below.drew ?_ | refine below_draws ?_ _))) hgr (by simp) (fun k hk => by cases hk; simp)
      have hso : SliceOf cellE 3 w2 v2 (l.drop (0)) := SliceOf.own (by have h7 := hown; rwa [Nat.zero_add] at h7) (fun y _ => rfl)
      have HSO := Lib.hid hso; have HB2 := Lib.hid (HB.out.trans (hb2.mono HB.out.size))
      clear hown hgr hb2 hso
      go_wp2
      go_ret
      exact ⟨_, rfl, by rw [HA.out]; exact HSO.out, HB2.out⟩
    · obtain ⟨k, hk⟩ := Int.eq_ofNat_of_zero_le (show 0 ≤ lastI l t by omega)
      have hkl : k < l.length := by have : lastI l t < l.length := hbd.2.1; omega
      have hp : pruneN l t = if (cellAt l k).2.2 = true then k + 1 else k := by unfold pruneN; rw [if_neg h0, hk, Int.toNat_natCast]
      have hg := cellAt_get hkl
      obtain ⟨b', off', hbo, hr⟩ := HC.out k hkl
      cases hbo
      obtain ⟨c, hc⟩ : ∃ c, c = l[k] := ⟨_, rfl⟩
      rw [← hc] at hr hg
      rw [hg] at hp
      have HK := Lib.hid hk; have HR := Lib.hid hr
      clear hbd hple hk hg hc h0 hr
      cases hdel : c.2.2 with
      | true =>
        rw [hdel, if_pos rfl] at hp
        have HA := Lib.hid hp; have HDel := Lib.hid hdel
        clear hp hdel
        by_cases hcc : cap = k + 1
        · have hcb : ((cap : Int) == (k : Int) + 1) = true := by simp; omega
          have hcb2 : (cap == k + 1) = true := by simp; omega
          obtain rfl : cap = k + 1 := hcc
          go_enter Try.func36, Try.ntmps36
          go_wp2_with fail
          refine (rlast_any _ _ _ _ HS.out HW.out).mono ?_
          rintro e w1 ⟨rfl, hb1⟩
          rw [HK.out]
          have HB := Lib.hid hb1; have HS1 := Lib.hid (HS.out.below hb1)
          have k2 := cell_below hb1 (HR.out 2 _ rfl)
          rw [HDel.out] at k2
          clear hb1
          go_wp2_with (at_builtin; go_loud (refine wpList_append_src rfl (.tmp 20) (.tmp 23) 35 rfl w1.heap.size 38 i0 (.agg #[.int .u64 0, .string ByteArray.empty, .bool false]) 3 32 Try.underlying35 hi hz0 hz1 hz2 rfl (by decide) _ 0 [] rfl (row_empty _ _ _ _ _ rfl (Nat.le_refl _)) cellE (l.drop (k + 1)) _ rfl (SliceOf.below (w := w1) (by first | exact (HS1.out.drop (k + 1) (by omega)).1 rfl | exact (by have := (HS1.out.drop (k + 1) (by omega)).1 rfl; rw [show l.length - (k + 1) = 0 by omega]; exact this)) (by (repeat (first | exact Below.refl _ _ | refine Below.alloc ?_ (by first | omega | (simp; done) | (simp; omega)) _ | refine Below.drew ?_ | refine below_draws ?_ _)))) (cellE_one _) (by rw [List.length_drop]; unfold maxLen; first | omega | (simp; omega)) (by rw [List.length_drop]; first | omega | (simp; omega)) (by simp) ?_); intro v2 w2 hown hgr)
          have hb2 : Below w1.heap.size w1 w2 := Below.grown (by (repeat (first | exact Below.refl _ _ | refine Below.alloc ?_ (by first | omega | (simp; done) | (simp; omega)) _ | refine Below.drew ?_ | refine below_draws ?_ _))) hgr (by simp) (fun k hk => by cases hk; simp)
          have hso : SliceOf cellE 3 w2 v2 (l.drop (k + 1)) := SliceOf.own (by have h7 := hown; rwa [Nat.zero_add] at h7) (fun y _ => rfl)
          have HSO := Lib.hid hso; have HB2 := Lib.hid (HB.out.trans (hb2.mono HB.out.size))
          clear hown hgr hb2 hso
          go_wp2
          go_ret
          exact ⟨_, rfl, by rw [HA.out]; exact HSO.out, HB2.out⟩
        · have hcb : ((cap : Int) == (k : Int) + 1) = false := by simp; omega
          have hcb2 : ¬ (cap = k + 1) := hcc
          go_enter Try.func36, Try.ntmps36
          go_wp2_with fail
          refine (rlast_any _ _ _ _ HS.out HW.out).mono ?_
          rintro e w1 ⟨rfl, hb1⟩
          rw [HK.out]
          have HB := Lib.hid hb1; have HS1 := Lib.hid (HS.out.below hb1)
          have k2 := cell_below hb1 (HR.out 2 _ rfl)
          rw [HDel.out] at k2
          clear hb1
          go_wp2_with (at_builtin; go_loud (refine wpList_append_src rfl (.tmp 20) (.tmp 23) 35 rfl w1.heap.size 38 i0 (.agg #[.int .u64 0, .string ByteArray.empty, .bool false]) 3 32 Try.underlying35 hi hz0 hz1 hz2 rfl (by decide) _ 0 [] rfl (row_empty _ _ _ _ _ rfl (Nat.le_refl _)) cellE (l.drop (k + 1)) _ rfl (SliceOf.below (w := w1) (by exact (HS1.out.drop (k + 1) (by omega)).2) (by (repeat (first | exact Below.refl _ _ | refine Below.alloc ?_ (by first | omega | (simp; done) | (simp; omega)) _ | refine Below.drew ?_ | refine below_draws ?_ _)))) (cellE_one _) (by rw [List.length_drop]; unfold maxLen; first | omega | (simp; omega)) (by rw [List.length_drop]; first | omega | (simp; omega)) (by simp) ?_); intro v2 w2 hown hgr)
          have hb2 : Below w1.heap.size w1 w2 := Below.grown (by (repeat (first | exact Below.refl _ _ | refine Below.alloc ?_ (by first | omega | (simp; done) | (simp; omega)) _ | refine Below.drew ?_ | refine below_draws ?_ _))) hgr (by simp) (fun k hk => by cases hk; simp)
          have hso : SliceOf cellE 3 w2 v2 (l.drop (k + 1)) := SliceOf.own (by have h7 := hown; rwa [Nat.zero_add] at h7) (fun y _ => rfl)
          have HSO := Lib.hid hso; have HB2 := Lib.hid (HB.out.trans (hb2.mono HB.out.size))
          clear hown hgr hb2 hso
          go_wp2
          go_ret
          exact ⟨_, rfl, by rw [HA.out]; exact HSO.out, HB2.out⟩
      | false =>
        rw [hdel, if_neg (by simp)] at hp
        have HA := Lib.hid hp; have HDel := Lib.hid hdel
        clear hp hdel
        have hcb : ((cap : Int) == (k : Int)) = false := by simp; omega
        have hcb2 : ¬ (cap = k) := by omega
        go_enter Try.func36, Try.ntmps36
        go_wp2_with fail
        refine (rlast_any _ _ _ _ HS.out HW.out).mono ?_
        rintro e w1 ⟨rfl, hb1⟩
        rw [HK.out]
        have HB := Lib.hid hb1; have HS1 := Lib.hid (HS.out.below hb1)
        have k2 := cell_below hb1 (HR.out 2 _ rfl)
        rw [HDel.out] at k2
        clear hb1
        go_wp2_with (at_builtin; go_loud (refine wpList_append_src rfl (.tmp 20) (.tmp 23) 35 rfl w1.heap.size 38 i0 (.agg #[.int .u64 0, .string ByteArray.empty, .bool false]) 3 32 Try.underlying35 hi hz0 hz1 hz2 rfl (by decide) _ 0 [] rfl (row_empty _ _ _ _ _ rfl (Nat.le_refl _)) cellE (l.drop (k)) _ rfl (SliceOf.below (w := w1) (by exact (HS1.out.drop k (by omega)).2) (by (repeat (first | exact Below.refl _ _ | refine Below.alloc ?_ (by first | omega | (simp; done) | (simp; omega)) _ | refine Below.drew ?_ | refine below_draws ?_ _)))) (cellE_one _) (by rw [List.length_drop]; unfold maxLen; first | omega | (simp; omega)) (by rw [List.length_drop]; first | omega | (simp; omega)) (by simp) ?_); intro v2 w2 hown hgr)
        have hb2 : Below w1.heap.size w1 w2 := Below.grown (by (repeat (first | exact Below.refl _ _ | refine Below.alloc ?_ (by first | omega | (simp; done) | (simp; omega)) _ | refine Below.drew ?_ | refine below_draws ?_ _))) hgr (by simp) (fun k hk => by cases hk; simp)
        have hso : SliceOf cellE 3 w2 v2 (l.drop (k)) := SliceOf.own (by have h7 := hown; rwa [Nat.zero_add] at h7) (fun y _ => rfl)
        have HSO := Lib.hid hso; have HB2 := Lib.hid (HB.out.trans (hb2.mono HB.out.size))
        clear hown hgr hb2 hso
        go_wp2
        go_ret
        exact ⟨_, rfl, by rw [HA.out]; exact HSO.out, HB2.out⟩
end Go.Proofs.Ytannjgcnemkddaa
