/- catenaref15: Del. Conditions: at most 80000 keys. -/
import Derived.Test.YthmljllgfigebaaTreeW
namespace Go.Proofs.Ythmljllgfigebaa
open Go.RowKit Go.Shelf Go.PlainAid
set_option linter.unusedVariables false
set_option maxRecDepth 100000 in
set_option maxHeartbeats 4000000 in
theorem rdel15_any (D : Nat → Prop) (w : World) (rb : Nat) (L : List Kv) (k : ByteArray) (h : RfO D w rb L) (hL : L.length ≤ 80000) :
    Calls Try.prog 19 #[pt rb 0, .string k] w fun e w' => ∃ D' : Nat → Prop, e = .returned (.bool (hasL L k)) ∧ RfO D' w' rb (delL L k) ∧ Grew D D' w w' := by
  obtain ⟨i0, hi, hz0, hz1, hz2⟩ := info_parts info_rowT
  have HH := Lib.hid h; clear h
  go_enter Try.func19, Try.ntmps19
  go_wp2_with fail
  refine (rat_any D _ rb L k HH.out).mono ?_
  rintro e w1 ⟨rfl, hb⟩
  have hO := HH.out.gr (below_grown hb) (fun q e => nomatch e)
  cases hh : hasL L k with
  | false =>
    have HO := Lib.hid hO; have HB := Lib.hid hb
    clear hO hb
    go_wp2
    go_ret
    exact ⟨D, by rw [hh]; rfl, by rw [del_out hh]; exact HO.out, ⟨fun q h => .inl h, But.of_below HB.out⟩⟩
  | true =>
    obtain ⟨u, B, h1, h2, h3⟩ := hO
    have hS := SliceOf.own (enc := kvE) (sz := 2) h2 (fun _ _ => rfl)
    have c0 : w1.cell? ⟨rb, 0, none⟩ = some u := h1.cell (k := 0) rfl
    have f0 := h1.frozen 0
    have HB := Lib.hid hb; have HS := Lib.hid hS; have H1 := Lib.hid h1; have H2 := Lib.hid h2; have H3 := Lib.hid h3
    obtain ⟨ao, cap, rfl, hcap, hcm, _, _⟩ := hS
    clear h1 h2 h3 hb
    have hrl := H1.out.lt
    obtain ⟨q0, e0, e1, e2⟩ := atL_get hh
    obtain ⟨hlt, e3⟩ := List.getElem?_eq_some_iff.1 e0
    clear e0 e1 e2 e3
    obtain ⟨m, hm⟩ : ∃ m, m = atL L k + 1 := ⟨_, rfl⟩
    have hu1 := run_upto (P := Try.prog) (T := 26) (sz := 2) Try.underlying26 Try.sizeOf134 ao L.length cap (atL L k) (by omega)
    have hu2 := run_from (P := Try.prog) (T := 26) (sz := 2) Try.underlying26 Try.sizeOf134 ao L.length cap m (by omega)
    obtain ⟨v1, hv1⟩ : ∃ v1, v1 = sliced ao 0 (atL L k) cap 2 := ⟨_, rfl⟩
    obtain ⟨v2, hv2⟩ : ∃ v2, v2 = sliced ao m L.length cap 2 := ⟨_, rfl⟩
    rw [← hv1] at hu1
    rw [← hv2] at hu2
    have HV1 : Hid (SliceOf kvE 2 w1 v1 (L.take (atL L k))) := Lib.hid (by rw [hv1]; simpa using HS.out.sliced 0 (atL L k) (by omega) (by omega))
    have HV2 : Hid (SliceOf kvE 2 w1 v2 (L.drop m)) := Lib.hid (by rw [hv2]; have h5 := HS.out.sliced m L.length (by omega) (by omega); rwa [List.take_length] at h5)
    have HLT6 : Hid ((L.take (atL L k)).length = atL L k) := Lib.hid (by rw [List.length_take]; omega)
    have HLD6 : Hid ((L.drop m).length = L.length - m) := Lib.hid (by rw [List.length_drop])
    have HIO := Lib.hid (del_in hh)
    rw [← hm] at HIO
    clear hv1 hv2
    obtain ⟨j, hj⟩ : ∃ j, j = atL L k := ⟨_, rfl⟩
    rw [← hj] at hu1 HV1 HLT6 HIO hlt hm ⊢
    have hw : IntKind.i64.wrap ((j : Int) + 1) = (m : Int) := (IntWalk.i64_in _ ⟨by omega, by omega⟩).trans (by omega)
    have hml : m ≤ L.length := by omega
    clear hj hm
    go_wp2_with fail
    go_region_law (first | (refine step_append_src rfl (.tmp 15) (.tmp 21) 26 rfl w1.heap.size 134 i0 (.agg #[.string ⟨#[]⟩, .int .i64 0]) 2 24 Try.underlying26 hi hz0 hz1 hz2 rfl (by decide) _ 0 [] rfl (by first | exact row_empty _ _ _ _ _ (by simp) (by omega) | exact (row_empty _ _ _ _ _ (by simp) (by omega)).alloc _) kvE (L.take j) _ rfl (HV1.out.below (by (repeat (first | exact Below.refl _ _ | refine Below.alloc ?_ (by first | omega | (simp; done) | (simp; omega)) _ | refine Below.drew ?_ | refine below_draws ?_ _)))) (kvE_one _) (by rw [HLT6.out]; unfold maxLen; omega) (by rw [HLT6.out]; omega) (by simp <;> omega) ?_; intro v5 w5 hown5 hgr5; have hbx : Below w1.heap.size w1 w5 := Below.grown (by (repeat (first | exact Below.refl _ _ | refine Below.alloc ?_ (by first | omega | (simp; done) | (simp; omega)) _ | refine Below.drew ?_ | refine below_draws ?_ _))) hgr5 (by simp <;> omega) (fun k hk => by cases hk; simp <;> omega); have c5 := (hbx.cell (p := ⟨rb, 0, none⟩) hrl).trans c0; have hz5 := hbx.size; have HO5 := Lib.hid (show w5.ownsRow w1.heap.size 134 2 v5 j ((L.take j).flatMap kvE) by have h7 := hown5; rw [Nat.zero_add, HLT6.out] at h7; exact h7); have HBX := Lib.hid hbx; clear hown5 hgr5 hbx) | (refine step_append_src rfl (.tmp 22) (.tmp 29) 26 rfl w1.heap.size 134 i0 (.agg #[.string ⟨#[]⟩, .int .i64 0]) 2 24 Try.underlying26 hi hz0 hz1 hz2 rfl (by decide) _ _ _ rfl (by first | exact HO5.out | exact row_below HO5.out (by (repeat (first | exact Below.refl _ _ | refine Below.alloc ?_ (by first | omega | (simp; done) | (simp; omega)) _ | refine Below.drew ?_ | refine below_draws ?_ _)))) kvE (L.drop m) _ rfl (HV2.out.below (by (repeat (first | exact Below.refl _ _ | exact HBX.out | refine Below.alloc ?_ (by first | omega | (simp; done) | (simp; omega)) _ | refine Below.drew ?_ | refine below_draws ?_ _)))) (kvE_one _) (by rw [HLD6.out]; unfold maxLen; omega) (by rw [HLD6.out]; omega) (by first | omega | (simp <;> omega)) ?_; intro v7 w7 hown7 hgr7; have hb7 : Below w1.heap.size w1 w7 := Below.grown (by (repeat (first | exact Below.refl _ _ | exact HBX.out | refine Below.alloc ?_ (by first | omega | (simp; done) | (simp; omega)) _ | refine Below.drew ?_ | refine below_draws ?_ _))) hgr7 (by first | omega | (simp <;> omega)) (fun k hk => own_block HO5.out k hk); have hz7 := hb7.size; have c7 := (hb7.cell (p := ⟨rb, 0, none⟩) hrl).trans c0; have f7 := (hb7.frozen (p := ⟨rb, 0, none⟩) hrl).trans f0; obtain ⟨a7, n7, cc7, rfl⟩ := own_sliceT hown7; have HO7 := Lib.hid hown7; have HB7 := Lib.hid hb7; clear hown7 hgr7 hb7))
    all_goals (
      go_wp2
      go_ret
      have hk7 : Blk w7 rb 28 #[.slice ao L.length cap] := by
        have q := H1.out; unfold Blk at q ⊢; rw [HB7.out.block rb hrl]; exact q
      have hk8 := blk_set hk7 0 (by simp) (.slice a7 n7 cc7)
      have hg8 : w7.grownBy (w7.setCell ⟨rb, 0, none⟩ (.slice a7 n7 cc7)) (some rb) := grownBy_setCell' w7 rb _
      have hne7 : (Value.slice a7 n7 cc7).ownBlock ≠ some rb := fun e => by have := (HO7.out.lt rb e).1; omega
      have hr8 := HO7.out.kept hg8 (.inr hne7)
      have hlen : (delL L k).length = j + (L.drop m).length := by rw [HIO.out, List.length_append, HLT6.out]
      have hfl : (delL L k).flatMap kvE = (L.take j).flatMap kvE ++ (L.drop m).flatMap kvE := by rw [HIO.out, List.flatMap_append]
      rw [← hlen, ← hfl] at hr8
      refine ⟨fun q => q = rb ∨ (Value.slice a7 n7 cc7).ownBlock = some q, by rw [hh]; rfl, ⟨_, _, hk8, hr8, fun q => Iff.rfl⟩, fun q hq => ?_, ?_⟩
      · rcases hq with rfl | hq
        · exact .inl ((H3.out _).2 (.inl rfl))
        · exact .inr (Nat.le_trans HB.out.size (HO7.out.lt q hq).1)
      · exact ((But.of_below HB.out).trans (But.of_below HB7.out |>.mono (fun _ _ h => h))).setB ((H3.out rb).2 (.inl rfl)) _)
end Go.Proofs.Ythmljllgfigebaa
