/- catenaref15: Put. Conditions: at most 80000 keys. -/
import Derived.Test.YthmljllgfigebaaTreeV
import Derived.Test.YthmljllgfigebaaApp
import Derived.Laws.OwnMore
namespace Go.Proofs.Ythmljllgfigebaa
open Go.RowKit Go.Shelf Go.PlainAid
set_option linter.unusedVariables false
theorem ins_in {L : List Kv} {k : ByteArray} {v : Int} {a : Kv} (h : hasL L k = true) (ha : L[atL L k]? = some a) : insL L k v = L.set (atL L k) (a.1, v) := by
  induction L with
  | nil => cases h
  | cons b r ih =>
    unfold hasL at h
    unfold insL
    by_cases q1 : klt k b.1 = true
    · rw [if_pos q1] at h; cases h
    · rw [if_neg q1] at h ⊢
      by_cases q2 : klt b.1 k = true
      · rw [if_pos q2] at h ⊢
        have e : atL (b :: r) k = atL r k + 1 := by rw [atL, if_pos q2]
        rw [e, List.getElem?_cons_succ] at ha
        rw [e, List.set_cons_succ, ih h ha]
      · have e : atL (b :: r) k = 0 := by rw [atL, if_neg q2]
        rw [e] at ha
        simp at ha
        rw [if_neg q2, e, List.set_cons_zero, ha]
theorem ins_out {L : List Kv} {k : ByteArray} {v : Int} (h : hasL L k = false) : insL L k v = L.take (atL L k) ++ [(k, v)] ++ L.drop (atL L k) := by
  induction L with
  | nil => rfl
  | cons b r ih =>
    unfold hasL at h
    unfold insL
    by_cases q1 : klt k b.1 = true
    · have e : atL (b :: r) k = 0 := by rw [atL, if_neg (by rw [klt_as q1]; simp)]
      rw [if_pos q1, e]; rfl
    · rw [if_neg q1] at h ⊢
      by_cases q2 : klt b.1 k = true
      · rw [if_pos q2] at h ⊢
        have e : atL (b :: r) k = atL r k + 1 := by rw [atL, if_pos q2]
        rw [e, ih h]; simp
      · rw [if_neg q2] at h; cases h
theorem del_in {L : List Kv} {k : ByteArray} (h : hasL L k = true) : delL L k = L.take (atL L k) ++ L.drop (atL L k + 1) := by
  induction L with
  | nil => cases h
  | cons b r ih =>
    unfold hasL at h
    unfold delL
    by_cases q1 : klt k b.1 = true
    · rw [if_pos q1] at h; cases h
    · rw [if_neg q1] at h ⊢
      by_cases q2 : klt b.1 k = true
      · rw [if_pos q2] at h ⊢
        have e : atL (b :: r) k = atL r k + 1 := by rw [atL, if_pos q2]
        rw [e, ih h]; simp
      · have e : atL (b :: r) k = 0 := by rw [atL, if_neg q2]
        rw [if_neg q2, e]; rfl
theorem del_out {L : List Kv} {k : ByteArray} (h : hasL L k = false) : delL L k = L := by
  induction L with
  | nil => rfl
  | cons b r ih =>
    unfold hasL at h
    unfold delL
    by_cases q1 : klt k b.1 = true
    · rw [if_pos q1]
    · rw [if_neg q1] at h ⊢
      by_cases q2 : klt b.1 k = true
      · rw [if_pos q2] at h ⊢; rw [ih h]
      · rw [if_neg q2] at h; cases h
theorem info_rowT : (Try.prog.info? 134).map (fun i => (i.zero, i.size, i.bytes)) = some (some (.agg #[.string ⟨#[]⟩, .int .i64 0]), 2, 24) := by kernel_rfl
theorem kvE_one (l : List Kv) : ∀ y ∈ l, (kvE y).length = 2 ∧ ∀ u ∈ kvE y, u.oneCell' = true := by
  intro y _; exact ⟨rfl, fun u hu => by simp [kvE] at hu; rcases hu with rfl | rfl <;> rfl⟩
set_option maxRecDepth 100000 in
set_option maxHeartbeats 4000000 in
theorem rput15_any (D : Nat → Prop) (w : World) (rb : Nat) (L : List Kv) (k : ByteArray) (v : Int) (h : RfO D w rb L) (hL : L.length ≤ 80000) :
    Calls Try.prog 17 #[pt rb 0, .string k, .int .i64 v] w fun e w' => ∃ D' : Nat → Prop, e = .returned (.bool (hasL L k)) ∧ RfO D' w' rb (insL L k v) ∧ Grew D D' w w' := by
  obtain ⟨i0, hi, hz0, hz1, hz2⟩ := info_parts info_rowT
  have HH := Lib.hid h; clear h
  go_enter Try.func17, Try.ntmps17
  go_wp2_with fail
  refine (rat_any D _ rb L k HH.out).mono ?_
  rintro e w1 ⟨rfl, hb⟩
  obtain ⟨u, B, h1, h2, h3⟩ := HH.out.gr (below_grown hb) (fun q e => nomatch e)
  have hS := SliceOf.own (enc := kvE) (sz := 2) h2 (fun _ _ => rfl)
  have c0 : w1.cell? ⟨rb, 0, none⟩ = some u := h1.cell (k := 0) rfl
  have f0 := h1.frozen 0
  have HB := Lib.hid hb; have HS := Lib.hid hS; have H1 := Lib.hid h1; have H2 := Lib.hid h2; have H3 := Lib.hid h3
  obtain ⟨ao, cap, rfl, hcap, hcm, _, _⟩ := hS
  clear h1 h2 h3 hb
  have hrl := H1.out.lt
  have hle := atL_le L k
  cases hh : hasL L k with
  | true =>
    obtain ⟨a, e0, e1, e2⟩ := atL_get hh
    obtain ⟨hi2, e3⟩ := List.getElem?_eq_some_iff.1 e0
    obtain ⟨g, rfl⟩ : ∃ g, ao = some ⟨g, 0, none⟩ := by
      rcases H2.out.2 with ⟨q, _⟩ | ⟨g, _, _, q, _⟩
      · simp at q; omega
      · simp at q; exact ⟨g, q.1⟩
    obtain ⟨b, off, e4, k0, k1⟩ := kvAt HS.out _ hi2
    simp only [Option.some.injEq, Addr.mk.injEq, and_true] at e4
    obtain ⟨rfl, rfl⟩ := e4
    rw [Nat.zero_add] at k1
    have hst := H2.out.stored (atL L k * 2 + 1) (.int .i64 v)
    have hfr := H2.out.frozenAt (atL L k * 2 + 1)
    have hne : rb ≠ g := fun e => by
      subst e
      obtain ⟨cs, hcs⟩ := row_block H2.out (i := rb) rfl
      have := H1.out
      unfold Blk at this
      rw [this] at hcs
      simp at hcs
    have hfin : RfO D (w1.setCell ⟨g, atL L k * 2 + 1, none⟩ (.int .i64 v)) rb (insL L k v) := by
      refine ⟨_, B, H1.out.kept hst.2 (by simpa using fun e => hne e.symm), ?_, H3.out⟩
      rw [ins_in hh e0]
      exact row_set (enc := kvE) hst.1 (fun _ => rfl) e0 (by omega) rfl
    have hgD : D g := (H3.out g).2 (.inr rfl)
    have HF := Lib.hid hfin
    have HG : Hid (Grew D D w (w1.setCell ⟨g, atL L k * 2 + 1, none⟩ (.int .i64 v))) := Lib.hid ⟨fun q h => .inl h, (But.of_below HB.out).setB hgD _⟩
    have hd : ((atL L k : Nat) : Int) < (L.length : Int) := by omega
    clear hfin hst e0 e1 e2 e3 k0
    go_wp2
    go_ret
    exact ⟨D, by rw [hh]; rfl, HF.out, HG.out⟩
  | false =>
    have hu1 := run_upto (P := Try.prog) (T := 26) (sz := 2) Try.underlying26 Try.sizeOf134 ao L.length cap (atL L k) (by omega)
    have hu2 := run_from (P := Try.prog) (T := 26) (sz := 2) Try.underlying26 Try.sizeOf134 ao L.length cap (atL L k) (by omega)
    obtain ⟨v1, hv1⟩ : ∃ v1, v1 = sliced ao 0 (atL L k) cap 2 := ⟨_, rfl⟩
    obtain ⟨v2, hv2⟩ : ∃ v2, v2 = sliced ao (atL L k) L.length cap 2 := ⟨_, rfl⟩
    rw [← hv1] at hu1
    rw [← hv2] at hu2
    have HV1 : Hid (SliceOf kvE 2 w1 v1 (L.take (atL L k))) := Lib.hid (by rw [hv1]; simpa using HS.out.sliced 0 (atL L k) (by omega) (by omega))
    have HV2 : Hid (SliceOf kvE 2 w1 v2 (L.drop (atL L k))) := Lib.hid (by rw [hv2]; have h5 := HS.out.sliced (atL L k) L.length (by omega) (by omega); rwa [List.take_length] at h5)
    have HLT6 : Hid ((L.take (atL L k)).length = atL L k) := Lib.hid (by rw [List.length_take]; omega)
    have HLD6 : Hid ((L.drop (atL L k)).length = L.length - atL L k) := Lib.hid (by rw [List.length_drop])
    clear hv1 hv2
    obtain ⟨j, hj⟩ : ∃ j, j = atL L k := ⟨_, rfl⟩
    have HIO := Lib.hid (ins_out (v := v) hh)
    rw [← hj] at hu1 hu2 HV1 HV2 HLT6 HLD6 HIO hle ⊢
    clear hj
    go_wp2_with (first | (at_builtin; go_loud (refine wpList_append_src rfl (.tmp 25) (.tmp 31) 26 rfl w1.heap.size 134 i0 (.agg #[.string ⟨#[]⟩, .int .i64 0]) 2 24 Try.underlying26 hi hz0 hz1 hz2 rfl (by decide) _ 0 [] rfl (row_empty _ _ _ _ _ rfl (Nat.le_refl _)) kvE (L.take j) _ rfl (HV1.out.below (Below.alloc (Below.refl _ _) (Nat.le_refl _) _)) (kvE_one _) (by rw [HLT6.out]; unfold maxLen; omega) (by rw [HLT6.out]; omega) (by simp) ?_); intro v5 w5 hown5 hgr5; have hb5 : Below w1.heap.size w1 w5 := Below.grown (Below.alloc (Below.refl _ _) (Nat.le_refl _) _) hgr5 (by simp) (fun q e => Nat.le_of_eq (Option.some.inj e)); rw [HLT6.out, Nat.zero_add, List.nil_append] at hown5; have hz5 := hb5.size; have HO5 := Lib.hid hown5; have HB5 := Lib.hid hb5; clear hown5 hgr5 hb5 hu1) | (at_builtin; go_loud (refine wpList_append_lies _ rfl (.tmp 32) (.tmp 36) 26 rfl w1.heap.size 134 i0 (.agg #[.string ⟨#[]⟩, .int .i64 0]) 2 24 Try.underlying26 hi hz0 hz1 hz2 rfl (by decide) _ j _ rfl (HO5.out.alloc _) ⟨w5.heap.size, 0, none⟩ 1 1 [.string k, .int .i64 v] rfl rfl (World.news_of_block (World.alloc_heap_new _ _)) (by simp [Value.oneCell']) (by omega) (by unfold maxLen; omega) (by omega) (by simp; omega) (w5.heap.size + 1) (by simp) ?_); intro g6 cp6 w6 hown6 hgr6 hg6 hg6s; have hb6 : Below w1.heap.size w1 w6 := Below.grown (Below.alloc HB5.out (by omega) _) hgr6 (by simp; omega) (fun q e => (HO5.out.lt q e).1); have hz6 := hb6.size; have c6 := (hb6.cell (p := ⟨rb, 0, none⟩) hrl).trans c0; have HO6 := Lib.hid hown6; have HB6 := Lib.hid hb6; clear hown6 hgr6 hb6 hg6 hg6s) | (at_builtin; go_loud (refine wpList_append_src rfl (.tmp 38) (.tmp 44) 26 rfl w1.heap.size 134 i0 (.agg #[.string ⟨#[]⟩, .int .i64 0]) 2 24 Try.underlying26 hi hz0 hz1 hz2 rfl (by decide) _ _ _ rfl HO6.out kvE (L.drop j) _ rfl (HV2.out.below HB6.out) (kvE_one _) (by rw [HLD6.out]; unfold maxLen; omega) (by rw [HLD6.out]; omega) (by omega) ?_); intro v7 w7 hown7 hgr7; have hb7 : Below w1.heap.size w1 w7 := Below.grown HB6.out hgr7 (by omega) (fun q e => (HO6.out.lt q e).1); have hz7 := hb7.size; have c7 := (hb7.cell (p := ⟨rb, 0, none⟩) hrl).trans c0; have f7 := (hb7.frozen (p := ⟨rb, 0, none⟩) hrl).trans f0; obtain ⟨a7, n7, cc7, rfl⟩ := own_sliceT hown7; have HO7 := Lib.hid hown7; have HB7 := Lib.hid hb7; clear hown7 hgr7 hb7 hu2))
    go_ret
    have hk7 : Blk w7 rb 28 #[.slice ao L.length cap] := by
      have q := H1.out; unfold Blk at q ⊢; rw [HB7.out.block rb hrl]; exact q
    have hk8 := blk_set hk7 0 (by simp) (.slice a7 n7 cc7)
    have hg8 : w7.grownBy (w7.setCell ⟨rb, 0, none⟩ (.slice a7 n7 cc7)) (some rb) := grownBy_setCell' w7 rb _
    have hne7 : (Value.slice a7 n7 cc7).ownBlock ≠ some rb := fun e => by have := (HO7.out.lt rb e).1; omega
    have hr8 := HO7.out.kept hg8 (.inr hne7)
    have hlen : (insL L k v).length = j + 1 + (L.drop j).length := by rw [HIO.out, List.length_append, List.length_append, HLT6.out, List.length_singleton]
    have hfl : (insL L k v).flatMap kvE = (L.take j).flatMap kvE ++ [.string k, .int .i64 v] ++ (L.drop j).flatMap kvE := by rw [HIO.out, List.flatMap_append, List.flatMap_append]; rfl
    rw [← hlen, ← hfl] at hr8
    refine ⟨fun q => q = rb ∨ (Value.slice a7 n7 cc7).ownBlock = some q, by rw [hh]; rfl, ⟨_, _, hk8, hr8, fun q => Iff.rfl⟩, fun q hq => ?_, ?_⟩
    · rcases hq with rfl | hq
      · exact .inl ((H3.out _).2 (.inl rfl))
      · exact .inr (Nat.le_trans HB.out.size (HO7.out.lt q hq).1)
    · exact ((But.of_below HB.out).trans (But.of_below HB7.out |>.mono (fun _ _ h => h))).setB ((H3.out rb).2 (.inl rfl)) _
end Go.Proofs.Ythmljllgfigebaa
