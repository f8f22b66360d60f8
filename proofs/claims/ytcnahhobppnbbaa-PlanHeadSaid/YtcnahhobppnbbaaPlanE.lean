/- Package plan: Next. Conditions: at most 1000 who join. -/
import Derived.Test.YtcnahhobppnbbaaPlanC
namespace Go.Proofs.Ytcnahhobppnbbaa
open Go.RowKit Go.PlainAid
set_option linter.unusedVariables false


theorem plan_pre (ms : List MemT) (lg gn : List Int) (js : List MemT) : ∃ r, planL ms lg gn js = keepL ms lg gn ++ r := by
  obtain ⟨r, h, _⟩ := join_pre js (stayL ms lg gn)
  exact ⟨restL ms lg gn ++ r, by unfold planL; rw [h]; unfold stayL; rw [List.append_assoc]⟩
theorem plan_ge (ms : List MemT) (lg gn : List Int) (js : List MemT) : (keepL ms lg gn).length ≤ (planL ms lg gn js).length := by
  obtain ⟨r, h⟩ := plan_pre ms lg gn js; rw [h, List.length_append]; omega
theorem plan_take (ms : List MemT) (lg gn : List Int) (js : List MemT) : (planL ms lg gn js).take (keepL ms lg gn).length = keepL ms lg gn := by
  obtain ⟨r, h⟩ := plan_pre ms lg gn js; rw [h]; simp
theorem plan_le4 {ms : List MemT} {lg gn : List Int} {js : List MemT} (h : ms.length ≤ 4) : (planL ms lg gn js).length ≤ 4 := join_le (Nat.le_trans (stayL_le ms lg gn) h) js
theorem mem_plan {ms : List MemT} {lg gn : List Int} {js : List MemT} {m : MemT} (h : m ∈ planL ms lg gn js) : (m ∈ keepL ms lg gn ∨ m ∈ restL ms lg gn) ∨ (m ∈ js ∧ mayM m = true) := by
  obtain ⟨r, h1, h2⟩ := join_pre js (stayL ms lg gn)
  unfold planL at h; rw [h1] at h
  rcases List.mem_append.1 h with h | h
  · exact .inl (List.mem_append.1 h)
  · exact .inr (h2 m h)
theorem plan_ok {ms : List MemT} {lg gn : List Int} {js : List MemT} (h : ∀ z ∈ ms, memOk z) (h2 : ∀ z ∈ js, memOk z) : ∀ z ∈ planL ms lg gn js, memOk z := by
  intro z hz
  rcases mem_plan hz with (k | k) | k
  · exact h z (List.mem_filter.1 k).1
  · exact h z (List.mem_filter.1 k).1
  · exact h2 z k.1
theorem keep_good {ep : Int} {ms : List MemT} {lg gn : List Int} (h : chkC ep ms = 0) : ∀ m ∈ keepL ms lg gn, ¬ badId m := fun m hm => ((chkC_iff.1 h).2.2.1 m (List.mem_filter.1 hm).1).1
theorem id_at {l : List MemT} {i : Nat} {y : MemT} (h : l[i]? = some y) : (l.take i).map (fun o => o.1) ++ [y.1] = (l.take (i + 1)).map (fun o => o.1) := by rw [takeP_at h]; simp
theorem ids_eq {ep : Int} {ms : List MemT} {lg gn : List Int} {js : List MemT} {i : Nat} (h : chkC ep ms = 0) (hi : ((planL ms lg gn js).take (keepL ms lg gn).length).length ≤ i) : srt ((((planL ms lg gn js).take (keepL ms lg gn).length).take i).map (fun o => o.1)) = trustL (keepL ms lg gn) := by
  rw [List.take_of_length_le hi, plan_take]; exact trust_srt (keep_good h)
theorem row_nn {w : World} {B : Nat} {T : TypeId} {sz : Nat} {v : Value} {k : Nat} {xs : List Value} (h : w.ownsRow B T sz v k xs) (hk : 0 < k) : v ≠ .slice none 0 0 := by
  rintro rfl
  rcases h.2 with ⟨_, h1⟩ | ⟨g, cap, cur, h1, _⟩
  · have h0 := h.1; omega
  · simp at h1
theorem len_ids {l : List MemT} {i : Nat} (h : i ≤ l.length) : ((l.take i).map (fun o => o.1)).length = i := by rw [List.length_map, List.length_take]; omega
theorem sameCf_t {ep fl : Int} {l ms : List MemT} (h : sameCf ep l fl ep ms fl = true) : l = ms := by unfold sameCf at h; exact (of_decide_eq_true h).2.2
theorem sameCf_f {ep fl : Int} {l ms : List MemT} (h : sameCf ep l fl ep ms fl = false) : ¬ l = ms := fun e => by unfold sameCf at h; exact of_decide_eq_false h ⟨rfl, rfl, e⟩

set_option maxRecDepth 100000 in
theorem next_any (ep : Int) (mv : Value) (ms : List MemT) (fl : Int) (lv : Value) (lg : List Int) (gv : Value) (gn : List Int) (jv : Value) (js : List MemT) (last : Int) (w : World) (hs : SliceOf memE 2 w mv ms) (hmk : ∀ z ∈ ms, memOk z) (hlg : SliceOf (intE .i64) 1 w lv lg) (hgn : SliceOf (intE .i64) 1 w gv gn) (hjs : SliceOf memE 2 w jv js) (hjk : ∀ z ∈ js, memOk z) (he : -9223372036854775808 ≤ ep ∧ ep ≤ 9223372036854775807) (hf : 0 ≤ fl ∧ fl < 18446744073709551616) (hla : 0 ≤ last ∧ last < 18446744073709551616) (hjl : js.length ≤ 1000) :
    Calls Try.prog 63 #[.agg #[.int .i64 ep, mv, .int .u64 fl], lv, gv, jv, .int .u64 last] w fun e w' => ∃ (u : Value) (t : Value), e = .returned (.tuple #[.agg #[.int .i64 (nextEp ep ms lg gn js), u, .int .u64 (nextFl ep ms fl lg gn js last)], t, .int .i64 (nextE ep ms lg gn js)]) ∧ w'.ownsRow w.heap.size 114 2 u (nextM ep ms lg gn js).length ((nextM ep ms lg gn js).flatMap memE) ∧ w'.ownsRow w.heap.size 3 1 t (nextT ep ms lg gn js).length ((nextT ep ms lg gn js).flatMap (intE .i64)) ∧ Below w.heap.size w w' := by
 have hB0 := Below.refl w.heap.size w
 have hl_hs := sl_len hs
 have hl_hlg := sl_len hlg
 have hl_hgn := sl_len hgn
 have hl_hjs := sl_len hjs
 refine co_enter (n := 71) Try.func63 rfl rfl rfl [(0, .agg #[.int .i64 ep, mv, .int .u64 fl]), (1, lv), (2, gv), (3, jv), (4, .int .u64 last)] rfl (fun a h0 => ?_)
 refine co_seq ?_
 refine co_reg ?_
 refine pw h0 rfl (op_new (v := fun N => pt N 0) (T := 91) (cs := #[.int .i64 ep, mv, .int .u64 fl]) (by kernel_rfl) (by kernel_rfl) (by kernel_rfl)) ?_; clear h0
 rintro _ w2 a1 ⟨N3, rfl, hN6, hz7, hk5, hg4⟩ h1
 have hz8 := hg4.size
 try dsimp only at h1
 refine pw h1 rfl (op_new (v := fun N => pt N 0) (T := 91) (cs := #[.int .i64 0, .slice none 0 0, .int .u64 0]) (by kernel_rfl) (by kernel_rfl) (by kernel_rfl)) ?_; clear h1
 rintro _ w10 a9 ⟨N11, rfl, hN14, hz15, hk13, hg12⟩ h9
 have hz16 := hg12.size
 try dsimp only at h9
 refine pk0 (v := .slice none 0 0) h9 rfl fun a17 h17 => ?_; clear h9
 refine pk0 (v := .int .i64 0) h17 rfl fun a18 h18 => ?_; clear h17
 refine pl_nil ?_
 refine co_then ?_
 refine co_seq ?_
 refine co_seq ?_
 refine co_reg ?_
 have hk19 := hk5.kept hg12 (by simp)
 refine pk (v := .agg #[.int .i64 ep, mv, .int .u64 fl]) h18 rfl (rn_loadN rfl rfl Try.underlying91 rfl (by kernel_rfl) hk19.all) fun a20 h20 => ?_; clear h18
 have hB23 := hb_new hB0 hg4
 have hB24 := hb_new hB23 hg12
 refine pw h20 rfl (op_call (args := #[.agg #[.int .i64 ep, mv, .int .u64 fl]]) (R := fun res xw => res = .int .i64 (chkC ep ms) ∧ Below w10.heap.size w10 xw) rfl rfl rfl (by kernel_rfl) (by kernel_rfl) (Try.call103 _ _) (wcheck_any ep mv ms fl w10 (hs.below hB24) (by assumption) (by first | omega | (simp; done) | (simp; omega)) (by first | omega | (simp; done) | (simp; omega))) (by rintro e x ⟨rfl, hb25⟩; exact ⟨_, rfl, ⟨rfl, hb25⟩⟩)) ?_; clear h20
 rintro _ w22 a21 ⟨rfl, hb25⟩ h21
 have hz26 := hb25.size
 refine pk0 (v := .int .i64 (chkC ep ms)) h21 rfl fun a27 h27 => ?_; clear h21
 refine pl_nil ?_
 refine co_then ?_
 refine co_seq ?_
 refine co_reg ?_
 refine pk0 (v := .int .i64 (chkC ep ms)) h27 rfl fun a28 h28 => ?_; clear h27
 refine pk0 (v := .bool (chkC ep ms != 0)) h28 rfl fun a29 h29 => ?_; clear h28
 refine pl_nil ?_
 refine co_then ?_
 have hB31 := hb_call hB24 hb25
 cases hc30 : (chkC ep ms != 0)
 ·
  rw [hc30] at h29
  have hp32 : ¬ (chkC ep ms ≠ 0) := by first | simpa using hc30 | simpa [and_assoc] using hc30
  clear hc30
  refine co_false h29 rfl ?_
  refine wp_skip ?_
  refine co_then ?_
  refine co_seq ?_
  refine co_reg ?_
  have hk33 := hk19.below hb25
  refine pk (v := .agg #[.int .i64 ep, mv, .int .u64 fl]) h29 rfl (rn_loadN rfl rfl Try.underlying91 rfl (by kernel_rfl) hk33.all) fun a34 h34 => ?_; clear h29
  refine pk0 (v := lv) h34 rfl fun a35 h35 => ?_; clear h34
  refine pk0 (v := gv) h35 rfl fun a36 h36 => ?_; clear h35
  refine pk0 (v := jv) h36 rfl fun a37 h37 => ?_; clear h36
  have hk4 := (chkC_iff.1 (by omega : chkC ep ms = 0)).2.1
  have hke := (chkC_iff.1 (by omega : chkC ep ms = 0)).1
  have hge := plan_ge ms lg gn js
  have hp4 := plan_le4 (lg := lg) (gn := gn) (js := js) hk4.2
  refine pw h37 rfl (op_call (args := #[.agg #[.int .i64 ep, mv, .int .u64 fl], lv, gv, jv]) (R := fun res xw => ∃ u : Value, res = .tuple #[u, .int .i64 (((keepL ms lg gn).length : Nat) : Int)] ∧ xw.ownsRow w22.heap.size 114 2 u (planL ms lg gn js).length ((planL ms lg gn js).flatMap memE) ∧ Below w22.heap.size w22 xw) rfl rfl rfl (by kernel_rfl) (by kernel_rfl) (Try.call104 _ _) (chain_any ep mv ms fl lv lg gv gn jv js w22 (hs.below hB31) hmk (hlg.below hB31) (hgn.below hB31) (hjs.below hB31) hjk (by first | omega | (simp; done) | (simp; omega))) (by rintro e x ⟨u, rfl, hq41, hb42⟩; exact ⟨_, rfl, ⟨u, rfl, hq41, hb42⟩⟩)) ?_; clear h37
  rintro _ w39 a38 ⟨u40, rfl, hq41, hb42⟩ h38
  have hz43 := hb42.size
  have hl44 := sl_len (row_sl hq41 memE_len)
  refine pk0 (v := .tuple #[u40, .int .i64 (((keepL ms lg gn).length : Nat) : Int)]) h38 rfl fun a45 h45 => ?_; clear h38
  refine pk0 (v := u40) h45 rfl fun a46 h46 => ?_; clear h45
  refine pk0 (v := .int .i64 (((keepL ms lg gn).length : Nat) : Int)) h46 rfl fun a47 h47 => ?_; clear h46
  refine pk0 (v := u40) h47 rfl fun a48 h48 => ?_; clear h47
  refine pk0 (v := .int .i64 (((keepL ms lg gn).length : Nat) : Int)) h48 rfl fun a49 h49 => ?_; clear h48
  refine pl_nil ?_
  refine co_then ?_
  refine co_seq ?_
  refine co_seq ?_
  refine co_reg ?_
  refine pk0 (v := .int .i64 (((keepL ms lg gn).length : Nat) : Int)) h49 rfl fun a50 h50 => ?_; clear h49
  refine pk0 (v := .bool ((((keepL ms lg gn).length : Nat) : Int) == 0)) h50 rfl fun a51 h51 => ?_; clear h50
  refine pl_nil ?_
  refine co_then ?_
  have hB53 := hb_call hB31 hb42
  have hk54 := hk13.below hb25
  have hk55 := hk54.below hb42
  cases hc52 : ((((keepL ms lg gn).length : Nat) : Int) == 0)
  ·
   rw [hc52] at h51
   have hp56 : ¬ ((((keepL ms lg gn).length : Nat) : Int) = 0) := by first | simpa using hc52 | simpa [and_assoc] using hc52
   clear hc52
   refine co_false h51 rfl ?_
   refine wp_skip ?_
   refine co_then ?_
   refine co_seq ?_
   refine co_seq ?_
   refine co_reg ?_
   refine pk0 (v := u40) h51 rfl fun a57 h57 => ?_; clear h51
   refine pk0 (v := pt N3 1) h57 rfl fun a58 h58 => ?_; clear h57
   have hk59 := hk33.below hb42
   refine pk (v := mv) h58 rfl (rn_load1 rfl rfl Try.isAgg89 (hk59.cell rfl)) fun a60 h60 => ?_; clear h58
   refine pw h60 rfl (op_call (args := #[u40, mv]) (R := fun res xw => res = .bool (decide ((planL ms lg gn js) = ms)) ∧ Below w39.heap.size w39 xw) rfl rfl rfl (by kernel_rfl) (by kernel_rfl) (Try.call105 _ _) (equal_any u40 mv (planL ms lg gn js) ms w39 (row_sl hq41 memE_len) (hs.below hB53)) (by rintro e x ⟨rfl, hb63⟩; exact ⟨_, rfl, ⟨rfl, hb63⟩⟩)) ?_; clear h60
   rintro _ w62 a61 ⟨rfl, hb63⟩ h61
   have hz64 := hb63.size
   refine pl_nil ?_
   refine co_then ?_
   have hB66 := hb_call hB53 hb63
   cases hc65 : (decide ((planL ms lg gn js) = ms))
   ·
    rw [hc65] at h61
    have hp67 : ¬ ((planL ms lg gn js) = ms) := of_decide_eq_false hc65
    clear hc65
    refine co_false h61 rfl ?_
    refine wp_skip ?_
    refine co_then ?_
    refine co_seq ?_
    refine co_seq ?_
    refine co_reg ?_
    refine pk0 (v := pt N3 0) h61 rfl fun a68 h68 => ?_; clear h61
    have hk69 := hk59.below hb63
    refine pk (v := .int .i64 ep) h68 rfl (rn_load1 rfl rfl Try.isAgg3 (hk69.cell rfl)) fun a70 h70 => ?_; clear h68
    refine pk0 (v := .bool (ep == 1073741824)) h70 rfl fun a71 h71 => ?_; clear h70
    refine pl_nil ?_
    refine co_then ?_
    cases hc72 : (ep == 1073741824)
    ·
     rw [hc72] at h71
     have hp73 : ¬ (ep = 1073741824) := by first | simpa using hc72 | simpa [and_assoc] using hc72
     clear hc72
     refine co_false h71 rfl ?_
     refine wp_skip ?_
     refine co_then ?_
     refine co_seq ?_
     refine co_reg ?_
     refine pk0 (v := .slice none 0 0) h71 rfl fun a74 h74 => ?_; clear h71
     refine pl_nil ?_
     refine co_then ?_
     refine co_seq ?_
     refine co_seq ?_
     refine co_reg ?_
     refine pk0 (v := u40) h74 rfl fun a75 h75 => ?_; clear h74
     refine pk0 (v := .int .i64 (((keepL ms lg gn).length : Nat) : Int)) h75 rfl fun a76 h76 => ?_; clear h75
     have hr77 := row_kept_new hq41 (below_grown hb63)
     refine pk (v := subV u40 0 ((keepL ms lg gn).length) 2) h76 rfl (rn_sliceTo rfl rfl rfl Try.underlying89 Try.sizeOf114 (row_sl hr77 memE_len) (by omega) (by omega)) fun a78 h78 => ?_; clear h76
     refine pk (v := .int .i64 ((((planL ms lg gn js).take ((keepL ms lg gn).length)).length : Nat) : Int)) h78 rfl (rn_len rfl rfl Try.underlying89 (sl_take (row_sl hr77 memE_len) _ (by omega))) fun a79 h79 => ?_; clear h78
     refine pk0 (v := .int .i64 0) h79 rfl fun a80 h80 => ?_; clear h79
     refine pl_nil ?_
     refine co_then ?_
     refine wp_block ?_
     have h81 : Slots 71 [(4, .int .u64 last), (5, pt N3 0), (10, pt N11 0), (14, u40), (15, .int .i64 (((keepL ms lg gn).length : Nat) : Int)), (16, .slice none 0 0), (47, subV u40 0 ((keepL ms lg gn).length) 2), (48, .int .i64 ((((planL ms lg gn js).take ((keepL ms lg gn).length)).length : Nat) : Int)), (49, .int .i64 0)] _ := h80.sub ⟨rfl, rfl, rfl, rfl, rfl, rfl, rfl, rfl, rfl, trivial⟩; clear h80
     refine co_loop (fun mm a x => ∃ (i : Nat) (u1 : Value), Slots 71 [(4, .int .u64 last), (5, pt N3 0), (10, pt N11 0), (14, u40), (15, .int .i64 (((keepL ms lg gn).length : Nat) : Int)), (16, u1), (47, subV u40 0 ((keepL ms lg gn).length) 2), (48, .int .i64 ((((planL ms lg gn js).take ((keepL ms lg gn).length)).length : Nat) : Int)), (49, .int .i64 ((i : Nat) : Int))] a ∧ mm = ((planL ms lg gn js).take (keepL ms lg gn).length).length - i ∧ (i ≤ ((planL ms lg gn js).take (keepL ms lg gn).length).length) ∧ x.ownsRow w22.heap.size 114 2 u40 (planL ms lg gn js).length ((planL ms lg gn js).flatMap memE) ∧ x.ownsRow (N11 + 1) 3 1 u1 ((((planL ms lg gn js).take (keepL ms lg gn).length).take i).map (fun o => o.1)).length (((((planL ms lg gn js).take (keepL ms lg gn).length).take i).map (fun o => o.1)).flatMap (intE .i64)) ∧ Below w.heap.size w x ∧ Blk x N3 91 #[.int .i64 ep, mv, .int .u64 fl] ∧ Blk x N11 91 #[.int .i64 0, .slice none 0 0, .int .u64 0]) (((planL ms lg gn js).take (keepL ms lg gn).length).length - 0) ?_ ?_
     have hk82 := hk55.below hb63
     · exact ⟨0, (.slice none 0 0), h81.sub ⟨rfl, rfl, rfl, rfl, rfl, rfl, rfl, rfl, (slot_eq rfl (congrArg (Value.int .i64) (by first | rfl | omega))), trivial⟩, rfl, by omega, hr77, (row_nilL _ _ _ _ _), hB66, hk69, hk82⟩
     · rintro k83 a84 w85 ⟨i, u1, h84, rfl, hi86, hf87, hf88, hB89, hk90, hk91⟩
       have hz92 := hB89.size
       have hl93 := hk90.lt
       have hl94 := hk91.lt
       have hlt := len_ids (l := (planL ms lg gn js).take (keepL ms lg gn).length) (i := i) (by assumption)
       have htk : ((planL ms lg gn js).take (keepL ms lg gn).length).length = (keepL ms lg gn).length := by rw [plan_take]
       refine co_seq ?_
       refine co_reg ?_
       refine pk0 (v := .bool (decide (((i : Nat) : Int) < ((((planL ms lg gn js).take ((keepL ms lg gn).length)).length : Nat) : Int)))) h84 rfl fun a95 h95 => ?_; clear h84
       refine pl_nil ?_
       refine co_then ?_
       refine co_seq ?_
       cases hc96 : (decide (((i : Nat) : Int) < ((((planL ms lg gn js).take ((keepL ms lg gn).length)).length : Nat) : Int)))
       ·
        rw [hc96] at h95
        have hp97 : ¬ (((i : Nat) : Int) < ((((planL ms lg gn js).take ((keepL ms lg gn).length)).length : Nat) : Int)) := of_decide_eq_false hc96
        clear hc96
        refine co_false h95 rfl ?_
        refine wp_exit ?_
        refine co_thenX ?_
        refine co_thenX ?_
        refine co_blockX ?_
        refine co_then ?_
        refine co_seq ?_
        refine co_reg ?_
        refine pk0 (v := u1) h95 rfl fun a98 h98 => ?_; clear h95
        have hnn := row_nn hf88 (by first | omega | (rw [hlt]; omega))
        refine pw h98 rfl (op_call (args := #[u1]) (R := fun res xw => res = .tuple #[] ∧ xw.ownsRow (N11 + 1) 3 1 u1 (srt ((((planL ms lg gn js).take (keepL ms lg gn).length).take i).map (fun o => o.1))).length ((srt ((((planL ms lg gn js).take (keepL ms lg gn).length).take i).map (fun o => o.1))).flatMap (intE .i64)) ∧ w85.grownBy xw (Value.ownBlock u1)) rfl rfl rfl (by kernel_rfl) (by kernel_rfl) (Try.call82 _ _) (sortI_any u1 ((((planL ms lg gn js).take (keepL ms lg gn).length).take i).map (fun o => o.1)) (N11 + 1) 3 w85 hf88 hnn (by omega)) (by rintro e x ⟨rfl, h⟩; exact ⟨_, rfl, rfl, h⟩)) ?_; clear h98
        rintro _ w100 a99 ⟨rfl, hr101, hg102⟩ h99
        have hz103 := hg102.size
        have hle104 := srt_len ((((planL ms lg gn js).take (keepL ms lg gn).length).take i).map (fun o => o.1))
        refine pl_nil ?_
        refine co_then ?_
        refine co_seq ?_
        refine dr_gen (fun x => Below w.heap.size w x ∧ Blk x N3 91 #[.int .i64 ep, mv, .int .u64 fl]) (by kernel_rfl) (fun w105 hg106 => ?_) (fun w105 hg106 => ?_)
        ·
         have hz107 := hg106.size
         have hB108 := hb_row hB89 hf88 (by omega) hg102
         have hB109 := hb_new hB108 hg106
         have hk110 := hk90.kept hg102 (own_neT hf88 hk90 (by decide))
         have hk111 := hk110.kept hg106 (by simp)
         exact ⟨hB109, hk111⟩
        have hz112 := hg106.size
        have hB113 := hb_row hB89 hf88 (by omega) hg102
        have hB114 := hb_new hB113 hg106
        have hk115 := hk90.kept hg102 (own_neT hf88 hk90 (by decide))
        have hk116 := hk115.kept hg106 (by simp)
        refine dk0 0 (v := pt N3 0) h99 rfl rfl ⟨hB114, hk116⟩ fun a117 h117 => ?_; clear h99
        refine dk0 3 (v := u40) h117 rfl rfl ⟨hB114, hk116⟩ fun a118 h118 => ?_; clear h117
        refine dk0 4 (v := pt N3 2) h118 rfl rfl ⟨hB114, hk116⟩ fun a119 h119 => ?_; clear h118
        refine dk0 6 (v := .int .u64 last) h119 rfl rfl ⟨hB114, hk116⟩ fun a120 h120 => ?_; clear h119
        refine dk0 9 (v := u1) h120 rfl rfl ⟨hB114, hk116⟩ fun a121 h121 => ?_; clear h120
        refine dr_many [1, 5] (by kernel_rfl) (by simp) ⟨?_, ?_, trivial⟩
        ·
         refine dr_opVal (i := 1) (v := .int .i64 ep) h121 rfl rfl rfl rfl (by kernel_rfl) rfl (rn_load1 rfl rfl Try.isAgg3 (hk116.cell rfl)) ⟨hB114, hk116⟩ (fun a122 h122 => ?_); clear h121
         refine dk 2 (v := .int .i64 (ep + 1)) h122 rfl rfl ⟨hB114, hk116⟩ (fun x hx => (rn_arith rfl rfl rfl rfl rfl rfl (IntWalk.i64_in _ (by omega)))) fun a123 h123 => ?_; clear h122
         refine dr_many [5] (by kernel_rfl) (by simp) ⟨?_, trivial⟩
         ·
          refine dr_opVal (i := 5) (v := .int .u64 fl) h123 rfl rfl rfl rfl (by kernel_rfl) rfl (rn_load1 rfl rfl Try.isAgg61 (hk116.cell rfl)) ⟨hB114, hk116⟩ (fun a124 h124 => ?_); clear h123
          refine d1 7 h124 rfl rfl (op_call (args := #[.int .u64 fl, .int .u64 last]) (R := fun res xw => res = .int .u64 (floorP fl last) ∧ Below w105.heap.size w105 xw) rfl rfl rfl (by kernel_rfl) (by kernel_rfl) (Try.call67 _ _) (floor_any fl last w105 (by first | omega | (simp; done) | (simp; omega)) (by first | omega | (simp; done) | (simp; omega))) (by rintro e x ⟨rfl, hb127⟩; exact ⟨_, rfl, ⟨rfl, hb127⟩⟩)) ?_ ?_; clear h124
          ·
           rintro _ w126 ⟨rfl, hb127⟩
           have hz128 := hb127.size
           have hB129 := hb_call hB114 hb127
           have hk130 := hk116.below hb127
           exact ⟨hB129, hk130⟩
          rintro _ w126 a125 ⟨rfl, hb127⟩ h125
          have hz128 := hb127.size
          have hB129 := hb_call hB114 hb127
          have hk130 := hk116.below hb127
          have hr131 := row_kept_row hf87 hf88 hg102 (by decide)
          have hr132 := row_kept_new hr131 hg106
          have hr133 := row_kept_new hr132 (below_grown hb127)
          refine dk 8 (v := .agg #[.int .i64 (ep + 1), u40, .int .u64 (floorP fl last)]) h125 rfl rfl ⟨hB129, hk130⟩ (fun x hx => (by obtain ⟨_, _, _, hq⟩ := row_form hr133; subst hq; kernel_rfl)) fun a134 h134 => ?_; clear h125
          have hk140 := hk91.kept hg102 (own_neT hf88 hk91 (by decide))
          have hk141 := hk140.kept hg106 (by simp)
          have hk142 := hk141.below hb127
          refine d1D 10 h134 rfl rfl (op_storeN rfl rfl rfl (all_cons rfl (all_cons (row_one hr133) (all_cons rfl all_nil))) (by kernel_rfl) hk142 rfl) ?_ ?_; clear h134
          ·
           rintro _ w136 ⟨hk137, hz138, hg139⟩
           have hk137' : Blk w136 N11 91 #[.int .i64 (ep + 1), u40, .int .u64 (floorP fl last)] := hk137; clear hk137
           have hz143 := hg139.size
           have hB144 := hb_at hB129 hg139 (by omega)
           have hk145 := hk130.kept hg139 (by simp; omega)
           exact ⟨hB144, hk145⟩
          rintro _ w136 a135 ⟨hk137, hz138, hg139⟩ h135
          have hk137' : Blk w136 N11 91 #[.int .i64 (ep + 1), u40, .int .u64 (floorP fl last)] := hk137; clear hk137
          have hz143 := hg139.size
          have hB144 := hb_at hB129 hg139 (by omega)
          have hk145 := hk130.kept hg139 (by simp; omega)
          refine dk0 11 (v := u1) h135 rfl rfl ⟨hB144, hk145⟩ fun a146 h146 => ?_; clear h135
          refine dk0 12 (v := .int .i64 0) h146 rfl rfl ⟨hB144, hk145⟩ fun a147 h147 => ?_; clear h146
          refine dr_done (by kernel_rfl) ?_
          refine co_then ?_
          refine wp_ret ?_
          refine co_retC2 (Q := fun _ _ _ => True) h147 rfl rfl rfl rfl hk137' Try.underlying91 rfl (by kernel_rfl) ?_
          have hr148 := row_kept_at hr133 hg139 (own_neT hr133 hk142 (by decide))
          have hr149 := row_kept_new hr101 hg106
          have hr150 := row_kept_new hr149 (below_grown hb127)
          have hr151 := row_kept_at hr150 hg139 (own_neT hr150 hk142 (by decide))
          have hE : 0 = nextE ep ms lg gn js := nextE_0 (by omega) (by omega) ((by assumption)) (by omega)
          have hX := next_ok (fl := fl) (last := last) hE
          exact ⟨_, _, by rw [hX.2.1, hX.2.2.1, ← hE], (row_eq (row_lows hr148 (by omega)) (hX.1.symm)), (row_eq (row_lows hr151 (by omega)) ((ids_eq (ep := ep) (i := i) (by omega) (by omega)).trans hX.2.2.2.symm)), hB144⟩
        ·
         refine dr_opVal (i := 5) (v := .int .u64 fl) h121 rfl rfl rfl rfl (by kernel_rfl) rfl (rn_load1 rfl rfl Try.isAgg61 (hk116.cell rfl)) ⟨hB114, hk116⟩ (fun a152 h152 => ?_); clear h121
         refine dr_many [1, 7] (by kernel_rfl) (by simp) ⟨?_, ?_, trivial⟩
         ·
          refine dr_opVal (i := 1) (v := .int .i64 ep) h152 rfl rfl rfl rfl (by kernel_rfl) rfl (rn_load1 rfl rfl Try.isAgg3 (hk116.cell rfl)) ⟨hB114, hk116⟩ (fun a153 h153 => ?_); clear h152
          refine dk 2 (v := .int .i64 (ep + 1)) h153 rfl rfl ⟨hB114, hk116⟩ (fun x hx => (rn_arith rfl rfl rfl rfl rfl rfl (IntWalk.i64_in _ (by omega)))) fun a154 h154 => ?_; clear h153
          refine d1 7 h154 rfl rfl (op_call (args := #[.int .u64 fl, .int .u64 last]) (R := fun res xw => res = .int .u64 (floorP fl last) ∧ Below w105.heap.size w105 xw) rfl rfl rfl (by kernel_rfl) (by kernel_rfl) (Try.call67 _ _) (floor_any fl last w105 (by first | omega | (simp; done) | (simp; omega)) (by first | omega | (simp; done) | (simp; omega))) (by rintro e x ⟨rfl, hb157⟩; exact ⟨_, rfl, ⟨rfl, hb157⟩⟩)) ?_ ?_; clear h154
          ·
           rintro _ w156 ⟨rfl, hb157⟩
           have hz158 := hb157.size
           have hB159 := hb_call hB114 hb157
           have hk160 := hk116.below hb157
           exact ⟨hB159, hk160⟩
          rintro _ w156 a155 ⟨rfl, hb157⟩ h155
          have hz158 := hb157.size
          have hB159 := hb_call hB114 hb157
          have hk160 := hk116.below hb157
          have hr161 := row_kept_row hf87 hf88 hg102 (by decide)
          have hr162 := row_kept_new hr161 hg106
          have hr163 := row_kept_new hr162 (below_grown hb157)
          refine dk 8 (v := .agg #[.int .i64 (ep + 1), u40, .int .u64 (floorP fl last)]) h155 rfl rfl ⟨hB159, hk160⟩ (fun x hx => (by obtain ⟨_, _, _, hq⟩ := row_form hr163; subst hq; kernel_rfl)) fun a164 h164 => ?_; clear h155
          have hk170 := hk91.kept hg102 (own_neT hf88 hk91 (by decide))
          have hk171 := hk170.kept hg106 (by simp)
          have hk172 := hk171.below hb157
          refine d1D 10 h164 rfl rfl (op_storeN rfl rfl rfl (all_cons rfl (all_cons (row_one hr163) (all_cons rfl all_nil))) (by kernel_rfl) hk172 rfl) ?_ ?_; clear h164
          ·
           rintro _ w166 ⟨hk167, hz168, hg169⟩
           have hk167' : Blk w166 N11 91 #[.int .i64 (ep + 1), u40, .int .u64 (floorP fl last)] := hk167; clear hk167
           have hz173 := hg169.size
           have hB174 := hb_at hB159 hg169 (by omega)
           have hk175 := hk160.kept hg169 (by simp; omega)
           exact ⟨hB174, hk175⟩
          rintro _ w166 a165 ⟨hk167, hz168, hg169⟩ h165
          have hk167' : Blk w166 N11 91 #[.int .i64 (ep + 1), u40, .int .u64 (floorP fl last)] := hk167; clear hk167
          have hz173 := hg169.size
          have hB174 := hb_at hB159 hg169 (by omega)
          have hk175 := hk160.kept hg169 (by simp; omega)
          refine dk0 11 (v := u1) h165 rfl rfl ⟨hB174, hk175⟩ fun a176 h176 => ?_; clear h165
          refine dk0 12 (v := .int .i64 0) h176 rfl rfl ⟨hB174, hk175⟩ fun a177 h177 => ?_; clear h176
          refine dr_done (by kernel_rfl) ?_
          refine co_then ?_
          refine wp_ret ?_
          refine co_retC2 (Q := fun _ _ _ => True) h177 rfl rfl rfl rfl hk167' Try.underlying91 rfl (by kernel_rfl) ?_
          have hr178 := row_kept_at hr163 hg169 (own_neT hr163 hk172 (by decide))
          have hr179 := row_kept_new hr101 hg106
          have hr180 := row_kept_new hr179 (below_grown hb157)
          have hr181 := row_kept_at hr180 hg169 (own_neT hr180 hk172 (by decide))
          have hE : 0 = nextE ep ms lg gn js := nextE_0 (by omega) (by omega) ((by assumption)) (by omega)
          have hX := next_ok (fl := fl) (last := last) hE
          exact ⟨_, _, by rw [hX.2.1, hX.2.2.1, ← hE], (row_eq (row_lows hr178 (by omega)) (hX.1.symm)), (row_eq (row_lows hr181 (by omega)) ((ids_eq (ep := ep) (i := i) (by omega) (by omega)).trans hX.2.2.2.symm)), hB174⟩
         ·
          refine dr_op (i := 7) h152 rfl rfl rfl rfl (op_call (args := #[.int .u64 fl, .int .u64 last]) (R := fun res xw => res = .int .u64 (floorP fl last) ∧ Below w105.heap.size w105 xw) rfl rfl rfl (by kernel_rfl) (by kernel_rfl) (Try.call67 _ _) (floor_any fl last w105 (by first | omega | (simp; done) | (simp; omega)) (by first | omega | (simp; done) | (simp; omega))) (by rintro e x ⟨rfl, hb184⟩; exact ⟨_, rfl, ⟨rfl, hb184⟩⟩)) ?_ ?_; clear h152
          ·
           rintro _ w183 ⟨rfl, hb184⟩
           have hz185 := hb184.size
           have hB186 := hb_call hB114 hb184
           have hk187 := hk116.below hb184
           exact ⟨hB186, hk187⟩
          rintro _ w183 a182 ⟨rfl, hb184⟩ h182
          have hz185 := hb184.size
          have hB186 := hb_call hB114 hb184
          have hk187 := hk116.below hb184
          refine dr_many [1] (by kernel_rfl) (by simp) ⟨?_, trivial⟩
          ·
           refine dr_opVal (i := 1) (v := .int .i64 ep) h182 rfl rfl rfl rfl (by kernel_rfl) rfl (rn_load1 rfl rfl Try.isAgg3 (hk187.cell rfl)) ⟨hB186, hk187⟩ (fun a188 h188 => ?_); clear h182
           refine dk 2 (v := .int .i64 (ep + 1)) h188 rfl rfl ⟨hB186, hk187⟩ (fun x hx => (rn_arith rfl rfl rfl rfl rfl rfl (IntWalk.i64_in _ (by omega)))) fun a189 h189 => ?_; clear h188
           have hr190 := row_kept_row hf87 hf88 hg102 (by decide)
           have hr191 := row_kept_new hr190 hg106
           have hr192 := row_kept_new hr191 (below_grown hb184)
           refine dk 8 (v := .agg #[.int .i64 (ep + 1), u40, .int .u64 (floorP fl last)]) h189 rfl rfl ⟨hB186, hk187⟩ (fun x hx => (by obtain ⟨_, _, _, hq⟩ := row_form hr192; subst hq; kernel_rfl)) fun a193 h193 => ?_; clear h189
           have hk199 := hk91.kept hg102 (own_neT hf88 hk91 (by decide))
           have hk200 := hk199.kept hg106 (by simp)
           have hk201 := hk200.below hb184
           refine d1D 10 h193 rfl rfl (op_storeN rfl rfl rfl (all_cons rfl (all_cons (row_one hr192) (all_cons rfl all_nil))) (by kernel_rfl) hk201 rfl) ?_ ?_; clear h193
           ·
            rintro _ w195 ⟨hk196, hz197, hg198⟩
            have hk196' : Blk w195 N11 91 #[.int .i64 (ep + 1), u40, .int .u64 (floorP fl last)] := hk196; clear hk196
            have hz202 := hg198.size
            have hB203 := hb_at hB186 hg198 (by omega)
            have hk204 := hk187.kept hg198 (by simp; omega)
            exact ⟨hB203, hk204⟩
           rintro _ w195 a194 ⟨hk196, hz197, hg198⟩ h194
           have hk196' : Blk w195 N11 91 #[.int .i64 (ep + 1), u40, .int .u64 (floorP fl last)] := hk196; clear hk196
           have hz202 := hg198.size
           have hB203 := hb_at hB186 hg198 (by omega)
           have hk204 := hk187.kept hg198 (by simp; omega)
           refine dk0 11 (v := u1) h194 rfl rfl ⟨hB203, hk204⟩ fun a205 h205 => ?_; clear h194
           refine dk0 12 (v := .int .i64 0) h205 rfl rfl ⟨hB203, hk204⟩ fun a206 h206 => ?_; clear h205
           refine dr_done (by kernel_rfl) ?_
           refine co_then ?_
           refine wp_ret ?_
           refine co_retC2 (Q := fun _ _ _ => True) h206 rfl rfl rfl rfl hk196' Try.underlying91 rfl (by kernel_rfl) ?_
           have hr207 := row_kept_at hr192 hg198 (own_neT hr192 hk201 (by decide))
           have hr208 := row_kept_new hr101 hg106
           have hr209 := row_kept_new hr208 (below_grown hb184)
           have hr210 := row_kept_at hr209 hg198 (own_neT hr209 hk201 (by decide))
           have hE : 0 = nextE ep ms lg gn js := nextE_0 (by omega) (by omega) ((by assumption)) (by omega)
           have hX := next_ok (fl := fl) (last := last) hE
           exact ⟨_, _, by rw [hX.2.1, hX.2.2.1, ← hE], (row_eq (row_lows hr207 (by omega)) (hX.1.symm)), (row_eq (row_lows hr210 (by omega)) ((ids_eq (ep := ep) (i := i) (by omega) (by omega)).trans hX.2.2.2.symm)), hB203⟩
       ·
        rw [hc96] at h95
        have hp211 : ((i : Nat) : Int) < ((((planL ms lg gn js).take ((keepL ms lg gn).length)).length : Nat) : Int) := of_decide_eq_true hc96
        clear hc96
        refine co_true h95 rfl ?_
        refine wp_skip ?_
        refine co_then ?_
        refine co_seq ?_
        refine wp_block ?_
        refine co_seq ?_
        refine co_reg ?_
        obtain ⟨y212, hy212⟩ : ∃ z, ((planL ms lg gn js).take ((keepL ms lg gn).length))[i]? = some z := ⟨_, List.getElem?_eq_getElem (by first | omega | (simp; done) | (simp; omega))⟩
        refine pk (v := pt (blkOf (subV u40 0 ((keepL ms lg gn).length) 2)) (offOf (subV u40 0 ((keepL ms lg gn).length) 2) + i * 2)) h95 rfl (rn_index rfl rfl rfl Try.underlying89 Try.sizeOf114 (sl_take (row_sl hf87 memE_len) _ (by omega)) (by omega) (by first | omega | (simp; done) | (simp; omega))) fun a213 h213 => ?_; clear h95
        refine pk (v := .agg #[.int .i64 y212.1, .int .i64 y212.2]) h213 rfl (rn_loadN rfl rfl Try.underlying114 rfl (by kernel_rfl) (sl_at (sl_take (row_sl hf87 memE_len) _ (by omega)) hy212)) fun a214 h214 => ?_; clear h213
        refine pw h214 rfl (op_new (v := fun N => pt N 0) (T := 114) (cs := #[.int .i64 0, .int .i64 0]) (by kernel_rfl) (by kernel_rfl) (by kernel_rfl)) ?_; clear h214
        rintro _ w216 a215 ⟨N217, rfl, hN220, hz221, hk219, hg218⟩ h215
        have ha222 := row_fresh hf87 hN220
        have ha223 := row_fresh hf88 hN220
        have hz224 := hg218.size
        try dsimp only at h215
        refine pwD h215 rfl (op_storeN rfl rfl rfl (by kernel_rfl) (by kernel_rfl) hk219 rfl) ?_; clear h215
        rintro _ w226 a225 ⟨hk227, hz228, hg229⟩ h225
        have hk227' : Blk w226 N217 114 #[.int .i64 y212.1, .int .i64 y212.2] := hk227; clear hk227
        have hz230 := hg229.size
        refine pl_nil ?_
        refine co_then ?_
        refine co_reg ?_
        refine pk0 (v := u1) h225 rfl fun a231 h231 => ?_; clear h225
        refine pk0 (v := pt N217 0) h231 rfl fun a232 h232 => ?_; clear h231
        refine pk (v := .int .i64 y212.1) h232 rfl (rn_load1 rfl rfl Try.isAgg3 (hk227'.cell rfl)) fun a233 h233 => ?_; clear h232
        refine pw h233 rfl (op_new (v := fun N => .slice (some ⟨N, 0, none⟩) 1 1) (T := 3) (cs := #[.int .i64 y212.1]) (by kernel_rfl) (by kernel_rfl) (by kernel_rfl)) ?_; clear h233
        rintro _ w235 a234 ⟨N236, rfl, hN239, hz240, hk238, hg237⟩ h234
        have hr242 := row_kept_new hf87 hg218
        have hr243 := row_kept_at hr242 hg229 (ha222)
        have ha241 := row_fresh hr243 hN239
        have hr245 := row_kept_new hf88 hg218
        have hr246 := row_kept_at hr245 hg229 (ha223)
        have ha244 := row_fresh hr246 hN239
        have hz247 := hg237.size
        try dsimp only at h234
        have hr254 := row_kept_new hr246 hg237
        refine pw h234 rfl (op_append rfl (N11 + 1) 3 (z := .int .i64 0) (size := 1) (bytes := 8) Try.underlying37 (by kernel_rfl) rfl rfl rfl hr254 rfl hk238 rfl (by kernel_rfl) (by first | omega | (simp only [List.length_nil, List.length_append, List.length_cons, List.length_take, List.length_drop]; omega)) (by first | omega | (simp only [List.length_nil, List.length_append, List.length_cons, List.length_take, List.length_drop]; omega)) (by omega)) ?_; clear h234
        rintro v250 w249 a248 ⟨hr251, hg252⟩ h248
        have hr251' : w249.ownsRow (N11 + 1) 3 1 v250 (((((planL ms lg gn js).take (keepL ms lg gn).length).take i).map (fun o => o.1) ++ [y212.1]).length) (((((planL ms lg gn js).take (keepL ms lg gn).length).take i).map (fun o => o.1) ++ [y212.1]).flatMap (intE .i64)) := row_push (y := y212.1) hr251 rfl rfl; clear hr251
        have hz255 := hg252.size
        have hk256 := hk90.kept hg218 (by simp)
        have hk257 := hk256.kept hg229 (by simp; omega)
        have hk258 := hk257.kept hg237 (by simp)
        have hk259 := hk91.kept hg218 (by simp)
        have hk260 := hk259.kept hg229 (by simp; omega)
        have hk261 := hk260.kept hg237 (by simp)
        refine pk0 (v := v250) h248 rfl fun a262 h262 => ?_; clear h248
        refine pl_nil ?_
        refine co_blockN ?_
        refine co_then ?_
        refine co_reg ?_
        refine pk (v := .int .i64 ((i + 1 : Nat) : Int)) h262 rfl (rn_arith' rfl rfl rfl rfl rfl rfl (IntWalk.i64_in _ (by omega)) (by omega)) fun a263 h263 => ?_; clear h262
        refine pk0 (v := .int .i64 ((i + 1 : Nat) : Int)) h263 rfl fun a264 h264 => ?_; clear h263
        refine pl_nil ?_
        refine co_then ?_
        refine ⟨(((planL ms lg gn js).take (keepL ms lg gn).length).length - (i + 1)), by omega, ?_⟩
        have hr265 := row_kept_new hr243 hg237
        have hr266 := row_kept_row hr265 hr254 hg252 (by decide)
        have hB267 := hb_new hB89 hg218
        have hB268 := hb_at hB267 hg229 (by omega)
        have hB269 := hb_new hB268 hg237
        have hB270 := hb_row hB269 hr254 (by omega) hg252
        have hk271 := hk258.kept hg252 (own_neT hr254 hk258 (by decide))
        have hk272 := hk261.kept hg252 (own_neT hr254 hk261 (by decide))
        exact ⟨i + 1, v250, h264.sub ⟨rfl, rfl, rfl, rfl, rfl, rfl, rfl, rfl, rfl, trivial⟩, rfl, by omega, hr266, (row_eq hr251' (by first | rfl | exact id_at (by assumption))), hB270, hk271, hk272⟩
    ·
     rw [hc72] at h71
     have hp273 : ep = 1073741824 := by first | simpa using hc72 | simpa [and_assoc] using hc72
     clear hc72
     refine co_true h71 rfl ?_
     refine co_seq ?_
     refine co_reg ?_
     refine pk0 (v := .agg #[.int .i64 0, .slice none 0 0, .int .u64 0]) h71 rfl fun a274 h274 => ?_; clear h71
     have hk280 := hk55.below hb63
     refine pwD h274 rfl (op_storeN rfl rfl rfl (all_cons rfl (all_cons rfl (all_cons rfl all_nil))) (by kernel_rfl) hk280 rfl) ?_; clear h274
     rintro _ w276 a275 ⟨hk277, hz278, hg279⟩ h275
     have hk277' : Blk w276 N11 91 #[.int .i64 0, .slice none 0 0, .int .u64 0] := hk277; clear hk277
     have hz281 := hg279.size
     refine pk0 (v := .slice none 0 0) h275 rfl fun a282 h282 => ?_; clear h275
     refine pk0 (v := .int .i64 5) h282 rfl fun a283 h283 => ?_; clear h282
     refine pl_nil ?_
     refine co_then ?_
     refine wp_ret ?_
     refine co_thenR ?_
     refine co_retC2 (Q := fun _ _ _ => True) h283 rfl rfl rfl rfl hk277' Try.underlying91 rfl (by kernel_rfl) ?_
     have hB284 := hb_at hB66 hg279 (by omega)
     have hE : 5 = nextE ep ms lg gn js := nextE_4 (by omega) (by omega) (by assumption) (by omega)
     have hX := next_err (fl := fl) (last := last) (show ¬ nextE ep ms lg gn js = 0 by rw [← hE]; omega)
     exact ⟨.slice none 0 0, .slice none 0 0, by rw [hX.2.1, hX.2.2.1, ← hE], by rw [hX.1]; exact row_nilL _ _ _ _ _, by rw [hX.2.2.2]; exact row_nilL _ _ _ _ _, hB284⟩
   ·
    rw [hc65] at h61
    have hp285 : (planL ms lg gn js) = ms := of_decide_eq_true hc65
    clear hc65
    refine co_true h61 rfl ?_
    refine co_seq ?_
    refine co_reg ?_
    refine pk0 (v := .agg #[.int .i64 0, .slice none 0 0, .int .u64 0]) h61 rfl fun a286 h286 => ?_; clear h61
    have hk292 := hk55.below hb63
    refine pwD h286 rfl (op_storeN rfl rfl rfl (all_cons rfl (all_cons rfl (all_cons rfl all_nil))) (by kernel_rfl) hk292 rfl) ?_; clear h286
    rintro _ w288 a287 ⟨hk289, hz290, hg291⟩ h287
    have hk289' : Blk w288 N11 91 #[.int .i64 0, .slice none 0 0, .int .u64 0] := hk289; clear hk289
    have hz293 := hg291.size
    refine pk0 (v := .slice none 0 0) h287 rfl fun a294 h294 => ?_; clear h287
    refine pk0 (v := .int .i64 20) h294 rfl fun a295 h295 => ?_; clear h294
    refine pl_nil ?_
    refine co_then ?_
    refine wp_ret ?_
    refine co_thenR ?_
    refine co_retC2 (Q := fun _ _ _ => True) h295 rfl rfl rfl rfl hk289' Try.underlying91 rfl (by kernel_rfl) ?_
    have hB296 := hb_at hB66 hg291 (by omega)
    have hE : 20 = nextE ep ms lg gn js := nextE_3 (by omega) (by omega) (by assumption)
    have hX := next_err (fl := fl) (last := last) (show ¬ nextE ep ms lg gn js = 0 by rw [← hE]; omega)
    exact ⟨.slice none 0 0, .slice none 0 0, by rw [hX.2.1, hX.2.2.1, ← hE], by rw [hX.1]; exact row_nilL _ _ _ _ _, by rw [hX.2.2.2]; exact row_nilL _ _ _ _ _, hB296⟩
  ·
   rw [hc52] at h51
   have hp297 : (((keepL ms lg gn).length : Nat) : Int) = 0 := by first | simpa using hc52 | simpa [and_assoc] using hc52
   clear hc52
   refine co_true h51 rfl ?_
   refine co_seq ?_
   refine co_reg ?_
   refine pk0 (v := .agg #[.int .i64 0, .slice none 0 0, .int .u64 0]) h51 rfl fun a298 h298 => ?_; clear h51
   refine pwD h298 rfl (op_storeN rfl rfl rfl (all_cons rfl (all_cons rfl (all_cons rfl all_nil))) (by kernel_rfl) hk55 rfl) ?_; clear h298
   rintro _ w300 a299 ⟨hk301, hz302, hg303⟩ h299
   have hk301' : Blk w300 N11 91 #[.int .i64 0, .slice none 0 0, .int .u64 0] := hk301; clear hk301
   have hz304 := hg303.size
   refine pk0 (v := .slice none 0 0) h299 rfl fun a305 h305 => ?_; clear h299
   refine pk0 (v := .int .i64 7) h305 rfl fun a306 h306 => ?_; clear h305
   refine pl_nil ?_
   refine co_then ?_
   refine wp_ret ?_
   refine co_thenR ?_
   refine co_retC2 (Q := fun _ _ _ => True) h306 rfl rfl rfl rfl hk301' Try.underlying91 rfl (by kernel_rfl) ?_
   have hB307 := hb_at hB53 hg303 (by omega)
   have hE : 7 = nextE ep ms lg gn js := nextE_2 (by omega) (by omega)
   have hX := next_err (fl := fl) (last := last) (show ¬ nextE ep ms lg gn js = 0 by rw [← hE]; omega)
   exact ⟨.slice none 0 0, .slice none 0 0, by rw [hX.2.1, hX.2.2.1, ← hE], by rw [hX.1]; exact row_nilL _ _ _ _ _, by rw [hX.2.2.2]; exact row_nilL _ _ _ _ _, hB307⟩
 ·
  rw [hc30] at h29
  have hp308 : chkC ep ms ≠ 0 := by first | simpa using hc30 | simpa [and_assoc] using hc30
  clear hc30
  refine co_true h29 rfl ?_
  refine co_seq ?_
  refine co_reg ?_
  refine pk0 (v := .agg #[.int .i64 0, .slice none 0 0, .int .u64 0]) h29 rfl fun a309 h309 => ?_; clear h29
  refine pk0 (v := .int .i64 (chkC ep ms)) h309 rfl fun a310 h310 => ?_; clear h309
  have hk316 := hk13.below hb25
  refine pwD h310 rfl (op_storeN rfl rfl rfl (all_cons rfl (all_cons rfl (all_cons rfl all_nil))) (by kernel_rfl) hk316 rfl) ?_; clear h310
  rintro _ w312 a311 ⟨hk313, hz314, hg315⟩ h311
  have hk313' : Blk w312 N11 91 #[.int .i64 0, .slice none 0 0, .int .u64 0] := hk313; clear hk313
  have hz317 := hg315.size
  refine pk0 (v := .slice none 0 0) h311 rfl fun a318 h318 => ?_; clear h311
  refine pk0 (v := .int .i64 (chkC ep ms)) h318 rfl fun a319 h319 => ?_; clear h318
  refine pl_nil ?_
  refine co_then ?_
  refine wp_ret ?_
  refine co_thenR ?_
  refine co_retC2 (Q := fun _ _ _ => True) h319 rfl rfl rfl rfl hk313' Try.underlying91 rfl (by kernel_rfl) ?_
  have hB320 := hb_at hB31 hg315 (by omega)
  have hE : chkC ep ms = nextE ep ms lg gn js := nextE_1 (by omega)
  have hX := next_err (fl := fl) (last := last) (show ¬ nextE ep ms lg gn js = 0 by rw [← hE]; omega)
  exact ⟨.slice none 0 0, .slice none 0 0, by rw [hX.2.1, hX.2.2.1, ← hE], by rw [hX.1]; exact row_nilL _ _ _ _ _, by rw [hX.2.2.2]; exact row_nilL _ _ _ _ _, hB320⟩
end Go.Proofs.Ytcnahhobppnbbaa
