/- Put together: RgoXKp, RgoFKp, RsoDKp, RsoEKp, RsoCKp, RsoFKp, RstFKp, ConfJzKp, NoJKp, RstJKp, RsoGKp, RsoHKp, RsoIKp, RsoJKp, RsoKKp, RsoLKp. Conditions: as each says. -/
import Derived.Test.YtniojcnkjehflaaGreatKq5
import Derived.Test.YtniojcnkjehflaaGreatKq4
import Derived.Test.YtniojcnkjehflaaGreatKq3
import Derived.Test.YtniojcnkjehflaaGreatKq1
import Derived.RangeFuncNested
import Derived.RangeFuncBound
import Derived.RangeFuncCalls
import Derived.RangeFuncLeaves
import Derived.RangeFuncBox
import Derived.Shelf.Abstract
import Derived.Shelf.RegionOpen
import Derived.WalkKit
import Derived.OwnWalkIn
import Derived.TacticsInMore
import Derived.LoopNIn
import Derived.LoopIn
import Derived.ScopeJumps
import Derived.Maps.AppendAt
import Derived.BigQuiet
/- The document's log in its state: Thin. Conditions: at most 100 entries, 20 operations each. -/
namespace Go.Proofs.YtniojcnkjehflaaGreat
open Go.RowKit Go.PlainAid
set_option linter.unusedVariables false
set_option linter.unusedSimpArgs false

set_option maxRecDepth 100000 in
set_option maxHeartbeats 1600000 in
theorem rThin30_any (w0 : World) (S : Nat → Prop) (b : Nat) (ep : Int) (cv : Value) (fl : Int) (hz : Int) (u : Value) (X : List EntT) (h : Int) (n : Int) (w : World) (hbw : But S w0 w) (hO : RgQ S w0.heap.size w b ep cv fl hz u X) (hh : 0 ≤ h ∧ h < 18446744073709551616) (hni : -9223372036854775808 ≤ n ∧ n ≤ 9223372036854775807) :
    Calls Tryz.prog 29 #[pt b 4, .int .u64 h, .int .i64 n] w fun e w' => ∃ (u' : Value) (X' : List EntT), e = .returned (.int .i64 (thG X h n)) ∧ RgQ S w0.heap.size w' b ep cv fl hz u' X' ∧ X'.map e0 = (thL X h n).map e0 ∧ But (S) w0 w' := by
 have hB0 := hbw;have hz0 := hbw.size;have hz0 := hbw.size;have hl1 := hO.blk.lt; have hln2 := hO.len;have hML := thM_le X n;refine co_enter (n := 94) Tryz.func29 rfl rfl rfl [(0, pt b 4), (1, .int .u64 h), (2, .int .i64 n)] rfl (fun a s => ?_);refine q2 ?_;refine pk0 (v := .int .i64 0) s rfl fun _ s => q3 ?_;refine pk0 (v := .int .i64 0) s rfl fun _ s => q3 ?_;refine pk0 (v := pt b 4) s rfl fun _ s => ?_;refine pk0 (v := pt b 4) s rfl fun _ s => ?_;refine pk0 (v := pt b 4) s rfl fun _ s => ?_;refine pk (v := u) s rfl (rn_load1 rfl rfl Tryz.isAgg32 (hO.blk.cell rfl)) fun _ s => ?_;refine pw s rfl (op_call (args := #[u]) (R := fun res xw => ∃ L2 : List EntT, ∃ u : Value, res = u ∧ xw.ownsRow w.heap.size 44 4 u L2.length (L2.flatMap entE) ∧ EntsK (fun _ => False) w.heap.size xw L2 ∧ L2.map e0 = X.map e0 ∧ Below w.heap.size w xw) rfl rfl rfl (by kernel_rfl) (by kernel_rfl) (Tryz.call70 _ _) (rcopy17_any u X w (row_sl hO.row entE_len) (entsK_got hO.ents) (fun z hz => (hO.ents z hz).len) hO.len) (by rintro e x ⟨L2, u, rfl, hq13, hq14, hq15, hb16⟩; exact ⟨_, rfl, ⟨L2, u, rfl, hq13, hq14, hq15, hb16⟩⟩)) ?_;rintro u12 w10 a9 ⟨L211, _, rfl, hq13, hq14, hq15, hb16⟩ s;have hu17 := row_under hO.row (rfl : w.heap.size = _);have hz18 := hb16.size;have hl19 := sl_len (row_sl hq13 entE_len);have hE20 : EntsK S w0.heap.size w10 L211 := EntsK.low hq14 (by omega);have hl21 := e0_len hq15;refine pk0 (v := u12) s rfl fun _ s => q6 ?_;refine pk0 (v := .int .i64 0) s rfl fun _ s => q1 <| wp_block ?_;have s : Slots 94 [(0, pt b 4), (1, .int .u64 h), (2, .int .i64 n), (7, .int .i64 0), (8, u12), (9, .int .i64 0)] _ := s.sub ⟨rfl, rfl, rfl, rfl, rfl, rfl, trivial⟩;refine co_loop (fun mm a x => ∃ (i : Nat) (Mk : List EntT), Slots 94 [(0, pt b 4), (1, .int .u64 h), (2, .int .i64 n), (7, .int .i64 (rgD X h (thM X n) i)), (8, u12), (9, .int .i64 (i : Int))] a ∧ mm = X.length - i ∧ (i ≤ thM X n) ∧ (Mk.map e0 = (rtS X h (thM X n) i).map e0) ∧ x.ownsRow w.heap.size 44 4 u12 Mk.length (Mk.flatMap entE) ∧ x.ownsRow 0 44 4 u X.length (X.flatMap entE) ∧ EntsK S w0.heap.size x X ∧ EntsK S w0.heap.size x Mk ∧ But (S) w0 x ∧ Blk x b 36 #[.int .i64 ep, cv, .int .u64 fl, .int .u64 hz, u]) (X.length - 0) ?_ ?_;have hr25 := row_kept_new hO.row (below_grown hb16);have hE26 := hO.ents.new (below_grown hb16);have hB27 := fbU_call hB0 hb16;have hk28 := hO.blk.below hb16
 · exact ⟨0, L211, s.sub ⟨rfl, rfl, rfl, (slot_eq rfl (congrArg (Value.int .i64) (by first | exact rgD_0 | (rw [hgj]; exact hg')))), rfl, (slot_eq rfl (congrArg (Value.int .i64) (by first | rfl | omega))), trivial⟩, rfl, by omega, by first | exact hi' | (rw [rtS_0]; assumption), hq13, hr25, hE26, hE20, hB27, hk28⟩
 · rintro k29 a30 w31 ⟨i, Mk, s, rfl, hi32, hi33, hf34, hf35, hf36, hf37, hB38, hk39⟩
   have hz40 := hB38.size;have hl41 := hk39.lt;have hMl : Mk.length = X.length := rt_len (by assumption : Mk.map e0 = (rtS X h (thM X n) i).map e0) (by omega) (by omega);have hgb := rgD_nn (h := h) (M := thM X n) (i := i) (fun e he => (hO.ents e he).len) (by omega);obtain ⟨gj, hgj⟩ : ∃ z, z = rgD X h (thM X n) i := ⟨_, rfl⟩; rw [← hgj] at hgb;rw [← hgj] at s;refine q9 ?_;refine pk0 (v := .int .i64 (i : Int)) s rfl fun _ s => ?_;refine pk0 (v := u12) s rfl fun _ s => ?_;refine pk (v := .int .i64 (Mk.length : Int)) s rfl (rn_lenOwn rfl rfl Tryz.underlying32 hf34) fun _ s => ?_;refine pk0 (v := .bool (decide ((i : Int) < (Mk.length : Int)))) s rfl fun _ s => ?_;refine pk0 (v := .bool (decide ((i : Int) < (Mk.length : Int)))) s rfl fun _ s => ?_;cases hc47 : (decide ((i : Int) < (Mk.length : Int)))
   ·
    rw [hc47] at s;have hp48 : ¬ ((i : Int) < (Mk.length : Int)) := of_decide_eq_false hc47;refine psk s rfl fun _ s => ?_;refine psk s rfl fun _ s => ?_;refine psk s rfl fun _ s => ?_;refine pk0 (v := .bool false) s rfl fun _ s => q1 ?_;refine co_false s rfl <| wp_exit <| co_thenX <| co_thenX <| qx <| q2 ?_;refine pk0 (v := pt b 4) s rfl fun _ s => ?_;refine pk0 (v := u12) s rfl fun _ s => ?_;refine pk0 (v := pt b 4) s rfl fun _ s => ?_;refine pk0 (v := pt b 4) s rfl fun _ s => ?_;refine pwD s rfl (op_store1 rfl rfl rfl (row_one hf34) Tryz.sizeOf32 hk39 rfl) ?_;rintro _ w58 a57 ⟨hk59, hz60, hg61⟩ s;have hk59' : Blk w58 b 36 #[.int .i64 ep, cv, .int .u64 fl, .int .u64 hz, u12] := hk59;have hz62 := hg61.size;refine q3 ?_;refine pk0 (v := .int .i64 gj) s rfl fun _ s => ?_;refine pk0 (v := .int .i64 gj) s rfl fun _ s => q4 ?_;refine co_ret1 s rfl rfl ?_;have hr65 := row_kept_at hf34 hg61 (own_neT hf34 hk39 (by decide));have hE66 := hf37.blk hk39 (by decide) hg61;have hB67 := fbU_at hB38 hg61 (fun hlt => by rcases hO.sb with hq | hq; exact hq; omega);have hiM : i = thM X n := Nat.le_antisymm (by omega) (thM_ge (by omega));have hLe : Mk.map e0 = (thL X h n).map e0 := by have hq := (by assumption : Mk.map e0 = (rtS X h (thM X n) i).map e0); rw [hiM, rt_end (by omega)] at hq; exact hq
    exact ⟨_, _, ret_int (by unfold thG; rw [hgj, hiM]; exact rgD_end (Nat.le_refl _)), ⟨hk59', (row_lows hr65 (Nat.zero_le _)), hE66, hO.sb, (InS.low hf34 (by omega)), (by have := hO.len; omega)⟩, hLe, hB67⟩
   rw [hc47] at s;have hp68 : (i : Int) < (Mk.length : Int) := of_decide_eq_true hc47;refine pk0 (v := .int .i64 (i : Int)) s rfl fun _ s => ?_;refine pk0 (v := .int .i64 n) s rfl fun _ s => ?_;refine pk0 (v := .bool (decide ((i : Int) < n))) s rfl fun _ s => ?_;refine pk0 (v := .bool (decide ((i : Int) < n))) s rfl fun _ s => q1 ?_;cases hc73 : (decide ((i : Int) < n))
   ·
    rw [hc73] at s;have hp74 : ¬ ((i : Int) < n) := of_decide_eq_false hc73;refine co_false s rfl <| wp_exit <| co_thenX <| co_thenX <| qx <| q2 ?_;refine pk0 (v := pt b 4) s rfl fun _ s => ?_;refine pk0 (v := u12) s rfl fun _ s => ?_;refine pk0 (v := pt b 4) s rfl fun _ s => ?_;refine pk0 (v := pt b 4) s rfl fun _ s => ?_;refine pwD s rfl (op_store1 rfl rfl rfl (row_one hf34) Tryz.sizeOf32 hk39 rfl) ?_;rintro _ w80 a79 ⟨hk81, hz82, hg83⟩ s;have hk81' : Blk w80 b 36 #[.int .i64 ep, cv, .int .u64 fl, .int .u64 hz, u12] := hk81;have hz84 := hg83.size;refine q3 ?_;refine pk0 (v := .int .i64 gj) s rfl fun _ s => ?_;refine pk0 (v := .int .i64 gj) s rfl fun _ s => q4 ?_;refine co_ret1 s rfl rfl ?_;have hr87 := row_kept_at hf34 hg83 (own_neT hf34 hk39 (by decide));have hE88 := hf37.blk hk39 (by decide) hg83;have hB89 := fbU_at hB38 hg83 (fun hlt => by rcases hO.sb with hq | hq; exact hq; omega);have hiM : i = thM X n := Nat.le_antisymm (by omega) (thM_ge (by omega));have hLe : Mk.map e0 = (thL X h n).map e0 := by have hq := (by assumption : Mk.map e0 = (rtS X h (thM X n) i).map e0); rw [hiM, rt_end (by omega)] at hq; exact hq
    exact ⟨_, _, ret_int (by unfold thG; rw [hgj, hiM]; exact rgD_end (Nat.le_refl _)), ⟨hk81', (row_lows hr87 (Nat.zero_le _)), hE88, hO.sb, (InS.low hf34 (by omega)), (by have := hO.len; omega)⟩, hLe, hB89⟩
   rw [hc73] at s;have hp90 : (i : Int) < n := of_decide_eq_true hc73;refine co_true s rfl <| q0 <| co_seq <| wp_block <| q9 ?_;refine pk0 (v := u12) s rfl fun _ s => ?_;refine pk0 (v := .int .i64 (i : Int)) s rfl fun _ s => ?_;obtain ⟨y93, hy93⟩ : ∃ z, Mk[i]? = some z := ⟨_, List.getElem?_eq_getElem (by first | omega | (simp; done) | (simp; omega))⟩;have oky93 := (fun (z : EntT) (_ : z ∈ Mk) => trivial) _ (List.mem_of_getElem? hy93);have hy94 := hf37.at hy93;have hq95 := hy94.ts0; have hq96 := hy94.ts1; have hq97 := hy94.len; have hq98 := wf_i64 hy94.cl; have hq99 := wf_i64 hy94.rq;refine pk (v := pt (blkOf u12) (offOf u12 + i * 4)) s rfl (rn_index rfl rfl rfl Tryz.underlying32 Tryz.sizeOf44 (row_sl hf34 entE_len) (by omega) (by first | omega | (simp; done) | (simp; omega))) fun _ s => ?_;refine pk0 (v := pt (blkOf u12) (offOf u12 + i * 4 + 3)) s rfl fun _ s => ?_;refine pk (v := .int .u64 y93.ts) s rfl (rn_load1 rfl rfl Tryz.isAgg29 ((sl_at (row_sl hf34 entE_len) hy93) 3 _ rfl)) fun _ s => ?_;refine pk0 (v := .bool (y93.ts == 0)) s rfl fun _ s => ?_;refine pk0 (v := .bool (y93.ts == 0)) s rfl fun _ s => ?_;cases hc105 : (y93.ts == 0)
   ·
    rw [hc105] at s;have hp106 : ¬ (y93.ts = 0) := by first | simpa using hc105 | simpa [and_assoc] using hc105
    refine pk0 (v := u12) s rfl fun _ s => ?_;refine pk0 (v := .int .i64 (i : Int)) s rfl fun _ s => ?_;refine pk (v := pt (blkOf u12) (offOf u12 + i * 4)) s rfl (rn_index rfl rfl rfl Tryz.underlying32 Tryz.sizeOf44 (row_sl hf34 entE_len) (by omega) (by first | omega | (simp; done) | (simp; omega))) fun _ s => ?_;refine pk0 (v := pt (blkOf u12) (offOf u12 + i * 4 + 3)) s rfl fun _ s => ?_;refine pk (v := .int .u64 y93.ts) s rfl (rn_load1 rfl rfl Tryz.isAgg29 ((sl_at (row_sl hf34 entE_len) hy93) 3 _ rfl)) fun _ s => ?_;refine pk0 (v := .int .u64 h) s rfl fun _ s => ?_;refine pk0 (v := .bool (decide (y93.ts > h))) s rfl fun _ s => ?_;refine pk0 (v := .bool (decide (y93.ts > h))) s rfl fun _ s => q1 ?_;cases hc115 : (decide (y93.ts > h))
    ·
     rw [hc115] at s;have hp116 : ¬ (y93.ts > h) := of_decide_eq_false hc115;refine co_false s rfl <| q7 ?_;refine pk0 (v := .slice none 0 0) s rfl fun _ s => q6 ?_;refine pk0 (v := .int .i64 0) s rfl fun _ s => q1 <| wp_block ?_;obtain ⟨bs119, hb_bs119⟩ : ∃ b, b = w31.heap.size := ⟨_, rfl⟩;have hu120 := row_under hf34 hb_bs119;have hu121 := row_under hf35 hb_bs119;have hu122 := row_under hy94.row hb_bs119;have hu123 := EntsK.under hf37 hb_bs119;have hu124 := EntsK.under hf36 hb_bs119;have hiM := thM_lt (X := X) (n := n) (i := i) (by omega) (by omega);have hw0b : w0.heap.size ≤ bs119 := by omega
     have s : Slots 94 [(0, pt b 4), (1, .int .u64 h), (2, .int .i64 n), (7, .int .i64 gj), (8, u12), (9, .int .i64 (i : Int)), (10, .slice none 0 0), (11, .int .i64 0)] _ := s.sub ⟨rfl, rfl, rfl, rfl, rfl, rfl, rfl, rfl, trivial⟩;refine co_loop (fun mm a x => ∃ (q : Nat) (u2 : Value), Slots 94 [(0, pt b 4), (1, .int .u64 h), (2, .int .i64 n), (7, .int .i64 (gj + ((q : Int) - ((kpL (fT h ((X.take (thM X n)).drop (i + 1))) (y93.opl.take q)).length : Int)))), (8, u12), (9, .int .i64 (i : Int)), (10, u2), (11, .int .i64 (q : Int))] a ∧ mm = y93.opl.length - q ∧ (q ≤ y93.opl.length) ∧ (bs119 ≤ x.heap.size) ∧ x.ownsRow w.heap.size 44 4 u12 Mk.length (Mk.flatMap entE) ∧ x.ownsRow 0 44 4 u X.length (X.flatMap entE) ∧ x.ownsRow 0 58 3 (y93.ops) y93.opl.length (y93.opl.flatMap opE) ∧ EntsK S w0.heap.size x X ∧ EntsK S w0.heap.size x Mk ∧ x.ownsRow bs119 58 3 u2 (kpL (fT h ((X.take (thM X n)).drop (i + 1))) (y93.opl.take q)).length ((kpL (fT h ((X.take (thM X n)).drop (i + 1))) (y93.opl.take q)).flatMap opE) ∧ But (S) w0 x ∧ Blk x b 36 #[.int .i64 ep, cv, .int .u64 fl, .int .u64 hz, u]) (y93.opl.length - 0) ?_ ?_
     · exact ⟨0, (.slice none 0 0), s.sub ⟨rfl, rfl, rfl, (slot_eq rfl (congrArg (Value.int .i64) (by first | (simp [kpL]; done) | omega))), rfl, rfl, rfl, (slot_eq rfl (congrArg (Value.int .i64) (by first | rfl | omega))), trivial⟩, rfl, by omega, by omega, hf34, hf35, hy94.row, hf36, hf37, (row_nilL _ _ _ _ _), hB38, hk39⟩
     · rintro k126 a127 w128 ⟨q, u2, s, rfl, hi129, hi130, hf131, hf132, hf133, hf134, hf135, hf136, hB137, hk138⟩
       have hz139 := hB137.size;have hl140 := hk138.lt;have hkl := kpL_le (fT h ((X.take (thM X n)).drop (i + 1))) (y93.opl.take q); rw [List.length_take] at hkl;refine q9 ?_;refine pk0 (v := .int .i64 (q : Int)) s rfl fun _ s => ?_;refine pk0 (v := u12) s rfl fun _ s => ?_;refine pk0 (v := .int .i64 (i : Int)) s rfl fun _ s => ?_;refine pk (v := pt (blkOf u12) (offOf u12 + i * 4)) s rfl (rn_index rfl rfl rfl Tryz.underlying32 Tryz.sizeOf44 (row_sl hf131 entE_len) (by omega) (by first | omega | (simp; done) | (simp; omega))) fun _ s => ?_;refine pk0 (v := pt (blkOf u12) (offOf u12 + i * 4)) s rfl fun _ s => ?_;refine pk0 (v := pt (blkOf u12) (offOf u12 + i * 4 + 2)) s rfl fun _ s => ?_;refine pk (v := y93.ops) s rfl (rn_load1 rfl rfl Tryz.isAgg40 ((sl_at (row_sl hf131 entE_len) hy93) 2 _ rfl)) fun _ s => ?_;refine pk (v := .int .i64 (y93.opl.length : Int)) s rfl (rn_lenOwn rfl rfl Tryz.underlying40 hf133) fun _ s => ?_;refine pk0 (v := .bool (decide ((q : Int) < (y93.opl.length : Int)))) s rfl fun _ s => q1 ?_;cases hc150 : (decide ((q : Int) < (y93.opl.length : Int)))
       ·
        rw [hc150] at s;have hp151 : ¬ ((q : Int) < (y93.opl.length : Int)) := of_decide_eq_false hc150;refine co_false s rfl <| wp_exit <| co_thenX <| co_thenX <| qx <| co_reg ?_;refine pk0 (v := u12) s rfl fun _ s => ?_;refine pk0 (v := .int .i64 (i : Int)) s rfl fun _ s => ?_;refine pk0 (v := u2) s rfl fun _ s => ?_;refine pk (v := pt (blkOf u12) (offOf u12 + i * 4)) s rfl (rn_index rfl rfl rfl Tryz.underlying32 Tryz.sizeOf44 (row_sl hf131 entE_len) (by omega) (by first | omega | (simp; done) | (simp; omega))) fun _ s => ?_;refine pk0 (v := pt (blkOf u12) (offOf u12 + i * 4)) s rfl fun _ s => ?_;refine pk0 (v := pt (blkOf u12) (offOf u12 + i * 4 + 2)) s rfl fun _ s => ?_;refine pwD s rfl (op_storeRow (c := i * 4 + 2) rfl rfl rfl (row_one hf136) Tryz.sizeOf40 hf131 (flat_lt entE_len (by first | omega | (simp; omega)) (by omega)) (by first | rfl | omega)) ?_;rintro _ w159 a158 ⟨hr160, hz161, hg162⟩ s;have hr160' := row_set (y' := (EntT.mk y93.client y93.req u2 (kpL (fT h ((X.take (thM X n)).drop (i + 1))) (y93.opl.take q)) y93.ts)) hr160 entE_len hy93 (by omega) rfl;have hz163 := hg162.size;have hE166 := hf135.row hf131 (by decide) hg162;have hy165 := EntsK.at hE166 hy93;have hr167 := row_kept_row hf136 hf131 hg162 (by decide);have hE164 := EntsK.set (i := i) (z := (EntT.mk y93.client y93.req u2 (kpL (fT h ((X.take (thM X n)).drop (i + 1))) (y93.opl.take q)) y93.ts)) hE166 ⟨row_lows hr167 (Nat.zero_le _), InS.low hr167 (by omega), Nat.le_trans (kpL_le _ _) (by rw [List.length_take]; omega), kpL_all (fun o ho => hy165.each o (List.mem_of_mem_take ho)), hy165.ts0, hy165.ts1, hy165.cl, hy165.rq⟩;refine pl_nil <| co_blockN <| co_then <| co_reg ?_;refine pk0 (v := .int .i64 (i : Int)) s rfl fun _ s => ?_;refine pk (v := .int .i64 ((i + 1 : Nat) : Int)) s rfl (rn_arith' rfl rfl rfl rfl rfl rfl (IntWalk.i64_in _ (by omega)) (by omega)) fun _ s => ?_;refine pk0 (v := .int .i64 ((i + 1 : Nat) : Int)) s rfl fun _ s => q1 ?_;refine ⟨(X.length - (i + 1)), by omega, ?_⟩;have hq0 : ltE h y93 = true := ltE_t (by omega) (by omega);have htk : List.take q y93.opl = y93.opl := List.take_of_length_le (by omega);have hi' := rt_yes (y' := (EntT.mk y93.client y93.req u2 (kpL (fT h ((X.take (thM X n)).drop (i + 1))) (y93.opl.take q)) y93.ts)) (by assumption : Mk.map e0 = (rtS X h (thM X n) i).map e0) hiM (by omega) hy93 hq0 (by simp only [e0, htk]);have hg' := rgD_yes (q := q) (by assumption : Mk.map e0 = (rtS X h (thM X n) i).map e0) hiM (by omega) hy93 hq0 (by omega) (by omega);have hr171 := row_kept_ap hf132 hf131 hu17 hg162;have hE172 := hf134.row hf131 (by decide) hg162;have hB173 := fbU_row hB137 (InS.low hf131 (by omega)) hg162;have hk174 := hk138.kept hg162 (own_neT hf131 hk138 (by decide));exact ⟨i + 1, (Mk.set i (EntT.mk y93.client y93.req u2 (kpL (fT h ((X.take (thM X n)).drop (i + 1))) (y93.opl.take q)) y93.ts)), s.sub ⟨rfl, rfl, rfl, (slot_eq rfl (congrArg (Value.int .i64) (by first | exact rgD_0 | (rw [hgj]; exact hg')))), rfl, rfl, trivial⟩, rfl, by omega, by first | exact hi' | (rw [rtS_0]; assumption), hr160', hr171, hE172, hE164, hB173, hk174⟩
       rw [hc150] at s;have hp175 : (q : Int) < (y93.opl.length : Int) := of_decide_eq_true hc150;refine co_true s rfl <| q0 <| co_seq <| wp_block <| q2 ?_;refine pk0 (v := pt b 4) s rfl fun _ s => ?_;refine pk0 (v := .int .i64 (i : Int)) s rfl fun _ s => ?_;refine pk0 (v := u12) s rfl fun _ s => ?_;refine pk0 (v := .int .i64 (i : Int)) s rfl fun _ s => ?_;refine pk (v := pt (blkOf u12) (offOf u12 + i * 4)) s rfl (rn_index rfl rfl rfl Tryz.underlying32 Tryz.sizeOf44 (row_sl hf131 entE_len) (by omega) (by first | omega | (simp; done) | (simp; omega))) fun _ s => ?_;refine pk0 (v := pt (blkOf u12) (offOf u12 + i * 4)) s rfl fun _ s => ?_;refine pk0 (v := pt (blkOf u12) (offOf u12 + i * 4 + 2)) s rfl fun _ s => ?_;refine pk (v := y93.ops) s rfl (rn_load1 rfl rfl Tryz.isAgg40 ((sl_at (row_sl hf131 entE_len) hy93) 2 _ rfl)) fun _ s => ?_;refine pk0 (v := .int .i64 (q : Int)) s rfl fun _ s => ?_;obtain ⟨y185, hy185⟩ : ∃ z, y93.opl[q]? = some z := ⟨_, List.getElem?_eq_getElem (by first | omega | (simp; done) | (simp; omega))⟩;refine pk (v := pt (blkOf (y93.ops)) (offOf (y93.ops) + q * 3)) s rfl (rn_index rfl rfl rfl Tryz.underlying40 Tryz.sizeOf58 (row_sl hf133 opE_len) (by omega) (by first | omega | (simp; done) | (simp; omega))) fun _ s => ?_;refine pk0 (v := pt (blkOf (y93.ops)) (offOf (y93.ops) + q * 3)) s rfl fun _ s => ?_;refine pk (v := .string y185.1) s rfl (rn_load1 rfl rfl Tryz.isAgg9 ((sl_at (row_sl hf133 opE_len) hy185) 0 _ rfl)) fun _ s => ?_;refine pk0 (v := .int .u64 h) s rfl fun _ s => ?_;refine pk0 (v := .int .i64 n) s rfl fun _ s => ?_;refine pw s rfl (op_call (args := #[pt b 4, .int .i64 (i : Int), .string y185.1, .int .u64 h, .int .i64 n]) (R := fun res xw => res = .bool (latB X i y185.1 h n) ∧ Below w128.heap.size w128 xw) rfl rfl rfl (by kernel_rfl) (by kernel_rfl) (Tryz.call72 _ _) (rLater30_any b ep cv fl hz u X i y185.1 h n w128 hk138 (row_sl hf132 entE_len) (entsK_got hf134) (fun z hz => (hf134 z hz).len) hO.len hiM hh hni) (by rintro e x ⟨rfl, hb193⟩; exact ⟨_, rfl, ⟨rfl, hb193⟩⟩)) ?_;rintro _ w192 a191 ⟨rfl, hb193⟩ s;have hz194 := hb193.size;refine q1 ?_;have hB196 := fbU_call hB137 hb193;cases hc195 : (latB X i y185.1 h n)
       ·
        rw [hc195] at s;refine co_false s rfl <| co_reg ?_;refine pk0 (v := u2) s rfl fun _ s => ?_;refine pk0 (v := u12) s rfl fun _ s => ?_;refine pk0 (v := .int .i64 (i : Int)) s rfl fun _ s => ?_;have hr200 := row_kept_new hf131 (below_grown hb193);refine pk (v := pt (blkOf u12) (offOf u12 + i * 4)) s rfl (rn_index rfl rfl rfl Tryz.underlying32 Tryz.sizeOf44 (row_sl hr200 entE_len) (by omega) (by first | omega | (simp; done) | (simp; omega))) fun _ s => ?_;refine pk0 (v := pt (blkOf u12) (offOf u12 + i * 4)) s rfl fun _ s => ?_;refine pk0 (v := pt (blkOf u12) (offOf u12 + i * 4 + 2)) s rfl fun _ s => ?_;refine pk (v := y93.ops) s rfl (rn_load1 rfl rfl Tryz.isAgg40 ((sl_at (row_sl hr200 entE_len) hy93) 2 _ rfl)) fun _ s => ?_;refine pk0 (v := .int .i64 (q : Int)) s rfl fun _ s => ?_;have hr206 := row_kept_new hf133 (below_grown hb193);refine pk (v := pt (blkOf (y93.ops)) (offOf (y93.ops) + q * 3)) s rfl (rn_index rfl rfl rfl Tryz.underlying40 Tryz.sizeOf58 (row_sl hr206 opE_len) (by omega) (by first | omega | (simp; done) | (simp; omega))) fun _ s => ?_;refine pk (v := .agg #[.string y185.1, .string y185.2.1, .bool y185.2.2]) s rfl (rn_loadN rfl rfl Tryz.underlying58 rfl (by kernel_rfl) (sl_at (row_sl hr206 opE_len) hy185)) fun _ s => ?_;refine pw s rfl (op_new (v := fun N => .slice (some ⟨N, 0, none⟩) 1 1) (T := 58) (cs := #[.string y185.1, .string y185.2.1, .bool y185.2.2]) (by kernel_rfl) (by kernel_rfl) (by kernel_rfl)) ?_;rintro _ w210 a209 ⟨N211, rfl, hN214, hz215, hk213, hg212⟩ s;have ha216 := row_fresh hr200 hN214;have hu217 := row_under hr200 hN214;have hr219 := row_kept_new hf132 (below_grown hb193);have ha218 := row_fresh hr219 hN214;have hu220 := row_under hr219 hN214;have ha221 := row_fresh hr206 hN214;have hu222 := row_under hr206 hN214;have hr224 := row_kept_new hf136 (below_grown hb193);have ha223 := row_fresh hr224 hN214;have hu225 := row_under hr224 hN214;have hz226 := hg212.size;have hE228 := hf134.new (below_grown hb193);have hu227 := EntsK.under hE228 hN214;have hE230 := hf135.new (below_grown hb193);have hu229 := EntsK.under hE230 hN214
        try dsimp only at s
        have hr237 := row_kept_new hr224 hg212;refine pw s rfl (op_append rfl bs119 58 (z := .agg #[.string (⟨#[]⟩), .string (⟨#[]⟩), .bool false]) (size := 3) (bytes := 40) Tryz.underlying40 (by kernel_rfl) rfl rfl rfl hr237 rfl hk213 rfl (by kernel_rfl) (by first | omega | (simp only [List.length_nil, List.length_append, List.length_cons, List.length_take, List.length_drop]; omega)) (by first | omega | (simp only [List.length_nil, List.length_append, List.length_cons, List.length_take, List.length_drop]; omega)) (by omega)) ?_;rintro v233 w232 a231 ⟨hr234, hg235⟩ s;have hr234' : w232.ownsRow bs119 58 3 v233 (((kpL (fT h ((X.take (thM X n)).drop (i + 1))) (y93.opl.take q)) ++ [(y185.1, y185.2.1, y185.2.2)]).length) (((kpL (fT h ((X.take (thM X n)).drop (i + 1))) (y93.opl.take q)) ++ [(y185.1, y185.2.1, y185.2.2)]).flatMap opE) := row_push (y := (y185.1, y185.2.1, y185.2.2)) hr234 rfl rfl;have hz238 := hg235.size;refine pk0 (v := v233) s rfl fun _ s => pl_nil <| co_blockN <| co_then <| co_reg ?_;refine pk0 (v := .int .i64 (q : Int)) s rfl fun _ s => ?_;refine pk (v := .int .i64 ((q + 1 : Nat) : Int)) s rfl (rn_arith' rfl rfl rfl rfl rfl rfl (IntWalk.i64_in _ (by omega)) (by omega)) fun _ s => ?_;refine pk0 (v := .int .i64 ((q + 1 : Nat) : Int)) s rfl fun _ s => q1 ?_;refine ⟨(y93.opl.length - (q + 1)), by omega, ?_⟩;have hlt : decide (fT h ((X.take (thM X n)).drop (i + 1)) y185.1 ≠ 0) = false := hc195;have hkq := kq_yes_len hy185 hlt;have hr243 := row_kept_new hr200 hg212;have hr244 := row_kept_ap hr243 hr237 hu120 hg235;have hr245 := row_kept_new hr219 hg212;have hr246 := row_kept_ap hr245 hr237 hu121 hg235;have hr247 := row_kept_new hr206 hg212;have hr248 := row_kept_ap hr247 hr237 hu122 hg235;have hE249 := hE228.new hg212;have hE250 := hE249.rowU hu124 hr237 hg235;have hE251 := hE230.new hg212;have hE252 := hE251.rowU hu123 hr237 hg235;have hB253 := fbU_new hB196 hg212;have hB254 := fbU_row hB253 (InS.low hr237 (by omega)) hg235;have hk255 := hk138.below hb193;have hk256 := hk255.kept hg212 (by simp);have hk257 := hk256.kept hg235 (own_neT hr237 hk256 (by decide));exact ⟨q + 1, v233, s.sub ⟨rfl, rfl, rfl, (slot_eq rfl (congrArg (Value.int .i64) (by first | (simp [kpL]; done) | omega))), rfl, rfl, rfl, rfl, trivial⟩, rfl, by omega, by omega, hr244, hr246, hr248, hE250, hE252, (row_eq hr234' (by first | rfl | exact kq_yes (by assumption) hlt | exact kq_no (by assumption) hlt)), hB254, hk257⟩
       rw [hc195] at s;refine co_true s rfl <| co_reg ?_;refine pk0 (v := .int .i64 (gj + ((q : Int) - ((kpL (fT h ((X.take (thM X n)).drop (i + 1))) (y93.opl.take q)).length : Int)))) s rfl fun _ s => ?_;refine pk (v := .int .i64 ((gj + ((q : Int) - ((kpL (fT h ((X.take (thM X n)).drop (i + 1))) (y93.opl.take q)).length : Int))) + 1)) s rfl (rn_arith rfl rfl rfl rfl rfl rfl (IntWalk.i64_in _ (by omega))) fun _ s => ?_;refine pk0 (v := .int .i64 ((gj + ((q : Int) - ((kpL (fT h ((X.take (thM X n)).drop (i + 1))) (y93.opl.take q)).length : Int))) + 1)) s rfl fun _ s => pl_nil <| co_blockN <| co_then <| co_reg ?_;refine pk0 (v := .int .i64 (q : Int)) s rfl fun _ s => ?_;refine pk (v := .int .i64 ((q + 1 : Nat) : Int)) s rfl (rn_arith' rfl rfl rfl rfl rfl rfl (IntWalk.i64_in _ (by omega)) (by omega)) fun _ s => ?_;refine pk0 (v := .int .i64 ((q + 1 : Nat) : Int)) s rfl fun _ s => q1 ?_;refine ⟨(y93.opl.length - (q + 1)), by omega, ?_⟩;have hlt : decide (fT h ((X.take (thM X n)).drop (i + 1)) y185.1 ≠ 0) = true := hc195;have hkq := kq_no_len hy185 hlt;have hr264 := row_kept_new hf131 (below_grown hb193);have hr265 := row_kept_new hf132 (below_grown hb193);have hr266 := row_kept_new hf133 (below_grown hb193);have hE267 := hf134.new (below_grown hb193);have hE268 := hf135.new (below_grown hb193);have hr269 := row_kept_new hf136 (below_grown hb193);have hk270 := hk138.below hb193;exact ⟨q + 1, u2, s.sub ⟨rfl, rfl, rfl, (slot_eq rfl (congrArg (Value.int .i64) (by first | (simp [kpL]; done) | omega))), rfl, rfl, rfl, rfl, trivial⟩, rfl, by omega, by omega, hr264, hr265, hr266, hE267, hE268, (row_eq hr269 (by first | rfl | exact kq_yes (by assumption) hlt | exact kq_no (by assumption) hlt)), hB196, hk270⟩
    rw [hc115] at s;have hp271 : y93.ts > h := of_decide_eq_true hc115;refine co_true s rfl <| wp_exit <| co_thenX <| qx <| co_reg ?_;refine pk0 (v := .int .i64 (i : Int)) s rfl fun _ s => ?_;refine pk (v := .int .i64 ((i + 1 : Nat) : Int)) s rfl (rn_arith' rfl rfl rfl rfl rfl rfl (IntWalk.i64_in _ (by omega)) (by omega)) fun _ s => ?_;refine pk0 (v := .int .i64 ((i + 1 : Nat) : Int)) s rfl fun _ s => q1 ?_;refine ⟨(X.length - (i + 1)), by omega, ?_⟩;have hiM := thM_lt (X := X) (n := n) (i := i) (by omega) (by omega);have hq0 : ltE h y93 = false := ltE_f (by omega);have hi' := rt_no (by assumption : Mk.map e0 = (rtS X h (thM X n) i).map e0) hiM (by omega) hy93 hq0;have hg' := rgD_no (by assumption : Mk.map e0 = (rtS X h (thM X n) i).map e0) hiM (by omega) hy93 hq0;exact ⟨i + 1, Mk, s.sub ⟨rfl, rfl, rfl, (slot_eq rfl (congrArg (Value.int .i64) (by first | exact rgD_0 | (rw [hgj]; exact hg')))), rfl, rfl, trivial⟩, rfl, by omega, by first | exact hi' | (rw [rtS_0]; assumption), hf34, hf35, hf36, hf37, hB38, hk39⟩
   rw [hc105] at s;have hp275 : y93.ts = 0 := by first | simpa using hc105 | simpa [and_assoc] using hc105
   refine psk s rfl fun _ s => ?_;refine psk s rfl fun _ s => ?_;refine psk s rfl fun _ s => ?_;refine psk s rfl fun _ s => ?_;refine psk s rfl fun _ s => ?_;refine psk s rfl fun _ s => ?_;refine psk s rfl fun _ s => ?_;refine pk0 (v := .bool true) s rfl fun _ s => q1 ?_;refine co_true s rfl <| wp_exit <| co_thenX <| qx <| co_reg ?_;refine pk0 (v := .int .i64 (i : Int)) s rfl fun _ s => ?_;refine pk (v := .int .i64 ((i + 1 : Nat) : Int)) s rfl (rn_arith' rfl rfl rfl rfl rfl rfl (IntWalk.i64_in _ (by omega)) (by omega)) fun _ s => ?_;refine pk0 (v := .int .i64 ((i + 1 : Nat) : Int)) s rfl fun _ s => q1 ?_;refine ⟨(X.length - (i + 1)), by omega, ?_⟩;have hiM := thM_lt (X := X) (n := n) (i := i) (by omega) (by omega);have hq0 : ltE h y93 = false := ltE_f (by omega);have hi' := rt_no (by assumption : Mk.map e0 = (rtS X h (thM X n) i).map e0) hiM (by omega) hy93 hq0;have hg' := rgD_no (by assumption : Mk.map e0 = (rtS X h (thM X n) i).map e0) hiM (by omega) hy93 hq0;exact ⟨i + 1, Mk, s.sub ⟨rfl, rfl, rfl, (slot_eq rfl (congrArg (Value.int .i64) (by first | exact rgD_0 | (rw [hgj]; exact hg')))), rfl, rfl, trivial⟩, rfl, by omega, by first | exact hi' | (rw [rtS_0]; assumption), hf34, hf35, hf36, hf37, hB38, hk39⟩
end Go.Proofs.YtniojcnkjehflaaGreat

/- The document's log in its state: Find, Top. Conditions: none. -/
namespace Go.Proofs.YtniojcnkjehflaaGreat
open Go.RowKit Go.PlainAid
set_option linter.unusedVariables false
set_option linter.unusedSimpArgs false

section
variable {L X A B : List EntT} {i : Nat} {y z : EntT} {c r a : Int}
theorem fnd_hit (h0 : findN (L.take i) (c, r) = none) (hy : L[i]? = some y) (h : y.client = c ∧ y.req = r) : ((i : Nat) : Int) = fndI L c r := by
  have h1 : findN (L.take (i + 1)) (c, r) = some ((i : Nat) : Int) := by
    have hl := (List.getElem?_eq_some_iff.1 hy).1
    have := findN_snoc (A := L.take i) (e := y) (by rw [nmE_y h]; exact h0)
    rw [takeE hy, this, nmE_y h]; simp; omega
  have h2 : findN L (c, r) = some ((i : Nat) : Int) := by
    unfold findN at h1 ⊢
    rw [← List.take_append_drop (i + 1) L, List.map_append, List.findIdx?_append]
    rw [Option.map_eq_some_iff] at h1
    obtain ⟨k, hk, e⟩ := h1
    rw [hk]; simp; omega
  unfold fndI; rw [h2]; rfl
theorem fnd_end (h0 : findN (L.take i) (c, r) = none) (h : L.length ≤ i) : -1 = fndI L c r := by
  rw [List.take_of_length_le h] at h0; unfold fndI; rw [h0]; rfl
end

set_option maxRecDepth 100000 in
theorem rFind30_any (b : Nat) (ep : Int) (cv : Value) (fl : Int) (hz : Int) (u : Value) (l : List EntT) (c : Int) (r : Int) (w : World) (hD : Blk w b 36 #[.int .i64 ep, cv, .int .u64 fl, .int .u64 hz, u]) (hs : SliceOf entE 4 w u l) (hok : ∀ z ∈ l, EntOk w z) :
    Calls Tryz.prog 40 #[pt b 4, .int .i64 c, .int .i64 r] w fun e w' => e = .returned (.int .i64 (fndI l c r)) ∧ Below w.heap.size w w' := by
 have hB0 := Below.refl w.heap.size w;have hl_hD := hD.lt;have hl_hs := sl_len hs;refine co_enter (n := 42) Tryz.func40 rfl rfl rfl [(0, pt b 4), (1, .int .i64 c), (2, .int .i64 r)] rfl (fun a s => ?_);refine q2 ?_;refine pk0 (v := .int .i64 0) s rfl fun _ s => q6 ?_;refine pk0 (v := .int .i64 0) s rfl fun _ s => q1 <| wp_block ?_;have s : Slots 42 [(0, pt b 4), (1, .int .i64 c), (2, .int .i64 r), (7, .int .i64 0)] _ := s.sub ⟨rfl, rfl, rfl, rfl, trivial⟩;refine co_loop (fun mm a x => ∃ (i : Nat), Slots 42 [(0, pt b 4), (1, .int .i64 c), (2, .int .i64 r), (7, .int .i64 (i : Int))] a ∧ mm = l.length - i ∧ (i ≤ l.length) ∧ (findN (l.take i) (c, r) = none) ∧ Below w.heap.size w x ∧ Blk x b 36 #[.int .i64 ep, cv, .int .u64 fl, .int .u64 hz, u]) (l.length - 0) ?_ ?_
 · exact ⟨0, s.sub ⟨rfl, rfl, rfl, (slot_eq rfl (congrArg (Value.int .i64) (by first | rfl | omega))), trivial⟩, rfl, by omega, by first | exact hn' | exact findN_nil _, hB0, hD⟩
 · rintro k4 a5 w6 ⟨i, s, rfl, hi7, hi8, hB9, hk10⟩
   have hz11 := hB9.size;have hl12 := hk10.lt;refine q9 ?_;refine pk0 (v := .int .i64 (i : Int)) s rfl fun _ s => ?_;refine pk0 (v := pt b 4) s rfl fun _ s => ?_;refine pk0 (v := pt b 4) s rfl fun _ s => ?_;refine pk0 (v := pt b 4) s rfl fun _ s => ?_;refine pk (v := u) s rfl (rn_load1 rfl rfl Tryz.isAgg32 (hk10.cell rfl)) fun _ s => ?_;refine pk (v := .int .i64 (l.length : Int)) s rfl (rn_len rfl rfl Tryz.underlying32 (hs.below hB9)) fun _ s => ?_;refine pk0 (v := .bool (decide ((i : Int) < (l.length : Int)))) s rfl fun _ s => q1 ?_;cases hc20 : (decide ((i : Int) < (l.length : Int)))
   ·
    rw [hc20] at s;have hp21 : ¬ ((i : Int) < (l.length : Int)) := of_decide_eq_false hc20;refine co_false s rfl <| wp_exit <| co_thenX <| co_thenX <| qx <| q2 ?_;refine pk0 (v := .int .i64 (-1)) s rfl fun _ s => q4 ?_;refine co_ret1 s rfl rfl ?_;exact ⟨ret_int (by first | exact fnd_end (by assumption) (by omega) | exact fnd_hit (by assumption) rfl (by omega)), hB9⟩
   rw [hc20] at s;have hp23 : (i : Int) < (l.length : Int) := of_decide_eq_true hc20;refine co_true s rfl <| q0 <| co_seq <| wp_block <| q2 ?_;refine pk0 (v := pt b 4) s rfl fun _ s => ?_;refine pk0 (v := pt b 4) s rfl fun _ s => ?_;refine pk0 (v := pt b 4) s rfl fun _ s => ?_;refine pk (v := u) s rfl (rn_load1 rfl rfl Tryz.isAgg32 (hk10.cell rfl)) fun _ s => ?_;refine pk0 (v := .int .i64 (i : Int)) s rfl fun _ s => ?_;obtain ⟨y29, hy29⟩ : ∃ z, l[i]? = some z := ⟨_, List.getElem?_eq_getElem (by first | omega | (simp; done) | (simp; omega))⟩;have oky29 := hok _ (List.mem_of_getElem? hy29);have k30 : 0 ≤ y29.ts := oky29.ts0;have k31 : y29.ts < 18446744073709551616 := oky29.ts1;have hq32 := wf_i64 oky29.rq;refine pk (v := pt (blkOf u) (offOf u + i * 4)) s rfl (rn_index rfl rfl rfl Tryz.underlying32 Tryz.sizeOf44 (hs.below hB9) (by omega) (by first | omega | (simp; done) | (simp; omega))) fun _ s => ?_;refine pk0 (v := pt (blkOf u) (offOf u + i * 4)) s rfl fun _ s => ?_;refine pk0 (v := pt (blkOf u) (offOf u + i * 4)) s rfl fun _ s => ?_;refine pk (v := .int .i64 y29.client) s rfl (rn_load1 rfl rfl Tryz.isAgg3 ((sl_at (hs.below hB9) hy29) 0 _ rfl)) fun _ s => ?_;refine pk0 (v := .int .i64 c) s rfl fun _ s => ?_;refine pk0 (v := .bool (y29.client == c)) s rfl fun _ s => ?_;refine pk0 (v := .bool (y29.client == c)) s rfl fun _ s => ?_;cases hc40 : (y29.client == c)
   ·
    rw [hc40] at s;have hp41 : ¬ (y29.client = c) := by first | simpa using hc40 | simpa [and_assoc] using hc40
    refine psk s rfl fun _ s => ?_;refine psk s rfl fun _ s => ?_;refine psk s rfl fun _ s => ?_;refine psk s rfl fun _ s => ?_;refine psk s rfl fun _ s => ?_;refine psk s rfl fun _ s => ?_;refine psk s rfl fun _ s => ?_;refine psk s rfl fun _ s => ?_;refine psk s rfl fun _ s => ?_;refine psk s rfl fun _ s => ?_;refine psk s rfl fun _ s => ?_;refine pk0 (v := .bool false) s rfl fun _ s => q1 ?_;refine co_false s rfl <| wp_skip <| co_blockN <| co_then <| co_reg ?_;refine pk0 (v := .int .i64 (i : Int)) s rfl fun _ s => ?_;refine pk (v := .int .i64 ((i + 1 : Nat) : Int)) s rfl (rn_arith' rfl rfl rfl rfl rfl rfl (IntWalk.i64_in _ (by omega)) (by omega)) fun _ s => ?_;refine pk0 (v := .int .i64 ((i + 1 : Nat) : Int)) s rfl fun _ s => q1 ?_;refine ⟨(l.length - (i + 1)), by omega, ?_⟩;have hn' := findN_next (by assumption : findN (l.take i) (c, r) = none) hy29 (nmE_n (by omega));exact ⟨i + 1, s.sub ⟨rfl, rfl, rfl, rfl, trivial⟩, rfl, by omega, by first | exact hn' | exact findN_nil _, hB9, hk10⟩
   rw [hc40] at s;have hp57 : y29.client = c := by first | simpa using hc40 | simpa [and_assoc] using hc40
   refine pk0 (v := pt b 4) s rfl fun _ s => ?_;refine pk0 (v := pt b 4) s rfl fun _ s => ?_;refine pk0 (v := pt b 4) s rfl fun _ s => ?_;refine pk (v := u) s rfl (rn_load1 rfl rfl Tryz.isAgg32 (hk10.cell rfl)) fun _ s => ?_;refine pk0 (v := .int .i64 (i : Int)) s rfl fun _ s => ?_;refine pk (v := pt (blkOf u) (offOf u + i * 4)) s rfl (rn_index rfl rfl rfl Tryz.underlying32 Tryz.sizeOf44 (hs.below hB9) (by omega) (by first | omega | (simp; done) | (simp; omega))) fun _ s => ?_;refine pk0 (v := pt (blkOf u) (offOf u + i * 4)) s rfl fun _ s => ?_;refine pk0 (v := pt (blkOf u) (offOf u + i * 4 + 1)) s rfl fun _ s => ?_;refine pk (v := .int .i64 y29.req) s rfl (rn_load1 rfl rfl Tryz.isAgg3 ((sl_at (hs.below hB9) hy29) 1 _ rfl)) fun _ s => ?_;refine pk0 (v := .int .i64 r) s rfl fun _ s => ?_;refine pk0 (v := .bool (y29.req == r)) s rfl fun _ s => ?_;refine pk0 (v := .bool (y29.req == r)) s rfl fun _ s => q1 ?_;cases hc70 : (y29.req == r)
   ·
    rw [hc70] at s;have hp71 : ¬ (y29.req = r) := by first | simpa using hc70 | simpa [and_assoc] using hc70
    refine co_false s rfl <| wp_skip <| co_blockN <| co_then <| co_reg ?_;refine pk0 (v := .int .i64 (i : Int)) s rfl fun _ s => ?_;refine pk (v := .int .i64 ((i + 1 : Nat) : Int)) s rfl (rn_arith' rfl rfl rfl rfl rfl rfl (IntWalk.i64_in _ (by omega)) (by omega)) fun _ s => ?_;refine pk0 (v := .int .i64 ((i + 1 : Nat) : Int)) s rfl fun _ s => q1 ?_;refine ⟨(l.length - (i + 1)), by omega, ?_⟩;have hn' := findN_next (by assumption : findN (l.take i) (c, r) = none) hy29 (nmE_n (by omega));exact ⟨i + 1, s.sub ⟨rfl, rfl, rfl, rfl, trivial⟩, rfl, by omega, by first | exact hn' | exact findN_nil _, hB9, hk10⟩
   rw [hc70] at s;have hp75 : y29.req = r := by first | simpa using hc70 | simpa [and_assoc] using hc70
   refine co_true s rfl <| q2 ?_;refine pk0 (v := .int .i64 (i : Int)) s rfl fun _ s => ?_;refine pk0 (v := .int .i64 (i : Int)) s rfl fun _ s => q4 <| qr <| co_thenR <| qr ?_;refine co_ret1 s rfl rfl ?_;exact ⟨ret_int (by first | exact fnd_end (by assumption) (by omega) | exact fnd_hit (by assumption) hy29 (by omega)), hB9⟩
set_option maxRecDepth 100000 in
theorem rTop30_any (b : Nat) (ep : Int) (cv : Value) (fl : Int) (hz : Int) (u : Value) (l : List EntT) (c : Int) (w : World) (hD : Blk w b 36 #[.int .i64 ep, cv, .int .u64 fl, .int .u64 hz, u]) (hs : SliceOf entE 4 w u l) (hok : ∀ z ∈ l, EntOk w z) :
    Calls Tryz.prog 38 #[pt b 4, .int .i64 c] w fun e w' => e = .returned (.int .i64 (topN l c)) ∧ Below w.heap.size w w' := by
 have hB0 := Below.refl w.heap.size w;have hl_hD := hD.lt;have hl_hs := sl_len hs;refine co_enter (n := 39) Tryz.func38 rfl rfl rfl [(0, pt b 4), (1, .int .i64 c)] rfl (fun a s => ?_);refine q2 ?_;refine pk0 (v := .int .i64 0) s rfl fun _ s => q3 ?_;refine pk0 (v := .int .i64 0) s rfl fun _ s => q6 ?_;refine pk0 (v := .int .i64 0) s rfl fun _ s => q1 <| wp_block ?_;have s : Slots 39 [(0, pt b 4), (1, .int .i64 c), (5, .int .i64 0), (6, .int .i64 0)] _ := s.sub ⟨rfl, rfl, rfl, rfl, trivial⟩;refine co_loop (fun mm a x => ∃ (i : Nat), Slots 39 [(0, pt b 4), (1, .int .i64 c), (5, .int .i64 (topN (l.take i) c)), (6, .int .i64 (i : Int))] a ∧ mm = l.length - i ∧ (i ≤ l.length) ∧ Below w.heap.size w x ∧ Blk x b 36 #[.int .i64 ep, cv, .int .u64 fl, .int .u64 hz, u]) (l.length - 0) ?_ ?_
 · exact ⟨0, s.sub ⟨rfl, rfl, (slot_eq rfl (congrArg (Value.int .i64) (by first | rfl | (rw [topN_at (by assumption)]; first | (rw [if_pos (by omega)]; first | rfl | assumption | omega | (split <;> omega)) | (rw [if_neg (by omega)]))))), (slot_eq rfl (congrArg (Value.int .i64) (by first | rfl | omega))), trivial⟩, rfl, by omega, hB0, hD⟩
 · rintro k5 a6 w7 ⟨i, s, rfl, hi8, hB9, hk10⟩
   have hz11 := hB9.size;have hl12 := hk10.lt;refine q9 ?_;refine pk0 (v := .int .i64 (i : Int)) s rfl fun _ s => ?_;refine pk0 (v := pt b 4) s rfl fun _ s => ?_;refine pk0 (v := pt b 4) s rfl fun _ s => ?_;refine pk0 (v := pt b 4) s rfl fun _ s => ?_;refine pk (v := u) s rfl (rn_load1 rfl rfl Tryz.isAgg32 (hk10.cell rfl)) fun _ s => ?_;refine pk (v := .int .i64 (l.length : Int)) s rfl (rn_len rfl rfl Tryz.underlying32 (hs.below hB9)) fun _ s => ?_;refine pk0 (v := .bool (decide ((i : Int) < (l.length : Int)))) s rfl fun _ s => q1 ?_;cases hc20 : (decide ((i : Int) < (l.length : Int)))
   ·
    rw [hc20] at s;have hp21 : ¬ ((i : Int) < (l.length : Int)) := of_decide_eq_false hc20;refine co_false s rfl <| wp_exit <| co_thenX <| co_thenX <| qx <| q2 ?_;refine pk0 (v := .int .i64 (topN (l.take i) c)) s rfl fun _ s => ?_;refine pk0 (v := .int .i64 (topN (l.take i) c)) s rfl fun _ s => q4 ?_;refine co_ret1 s rfl rfl ?_;exact ⟨by rw [List.take_of_length_le (by omega)], hB9⟩
   rw [hc20] at s;have hp24 : (i : Int) < (l.length : Int) := of_decide_eq_true hc20;refine co_true s rfl <| q0 <| co_seq <| wp_block <| q2 ?_;refine pk0 (v := pt b 4) s rfl fun _ s => ?_;refine pk0 (v := pt b 4) s rfl fun _ s => ?_;refine pk0 (v := pt b 4) s rfl fun _ s => ?_;refine pk (v := u) s rfl (rn_load1 rfl rfl Tryz.isAgg32 (hk10.cell rfl)) fun _ s => ?_;refine pk0 (v := .int .i64 (i : Int)) s rfl fun _ s => ?_;obtain ⟨y30, hy30⟩ : ∃ z, l[i]? = some z := ⟨_, List.getElem?_eq_getElem (by first | omega | (simp; done) | (simp; omega))⟩;have oky30 := hok _ (List.mem_of_getElem? hy30);have k31 : 0 ≤ y30.ts := oky30.ts0;have k32 : y30.ts < 18446744073709551616 := oky30.ts1;have hq33 := wf_i64 oky30.rq;refine pk (v := pt (blkOf u) (offOf u + i * 4)) s rfl (rn_index rfl rfl rfl Tryz.underlying32 Tryz.sizeOf44 (hs.below hB9) (by omega) (by first | omega | (simp; done) | (simp; omega))) fun _ s => ?_;refine pk0 (v := pt (blkOf u) (offOf u + i * 4)) s rfl fun _ s => ?_;refine pk0 (v := pt (blkOf u) (offOf u + i * 4)) s rfl fun _ s => ?_;refine pk (v := .int .i64 y30.client) s rfl (rn_load1 rfl rfl Tryz.isAgg3 ((sl_at (hs.below hB9) hy30) 0 _ rfl)) fun _ s => ?_;refine pk0 (v := .int .i64 c) s rfl fun _ s => ?_;refine pk0 (v := .bool (y30.client == c)) s rfl fun _ s => q1 ?_;cases hc40 : (y30.client == c)
   ·
    rw [hc40] at s;have hp41 : ¬ (y30.client = c) := by first | simpa using hc40 | simpa [and_assoc] using hc40
    refine co_false s rfl <| wp_skip <| co_blockN <| co_then <| co_reg ?_;refine pk0 (v := .int .i64 (i : Int)) s rfl fun _ s => ?_;refine pk (v := .int .i64 ((i + 1 : Nat) : Int)) s rfl (rn_arith' rfl rfl rfl rfl rfl rfl (IntWalk.i64_in _ (by omega)) (by omega)) fun _ s => ?_;refine pk0 (v := .int .i64 ((i + 1 : Nat) : Int)) s rfl fun _ s => q1 ?_;refine ⟨(l.length - (i + 1)), by omega, ?_⟩;exact ⟨i + 1, s.sub ⟨rfl, rfl, (slot_eq rfl (congrArg (Value.int .i64) (by first | rfl | (rw [topN_at (by assumption)]; first | (rw [if_pos (by omega)]; first | rfl | assumption | omega | (split <;> omega)) | (rw [if_neg (by omega)]))))), rfl, trivial⟩, rfl, by omega, hB9, hk10⟩
   rw [hc40] at s;have hp45 : y30.client = c := by first | simpa using hc40 | simpa [and_assoc] using hc40
   refine co_true s rfl <| co_reg ?_;refine pk0 (v := .int .i64 (topN (l.take i) c)) s rfl fun _ s => ?_;refine pk0 (v := pt b 4) s rfl fun _ s => ?_;refine pk0 (v := pt b 4) s rfl fun _ s => ?_;refine pk0 (v := pt b 4) s rfl fun _ s => ?_;refine pk (v := u) s rfl (rn_load1 rfl rfl Tryz.isAgg32 (hk10.cell rfl)) fun _ s => ?_;refine pk0 (v := .int .i64 (i : Int)) s rfl fun _ s => ?_;refine pk (v := pt (blkOf u) (offOf u + i * 4)) s rfl (rn_index rfl rfl rfl Tryz.underlying32 Tryz.sizeOf44 (hs.below hB9) (by omega) (by first | omega | (simp; done) | (simp; omega))) fun _ s => ?_;refine pk0 (v := pt (blkOf u) (offOf u + i * 4)) s rfl fun _ s => ?_;refine pk0 (v := pt (blkOf u) (offOf u + i * 4 + 1)) s rfl fun _ s => ?_;refine pk (v := .int .i64 y30.req) s rfl (rn_load1 rfl rfl Tryz.isAgg3 ((sl_at (hs.below hB9) hy30) 1 _ rfl)) fun _ s => ?_;obtain ⟨kp56, hkp57⟩ : ∃ z : Int, z = (if topN (l.take i) c < y30.req then y30.req else topN (l.take i) c) := ⟨_, rfl⟩;have hq58 : kp56 ≥ topN (l.take i) c ∧ kp56 ≥ y30.req ∧ (kp56 = topN (l.take i) c ∨ kp56 = y30.req) := by rw [hkp57]; split <;> omega
   refine pk (v := .int .i64 kp56) s rfl (by rw [hkp57]; kernel_rfl) fun _ s => ?_;refine pk0 (v := .int .i64 kp56) s rfl fun _ s => pl_nil <| co_blockN <| co_then <| co_reg ?_;refine pk0 (v := .int .i64 (i : Int)) s rfl fun _ s => ?_;refine pk (v := .int .i64 ((i + 1 : Nat) : Int)) s rfl (rn_arith' rfl rfl rfl rfl rfl rfl (IntWalk.i64_in _ (by omega)) (by omega)) fun _ s => ?_;refine pk0 (v := .int .i64 ((i + 1 : Nat) : Int)) s rfl fun _ s => q1 ?_;refine ⟨(l.length - (i + 1)), by omega, ?_⟩;exact ⟨i + 1, s.sub ⟨rfl, rfl, (slot_eq rfl (congrArg (Value.int .i64) (by first | rfl | (rw [topN_at (by assumption)]; first | (rw [if_pos (by omega)]; first | rfl | assumption | omega | (split <;> omega)) | (rw [if_neg (by omega)]))))), rfl, trivial⟩, rfl, by omega, hB9, hk10⟩
end Go.Proofs.YtniojcnkjehflaaGreat

/- The document's log in its state as an object; Set, Stamp, Thin. Conditions: at most 100 entries, 20 operations each. -/
namespace Go.Proofs.YtniojcnkjehflaaGreat
open Go.RowKit Go.PlainAid
set_option linter.unusedVariables false
set_option linter.unusedSimpArgs false

/-- The entries of a log: all that they have lies in S. -/
def RgR (S : Nat → Prop) (w : World) (u : Value) (X : List EntT) : Prop :=
  (∀ q, S q → q < w.heap.size) ∧ w.ownsRow 0 44 4 u X.length (X.flatMap entE) ∧ EntsK S w.heap.size w X ∧ InS S w.heap.size u ∧ X.length ≤ 100
/-- With the state's block, at b. -/
def RgB (T : Nat → Prop) (w : World) (b : Nat) (ep : Int) (cv : Value) (fl hz : Int) (u : Value) (X : List EntT) : Prop :=
  ∃ S : Nat → Prop, (∀ q, T q ↔ (q = b ∨ S q)) ∧ ¬ S b ∧ Blk w b 36 #[.int .i64 ep, cv, .int .u64 fl, .int .u64 hz, u] ∧ RgR S w u X
section
variable {S S' D T A : Nat → Prop} {n : Nat} {w x : World} {b d : Nat} {u v cv : Value} {L X : List EntT} {ep fl hz : Int}
theorem RgR.ofS (h : RgR S w u X) : ∀ q, S q → q < w.heap.size := h.1
theorem RgR.keep (h : RgR S w u X) (hs : w.heap.size ≤ x.heap.size) (hk : ∀ q, S q → x.heap[q]? = w.heap[q]?) : RgR S x u X := by
  obtain ⟨hS, hr, he, hi, hl⟩ := h
  have up : ∀ {v : Value}, (∀ i, v.ownBlock = some i → S i) → InS S x.heap.size v := fun hv i hi => .inl (hv i hi)
  refine ⟨fun q hq => by have := hS q hq; omega, row_sameL hr (fun i j => hk i (ins_in hi hr i j)), fun e hm => ?_, up (ins_in hi hr), hl⟩
  have k := he e hm
  exact ⟨row_sameL k.row (fun i j => hk i (ins_in k.ins k.row i j)), up (ins_in k.ins k.row), k.len, k.each, k.ts0, k.ts1, k.cl, k.rq⟩
theorem RgR.gr {row : Option Nat} (h : RgR S w u X) (hg : w.grownBy x row) (hr : ∀ k, row = some k → ¬ S k) : RgR S x u X := h.keep hg.size fun k hk => hg.block k (h.1 k hk) (fun e => hr k e.symm hk)
theorem RgR.but (h : RgR S w u X) (hb : But D w x) (hd : ∀ q, S q → D q → False) : RgR S x u X := h.keep hb.size fun k hk => hb.block k (h.1 k hk) (fun q => hd k hk q)
theorem RgR.sl (h : RgR S w u X) : SliceOf entE 4 w u X := row_sl h.2.1 entE_len
theorem RgR.ok (h : RgR S w u X) : ∀ z ∈ X, EntOk w z := entsK_got h.2.2.1
theorem RgB.ofS (h : RgB T w b ep cv fl hz u X) : ∀ q, T q → q < w.heap.size := fun q hq => by
  obtain ⟨S, h1, h2, h3, h4⟩ := h
  rcases (h1 q).1 hq with rfl | k
  · exact h3.lt
  · exact h4.1 q k
theorem RgB.keep (h : RgB T w b ep cv fl hz u X) (hs : w.heap.size ≤ x.heap.size) (hk : ∀ q, T q → x.heap[q]? = w.heap[q]?) : RgB T x b ep cv fl hz u X := by
  obtain ⟨S, h1, h2, h3, h4⟩ := h
  refine ⟨S, h1, h2, ?_, h4.keep hs fun q hq => hk q ((h1 q).2 (.inr hq))⟩
  unfold Blk at h3 ⊢; rw [hk b ((h1 b).2 (.inl rfl))]; exact h3
theorem RgB.gr {row : Option Nat} (h : RgB T w b ep cv fl hz u X) (hg : w.grownBy x row) (hr : ∀ k, row = some k → ¬ T k) : RgB T x b ep cv fl hz u X := h.keep hg.size fun k hk => hg.block k (h.ofS k hk) (fun e => hr k e.symm hk)
theorem RgB.but (h : RgB T w b ep cv fl hz u X) (hb : But D w x) (hd : ∀ q, T q → D q → False) : RgB T x b ep cv fl hz u X := h.keep hb.size fun k hk => hb.block k (h.ofS k hk) (fun q => hd k hk q)
theorem RgB.mk' (hb : Blk w b 36 #[.int .i64 ep, cv, .int .u64 fl, .int .u64 hz, u]) (h : RgR S w u X) (hn : ¬ S b) : RgB (fun q => q = b ∨ S q) w b ep cv fl hz u X := ⟨S, fun q => Iff.rfl, hn, hb, h⟩
theorem RgB.to (h : RgB T w b ep cv fl hz u X) : RgQ T w.heap.size w b ep cv fl hz u X := by
  obtain ⟨S, h1, h2, h3, h4⟩ := h
  have up : ∀ {n : Nat} {v : Value}, InS S n v → InS T n v := fun hv i hi => (hv i hi).imp (fun j => (h1 i).2 (.inr j)) id
  exact ⟨h3, h4.2.1, fun e he => by have k := h4.2.2.1 e he; exact ⟨k.row, up k.ins, k.len, k.each, k.ts0, k.ts1, k.cl, k.rq⟩, .inl ((h1 b).2 (.inl rfl)), up h4.2.2.2.1, h4.2.2.2.2⟩
theorem RgQ.fin (h : RgQ T n w b ep cv fl hz u X) : RgB (fun q => (T q ∨ n ≤ q) ∧ q < w.heap.size) w b ep cv fl hz u X := by
  refine ⟨fun q => ((T q ∨ n ≤ q) ∧ q < w.heap.size) ∧ q ≠ b, fun q => ⟨fun hq => ?_, fun hq => ?_⟩, fun hq => hq.2 rfl, h.blk, fun q hq => hq.1.2, h.row, fun e he => ?_, fun i hi => .inl ⟨⟨h.su i hi, (h.row.lt i hi).2⟩, fun e => own_neT h.row h.blk (by decide) (e ▸ hi)⟩, h.len⟩
  · by_cases e : q = b
    · exact .inl e
    · exact .inr ⟨hq, e⟩
  · rcases hq with rfl | hq
    · exact ⟨h.sb, h.blk.lt⟩
    · exact hq.1
  · have k := h.ents e he
    exact ⟨k.row, fun i hi => .inl ⟨⟨k.ins i hi, (k.row.lt i hi).2⟩, fun e => own_neT k.row h.blk (by decide) (e ▸ hi)⟩, k.len, k.each, k.ts0, k.ts1, k.cl, k.rq⟩
theorem gSet (w : World) (i c r : Int) (v : Value) (l : List OpT) (ts : Int) (h : RgB T w b ep cv fl hz u X) (hs : SliceOf opE 3 w v l) (hvS : l ≠ [] → ∀ k, v.ownBlock = some k → ¬ T k) (hlen : l.length ≤ 20) (hts : 0 ≤ ts ∧ ts < 18446744073709551616) (hen : (∀ o ∈ l, opOk o) ∧ (Lit.int .i64 c).wf = true ∧ (Lit.int .i64 r).wf = true) :
    Calls Tryz.prog 27 #[pt b 4, .int .i64 i, .agg #[.int .i64 c, .int .i64 r, v, .int .u64 ts]] w fun e w' => ∃ (u' : Value) (X' : List EntT) (T' : Nat → Prop), e = .returned (.int .i64 (setE X i c r l ts)) ∧ RgB T' w' b ep cv fl hz u' X' ∧ X'.map e0 = (setL X i c r l ts).map e0 ∧ Grew T T' w w' :=
  (rSet30_any w T b ep cv fl hz u X i c r v l ts w (But.refl _ _) h.to hs hvS hlen hts hen).mono fun e x ⟨u', X', h1, h2, h3, h4⟩ => ⟨u', X', _, h1, h2.fin, h3, fun q hq => hq.1, h4⟩
theorem gStamp (w : World) (i ts : Int) (h : RgB T w b ep cv fl hz u X) (hts : 0 ≤ ts ∧ ts < 18446744073709551616) :
    Calls Tryz.prog 28 #[pt b 4, .int .i64 i, .int .u64 ts] w fun e w' => ∃ (u' : Value) (X' : List EntT) (T' : Nat → Prop), e = .returned (.int .i64 (stE X i ts)) ∧ RgB T' w' b ep cv fl hz u' X' ∧ X'.map e0 = (stL X i ts).map e0 ∧ Grew T T' w w' :=
  (rStamp30_any w T b ep cv fl hz u X i ts w (But.refl _ _) h.to hts).mono fun e x ⟨u', X', h1, h2, h3, h4⟩ => ⟨u', X', _, h1, h2.fin, h3, fun q hq => hq.1, h4⟩
theorem gThin (w : World) (t n : Int) (h : RgB T w b ep cv fl hz u X) (hh : 0 ≤ t ∧ t < 18446744073709551616) (hni : -9223372036854775808 ≤ n ∧ n ≤ 9223372036854775807) :
    Calls Tryz.prog 29 #[pt b 4, .int .u64 t, .int .i64 n] w fun e w' => ∃ (u' : Value) (X' : List EntT) (T' : Nat → Prop), e = .returned (.int .i64 (thG X t n)) ∧ RgB T' w' b ep cv fl hz u' X' ∧ X'.map e0 = (thL X t n).map e0 ∧ Grew T T' w w' :=
  (rThin30_any w T b ep cv fl hz u X t n w (But.refl _ _) h.to hh hni).mono fun e x ⟨u', X', h1, h2, h3, h4⟩ => ⟨u', X', _, h1, h2.fin, h3, fun q hq => hq.1, h4⟩
end
end Go.Proofs.YtniojcnkjehflaaGreat

/- The document's state: Apply, by its blocks. Conditions: none. -/
namespace Go.Proofs.YtniojcnkjehflaaGreat
open Go.RowKit Go.PlainAid
set_option linter.unusedVariables false
set_option linter.unusedSimpArgs false

set_option maxRecDepth 100000 in
set_option maxHeartbeats 3200000 in
theorem rdApply_blk (b : Nat) (S : Nat → Prop) (u : Value) (X : List EntT) (ep : Int) (cv : Value) (ms : List MemT) (fl : Int) (hz : Int) (d : NoteD) (mv : Value) (lv : Value) (ev : Value) (w : World) (hb : Blk w b 36 #[.int .i64 ep, cv, .int .u64 fl, .int .u64 hz, u]) (hL : RgR S w u X) (hSb : ¬ S b) (hcv : w.ownsRow 0 112 2 cv ms.length (ms.flatMap memE)) (hcS : ∀ i, cv.ownBlock = some i → ¬ S i) (hms : ms.length ≤ 20) (hm : SliceOf memE 2 w mv d.ms) (hg : SliceOf (intE .i64) 1 w lv d.lg) (he : SliceOf opE 3 w ev d.el) (hR : NoteR d) (hbm : d.ms ≠ [] → ∀ k, mv.ownBlock = some k → ¬ (k = b ∨ S k)) (hbg : d.lg ≠ [] → ∀ k, lv.ownBlock = some k → ¬ (k = b ∨ S k)) (hbe : d.el ≠ [] → ∀ k, ev.ownBlock = some k → ¬ (k = b ∨ S k)) :
    Calls Tryz.prog 9 #[pt b 0, .agg #[.int .i64 d.k, .int .i64 d.n, .int .u64 d.t, .int .i64 d.ep, mv, .int .u64 d.fl, lv, .int .i64 d.ec, .int .i64 d.er, ev, .int .u64 d.ets, .int .i64 d.pid, .int .u64 d.pat, .int .i64 d.plf, .int .i64 d.sc, .int .i64 d.sr, .int .i64 d.se, .int .i64 d.sp]] w fun e w' => ∃ (T' : Nat → Prop) (X' : List EntT) (u' : Value) (ep' : Int) (cv' : Value) (ms' : List MemT) (fl' : Int) (hz' : Int), e = .returned (.int .i64 (apE d ep hz X)) ∧ RgB T' w' b ep' cv' fl' hz' u' X' ∧ w'.ownsRow 0 112 2 cv' ms'.length (ms'.flatMap memE) ∧ ms'.length ≤ 20 ∧ (∀ i, cv'.ownBlock = some i → ¬ T' i) ∧ (∀ k, T' k → (k = b ∨ S k) ∨ w.heap.size ≤ k) ∧ X'.map e0 = (apL d hz X).map e0 ∧ (ep' = apEp d ep ∧ hz' = apHz d hz ∧ ms' = apMs d ep ms ∧ fl' = apFl d ep fl) ∧ (∀ i, cv'.ownBlock = some i → cv.ownBlock = some i ∨ w.heap.size ≤ i) ∧ But (fun k => k = b ∨ S k) w w' := by
 have hrng := hR.rng;have hlb := hb.lt;have hml0 : ¬ chkN d = 0 ∨ ¬ d.k = 1 ∨ d.ms.length ≤ 20 := by
   by_cases h1 : chkN d = 0
   · by_cases h2 : d.k = 1
     · exact .inr (.inr (chkC_len (((chkN_ok (d := d) h1).2.1 h2).1)))
     · exact .inr (.inl h2)
   · exact .inl h1
 have hB0 := But.refl (fun k => k = b ∨ S k) w;have hl_hb := hb.lt;have hl_hm := sl_len hm;have hl_hg := sl_len hg;have hl_he := sl_len he;have hinS : ∀ k, S k → (k = b ∨ S k) ∨ w.heap.size ≤ k := fun k hk => .inl (.inr hk);have hinb : (b = b ∨ S b) ∨ w.heap.size ≤ b := .inl (.inl rfl);refine co_enter (n := 79) Tryz.func9 rfl rfl rfl [(0, pt b 0), (1, .agg #[.int .i64 d.k, .int .i64 d.n, .int .u64 d.t, .int .i64 d.ep, mv, .int .u64 d.fl, lv, .int .i64 d.ec, .int .i64 d.er, ev, .int .u64 d.ets, .int .i64 d.pid, .int .u64 d.pat, .int .i64 d.plf, .int .i64 d.sc, .int .i64 d.sr, .int .i64 d.se, .int .i64 d.sp])] rfl (fun a s => ?_);refine q2 ?_;refine pw s rfl (op_new (v := fun N => pt N 0) (T := 50) (cs := #[.int .i64 d.k, .int .i64 d.n, .int .u64 d.t, .int .i64 d.ep, mv, .int .u64 d.fl, lv, .int .i64 d.ec, .int .i64 d.er, ev, .int .u64 d.ets, .int .i64 d.pid, .int .u64 d.pat, .int .i64 d.plf, .int .i64 d.sc, .int .i64 d.sr, .int .i64 d.se, .int .i64 d.sp]) (by kernel_rfl) (by kernel_rfl) (by kernel_rfl)) ?_;rintro _ w2 a1 ⟨N3, rfl, hN6, hz7, hk5, hg4⟩ s;have ha8 := row_fresh hcv hN6;have hu9 := row_under hcv hN6;have hz10 := hg4.size;have ho11 := off_new (RgR.ofS hL) hN6
 try dsimp only at s
 refine pk0 (v := .int .i64 0) s rfl fun _ s => q6 ?_;refine pk (v := .agg #[.int .i64 d.k, .int .i64 d.n, .int .u64 d.t, .int .i64 d.ep, mv, .int .u64 d.fl, lv, .int .i64 d.ec, .int .i64 d.er, ev, .int .u64 d.ets, .int .i64 d.pid, .int .u64 d.pat, .int .i64 d.plf, .int .i64 d.sc, .int .i64 d.sr, .int .i64 d.se, .int .i64 d.sp]) s rfl (rn_loadN rfl rfl Tryz.underlying50 rfl (by kernel_rfl) hk5.all) fun _ s => ?_;have hB16 := fbU_new hB0 hg4;refine pw s rfl (op_call (args := #[.agg #[.int .i64 d.k, .int .i64 d.n, .int .u64 d.t, .int .i64 d.ep, mv, .int .u64 d.fl, lv, .int .i64 d.ec, .int .i64 d.er, ev, .int .u64 d.ets, .int .i64 d.pid, .int .u64 d.pat, .int .i64 d.plf, .int .i64 d.sc, .int .i64 d.sr, .int .i64 d.se, .int .i64 d.sp]]) (R := fun res xw => res = .int .i64 (chkN d) ∧ Below w2.heap.size w2 xw) rfl rfl rfl (by kernel_rfl) (by kernel_rfl) (Tryz.call26 _ _) (rnCheck_any d mv lv ev w2 (sl_butS hm hB16 hbm) (sl_butS hg hB16 hbg) (sl_butS he hB16 hbe) hR) (by rintro e x ⟨rfl, hb17⟩; exact ⟨_, rfl, ⟨rfl, hb17⟩⟩)) ?_;rintro _ w15 a14 ⟨rfl, hb17⟩ s;have hz18 := hb17.size;have hO20 := RgR.gr hL hg4 (fun k e => by cases e);have ho19 := RgR.ofS hO20;refine pk0 (v := .int .i64 (chkN d)) s rfl fun _ s => q3 ?_;refine pk0 (v := .int .i64 (chkN d)) s rfl fun _ s => ?_;refine pk0 (v := .bool (chkN d != 0)) s rfl fun _ s => q1 ?_;have hB25 := fbU_call hB16 hb17;have hk26 := hb.kept hg4 (by simp);have hk27 := hk26.below hb17;have hr28 := row_kept_new hcv hg4;have hr29 := row_kept_new hr28 (below_grown hb17);cases hc24 : (chkN d != 0)
 ·
  rw [hc24] at s;have hp30 : ¬ (chkN d ≠ 0) := by first | simpa using hc24 | simpa [and_assoc] using hc24
  refine co_false s rfl <| q8 ?_;refine pk0 (v := pt N3 0) s rfl fun _ s => ?_;have hk32 := hk5.below hb17;refine pk (v := .int .i64 d.k) s rfl (rn_load1 rfl rfl Tryz.isAgg3 (hk32.cell rfl)) fun _ s => q1 <| wp_block <| q2 ?_;refine pk0 (v := .bool (d.k == 1)) s rfl fun _ s => ?_;refine pk0 (v := .bool (d.k == 1)) s rfl fun _ s => q1 ?_;cases hc36 : (d.k == 1)
  ·
   rw [hc36] at s;have hp37 : ¬ (d.k = 1) := by first | simpa using hc36 | simpa [and_assoc] using hc36
   refine co_false s rfl <| q2 ?_;refine pk0 (v := .bool (d.k == 2)) s rfl fun _ s => ?_;refine pk0 (v := .bool (d.k == 2)) s rfl fun _ s => q1 ?_;cases hc40 : (d.k == 2)
   ·
    rw [hc40] at s;have hp41 : ¬ (d.k = 2) := by first | simpa using hc40 | simpa [and_assoc] using hc40
    refine co_false s rfl <| q2 ?_;refine pk0 (v := .bool (d.k == 3)) s rfl fun _ s => ?_;refine pk0 (v := .bool (d.k == 3)) s rfl fun _ s => q1 ?_;cases hc44 : (d.k == 3)
    ·
     rw [hc44] at s;have hp45 : ¬ (d.k = 3) := by first | simpa using hc44 | simpa [and_assoc] using hc44
     refine co_false s rfl <| q2 ?_;refine pk0 (v := .bool (d.k == 4)) s rfl fun _ s => ?_;refine pk0 (v := .bool (d.k == 4)) s rfl fun _ s => q1 ?_;cases hc48 : (d.k == 4)
     ·
      rw [hc48] at s;have hp49 : ¬ (d.k = 4) := by first | simpa using hc48 | simpa [and_assoc] using hc48
      refine co_false s rfl <| wp_skip <| co_blockN <| co_then <| q2 ?_;refine pk0 (v := .int .i64 11) s rfl fun _ s => q4 ?_;refine co_ret1 s rfl rfl ?_;have hO51 := RgR.gr hO20 (below_grown hb17) (fun k e => by cases e);exact ⟨_, _, _, _, _, _, _, _, ret_int (by first | (unfold apE; repeat (first | rw [if_pos (by omega)] | rw [if_neg (by omega)])) | rfl), (RgB.mk' hk27 hO51 hSb), row_lows hr29 (Nat.zero_le _), hms, (fun i hi h => h.elim (fun e => own_neT hr29 hk27 (by decide) (e ▸ hi)) (hcS i hi)), (fun k hk => .inl hk), (by unfold apL; repeat (first | rw [if_pos (by omega)] | rw [if_neg (by omega)])), ⟨(by unfold apEp; first | (rw [if_pos (by omega)]; done) | (rw [if_neg (by omega)]; done) | (repeat (first | rw [if_pos (by omega)] | rw [if_neg (by omega)]))), (by unfold apHz; first | (rw [if_pos (by omega)]; done) | (rw [if_neg (by omega)]; done) | (repeat (first | rw [if_pos (by omega)] | rw [if_neg (by omega)]))), (by unfold apMs; first | (rw [if_pos (by omega)]; done) | (rw [if_neg (by omega)]; done) | (repeat (first | rw [if_pos (by omega)] | rw [if_neg (by omega)]))), (by unfold apFl; first | (rw [if_pos (by omega)]; done) | (rw [if_neg (by omega)]; done) | (repeat (first | rw [if_pos (by omega)] | rw [if_neg (by omega)])))⟩, (fun i hi => .inl hi), hB25⟩
     rw [hc48] at s;have hp52 : d.k = 4 := by first | simpa using hc48 | simpa [and_assoc] using hc48
     refine co_true s rfl <| co_seq <| co_seq ?_;refine dr_eq (by kernel_rfl) (fun w53 hg54 => ?_);have hz55 := hg54.size;refine dk0 0 (v := pt N3 2) s rfl rfl rfl fun _ s => ?_;have hk57 := hk32.kept hg54 (by simp);refine dk 1 (v := .int .u64 d.t) s rfl rfl rfl (fun x hx => by subst hx; exact (rn_load1 rfl rfl Tryz.isAgg29 (hk57.cell rfl))) fun _ s => ?_;refine dk0 2 (v := pt b 0) s rfl rfl rfl fun _ s => ?_;refine dk0 3 (v := pt b 0) s rfl rfl rfl fun _ s => ?_;refine dk0 4 (v := pt b 3) s rfl rfl rfl fun _ s => ?_;have hk62 := hk27.kept hg54 (by simp);refine dk 5 (v := .int .u64 hz) s rfl rfl rfl (fun x hx => by subst hx; exact (rn_load1 rfl rfl Tryz.isAgg29 (hk62.cell rfl))) fun _ s => ?_;refine dk0 6 (v := .bool (decide (d.t < hz))) s rfl rfl rfl fun _ s => ?_;refine dr_done (by kernel_rfl) ?_;refine co_then ?_;have hB66 := fbU_new hB25 hg54;have hO67 := RgR.gr hO20 (below_grown hb17) (fun k e => by cases e);have hO68 := RgR.gr hO67 hg54 (fun k e => by cases e);cases hc65 : (decide (d.t < hz))
     ·
      rw [hc65] at s;have hp69 : ¬ (d.t < hz) := of_decide_eq_false hc65;refine co_false s rfl <| q7 ?_;refine pk0 (v := pt b 0) s rfl fun _ s => ?_;refine pk0 (v := pt N3 2) s rfl fun _ s => ?_;refine pk (v := .int .u64 d.t) s rfl (rn_load1 rfl rfl Tryz.isAgg29 (hk57.cell rfl)) fun _ s => ?_;refine pk0 (v := pt b 0) s rfl fun _ s => ?_;refine pk0 (v := pt b 3) s rfl fun _ s => ?_;refine pwD s rfl (op_store1 rfl rfl rfl rfl Tryz.sizeOf29 hk62 rfl) ?_;rintro _ w76 a75 ⟨hk77, hz78, hg79⟩ s;have hk77' : Blk w76 b 36 #[.int .i64 ep, cv, .int .u64 fl, .int .u64 d.t, u] := hk77;have hz80 := hg79.size;refine q1 <| co_seq ?_;refine dr_gen (fun x => But (fun k => k = b ∨ S k) w x ∧ Blk x N3 50 #[.int .i64 d.k, .int .i64 d.n, .int .u64 d.t, .int .i64 d.ep, mv, .int .u64 d.fl, lv, .int .i64 d.ec, .int .i64 d.er, ev, .int .u64 d.ets, .int .i64 d.pid, .int .u64 d.pat, .int .i64 d.plf, .int .i64 d.sc, .int .i64 d.sr, .int .i64 d.se, .int .i64 d.sp]) (by kernel_rfl) (fun w81 hg82 => ?_) (fun w81 hg82 => ?_)
      ·
       have hz83 := hg82.size;have hB84 := fbU_at hB66 hg79 (fun hlt => by rcases hinb with hq | hq; exact hq; omega);have hB85 := fbU_new hB84 hg82;have hk86 := hk57.kept hg79 (by simp; omega);have hk87 := hk86.kept hg82 (by simp);exact ⟨hB85, hk87⟩
      have hz88 := hg82.size;have hB89 := fbU_at hB66 hg79 (fun hlt => by rcases hinb with hq | hq; exact hq; omega);have hB90 := fbU_new hB89 hg82;have hk91 := hk57.kept hg79 (by simp; omega);have hk92 := hk91.kept hg82 (by simp);refine dk0 0 (v := pt b 0) s rfl rfl ⟨hB90, hk92⟩ fun _ s => ?_;refine dk0 1 (v := pt b 0) s rfl rfl ⟨hB90, hk92⟩ fun _ s => ?_;refine dk0 2 (v := pt b 4) s rfl rfl ⟨hB90, hk92⟩ fun _ s => ?_;refine dk0 3 (v := pt N3 2) s rfl rfl ⟨hB90, hk92⟩ fun _ s => ?_;refine dk 4 (v := .int .u64 d.t) s rfl rfl ⟨hB90, hk92⟩ (fun x hx => (rn_load1 rfl rfl Tryz.isAgg29 (hx.2.cell rfl))) fun _ s => ?_;refine dk0 5 (v := pt N3 1) s rfl rfl ⟨hB90, hk92⟩ fun _ s => ?_;refine dk 6 (v := .int .i64 d.n) s rfl rfl ⟨hB90, hk92⟩ (fun x hx => (rn_load1 rfl rfl Tryz.isAgg3 (hx.2.cell rfl))) fun _ s => ?_;have hO103 := RgR.gr hO68 hg79 (fun k e => by cases e; exact hSb);have hO104 := RgR.gr hO103 hg82 (fun k e => by cases e);have ho102 := RgR.ofS hO104;have hr105 := row_kept_new hr29 hg54;have hr106 := row_kept_at hr105 hg79 (own_neT hr105 hk62 (by decide));have hr107 := row_kept_new hr106 hg82;have hk109 := hk77'.kept hg82 (by simp);have hC108 : RgB (fun q => q = b ∨ S q) w81 b ep cv fl d.t u X := RgB.mk' hk109 hO104 hSb;have ho110 : ∀ i, Value.ownBlock cv = some i → ¬ (i = b ∨ S i) := fun i hi h => h.elim (fun e => own_neT hr107 hk109 (by decide) (e ▸ hi)) (hcS i hi);have ho111 : ¬ (N3 = b ∨ S N3) := fun h => h.elim (fun e => by omega) ho11;have hin112 : ∀ k, (fun q => q = b ∨ S q) k → (k = b ∨ S k) ∨ w.heap.size ≤ k := fun k hk => .inl hk;have ho113 := RgB.ofS hC108;have hse := (chkN_ok (d := d) (by omega)).2.2.2.1 (by omega);refine d1 7 s rfl rfl (op_call (args := #[pt b 4, .int .u64 d.t, .int .i64 d.n]) (R := fun res xw => ∃ u' : Value, ∃ X' : List EntT, ∃ S' : Nat → Prop, res = .int .i64 (thG X d.t d.n) ∧ RgB S' xw b ep cv fl d.t u' X' ∧ (X'.map e0 = (thL X d.t d.n).map e0) ∧ Grew (fun q => q = b ∨ S q) S' w81 xw) rfl rfl rfl (by kernel_rfl) (by kernel_rfl) (Tryz.call29 _ _) (gThin w81 d.t d.n hC108 (by omega) (by omega)) (by rintro e x ⟨u', X', S', h0, h⟩; exact ⟨_, h0, u', X', S', rfl, h⟩)) ?_ ?_
      ·
       rintro _ w101 ⟨u'114, X'115, S116, rfl, hO117, hq119, hx118⟩;have hB120 := fbU_foot hB90 hx118.but (fun i hi hq => by rcases hin112 i hq with k | k; exact k; omega);have hz121 := hB120.size;have hz122 := hx118.but.size;have hin123 : ∀ k, S116 k → (k = b ∨ S k) ∨ w.heap.size ≤ k := fun k hk => by rcases hx118.sub k hk with j | j; exact hin112 k j; exact .inr (by omega)
       have hk124 := Blk.butS hk92 hx118.but ho111;exact ⟨hB120, hk124⟩
      rintro _ w101 a100 ⟨u'114, X'115, S116, rfl, hO117, hq119, hx118⟩ s;have hB120 := fbU_foot hB90 hx118.but (fun i hi hq => by rcases hin112 i hq with k | k; exact k; omega);have hz121 := hB120.size;have hz122 := hx118.but.size;have hin123 : ∀ k, S116 k → (k = b ∨ S k) ∨ w.heap.size ≤ k := fun k hk => by rcases hx118.sub k hk with j | j; exact hin112 k j; exact .inr (by omega)
      refine dr_done (by kernel_rfl) ?_;refine co_then <| q2 ?_;refine pk0 (v := .int .i64 0) s rfl fun _ s => q4 <| qr ?_;refine co_ret1 s rfl rfl ?_;have hr125 := own_butS hr107 hx118.but ho110;exact ⟨_, _, _, _, _, _, _, _, ret_int (by first | (unfold apE; repeat (first | rw [if_pos (by omega)] | rw [if_neg (by omega)])) | rfl), hO117, row_lows hr125 (Nat.zero_le _), hms, (Grew.offR hx118 hr107 ho110), hin123, (by rw [hq119]; unfold apL; repeat (first | rw [if_pos (by omega)] | rw [if_neg (by omega)])), ⟨(by unfold apEp; first | (rw [if_pos (by omega)]; done) | (rw [if_neg (by omega)]; done) | (repeat (first | rw [if_pos (by omega)] | rw [if_neg (by omega)]))), (by unfold apHz; first | (rw [if_pos (by omega)]; done) | (rw [if_neg (by omega)]; done) | (repeat (first | rw [if_pos (by omega)] | rw [if_neg (by omega)]))), (by unfold apMs; first | (rw [if_pos (by omega)]; done) | (rw [if_neg (by omega)]; done) | (repeat (first | rw [if_pos (by omega)] | rw [if_neg (by omega)]))), (by unfold apFl; first | (rw [if_pos (by omega)]; done) | (rw [if_neg (by omega)]; done) | (repeat (first | rw [if_pos (by omega)] | rw [if_neg (by omega)])))⟩, (fun i hi => .inl hi), hB120⟩
     rw [hc65] at s;have hp126 : d.t < hz := of_decide_eq_true hc65;refine co_true s rfl <| q2 ?_;refine pk0 (v := .int .i64 18) s rfl fun _ s => q5 <| qr ?_;refine co_ret1 s rfl rfl ?_;have hr128 := row_kept_new hr29 hg54;exact ⟨_, _, _, _, _, _, _, _, ret_int (by first | (unfold apE; repeat (first | rw [if_pos (by omega)] | rw [if_neg (by omega)])) | rfl), (RgB.mk' hk62 hO68 hSb), row_lows hr128 (Nat.zero_le _), hms, (fun i hi h => h.elim (fun e => own_neT hr128 hk62 (by decide) (e ▸ hi)) (hcS i hi)), (fun k hk => .inl hk), (by unfold apL; repeat (first | rw [if_pos (by omega)] | rw [if_neg (by omega)])), ⟨(by unfold apEp; first | (rw [if_pos (by omega)]; done) | (rw [if_neg (by omega)]; done) | (repeat (first | rw [if_pos (by omega)] | rw [if_neg (by omega)]))), (by unfold apHz; first | (rw [if_pos (by omega)]; done) | (rw [if_neg (by omega)]; done) | (repeat (first | rw [if_pos (by omega)] | rw [if_neg (by omega)]))), (by unfold apMs; first | (rw [if_pos (by omega)]; done) | (rw [if_neg (by omega)]; done) | (repeat (first | rw [if_pos (by omega)] | rw [if_neg (by omega)]))), (by unfold apFl; first | (rw [if_pos (by omega)]; done) | (rw [if_neg (by omega)]; done) | (repeat (first | rw [if_pos (by omega)] | rw [if_neg (by omega)])))⟩, (fun i hi => .inl hi), hB66⟩
    rw [hc44] at s;have hp129 : d.k = 3 := by first | simpa using hc44 | simpa [and_assoc] using hc44
    refine co_true s rfl <| co_seq ?_;refine dr_gen (fun x => But (fun k => k = b ∨ S k) w x ∧ Blk x N3 50 #[.int .i64 d.k, .int .i64 d.n, .int .u64 d.t, .int .i64 d.ep, mv, .int .u64 d.fl, lv, .int .i64 d.ec, .int .i64 d.er, ev, .int .u64 d.ets, .int .i64 d.pid, .int .u64 d.pat, .int .i64 d.plf, .int .i64 d.sc, .int .i64 d.sr, .int .i64 d.se, .int .i64 d.sp]) (by kernel_rfl) (fun w130 hg131 => ?_) (fun w130 hg131 => ?_)
    ·
     have hz132 := hg131.size;have hB133 := fbU_new hB25 hg131;have hk134 := hk32.kept hg131 (by simp);exact ⟨hB133, hk134⟩
    have hz135 := hg131.size;have hB136 := fbU_new hB25 hg131;have hk137 := hk32.kept hg131 (by simp);refine dk0 0 (v := pt b 0) s rfl rfl ⟨hB136, hk137⟩ fun _ s => ?_;refine dk0 1 (v := pt b 0) s rfl rfl ⟨hB136, hk137⟩ fun _ s => ?_;refine dk0 2 (v := pt b 4) s rfl rfl ⟨hB136, hk137⟩ fun _ s => ?_;refine dk0 3 (v := pt N3 1) s rfl rfl ⟨hB136, hk137⟩ fun _ s => ?_;refine dk 4 (v := .int .i64 d.n) s rfl rfl ⟨hB136, hk137⟩ (fun x hx => (rn_load1 rfl rfl Tryz.isAgg3 (hx.2.cell rfl))) fun _ s => ?_;refine dk0 5 (v := pt N3 2) s rfl rfl ⟨hB136, hk137⟩ fun _ s => ?_;refine dk 6 (v := .int .u64 d.t) s rfl rfl ⟨hB136, hk137⟩ (fun x hx => (rn_load1 rfl rfl Tryz.isAgg29 (hx.2.cell rfl))) fun _ s => ?_;have hO148 := RgR.gr hO20 (below_grown hb17) (fun k e => by cases e);have hO149 := RgR.gr hO148 hg131 (fun k e => by cases e);have ho147 := RgR.ofS hO149;have hk151 := hk27.kept hg131 (by simp);have hC150 : RgB (fun q => q = b ∨ S q) w130 b ep cv fl hz u X := RgB.mk' hk151 hO149 hSb;have hr153 := row_kept_new hr29 hg131;have ho152 : ∀ i, Value.ownBlock cv = some i → ¬ (i = b ∨ S i) := fun i hi h => h.elim (fun e => own_neT hr153 hk151 (by decide) (e ▸ hi)) (hcS i hi);have ho154 : ¬ (N3 = b ∨ S N3) := fun h => h.elim (fun e => by omega) ho11;have hin155 : ∀ k, (fun q => q = b ∨ S q) k → (k = b ∨ S k) ∨ w.heap.size ≤ k := fun k hk => .inl hk;have ho156 := RgB.ofS hC150;refine d1 7 s rfl rfl (op_call (args := #[pt b 4, .int .i64 d.n, .int .u64 d.t]) (R := fun res xw => ∃ u' : Value, ∃ X' : List EntT, ∃ S' : Nat → Prop, res = .int .i64 (stE X d.n d.t) ∧ RgB S' xw b ep cv fl hz u' X' ∧ (X'.map e0 = (stL X d.n d.t).map e0) ∧ Grew (fun q => q = b ∨ S q) S' w130 xw) rfl rfl rfl (by kernel_rfl) (by kernel_rfl) (Tryz.call28 _ _) (gStamp w130 d.n d.t hC150 (by omega)) (by rintro e x ⟨u', X', S', h0, h⟩; exact ⟨_, h0, u', X', S', rfl, h⟩)) ?_ ?_
    ·
     rintro _ w146 ⟨u'157, X'158, S159, rfl, hO160, hq162, hx161⟩;have hB163 := fbU_foot hB136 hx161.but (fun i hi hq => by rcases hin155 i hq with k | k; exact k; omega);have hz164 := hB163.size;have hz165 := hx161.but.size;have hin166 : ∀ k, S159 k → (k = b ∨ S k) ∨ w.heap.size ≤ k := fun k hk => by rcases hx161.sub k hk with j | j; exact hin155 k j; exact .inr (by omega)
     have hk167 := Blk.butS hk137 hx161.but ho154;exact ⟨hB163, hk167⟩
    rintro _ w146 a145 ⟨u'157, X'158, S159, rfl, hO160, hq162, hx161⟩ s;have hB163 := fbU_foot hB136 hx161.but (fun i hi hq => by rcases hin155 i hq with k | k; exact k; omega);have hz164 := hB163.size;have hz165 := hx161.but.size;have hin166 : ∀ k, S159 k → (k = b ∨ S k) ∨ w.heap.size ≤ k := fun k hk => by rcases hx161.sub k hk with j | j; exact hin155 k j; exact .inr (by omega)
    have hk167 := Blk.butS hk137 hx161.but ho154;refine dk0 8 (v := .int .i64 (stE X d.n d.t)) s rfl rfl ⟨hB163, hk167⟩ fun _ s => ?_;refine dr_done (by kernel_rfl) ?_;refine co_then <| wp_ret <| qr ?_;refine co_ret1 s rfl rfl ?_;have hr169 := own_butS hr153 hx161.but ho152;exact ⟨_, _, _, _, _, _, _, _, ret_int (by first | (unfold apE; repeat (first | rw [if_pos (by omega)] | rw [if_neg (by omega)])) | rfl), hO160, row_lows hr169 (Nat.zero_le _), hms, (Grew.offR hx161 hr153 ho152), hin166, (by rw [hq162]; unfold apL; repeat (first | rw [if_pos (by omega)] | rw [if_neg (by omega)])), ⟨(by unfold apEp; first | (rw [if_pos (by omega)]; done) | (rw [if_neg (by omega)]; done) | (repeat (first | rw [if_pos (by omega)] | rw [if_neg (by omega)]))), (by unfold apHz; first | (rw [if_pos (by omega)]; done) | (rw [if_neg (by omega)]; done) | (repeat (first | rw [if_pos (by omega)] | rw [if_neg (by omega)]))), (by unfold apMs; first | (rw [if_pos (by omega)]; done) | (rw [if_neg (by omega)]; done) | (repeat (first | rw [if_pos (by omega)] | rw [if_neg (by omega)]))), (by unfold apFl; first | (rw [if_pos (by omega)]; done) | (rw [if_neg (by omega)]; done) | (repeat (first | rw [if_pos (by omega)] | rw [if_neg (by omega)])))⟩, (fun i hi => .inl hi), hB163⟩
   rw [hc40] at s;have hp170 : d.k = 2 := by first | simpa using hc40 | simpa [and_assoc] using hc40
   refine co_true s rfl <| co_seq ?_;refine dr_gen (fun x => But (fun k => k = b ∨ S k) w x ∧ Blk x N3 50 #[.int .i64 d.k, .int .i64 d.n, .int .u64 d.t, .int .i64 d.ep, mv, .int .u64 d.fl, lv, .int .i64 d.ec, .int .i64 d.er, ev, .int .u64 d.ets, .int .i64 d.pid, .int .u64 d.pat, .int .i64 d.plf, .int .i64 d.sc, .int .i64 d.sr, .int .i64 d.se, .int .i64 d.sp]) (by kernel_rfl) (fun w171 hg172 => ?_) (fun w171 hg172 => ?_)
   ·
    have hz173 := hg172.size;have hB174 := fbU_new hB25 hg172;have hk175 := hk32.kept hg172 (by simp);exact ⟨hB174, hk175⟩
   have hz176 := hg172.size;have hB177 := fbU_new hB25 hg172;have hk178 := hk32.kept hg172 (by simp);refine dk0 0 (v := pt b 0) s rfl rfl ⟨hB177, hk178⟩ fun _ s => ?_;refine dk0 1 (v := pt b 0) s rfl rfl ⟨hB177, hk178⟩ fun _ s => ?_;refine dk0 2 (v := pt b 4) s rfl rfl ⟨hB177, hk178⟩ fun _ s => ?_;refine dk0 3 (v := pt N3 1) s rfl rfl ⟨hB177, hk178⟩ fun _ s => ?_;refine dk 4 (v := .int .i64 d.n) s rfl rfl ⟨hB177, hk178⟩ (fun x hx => (rn_load1 rfl rfl Tryz.isAgg3 (hx.2.cell rfl))) fun _ s => ?_;refine dk0 5 (v := pt N3 7) s rfl rfl ⟨hB177, hk178⟩ fun _ s => ?_;refine dk 6 (v := .agg #[.int .i64 d.ec, .int .i64 d.er, ev, .int .u64 d.ets]) s rfl rfl ⟨hB177, hk178⟩ (fun x hx => (rn_loadN rfl rfl Tryz.underlying44 rfl (by kernel_rfl) (blk_part hx.2 7 (by rfl)))) fun _ s => ?_;have hO189 := RgR.gr hO20 (below_grown hb17) (fun k e => by cases e);have hO190 := RgR.gr hO189 hg172 (fun k e => by cases e);have ho188 := RgR.ofS hO190;have hk192 := hk27.kept hg172 (by simp);have hC191 : RgB (fun q => q = b ∨ S q) w171 b ep cv fl hz u X := RgB.mk' hk192 hO190 hSb;have hr194 := row_kept_new hr29 hg172;have ho193 : ∀ i, Value.ownBlock cv = some i → ¬ (i = b ∨ S i) := fun i hi h => h.elim (fun e => own_neT hr194 hk192 (by decide) (e ▸ hi)) (hcS i hi);have ho195 : ¬ (N3 = b ∨ S N3) := fun h => h.elim (fun e => by omega) ho11;have hin196 : ∀ k, (fun q => q = b ∨ S q) k → (k = b ∨ S k) ∨ w.heap.size ≤ k := fun k hk => .inl hk;have ho197 := RgB.ofS hC191;have hse := chkB_en (((chkN_ok (d := d) (by omega)).2.2.1 (by omega)).2);refine d1 7 s rfl rfl (op_call (args := #[pt b 4, .int .i64 d.n, .agg #[.int .i64 d.ec, .int .i64 d.er, ev, .int .u64 d.ets]]) (R := fun res xw => ∃ u' : Value, ∃ X' : List EntT, ∃ S' : Nat → Prop, res = .int .i64 (setE X d.n d.ec d.er d.el d.ets) ∧ RgB S' xw b ep cv fl hz u' X' ∧ (X'.map e0 = (setL X d.n d.ec d.er d.el d.ets).map e0) ∧ Grew (fun q => q = b ∨ S q) S' w171 xw) rfl rfl rfl (by kernel_rfl) (by kernel_rfl) (Tryz.call27 _ _) (gSet w171 d.n d.ec d.er ev d.el d.ets hC191 (sl_butS he hB177 hbe) hbe hse.1 (by omega) hse.2) (by rintro e x ⟨u', X', S', h0, h⟩; exact ⟨_, h0, u', X', S', rfl, h⟩)) ?_ ?_
   ·
    rintro _ w187 ⟨u'198, X'199, S200, rfl, hO201, hq203, hx202⟩;have hB204 := fbU_foot hB177 hx202.but (fun i hi hq => by rcases hin196 i hq with k | k; exact k; omega);have hz205 := hB204.size;have hz206 := hx202.but.size;have hin207 : ∀ k, S200 k → (k = b ∨ S k) ∨ w.heap.size ≤ k := fun k hk => by rcases hx202.sub k hk with j | j; exact hin196 k j; exact .inr (by omega)
    have hk208 := Blk.butS hk178 hx202.but ho195;exact ⟨hB204, hk208⟩
   rintro _ w187 a186 ⟨u'198, X'199, S200, rfl, hO201, hq203, hx202⟩ s;have hB204 := fbU_foot hB177 hx202.but (fun i hi hq => by rcases hin196 i hq with k | k; exact k; omega);have hz205 := hB204.size;have hz206 := hx202.but.size;have hin207 : ∀ k, S200 k → (k = b ∨ S k) ∨ w.heap.size ≤ k := fun k hk => by rcases hx202.sub k hk with j | j; exact hin196 k j; exact .inr (by omega)
   have hk208 := Blk.butS hk178 hx202.but ho195;refine dk0 8 (v := .int .i64 (setE X d.n d.ec d.er d.el d.ets)) s rfl rfl ⟨hB204, hk208⟩ fun _ s => ?_;refine dr_done (by kernel_rfl) ?_;refine co_then <| wp_ret <| qr ?_;refine co_ret1 s rfl rfl ?_;have hr210 := own_butS hr194 hx202.but ho193;exact ⟨_, _, _, _, _, _, _, _, ret_int (by first | (unfold apE; repeat (first | rw [if_pos (by omega)] | rw [if_neg (by omega)])) | rfl), hO201, row_lows hr210 (Nat.zero_le _), hms, (Grew.offR hx202 hr194 ho193), hin207, (by rw [hq203]; unfold apL; repeat (first | rw [if_pos (by omega)] | rw [if_neg (by omega)])), ⟨(by unfold apEp; first | (rw [if_pos (by omega)]; done) | (rw [if_neg (by omega)]; done) | (repeat (first | rw [if_pos (by omega)] | rw [if_neg (by omega)]))), (by unfold apHz; first | (rw [if_pos (by omega)]; done) | (rw [if_neg (by omega)]; done) | (repeat (first | rw [if_pos (by omega)] | rw [if_neg (by omega)]))), (by unfold apMs; first | (rw [if_pos (by omega)]; done) | (rw [if_neg (by omega)]; done) | (repeat (first | rw [if_pos (by omega)] | rw [if_neg (by omega)]))), (by unfold apFl; first | (rw [if_pos (by omega)]; done) | (rw [if_neg (by omega)]; done) | (repeat (first | rw [if_pos (by omega)] | rw [if_neg (by omega)])))⟩, (fun i hi => .inl hi), hB204⟩
  rw [hc36] at s;have hp211 : d.k = 1 := by first | simpa using hc36 | simpa [and_assoc] using hc36
  refine co_true s rfl <| co_seq <| co_seq ?_;refine dr_eq (by kernel_rfl) (fun w212 hg213 => ?_);have hz214 := hg213.size;refine dk0 0 (v := pt N3 3) s rfl rfl rfl fun _ s => ?_;refine dk0 1 (v := pt N3 3) s rfl rfl rfl fun _ s => ?_;have hk217 := hk32.kept hg213 (by simp);refine dk 2 (v := .int .i64 d.ep) s rfl rfl rfl (fun x hx => by subst hx; exact (rn_load1 rfl rfl Tryz.isAgg3 (hk217.cell rfl))) fun _ s => ?_;refine dk0 3 (v := pt b 0) s rfl rfl rfl fun _ s => ?_;refine dk0 4 (v := pt b 0) s rfl rfl rfl fun _ s => ?_;refine dk0 5 (v := pt b 0) s rfl rfl rfl fun _ s => ?_;refine dk0 6 (v := pt b 0) s rfl rfl rfl fun _ s => ?_;have hk223 := hk27.kept hg213 (by simp);refine dk 7 (v := .int .i64 ep) s rfl rfl rfl (fun x hx => by subst hx; exact (rn_load1 rfl rfl Tryz.isAgg3 (hk223.cell rfl))) fun _ s => ?_;refine dk0 8 (v := .bool (decide (d.ep ≤ ep))) s rfl rfl rfl fun _ s => ?_;refine dr_done (by kernel_rfl) ?_;refine co_then ?_;have hB227 := fbU_new hB25 hg213;have hO228 := RgR.gr hO20 (below_grown hb17) (fun k e => by cases e);have hO229 := RgR.gr hO228 hg213 (fun k e => by cases e);cases hc226 : (decide (d.ep ≤ ep))
  ·
   rw [hc226] at s;have hp230 : ¬ (d.ep ≤ ep) := of_decide_eq_false hc226;refine co_false s rfl <| q7 ?_;refine pk0 (v := pt N3 3) s rfl fun _ s => ?_;refine pk (v := .agg #[.int .i64 d.ep, mv, .int .u64 d.fl]) s rfl (rn_loadN rfl rfl Tryz.underlying31 rfl (by kernel_rfl) (blk_part hk217 3 (by rfl))) fun _ s => ?_;refine pw s rfl (op_new (v := fun N => pt N 0) (T := 31) (cs := #[.int .i64 0, .slice none 0 0, .int .u64 0]) (by kernel_rfl) (by kernel_rfl) (by kernel_rfl)) ?_;rintro _ w234 a233 ⟨N235, rfl, hN238, hz239, hk237, hg236⟩ s;have hr241 := row_kept_new hr29 hg213;have ha240 := row_fresh hr241 hN238;have hu242 := row_under hr241 hN238;have hz243 := hg236.size;have ho244 := off_new (RgR.ofS hO229) hN238
   try dsimp only at s
   have hB250 := fbU_new hB227 hg236;refine pwD s rfl (op_storeN rfl rfl rfl (all_cons rfl (all_cons (sl_one (sl_butS hm hB250 hbm)) (all_cons rfl all_nil))) (by kernel_rfl) hk237 rfl) ?_;rintro _ w246 a245 ⟨hk247, hz248, hg249⟩ s;have hk247' : Blk w246 N235 31 #[.int .i64 d.ep, mv, .int .u64 d.fl] := hk247;have hz251 := hg249.size;refine q3 ?_;refine pw s rfl (op_new (v := fun N => .slice (some ⟨N, 0, none⟩) 0 0) (T := 112) (cs := #[]) (by kernel_rfl) (by kernel_rfl) (by kernel_rfl)) ?_;rintro _ w253 a252 ⟨N254, rfl, hN257, hz258, hk256, hg255⟩ s;have hr260 := row_kept_new hr241 hg236;have hr261 := row_kept_at hr260 hg249 (ha240);have ha259 := row_fresh hr261 hN257;have hu262 := row_under hr261 hN257;have hz263 := hg255.size;have hO265 := RgR.gr hO229 hg236 (fun k e => by cases e);have hO266 := RgR.gr hO265 hg249 (fun k e => by cases e; exact ho244);have ho264 := off_new (RgR.ofS hO266) hN257
   try dsimp only at s
   refine pk0 (v := pt N3 3) s rfl fun _ s => ?_;refine pk0 (v := pt N3 4) s rfl fun _ s => ?_;have hk269 := hk217.kept hg236 (by simp);have hk270 := hk269.kept hg249 (by simp; omega);have hk271 := hk270.kept hg255 (by simp);refine pk (v := mv) s rfl (rn_load1 rfl rfl Tryz.isAgg28 (hk271.cell rfl)) fun _ s => ?_;have hr275 := row_of_blkL hk256 (Nat.le_refl _) 2 memE;have hB280 := fbU_at hB250 hg249 (fun hlt => absurd hlt (by omega));have hB281 := fbU_new hB280 hg255;refine pw s rfl (op_appendSrc rfl N254 112 (z := .agg #[.int .i64 0, .int .i64 0]) (size := 2) (bytes := 16) Tryz.underlying28 (by kernel_rfl) rfl rfl rfl hr275 rfl (sl_butS hm hB281 hbm) (fun y hy => ⟨memE_len y, memE_one y⟩) (by first | omega | (simp only [List.length_nil, List.length_append, List.length_cons, List.length_take, List.length_drop]; omega)) (by first | omega | (simp only [List.length_nil, List.length_append, List.length_cons, List.length_take, List.length_drop]; omega)) (by omega)) ?_;rintro v276 w274 a273 ⟨hr277, hg278⟩ s;have hr277' : w274.ownsRow N254 112 2 v276 d.ms.length (d.ms.flatMap memE) := row_app (l := []) hr277;have hz282 := hg278.size;have hk283 := hk223.kept hg236 (by simp);have hk284 := hk283.kept hg249 (by simp; omega);have hk285 := hk284.kept hg255 (by simp);have hk286 := hk247'.kept hg255 (by simp);refine pk0 (v := pt N235 1) s rfl fun _ s => ?_;have hk293 := hk286.kept hg278 (own_neT hr275 hk286 (by decide));refine pwD s rfl (op_store1 rfl rfl rfl (row_one hr277') Tryz.sizeOf28 hk293 rfl) ?_;rintro _ w289 a288 ⟨hk290, hz291, hg292⟩ s;have hk290' : Blk w289 N235 31 #[.int .i64 d.ep, v276, .int .u64 d.fl] := hk290;have hz294 := hg292.size;refine q3 ?_;refine pk0 (v := pt b 0) s rfl fun _ s => ?_;refine pk (v := .agg #[.int .i64 d.ep, v276, .int .u64 d.fl]) s rfl (rn_loadN rfl rfl Tryz.underlying31 rfl (by kernel_rfl) hk290'.all) fun _ s => ?_;refine pk0 (v := pt b 0) s rfl fun _ s => ?_;refine pk0 (v := pt b 0) s rfl fun _ s => ?_;have hr304 := row_kept_at hr277' hg292 (own_neT hr277' hk293 (by decide));have hk305 := hk285.kept hg278 (own_neT hr275 hk285 (by decide));have hk306 := hk305.kept hg292 (by simp; omega);refine pwD s rfl (op_storePart (k := 0) (cs' := #[.int .i64 d.ep, v276, .int .u64 d.fl, .int .u64 hz, u]) rfl rfl rfl (all_cons rfl (all_cons (row_one hr304) (all_cons rfl all_nil))) (by kernel_rfl) hk306 rfl rfl) ?_;rintro _ w300 a299 ⟨hk301, hz302, hg303⟩ s;have hk301' : Blk w300 b 36 #[.int .i64 d.ep, v276, .int .u64 d.fl, .int .u64 hz, u] := hk301;have hz307 := hg303.size;refine q3 ?_;refine pk0 (v := .int .i64 0) s rfl fun _ s => q4 <| qr ?_;refine co_ret1 s rfl rfl ?_;have hO309 := RgR.gr hO266 hg255 (fun k e => by cases e);have hO310 := RgR.gr hO309 hg278 (fun k e => (fun i hi => by cases hi; exact ho264) k e);have hO311 := RgR.gr hO310 hg292 (fun k e => by cases e; exact ho244);have hO312 := RgR.gr hO311 hg303 (fun k e => by cases e; exact hSb);have hr313 := row_kept_at hr304 hg303 (own_neT hr304 hk306 (by decide));have hB314 := fbU_row hB281 (InS.low hr275 (by omega)) hg278;have hB315 := fbU_at hB314 hg292 (fun hlt => absurd hlt (by omega));have hB316 := fbU_at hB315 hg303 (fun hlt => by rcases hinb with hq | hq; exact hq; omega);exact ⟨_, _, _, _, _, _, _, _, ret_int (by first | (unfold apE; repeat (first | rw [if_pos (by omega)] | rw [if_neg (by omega)])) | rfl), (RgB.mk' hk301' hO312 hSb), row_lows hr313 (Nat.zero_le _), (by omega), (fun i hi h => h.elim (fun e => own_neT hr313 hk301' (by decide) (e ▸ hi)) ((offR_row (RgR.ofS hL) hr277' (by omega)) i hi)), (fun k hk => .inl hk), (by unfold apL; repeat (first | rw [if_pos (by omega)] | rw [if_neg (by omega)])), ⟨(by unfold apEp; first | (rw [if_pos (by omega)]; done) | (rw [if_neg (by omega)]; done) | (repeat (first | rw [if_pos (by omega)] | rw [if_neg (by omega)]))), (by unfold apHz; first | (rw [if_pos (by omega)]; done) | (rw [if_neg (by omega)]; done) | (repeat (first | rw [if_pos (by omega)] | rw [if_neg (by omega)]))), (by unfold apMs; first | (rw [if_pos (by omega)]; done) | (rw [if_neg (by omega)]; done) | (repeat (first | rw [if_pos (by omega)] | rw [if_neg (by omega)]))), (by unfold apFl; first | (rw [if_pos (by omega)]; done) | (rw [if_neg (by omega)]; done) | (repeat (first | rw [if_pos (by omega)] | rw [if_neg (by omega)])))⟩, (fun i hi => .inr (by have := (hr313.lt i hi).1; omega)), hB316⟩
  rw [hc226] at s;have hp317 : d.ep ≤ ep := of_decide_eq_true hc226;refine co_true s rfl <| q2 ?_;refine pk0 (v := .int .i64 18) s rfl fun _ s => q5 <| qr ?_;refine co_ret1 s rfl rfl ?_;have hr319 := row_kept_new hr29 hg213;exact ⟨_, _, _, _, _, _, _, _, ret_int (by first | (unfold apE; repeat (first | rw [if_pos (by omega)] | rw [if_neg (by omega)])) | rfl), (RgB.mk' hk223 hO229 hSb), row_lows hr319 (Nat.zero_le _), hms, (fun i hi h => h.elim (fun e => own_neT hr319 hk223 (by decide) (e ▸ hi)) (hcS i hi)), (fun k hk => .inl hk), (by unfold apL; repeat (first | rw [if_pos (by omega)] | rw [if_neg (by omega)])), ⟨(by unfold apEp; first | (rw [if_pos (by omega)]; done) | (rw [if_neg (by omega)]; done) | (repeat (first | rw [if_pos (by omega)] | rw [if_neg (by omega)]))), (by unfold apHz; first | (rw [if_pos (by omega)]; done) | (rw [if_neg (by omega)]; done) | (repeat (first | rw [if_pos (by omega)] | rw [if_neg (by omega)]))), (by unfold apMs; first | (rw [if_pos (by omega)]; done) | (rw [if_neg (by omega)]; done) | (repeat (first | rw [if_pos (by omega)] | rw [if_neg (by omega)]))), (by unfold apFl; first | (rw [if_pos (by omega)]; done) | (rw [if_neg (by omega)]; done) | (repeat (first | rw [if_pos (by omega)] | rw [if_neg (by omega)])))⟩, (fun i hi => .inl hi), hB227⟩
 rw [hc24] at s;have hp320 : chkN d ≠ 0 := by first | simpa using hc24 | simpa [and_assoc] using hc24
 refine co_true s rfl <| q2 ?_;refine pk0 (v := .int .i64 (chkN d)) s rfl fun _ s => ?_;refine pk0 (v := .int .i64 (chkN d)) s rfl fun _ s => q5 ?_;refine co_ret1 s rfl rfl ?_;have hO323 := RgR.gr hO20 (below_grown hb17) (fun k e => by cases e);exact ⟨_, _, _, _, _, _, _, _, ret_int (by first | (unfold apE; repeat (first | rw [if_pos (by omega)] | rw [if_neg (by omega)])) | rfl), (RgB.mk' hk27 hO323 hSb), row_lows hr29 (Nat.zero_le _), hms, (fun i hi h => h.elim (fun e => own_neT hr29 hk27 (by decide) (e ▸ hi)) (hcS i hi)), (fun k hk => .inl hk), (by unfold apL; repeat (first | rw [if_pos (by omega)] | rw [if_neg (by omega)])), ⟨(by unfold apEp; first | (rw [if_pos (by omega)]; done) | (rw [if_neg (by omega)]; done) | (repeat (first | rw [if_pos (by omega)] | rw [if_neg (by omega)]))), (by unfold apHz; first | (rw [if_pos (by omega)]; done) | (rw [if_neg (by omega)]; done) | (repeat (first | rw [if_pos (by omega)] | rw [if_neg (by omega)]))), (by unfold apMs; first | (rw [if_pos (by omega)]; done) | (rw [if_neg (by omega)]; done) | (repeat (first | rw [if_pos (by omega)] | rw [if_neg (by omega)]))), (by unfold apFl; first | (rw [if_pos (by omega)]; done) | (rw [if_neg (by omega)]; done) | (repeat (first | rw [if_pos (by omega)] | rw [if_neg (by omega)])))⟩, (fun i hi => .inl hi), hB25⟩
end Go.Proofs.YtniojcnkjehflaaGreat

/- Both states as objects: the program's with its configuration, the document's. Conditions: none. -/
namespace Go.Proofs.YtniojcnkjehflaaGreat
open Go.RowKit Go.PlainAid
set_option linter.unusedVariables false
set_option linter.unusedSimpArgs false

/-- A state that lies at b: entries, epoch, horizon. -/
def StC (S : Nat → Prop) (w : World) (b : Nat) (L : List EntT) (ep hz : Int) (ms : List MemT) (fl : Int) : Prop :=
  ∃ (q g : Nat) (A : Nat → Prop) (cv : Value), Blk w b 71 #[pt q 0] ∧ Blk w q 69 #[pt g 0, .int .i64 ep, cv, .int .u64 fl, .int .u64 hz] ∧ LObj A w g L ∧
    w.ownsRow 0 112 2 cv ms.length (ms.flatMap memE) ∧ ms.length ≤ 20 ∧ (∀ i, cv.ownBlock = some i → ¬ A i) ∧ ¬ A b ∧ ¬ A q ∧ b ≠ q ∧ RI L ∧ (∀ k, S k ↔ (k = b ∨ k = q ∨ A k ∨ cv.ownBlock = some k))
section
variable {S D A : Nat → Prop} {w x : World} {b m n d : Nat} {L X : List EntT} {ep hz fl : Int} {ms : List MemT}
theorem StC.ofS (h : StC S w b L ep hz ms fl) : ∀ k, S k → k < w.heap.size := by
  obtain ⟨q, g, A, cv, h1, h2, h3, h4, h5, h6, h7, h8, h9, h10, h11⟩ := h
  intro k hk
  rcases (h11 k).1 hk with rfl | rfl | hk | hk
  · exact h1.lt
  · exact h2.lt
  · exact h3.ofS k hk
  · exact (h4.lt k hk).2
theorem StC.keep (h : StC S w b L ep hz ms fl) (hk : ∀ k, S k → x.heap[k]? = w.heap[k]?) (hz' : w.heap.size ≤ x.heap.size) : StC S x b L ep hz ms fl := by
  obtain ⟨q, g, A, cv, h1, h2, h3, h4, h5, h6, h7, h8, h9, h10, h11⟩ := h
  refine ⟨q, g, A, cv, ?_, ?_, h3.keep hz' (fun k j => hk k ((h11 k).2 (.inr (.inr (.inl j))))), row_sameL h4 (fun i hi => hk i ((h11 i).2 (.inr (.inr (.inr hi))))), h5, h6, h7, h8, h9, h10, h11⟩
  · unfold Blk at h1 ⊢; rw [hk b ((h11 b).2 (.inl rfl))]; exact h1
  · unfold Blk at h2 ⊢; rw [hk q ((h11 q).2 (.inr (.inl rfl)))]; exact h2
theorem StC.gr {row : Option Nat} (h : StC S w b L ep hz ms fl) (hg : w.grownBy x row) (hr : ∀ k, row = some k → ¬ S k) : StC S x b L ep hz ms fl :=
  h.keep (fun q hq => hg.block q (h.ofS q hq) (fun e => hr q e.symm hq)) hg.size
theorem StC.but (h : StC S w b L ep hz ms fl) (hb : But D w x) (ha : ∀ q, S q → D q → False) : StC S x b L ep hz ms fl :=
  h.keep (fun q hq => hb.block q (h.ofS q hq) (fun hd => ha q hq hd)) hb.size
theorem StC.ri (h : StC S w b L ep hz ms fl) : RI L := by obtain ⟨_, _, _, _, _, _, _, _, _, _, _, _, _, h10, _⟩ := h; exact h10
theorem scNew (w : World) : Calls Tryz.prog 7 #[] w fun e w' => ∃ (N : Nat) (S : Nat → Prop), e = .returned (pt N 0) ∧ StC S w' N [] 0 0 [] 0 ∧ (∀ k, S k → w.heap.size ≤ k) ∧ Below w.heap.size w w' := by
  refine (rsNew_blk w).mono ?_
  rintro e x ⟨b, q, g, A, rfl, h1, h2, h3, h4, h5, h6, h7, h8, h9⟩
  refine ⟨b, fun k => k = b ∨ k = q ∨ A k ∨ (Value.slice none 0 0).ownBlock = some k, rfl, ⟨q, g, A, .slice none 0 0, h1, h2, h3, World.ownsRow_nil _ _ _ _, by decide, (fun i hi => by simp [Value.ownBlock] at hi), h4, h5, ?_, RI.nil, fun k => Iff.rfl⟩, ?_, h9⟩
  · intro e
    subst e
    unfold Blk at h1 h2
    rw [h1] at h2
    injection h2 with e; injection e with e1 e2 e3
    exact absurd e2 (by decide)
  · rintro k (rfl | rfl | hk | hk)
    · exact h7
    · exact h8
    · exact h6 k hk
    · simp [Value.ownBlock] at hk
theorem scApply (w : World) (d : NoteD) (mv lv ev : Value) (h : StC S w b L ep hz ms fl) (hm : SliceOf memE 2 w mv d.ms) (hg : SliceOf (intE .i64) 1 w lv d.lg) (he : SliceOf opE 3 w ev d.el) (hR : NoteR d)
    (hbm : d.ms ≠ [] → ∀ k, mv.ownBlock = some k → ¬ S k) (hbg : d.lg ≠ [] → ∀ k, lv.ownBlock = some k → ¬ S k) (hbe : d.el ≠ [] → ∀ k, ev.ownBlock = some k → ¬ S k) :
    Calls Tryz.prog 8 #[pt b 0, .agg #[.int .i64 d.k, .int .i64 d.n, .int .u64 d.t, .int .i64 d.ep, mv, .int .u64 d.fl, lv, .int .i64 d.ec, .int .i64 d.er, ev, .int .u64 d.ets, .int .i64 d.pid, .int .u64 d.pat, .int .i64 d.plf, .int .i64 d.sc, .int .i64 d.sr, .int .i64 d.se, .int .i64 d.sp]] w fun e w' =>
      ∃ (L' : List EntT) (S' : Nat → Prop), e = .returned (.int .i64 (apE d ep hz L)) ∧ StC S' w' b L' (apEp d ep) (apHz d hz) (apMs d ep ms) (apFl d ep fl) ∧ L'.map e0 = (apL d hz L).map e0 ∧ Grew S S' w w' := by
  obtain ⟨q, g, A, cv, h1, h2, h3, h4, h5, h6, h7, h8, h9, h10, h11⟩ := h
  have hf : ∀ k, (k = q ∨ A k) → S k := fun k hk => (h11 k).2 (by rcases hk with e | hk; exact .inr (.inl e); exact .inr (.inr (.inl hk)))
  refine (rsApplyC_blk b q g A L ep cv ms fl hz d mv lv ev w h1 h2 h3 h7 h8 h4 h6 h5 h10 h9 hm hg he hR (fun hn k hk hj => hbm hn k hk (hf k hj)) (fun hn k hk hj => hbg hn k hk (hf k hj)) (fun hn k hk hj => hbe hn k hk (hf k hj))).mono ?_
  rintro e x ⟨r, A', L', ep', cv', ms', fl', hz', rfl, k1, k2, k3, k4, k5, k6, k7, k8, k9, kC, k10⟩
  obtain ⟨rfl, rfl⟩ := kC
  have k10' := k8.eqs
  obtain ⟨rfl, rfl, rfl, hLe⟩ := k10'
  refine ⟨L', fun k => k = b ∨ k = q ∨ A' k ∨ cv'.ownBlock = some k, rfl, ⟨q, g, A', cv', h1.butS k10 ?_, k1, k2, k3, k4, k5, ?_, k7, h9, k8.ri h10, fun k => Iff.rfl⟩, hLe, fun k hk => ?_, k10.mono fun k _ hk => hf k hk⟩
  · rintro (e | e); exact h9 e; exact h7 e
  · intro hb
    rcases k6 b hb with (e | e) | e
    · exact h9 e
    · exact h7 e
    · have := h1.lt; omega
  · rcases hk with rfl | rfl | hk | hk
    · exact .inl ((h11 _).2 (.inl rfl))
    · exact .inl ((h11 _).2 (.inr (.inl rfl)))
    · rcases k6 k hk with e | e
      · exact .inl (hf k e)
      · exact .inr e
    · rcases k9 k hk with e | e
      · exact .inl ((h11 k).2 (.inr (.inr (.inr e))))
      · exact .inr e
theorem scStamped (w : World) (h : StC S w b L ep hz ms fl) : Calls Tryz.prog 17 #[pt b 0] w fun e w' => ∃ S' : Nat → Prop, e = .returned (.int .i64 (stN L : Nat)) ∧ StC S' w' b L ep hz ms fl ∧ Grew S S' w w' := by
  obtain ⟨q, g, A, cv, h1, h2, h3, h4, h5, h6, h7, h8, h9, h10, h11⟩ := h
  refine (rsStamped_blk b q g A L ep cv fl hz w h1 h2 h3 h7 h8).mono ?_
  rintro e x ⟨A', rfl, k1, k2, k3⟩
  have hn : ∀ k, k < w.heap.size → ¬ A k → ¬ A' k := fun k hk hA hj => by
    rcases k2 k hj with e | e
    · exact hA e
    · omega
  refine ⟨fun k => k = b ∨ k = q ∨ A' k ∨ cv.ownBlock = some k, rfl, ⟨q, g, A', cv, h1.butS k3 h7, h2.butS k3 h8, k1, own_butS h4 k3 h6, h5, fun i hi => hn i (h4.lt i hi).2 (h6 i hi), hn b h1.lt h7, hn q h2.lt h8, h9, h10, fun k => Iff.rfl⟩, fun k hk => ?_, k3.mono fun k _ hk => (h11 k).2 (.inr (.inr (.inl hk)))⟩
  rcases hk with rfl | rfl | hk | hk
  · exact .inl ((h11 _).2 (.inl rfl))
  · exact .inl ((h11 _).2 (.inr (.inl rfl)))
  · rcases k2 k hk with e | e
    · exact .inl ((h11 k).2 (.inr (.inr (.inl e))))
    · exact .inr e
  · exact .inl ((h11 k).2 (.inr (.inr (.inr hk))))
theorem scHorizon (w : World) (h : StC S w b L ep hz ms fl) : Calls Tryz.prog 32 #[pt b 0] w fun e w' => e = .returned (.int .u64 hz) ∧ w = w' := by
  obtain ⟨q, g, A, cv, h1, h2, h3, h4, h5, h6, h7, h8, h9, h10, h11⟩ := h
  exact rsHorizonT b q g ep cv fl hz w h1 h2
theorem scConf (w : World) (h : StC S w b L ep hz ms fl) : Calls Tryz.prog 31 #[pt b 0] w fun e w' => ∃ (u : Value), e = .returned (.agg #[.int .i64 ep, u, .int .u64 fl]) ∧ w'.ownsRow w.heap.size 112 2 u ms.length (ms.flatMap memE) ∧ Below w.heap.size w w' := by
  obtain ⟨q, g, A, cv, h1, h2, h3, h4, h5, h6, h7, h8, h9, h10, h11⟩ := h
  exact (rsConfT b q g ep cv fl hz ms w h1 h2 (row_sl h4 memE_len) h5).mono fun e x ⟨u, k1, k2, k3⟩ => ⟨u, k1, k2, k3⟩
theorem scAll (w : World) (h : StC S w b L ep hz ms fl) : Calls Tryz.prog 34 #[pt b 0] w fun e w' => ∃ (L2 : List EntT) (u2 : Value) (S' : Nat → Prop), e = .returned u2 ∧ StC S' w' b L ep hz ms fl ∧ w'.ownsRow w.heap.size 44 4 u2 L2.length (L2.flatMap entE) ∧ EntsK (fun _ => False) w.heap.size w' L2 ∧ L2.map e0 = L.map e0 ∧ Grew S S' w w' := by
  obtain ⟨q, g, A, cv, h1, h2, h3, h4, h5, h6, h7, h8, h9, h10, h11⟩ := h
  refine (rsAll_blk b q g A L ep cv fl hz w h1 h2 h3 h7 h8).mono ?_
  rintro e x ⟨L2, u2, A', rfl, j1, j2, j3, k1, k2, k3⟩
  have hn : ∀ k, k < w.heap.size → ¬ A k → ¬ A' k := fun k hk hA hj => by
    rcases k2 k hj with e | e
    · exact hA e
    · omega
  refine ⟨L2, u2, fun k => k = b ∨ k = q ∨ A' k ∨ cv.ownBlock = some k, rfl, ⟨q, g, A', cv, h1.butS k3 h7, h2.butS k3 h8, k1, own_butS h4 k3 h6, h5, fun i hi => hn i (h4.lt i hi).2 (h6 i hi), hn b h1.lt h7, hn q h2.lt h8, h9, h10, fun k => Iff.rfl⟩, j1, j2, j3, fun k hk => ?_, k3.mono fun k _ hk => (h11 k).2 (.inr (.inr (.inl hk)))⟩
  rcases hk with rfl | rfl | hk | hk
  · exact .inl ((h11 _).2 (.inl rfl))
  · exact .inl ((h11 _).2 (.inr (.inl rfl)))
  · rcases k2 k hk with e | e
    · exact .inl ((h11 k).2 (.inr (.inr (.inl e))))
    · exact .inr e
  · exact .inl ((h11 k).2 (.inr (.inr (.inr hk))))
theorem scLen (w : World) (h : StC S w b L ep hz ms fl) : Calls Tryz.prog 35 #[pt b 0] w fun e w' => ∃ S' : Nat → Prop, e = .returned (.int .i64 (L.length : Nat)) ∧ StC S' w' b L ep hz ms fl ∧ Grew S S' w w' := by
  obtain ⟨q, g, A, cv, h1, h2, h3, h4, h5, h6, h7, h8, h9, h10, h11⟩ := h
  refine (rsLen_blk b q g A L ep cv fl hz w h1 h2 h3 h7 h8).mono ?_
  rintro e x ⟨A', rfl, k1, k2, k3⟩
  have hn : ∀ k, k < w.heap.size → ¬ A k → ¬ A' k := fun k hk hA hj => by
    rcases k2 k hj with e | e
    · exact hA e
    · omega
  refine ⟨fun k => k = b ∨ k = q ∨ A' k ∨ cv.ownBlock = some k, rfl, ⟨q, g, A', cv, h1.butS k3 h7, h2.butS k3 h8, k1, own_butS h4 k3 h6, h5, fun i hi => hn i (h4.lt i hi).2 (h6 i hi), hn b h1.lt h7, hn q h2.lt h8, h9, h10, fun k => Iff.rfl⟩, fun k hk => ?_, k3.mono fun k _ hk => (h11 k).2 (.inr (.inr (.inl hk)))⟩
  rcases hk with rfl | rfl | hk | hk
  · exact .inl ((h11 _).2 (.inl rfl))
  · exact .inl ((h11 _).2 (.inr (.inl rfl)))
  · rcases k2 k hk with e | e
    · exact .inl ((h11 k).2 (.inr (.inr (.inl e))))
    · exact .inr e
  · exact .inl ((h11 k).2 (.inr (.inr (.inr hk))))
theorem scTop (w : World) (c : Int) (h : StC S w b L ep hz ms fl) : Calls Tryz.prog 37 #[pt b 0, .int .i64 c] w fun e w' => ∃ S' : Nat → Prop, e = .returned (.int .i64 (topN L c)) ∧ StC S' w' b L ep hz ms fl ∧ Grew S S' w w' := by
  obtain ⟨q, g, A, cv, h1, h2, h3, h4, h5, h6, h7, h8, h9, h10, h11⟩ := h
  refine (rsTop_blk b q g A L ep cv fl hz c w h1 h2 h3 h7 h8).mono ?_
  rintro e x ⟨A', rfl, k1, k2, k3⟩
  have hn : ∀ k, k < w.heap.size → ¬ A k → ¬ A' k := fun k hk hA hj => by
    rcases k2 k hj with e | e
    · exact hA e
    · omega
  refine ⟨fun k => k = b ∨ k = q ∨ A' k ∨ cv.ownBlock = some k, rfl, ⟨q, g, A', cv, h1.butS k3 h7, h2.butS k3 h8, k1, own_butS h4 k3 h6, h5, fun i hi => hn i (h4.lt i hi).2 (h6 i hi), hn b h1.lt h7, hn q h2.lt h8, h9, h10, fun k => Iff.rfl⟩, fun k hk => ?_, k3.mono fun k _ hk => (h11 k).2 (.inr (.inr (.inl hk)))⟩
  rcases hk with rfl | rfl | hk | hk
  · exact .inl ((h11 _).2 (.inl rfl))
  · exact .inl ((h11 _).2 (.inr (.inl rfl)))
  · rcases k2 k hk with e | e
    · exact .inl ((h11 k).2 (.inr (.inr (.inl e))))
    · exact .inr e
  · exact .inl ((h11 k).2 (.inr (.inr (.inr hk))))
theorem scFind (w : World) (c r : Int) (h : StC S w b L ep hz ms fl) : Calls Tryz.prog 39 #[pt b 0, .int .i64 c, .int .i64 r] w fun e w' => ∃ S' : Nat → Prop, e = .returned (.int .i64 (fndI L c r)) ∧ StC S' w' b L ep hz ms fl ∧ Grew S S' w w' := by
  obtain ⟨q, g, A, cv, h1, h2, h3, h4, h5, h6, h7, h8, h9, h10, h11⟩ := h
  refine (rsFind_blk b q g A L ep cv fl hz c r w h1 h2 h3 h7 h8).mono ?_
  rintro e x ⟨A', rfl, k1, k2, k3⟩
  have hn : ∀ k, k < w.heap.size → ¬ A k → ¬ A' k := fun k hk hA hj => by
    rcases k2 k hj with e | e
    · exact hA e
    · omega
  refine ⟨fun k => k = b ∨ k = q ∨ A' k ∨ cv.ownBlock = some k, rfl, ⟨q, g, A', cv, h1.butS k3 h7, h2.butS k3 h8, k1, own_butS h4 k3 h6, h5, fun i hi => hn i (h4.lt i hi).2 (h6 i hi), hn b h1.lt h7, hn q h2.lt h8, h9, h10, fun k => Iff.rfl⟩, fun k hk => ?_, k3.mono fun k _ hk => (h11 k).2 (.inr (.inr (.inl hk)))⟩
  rcases hk with rfl | rfl | hk | hk
  · exact .inl ((h11 _).2 (.inl rfl))
  · exact .inl ((h11 _).2 (.inr (.inl rfl)))
  · rcases k2 k hk with e | e
    · exact .inl ((h11 k).2 (.inr (.inr (.inl e))))
    · exact .inr e
  · exact .inl ((h11 k).2 (.inr (.inr (.inr hk))))
theorem StC.len (h : StC S w b L ep hz ms fl) : L.length ≤ 100 ∧ ms.length ≤ 20 := by
  obtain ⟨_, _, _, _, _, _, ⟨_, _, _, h3⟩, _, h5, _⟩ := h; exact ⟨h3.len, h5⟩
/-- The document's state, at d. -/
def DcO (S : Nat → Prop) (w : World) (d : Nat) (X : List EntT) (ep hz : Int) (ms : List MemT) (fl : Int) : Prop :=
  ∃ (T : Nat → Prop) (cv u : Value), RgB T w d ep cv fl hz u X ∧ w.ownsRow 0 112 2 cv ms.length (ms.flatMap memE) ∧ ms.length ≤ 20 ∧ (∀ i, cv.ownBlock = some i → ¬ T i) ∧ ∀ k, S k ↔ (T k ∨ cv.ownBlock = some k)
theorem DcO.ofS (h : DcO S w d X ep hz ms fl) : ∀ k, S k → k < w.heap.size := by
  obtain ⟨T, cv, u, h1, h2, h3, h4, h5⟩ := h
  intro k hk
  rcases (h5 k).1 hk with hk | hk
  · exact h1.ofS k hk
  · exact (h2.lt k hk).2
theorem DcO.keep (h : DcO S w d X ep hz ms fl) (hk : ∀ k, S k → x.heap[k]? = w.heap[k]?) (hz' : w.heap.size ≤ x.heap.size) : DcO S x d X ep hz ms fl := by
  obtain ⟨T, cv, u, h1, h2, h3, h4, h5⟩ := h
  exact ⟨T, cv, u, h1.keep hz' (fun k j => hk k ((h5 k).2 (.inl j))), row_sameL h2 (fun i hi => hk i ((h5 i).2 (.inr hi))), h3, h4, h5⟩
theorem DcO.gr {row : Option Nat} (h : DcO S w d X ep hz ms fl) (hg : w.grownBy x row) (hr : ∀ k, row = some k → ¬ S k) : DcO S x d X ep hz ms fl :=
  h.keep (fun q hq => hg.block q (h.ofS q hq) (fun e => hr q e.symm hq)) hg.size
theorem DcO.but (h : DcO S w d X ep hz ms fl) (hb : But D w x) (ha : ∀ q, S q → D q → False) : DcO S x d X ep hz ms fl :=
  h.keep (fun q hq => hb.block q (h.ofS q hq) (fun hd => ha q hq hd)) hb.size
theorem dcMk0 (hb : Blk w d 36 #[.int .i64 0, .slice none 0 0, .int .u64 0, .int .u64 0, .slice none 0 0]) : DcO (fun q => q = d) w d [] 0 0 [] 0 :=
  ⟨fun q => q = d ∨ False, .slice none 0 0, .slice none 0 0, RgB.mk' (S := fun _ => False) hb ⟨(fun q hq => hq.elim), World.ownsRow_nil _ _ _ _, (fun e he => by cases he), (fun i hi => by simp [Value.ownBlock] at hi), Nat.zero_le _⟩ (fun h => h), World.ownsRow_nil _ _ _ _, Nat.zero_le _, (fun i hi => by simp [Value.ownBlock] at hi), fun k => ⟨fun h => .inl (.inl h), fun h => by rcases h with (h | h) | h; exact h; exact h.elim; simp [Value.ownBlock] at h⟩⟩
theorem DcO.len (h : DcO S w d X ep hz ms fl) : X.length ≤ 100 ∧ ms.length ≤ 20 := by
  obtain ⟨T, cv, u, ⟨_, _, _, _, h1⟩, h2, h3, _⟩ := h; exact ⟨h1.2.2.2.2, h3⟩
theorem dcApply (w : World) (y : NoteD) (mv lv ev : Value) (h : DcO S w d X ep hz ms fl) (hm : SliceOf memE 2 w mv y.ms) (hg : SliceOf (intE .i64) 1 w lv y.lg) (he : SliceOf opE 3 w ev y.el) (hR : NoteR y)
    (hbm : y.ms ≠ [] → ∀ k, mv.ownBlock = some k → ¬ S k) (hbg : y.lg ≠ [] → ∀ k, lv.ownBlock = some k → ¬ S k) (hbe : y.el ≠ [] → ∀ k, ev.ownBlock = some k → ¬ S k) :
    Calls Tryz.prog 9 #[pt d 0, .agg #[.int .i64 y.k, .int .i64 y.n, .int .u64 y.t, .int .i64 y.ep, mv, .int .u64 y.fl, lv, .int .i64 y.ec, .int .i64 y.er, ev, .int .u64 y.ets, .int .i64 y.pid, .int .u64 y.pat, .int .i64 y.plf, .int .i64 y.sc, .int .i64 y.sr, .int .i64 y.se, .int .i64 y.sp]] w fun e w' =>
      ∃ (X' : List EntT) (S' : Nat → Prop), e = .returned (.int .i64 (apE y ep hz X)) ∧ DcO S' w' d X' (apEp y ep) (apHz y hz) (apMs y ep ms) (apFl y ep fl) ∧ X'.map e0 = (apL y hz X).map e0 ∧ Grew S S' w w' := by
  obtain ⟨T, cv, u, ⟨T0, i1, i2, i3, i4⟩, h2, h3, h4, h5⟩ := h
  have hf : ∀ k, (k = d ∨ T0 k) → S k := fun k hk => (h5 k).2 (.inl ((i1 k).2 hk))
  refine (rdApply_blk d T0 u X ep cv ms fl hz y mv lv ev w i3 i4 i2 h2 (fun i hi hk => h4 i hi ((i1 i).2 (.inr hk))) h3 hm hg he hR (fun hn k hk hj => hbm hn k hk (hf k hj)) (fun hn k hk hj => hbg hn k hk (hf k hj)) (fun hn k hk hj => hbe hn k hk (hf k hj))).mono ?_
  rintro e x ⟨T', X', u', ep', cv', ms', fl', hz', rfl, k1, k2, k3, k4, k5, k6, ⟨rfl, rfl, rfl, rfl⟩, k8, k9⟩
  refine ⟨X', fun k => T' k ∨ cv'.ownBlock = some k, rfl, ⟨T', cv', u', k1, k2, k3, k4, fun k => Iff.rfl⟩, k6, fun k hk => ?_, k9.mono fun k _ hk => hf k hk⟩
  rcases hk with hk | hk
  · exact (k5 k hk).imp (hf k) id
  · exact (k8 k hk).imp (fun j => (h5 k).2 (.inr j)) id
end
end Go.Proofs.YtniojcnkjehflaaGreat

/- catenalaw30: Same of two states that are alike. Conditions: none. -/
namespace Go.Proofs.YtniojcnkjehflaaGreat
open Go.RowKit Go.PlainAid
set_option linter.unusedVariables false
set_option linter.unusedSimpArgs false


theorem sameCf_reflS (ep : Int) (ms : List MemT) (fl : Int) : sameCf ep ms fl ep ms fl = true := by unfold sameCf; exact decide_eq_true ⟨rfl, rfl, rfl⟩
/-- The numbers of a state are in range. -/
structure CfR (ep hz : Int) (ms : List MemT) (fl : Int) : Prop where
  mm : ∀ m ∈ ms, memOk m
  ep : -9223372036854775808 ≤ ep ∧ ep ≤ 9223372036854775807
  fl : 0 ≤ fl ∧ fl < 18446744073709551616
  hz : 0 ≤ hz ∧ hz < 18446744073709551616
theorem cfR0 : CfR 0 0 [] 0 := ⟨(fun m hm => by cases hm), by omega, by omega, by omega⟩
theorem CfR.ap {ep hz : Int} {ms : List MemT} {fl : Int} {d : NoteD} (h : CfR ep hz ms fl) (hR : NoteR d) : CfR (apEp d ep) (apHz d hz) (apMs d ep ms) (apFl d ep fl) := by
  have hr := hR.rng
  refine ⟨?_, ?_, ?_, ?_⟩
  · unfold apMs; split; exact hR.mem; exact h.mm
  · unfold apEp; split; exact hr.1; exact h.ep
  · unfold apFl; split; exact hr.2.1; exact h.fl
  · unfold apHz; split; exact hr.2.2.1; exact h.hz
theorem eqTop {A B : List EntT} (h : A.map e0 = B.map e0) (c : Int) : topN A c = topN B c := by rw [← topN_e0, h, topN_e0]
theorem eqFnd {A B : List EntT} (h : A.map e0 = B.map e0) (c r : Int) : fndI A c r = fndI B c r := by rw [← fndI_e0, h, fndI_e0]
theorem eqStN {A B : List EntT} (h : A.map e0 = B.map e0) : stN A = stN B := by rw [← stN_e0, h, stN_e0]
section
variable {L X A B : List EntT} {i : Nat} {y z : EntT} {c r a : Int}
theorem e0_both (h : A.map e0 = B.map e0) (hy : A[i]? = some y) (hz : B[i]? = some z) : y.client = z.client ∧ y.req = z.req ∧ y.opl = z.opl ∧ y.ts = z.ts := by
  obtain ⟨x, hx, e⟩ := e0_at h hy
  rw [hz] at hx; cases hx
  obtain ⟨k1, k2, k3, k4⟩ := e0_ts e
  exact ⟨k2.symm, k3.symm, k4.symm, k1.symm⟩
end

set_option maxRecDepth 100000 in
theorem sameOpsE_any (v : Value) (l : List OpT) (v2 : Value) (w : World) (hs : SliceOf opE 3 w v l) (hs2 : SliceOf opE 3 w v2 l) :
    Calls Tryz.prog 91 #[v, v2] w fun e w' => e = .returned (.bool true) ∧ Below w.heap.size w w' := by
 have hB0 := Below.refl w.heap.size w;have hl_hs := sl_len hs;have hl_hs2 := sl_len hs2;refine co_enter (n := 32) Tryz.func91 rfl rfl rfl [(0, v), (1, v2)] rfl (fun a s => ?_);refine q2 ?_;refine pk0 (v := .bool false) s rfl fun _ s => q6 ?_;refine pk0 (v := v) s rfl fun _ s => ?_;refine pk (v := .int .i64 (l.length : Int)) s rfl (rn_len rfl rfl Tryz.underlying40 hs) fun _ s => ?_;refine pk0 (v := v2) s rfl fun _ s => ?_;refine pk (v := .int .i64 (l.length : Int)) s rfl (rn_len rfl rfl Tryz.underlying40 hs2) fun _ s => ?_;refine pk0 (v := .bool ((l.length : Int) != (l.length : Int))) s rfl fun _ s => q1 ?_;have hc7 : ((l.length : Int) != (l.length : Int)) = false := by first | (simp; done) | (simp; omega) | exact beq_false_of_ne (by omega) | exact beq_iff_eq.2 (by omega)
 rw [hc7] at s;refine co_false s rfl <| q8 ?_;refine pk0 (v := .int .i64 0) s rfl fun _ s => q1 <| wp_block ?_;have s : Slots 32 [(0, v), (1, v2), (5, .int .i64 0)] _ := s.sub ⟨rfl, rfl, rfl, trivial⟩;refine co_loop (fun mm a x => ∃ (i : Nat), Slots 32 [(0, v), (1, v2), (5, .int .i64 (i : Int))] a ∧ mm = l.length - i ∧ (i ≤ l.length) ∧ Below w.heap.size w x) (l.length - 0) ?_ ?_
 · exact ⟨0, s.sub ⟨rfl, rfl, (slot_eq rfl (congrArg (Value.int .i64) (by first | rfl | omega))), trivial⟩, rfl, by omega, hB0⟩
 · rintro k10 a11 w12 ⟨i, s, rfl, hi13, hB14⟩
   have hz15 := hB14.size;refine q9 ?_;refine pk0 (v := .int .i64 (i : Int)) s rfl fun _ s => ?_;refine pk0 (v := v) s rfl fun _ s => ?_;refine pk (v := .int .i64 (l.length : Int)) s rfl (rn_len rfl rfl Tryz.underlying40 (hs.below hB14)) fun _ s => ?_;refine pk0 (v := .bool (decide ((i : Int) < (l.length : Int)))) s rfl fun _ s => ?_;refine pk0 (v := .bool (decide ((i : Int) < (l.length : Int)))) s rfl fun _ s => ?_;cases hc21 : (decide ((i : Int) < (l.length : Int)))
   ·
    rw [hc21] at s;have hp22 : ¬ ((i : Int) < (l.length : Int)) := of_decide_eq_false hc21;refine psk s rfl fun _ s => ?_;refine psk s rfl fun _ s => ?_;refine psk s rfl fun _ s => ?_;refine psk s rfl fun _ s => ?_;refine pk0 (v := .bool false) s rfl fun _ s => q1 ?_;refine co_false s rfl <| wp_exit <| co_thenX <| co_thenX <| qx <| q2 ?_;refine pk0 (v := .bool true) s rfl fun _ s => q4 ?_;refine co_ret1 s rfl rfl ?_;exact ⟨rfl, hB14⟩
   rw [hc21] at s;have hp29 : (i : Int) < (l.length : Int) := of_decide_eq_true hc21;refine pk0 (v := .int .i64 (i : Int)) s rfl fun _ s => ?_;refine pk0 (v := v2) s rfl fun _ s => ?_;refine pk (v := .int .i64 (l.length : Int)) s rfl (rn_len rfl rfl Tryz.underlying40 (hs2.below hB14)) fun _ s => ?_;refine pk0 (v := .bool (decide ((i : Int) < (l.length : Int)))) s rfl fun _ s => ?_;refine pk0 (v := .bool (decide ((i : Int) < (l.length : Int)))) s rfl fun _ s => q1 ?_;have hc35 : (decide ((i : Int) < (l.length : Int))) = true := decide_eq_true (by omega);rw [hc35] at s;refine co_true s rfl <| q0 <| co_seq <| wp_block <| co_seq ?_;refine dr_eq (by kernel_rfl) (fun w36 hg37 => ?_);have hz38 := hg37.size;refine dk0 0 (v := v) s rfl rfl rfl fun _ s => ?_;refine dk0 1 (v := .int .i64 (i : Int)) s rfl rfl rfl fun _ s => ?_;have hB42 := hb_new hB14 hg37;obtain ⟨y41, hy41⟩ : ∃ z, l[i]? = some z := ⟨_, List.getElem?_eq_getElem (by first | omega | (simp; done) | (simp; omega))⟩;refine dk 2 (v := pt (blkOf v) (offOf v + i * 3)) s rfl rfl rfl (fun x hx => by subst hx; exact (rn_index rfl rfl rfl Tryz.underlying40 Tryz.sizeOf58 (hs.below hB42) (by omega) (by first | omega | (simp; done) | (simp; omega)))) fun _ s => ?_;refine dk 3 (v := .agg #[.string y41.1, .string y41.2.1, .bool y41.2.2]) s rfl rfl rfl (fun x hx => by subst hx; exact (rn_loadN rfl rfl Tryz.underlying58 rfl (by kernel_rfl) (sl_at (hs.below hB42) hy41))) fun _ s => ?_;refine dk0 4 (v := v2) s rfl rfl rfl fun _ s => ?_;refine dk0 5 (v := .int .i64 (i : Int)) s rfl rfl rfl fun _ s => ?_;refine dk 6 (v := pt (blkOf v2) (offOf v2 + i * 3)) s rfl rfl rfl (fun x hx => by subst hx; exact (rn_index rfl rfl rfl Tryz.underlying40 Tryz.sizeOf58 (hs2.below hB42) (by omega) (by first | omega | (simp; done) | (simp; omega)))) fun _ s => ?_;refine dk 7 (v := .agg #[.string y41.1, .string y41.2.1, .bool y41.2.2]) s rfl rfl rfl (fun x hx => by subst hx; exact (rn_loadN rfl rfl Tryz.underlying58 rfl (by kernel_rfl) (sl_at (hs2.below hB42) hy41))) fun _ s => ?_;refine dk 8 (v := .bool (!(y41.1.toList == y41.1.toList && y41.2.1.toList == y41.2.1.toList && y41.2.2 == y41.2.2))) s rfl rfl rfl (fun x hx => by subst hx; exact (rn_neS rfl rfl rfl Tryz.eqGuardType58 (eq_op _ _ _ _ _ _ _))) fun _ s => ?_;refine dr_done (by kernel_rfl) ?_;refine co_then ?_;have hc50 : (!(y41.1.toList == y41.1.toList && y41.2.1.toList == y41.2.1.toList && y41.2.2 == y41.2.2)) = false := by simp
   rw [hc50] at s;refine co_false s rfl <| wp_skip <| co_blockN <| co_then <| co_reg ?_;refine pk0 (v := .int .i64 (i : Int)) s rfl fun _ s => ?_;refine pk (v := .int .i64 ((i + 1 : Nat) : Int)) s rfl (rn_arith' rfl rfl rfl rfl rfl rfl (IntWalk.i64_in _ (by omega)) (by omega)) fun _ s => ?_;refine pk0 (v := .int .i64 ((i + 1 : Nat) : Int)) s rfl fun _ s => q1 ?_;refine ⟨(l.length - (i + 1)), by omega, ?_⟩;exact ⟨i + 1, s.sub ⟨rfl, rfl, rfl, trivial⟩, rfl, by omega, hB42⟩
set_option maxRecDepth 100000 in
theorem sameBatE_any (c : Int) (r : Int) (v : Value) (l : List OpT) (v2 : Value) (w : World) (hs : SliceOf opE 3 w v l) (hs2 : SliceOf opE 3 w v2 l) :
    Calls Tryz.prog 78 #[.agg #[.int .i64 c, .int .i64 r, v], .agg #[.int .i64 c, .int .i64 r, v2]] w fun e w' => e = .returned (.bool true) ∧ Below w.heap.size w w' := by
 have hB0 := Below.refl w.heap.size w;have hl_hs := sl_len hs;have hl_hs2 := sl_len hs2;refine co_enter (n := 24) Tryz.func78 rfl rfl rfl [(0, .agg #[.int .i64 c, .int .i64 r, v]), (1, .agg #[.int .i64 c, .int .i64 r, v2])] rfl (fun a s => ?_);refine q2 ?_;refine pw s rfl (op_new (v := fun N => pt N 0) (T := 42) (cs := #[.int .i64 c, .int .i64 r, v]) (by kernel_rfl) (by kernel_rfl) (by kernel_rfl)) ?_;rintro _ w2 a1 ⟨N3, rfl, hN6, hz7, hk5, hg4⟩ s;have hz8 := hg4.size
 try dsimp only at s
 refine pw s rfl (op_new (v := fun N => pt N 0) (T := 42) (cs := #[.int .i64 c, .int .i64 r, v2]) (by kernel_rfl) (by kernel_rfl) (by kernel_rfl)) ?_;rintro _ w10 a9 ⟨N11, rfl, hN14, hz15, hk13, hg12⟩ s;have hz16 := hg12.size
 try dsimp only at s
 refine pk0 (v := .bool false) s rfl fun _ s => q3 ?_;refine pk0 (v := pt N3 0) s rfl fun _ s => ?_;have hk19 := hk5.kept hg12 (by simp);refine pk (v := .int .i64 c) s rfl (rn_load1 rfl rfl Tryz.isAgg3 (hk19.cell rfl)) fun _ s => ?_;refine pk0 (v := pt N11 0) s rfl fun _ s => ?_;refine pk (v := .int .i64 c) s rfl (rn_load1 rfl rfl Tryz.isAgg3 (hk13.cell rfl)) fun _ s => ?_;refine pk0 (v := .bool (c == c)) s rfl fun _ s => ?_;refine pk0 (v := .bool (c == c)) s rfl fun _ s => ?_;have hc25 : (c == c) = true := by first | (simp; done) | (simp; omega) | exact beq_false_of_ne (by omega) | exact beq_iff_eq.2 (by omega)
 rw [hc25] at s;refine pk0 (v := pt N3 1) s rfl fun _ s => ?_;refine pk (v := .int .i64 r) s rfl (rn_load1 rfl rfl Tryz.isAgg3 (hk19.cell rfl)) fun _ s => ?_;refine pk0 (v := pt N11 1) s rfl fun _ s => ?_;refine pk (v := .int .i64 r) s rfl (rn_load1 rfl rfl Tryz.isAgg3 (hk13.cell rfl)) fun _ s => ?_;refine pk0 (v := .bool (r == r)) s rfl fun _ s => ?_;refine pk0 (v := .bool (r == r)) s rfl fun _ s => ?_;refine pk0 (v := .bool (r == r)) s rfl fun _ s => ?_;have hc33 : (r == r) = true := by first | (simp; done) | (simp; omega) | exact beq_false_of_ne (by omega) | exact beq_iff_eq.2 (by omega)
 rw [hc33] at s;refine pk0 (v := pt N3 2) s rfl fun _ s => ?_;refine pk (v := v) s rfl (rn_load1 rfl rfl Tryz.isAgg40 (hk19.cell rfl)) fun _ s => ?_;refine pk0 (v := pt N11 2) s rfl fun _ s => ?_;refine pk (v := v2) s rfl (rn_load1 rfl rfl Tryz.isAgg40 (hk13.cell rfl)) fun _ s => ?_;have hB40 := hb_new hB0 hg4;have hB41 := hb_new hB40 hg12;refine pw s rfl (op_call (args := #[v, v2]) (R := fun res xw => res = .bool true ∧ Below w10.heap.size w10 xw) rfl rfl rfl (by kernel_rfl) (by kernel_rfl) (Tryz.call91 _ _) (sameOpsE_any v l v2 w10 (hs.below hB41) (hs2.below hB41)) (by rintro e x ⟨rfl, hb42⟩; exact ⟨_, rfl, ⟨rfl, hb42⟩⟩)) ?_;rintro _ w39 a38 ⟨rfl, hb42⟩ s;have hz43 := hb42.size;refine pk0 (v := .bool true) s rfl fun _ s => ?_;refine pk0 (v := .bool true) s rfl fun _ s => q4 ?_;refine co_ret1 s rfl rfl ?_;have hB46 := hb_call hB41 hb42;exact ⟨rfl, hB46⟩
set_option maxRecDepth 100000 in
theorem sameEntE_any (c : Int) (r : Int) (v : Value) (l : List OpT) (ts : Int) (v2 : Value) (w : World) (hs : SliceOf opE 3 w v l) (hs2 : SliceOf opE 3 w v2 l) :
    Calls Tryz.prog 43 #[.agg #[.int .i64 c, .int .i64 r, v, .int .u64 ts], .agg #[.int .i64 c, .int .i64 r, v2, .int .u64 ts]] w fun e w' => e = .returned (.bool true) ∧ Below w.heap.size w w' := by
 have hB0 := Below.refl w.heap.size w;have hl_hs := sl_len hs;have hl_hs2 := sl_len hs2;refine co_enter (n := 17) Tryz.func43 rfl rfl rfl [(0, .agg #[.int .i64 c, .int .i64 r, v, .int .u64 ts]), (1, .agg #[.int .i64 c, .int .i64 r, v2, .int .u64 ts])] rfl (fun a s => ?_);refine q2 ?_;refine pw s rfl (op_new (v := fun N => pt N 0) (T := 44) (cs := #[.int .i64 c, .int .i64 r, v, .int .u64 ts]) (by kernel_rfl) (by kernel_rfl) (by kernel_rfl)) ?_;rintro _ w2 a1 ⟨N3, rfl, hN6, hz7, hk5, hg4⟩ s;have hz8 := hg4.size
 try dsimp only at s
 refine pw s rfl (op_new (v := fun N => pt N 0) (T := 44) (cs := #[.int .i64 c, .int .i64 r, v2, .int .u64 ts]) (by kernel_rfl) (by kernel_rfl) (by kernel_rfl)) ?_;rintro _ w10 a9 ⟨N11, rfl, hN14, hz15, hk13, hg12⟩ s;have hz16 := hg12.size
 try dsimp only at s
 refine pk0 (v := .bool false) s rfl fun _ s => q3 ?_;refine pk0 (v := pt N3 3) s rfl fun _ s => ?_;have hk19 := hk5.kept hg12 (by simp);refine pk (v := .int .u64 ts) s rfl (rn_load1 rfl rfl Tryz.isAgg29 (hk19.cell rfl)) fun _ s => ?_;refine pk0 (v := pt N11 3) s rfl fun _ s => ?_;refine pk (v := .int .u64 ts) s rfl (rn_load1 rfl rfl Tryz.isAgg29 (hk13.cell rfl)) fun _ s => ?_;refine pk0 (v := .bool (ts == ts)) s rfl fun _ s => ?_;refine pk0 (v := .bool (ts == ts)) s rfl fun _ s => ?_;have hc25 : (ts == ts) = true := by first | (simp; done) | (simp; omega) | exact beq_false_of_ne (by omega) | exact beq_iff_eq.2 (by omega)
 rw [hc25] at s;refine pk0 (v := pt N3 0) s rfl fun _ s => ?_;refine pk (v := .agg #[.int .i64 c, .int .i64 r, v]) s rfl (rn_loadN rfl rfl Tryz.underlying42 rfl (by kernel_rfl) (blk_part hk19 0 (by rfl))) fun _ s => ?_;refine pk0 (v := pt N11 0) s rfl fun _ s => ?_;refine pk (v := .agg #[.int .i64 c, .int .i64 r, v2]) s rfl (rn_loadN rfl rfl Tryz.underlying42 rfl (by kernel_rfl) (blk_part hk13 0 (by rfl))) fun _ s => ?_;have hB32 := hb_new hB0 hg4;have hB33 := hb_new hB32 hg12;refine pw s rfl (op_call (args := #[.agg #[.int .i64 c, .int .i64 r, v], .agg #[.int .i64 c, .int .i64 r, v2]]) (R := fun res xw => res = .bool true ∧ Below w10.heap.size w10 xw) rfl rfl rfl (by kernel_rfl) (by kernel_rfl) (Tryz.call78 _ _) (sameBatE_any c r v l v2 w10 (hs.below hB33) (hs2.below hB33)) (by rintro e x ⟨rfl, hb34⟩; exact ⟨_, rfl, ⟨rfl, hb34⟩⟩)) ?_;rintro _ w31 a30 ⟨rfl, hb34⟩ s;have hz35 := hb34.size;refine pk0 (v := .bool true) s rfl fun _ s => ?_;refine pk0 (v := .bool true) s rfl fun _ s => q4 ?_;refine co_ret1 s rfl rfl ?_;have hB38 := hb_call hB33 hb34;exact ⟨rfl, hB38⟩

theorem sameEntG (c r : Int) (v : Value) (l : List OpT) (ts c2 r2 : Int) (v2 : Value) (l2 : List OpT) (ts2 : Int) (w : World) (hs : SliceOf opE 3 w v l) (hs2 : SliceOf opE 3 w v2 l2) (heq : c = c2 ∧ r = r2 ∧ l = l2 ∧ ts = ts2) :
    Calls Tryz.prog 43 #[.agg #[.int .i64 c, .int .i64 r, v, .int .u64 ts], .agg #[.int .i64 c2, .int .i64 r2, v2, .int .u64 ts2]] w fun e w' => e = .returned (.bool true) ∧ Below w.heap.size w w' := by
  obtain ⟨rfl, rfl, rfl, rfl⟩ := heq
  exact sameEntE_any c r v l ts v2 w hs hs2

set_option maxRecDepth 100000 in
theorem sameAllE_any (v : Value) (l : List EntT) (v2 : Value) (l2 : List EntT) (w : World) (hs : SliceOf entE 4 w v l) (hok : ∀ z ∈ l, EntOk w z) (hs2 : SliceOf entE 4 w v2 l2) (hok2 : ∀ z ∈ l2, EntOk w z) (heq : l.map e0 = l2.map e0) :
    Calls Tryz.prog 33 #[v, v2] w fun e w' => e = .returned (.bool true) ∧ Below w.heap.size w w' := by
 have hll := e0_len heq;have hB0 := Below.refl w.heap.size w;have hl_hs := sl_len hs;have hl_hs2 := sl_len hs2;refine co_enter (n := 33) Tryz.func33 rfl rfl rfl [(0, v), (1, v2)] rfl (fun a s => ?_);refine q2 ?_;refine pk0 (v := .bool false) s rfl fun _ s => q6 ?_;refine pk0 (v := v) s rfl fun _ s => ?_;refine pk (v := .int .i64 (l.length : Int)) s rfl (rn_len rfl rfl Tryz.underlying32 hs) fun _ s => ?_;refine pk0 (v := v2) s rfl fun _ s => ?_;refine pk (v := .int .i64 (l2.length : Int)) s rfl (rn_len rfl rfl Tryz.underlying32 hs2) fun _ s => ?_;refine pk0 (v := .bool ((l.length : Int) != (l2.length : Int))) s rfl fun _ s => q1 ?_;have hc7 : ((l.length : Int) != (l2.length : Int)) = false := by first | (simp; done) | (simp; omega) | exact beq_false_of_ne (by omega) | exact beq_iff_eq.2 (by omega)
 rw [hc7] at s;refine co_false s rfl <| q8 ?_;refine pk0 (v := .int .i64 0) s rfl fun _ s => q1 <| wp_block ?_;have s : Slots 33 [(0, v), (1, v2), (5, .int .i64 0)] _ := s.sub ⟨rfl, rfl, rfl, trivial⟩;refine co_loop (fun mm a x => ∃ (i : Nat), Slots 33 [(0, v), (1, v2), (5, .int .i64 (i : Int))] a ∧ mm = l.length - i ∧ (i ≤ l.length) ∧ Below w.heap.size w x) (l.length - 0) ?_ ?_
 · exact ⟨0, s.sub ⟨rfl, rfl, (slot_eq rfl (congrArg (Value.int .i64) (by first | rfl | omega))), trivial⟩, rfl, by omega, hB0⟩
 · rintro k10 a11 w12 ⟨i, s, rfl, hi13, hB14⟩
   have hz15 := hB14.size;refine q9 ?_;refine pk0 (v := .int .i64 (i : Int)) s rfl fun _ s => ?_;refine pk0 (v := v) s rfl fun _ s => ?_;refine pk (v := .int .i64 (l.length : Int)) s rfl (rn_len rfl rfl Tryz.underlying32 (hs.below hB14)) fun _ s => ?_;refine pk0 (v := .bool (decide ((i : Int) < (l.length : Int)))) s rfl fun _ s => ?_;refine pk0 (v := .bool (decide ((i : Int) < (l.length : Int)))) s rfl fun _ s => ?_;cases hc21 : (decide ((i : Int) < (l.length : Int)))
   ·
    rw [hc21] at s;have hp22 : ¬ ((i : Int) < (l.length : Int)) := of_decide_eq_false hc21;refine psk s rfl fun _ s => ?_;refine psk s rfl fun _ s => ?_;refine psk s rfl fun _ s => ?_;refine psk s rfl fun _ s => ?_;refine pk0 (v := .bool false) s rfl fun _ s => q1 ?_;refine co_false s rfl <| wp_exit <| co_thenX <| co_thenX <| qx <| q2 ?_;refine pk0 (v := .bool true) s rfl fun _ s => q4 ?_;refine co_ret1 s rfl rfl ?_;exact ⟨rfl, hB14⟩
   rw [hc21] at s;have hp29 : (i : Int) < (l.length : Int) := of_decide_eq_true hc21;refine pk0 (v := .int .i64 (i : Int)) s rfl fun _ s => ?_;refine pk0 (v := v2) s rfl fun _ s => ?_;refine pk (v := .int .i64 (l2.length : Int)) s rfl (rn_len rfl rfl Tryz.underlying32 (hs2.below hB14)) fun _ s => ?_;refine pk0 (v := .bool (decide ((i : Int) < (l2.length : Int)))) s rfl fun _ s => ?_;refine pk0 (v := .bool (decide ((i : Int) < (l2.length : Int)))) s rfl fun _ s => q1 ?_;have hc35 : (decide ((i : Int) < (l2.length : Int))) = true := decide_eq_true (by omega);rw [hc35] at s;refine co_true s rfl <| q0 <| co_seq <| wp_block <| co_seq ?_;refine dr_gen (fun x => Below w.heap.size w x) (by kernel_rfl) (fun w36 hg37 => ?_) (fun w36 hg37 => ?_)
   ·
    have hz38 := hg37.size;have hB39 := hb_new hB14 hg37;exact hB39
   have hz40 := hg37.size;have hB41 := hb_new hB14 hg37;refine dk0 0 (v := v) s rfl rfl hB41 fun _ s => ?_;refine dk0 1 (v := .int .i64 (i : Int)) s rfl rfl hB41 fun _ s => ?_;obtain ⟨y44, hy44⟩ : ∃ z, l[i]? = some z := ⟨_, List.getElem?_eq_getElem (by first | omega | (simp; done) | (simp; omega))⟩;have oky44 := hok _ (List.mem_of_getElem? hy44);have k45 : 0 ≤ y44.ts := oky44.ts0;have k46 : y44.ts < 18446744073709551616 := oky44.ts1;refine dk 2 (v := pt (blkOf v) (offOf v + i * 4)) s rfl rfl hB41 (fun x hx => (rn_index rfl rfl rfl Tryz.underlying32 Tryz.sizeOf44 (hs.below hx) (by omega) (by first | omega | (simp; done) | (simp; omega)))) fun _ s => ?_;refine dk 3 (v := .agg #[.int .i64 y44.client, .int .i64 y44.req, y44.ops, .int .u64 y44.ts]) s rfl rfl hB41 (fun x hx => (rn_loadN rfl rfl Tryz.underlying44 rfl (by kernel_rfl) (sl_at (hs.below hx) hy44))) fun _ s => ?_;refine dk0 4 (v := v2) s rfl rfl hB41 fun _ s => ?_;refine dk0 5 (v := .int .i64 (i : Int)) s rfl rfl hB41 fun _ s => ?_;obtain ⟨y51, hy51⟩ : ∃ z, l2[i]? = some z := ⟨_, List.getElem?_eq_getElem (by first | omega | (simp; done) | (simp; omega))⟩;have oky51 := hok2 _ (List.mem_of_getElem? hy51);have k52 : 0 ≤ y51.ts := oky51.ts0;have k53 : y51.ts < 18446744073709551616 := oky51.ts1;refine dk 6 (v := pt (blkOf v2) (offOf v2 + i * 4)) s rfl rfl hB41 (fun x hx => (rn_index rfl rfl rfl Tryz.underlying32 Tryz.sizeOf44 (hs2.below hx) (by omega) (by first | omega | (simp; done) | (simp; omega)))) fun _ s => ?_;refine dk 7 (v := .agg #[.int .i64 y51.client, .int .i64 y51.req, y51.ops, .int .u64 y51.ts]) s rfl rfl hB41 (fun x hx => (rn_loadN rfl rfl Tryz.underlying44 rfl (by kernel_rfl) (sl_at (hs2.below hx) hy51))) fun _ s => ?_;refine d1 8 s rfl rfl (op_call (args := #[.agg #[.int .i64 y44.client, .int .i64 y44.req, y44.ops, .int .u64 y44.ts], .agg #[.int .i64 y51.client, .int .i64 y51.req, y51.ops, .int .u64 y51.ts]]) (R := fun res xw => res = .bool true ∧ Below w36.heap.size w36 xw) rfl rfl rfl (by kernel_rfl) (by kernel_rfl) (Tryz.call43 _ _) (sameEntG y44.client y44.req y44.ops y44.opl y44.ts y51.client y51.req y51.ops y51.opl y51.ts w36 (oky44.ops.below hB41) (oky51.ops.below hB41) (e0_both heq hy44 hy51)) (by rintro e x ⟨rfl, hb58⟩; exact ⟨_, rfl, ⟨rfl, hb58⟩⟩)) ?_ ?_
   ·
    rintro _ w57 ⟨rfl, hb58⟩;have hz59 := hb58.size;have hB60 := hb_call hB41 hb58;exact hB60
   rintro _ w57 a56 ⟨rfl, hb58⟩ s;have hz59 := hb58.size;have hB60 := hb_call hB41 hb58;refine dk0 9 (v := .bool false) s rfl rfl hB60 fun _ s => ?_;refine dr_done (by kernel_rfl) ?_;refine co_then ?_;refine co_false s rfl <| wp_skip <| co_blockN <| co_then <| co_reg ?_;refine pk0 (v := .int .i64 (i : Int)) s rfl fun _ s => ?_;refine pk (v := .int .i64 ((i + 1 : Nat) : Int)) s rfl (rn_arith' rfl rfl rfl rfl rfl rfl (IntWalk.i64_in _ (by omega)) (by omega)) fun _ s => ?_;refine pk0 (v := .int .i64 ((i + 1 : Nat) : Int)) s rfl fun _ s => q1 ?_;refine ⟨(l.length - (i + 1)), by omega, ?_⟩;exact ⟨i + 1, s.sub ⟨rfl, rfl, rfl, trivial⟩, rfl, by omega, hB60⟩
set_option maxRecDepth 100000 in
set_option maxHeartbeats 3200000 in
theorem same30_any (S : Nat → Prop) (b : Nat) (L : List EntT) (ep : Int) (hz : Int) (ms : List MemT) (fl : Int) (d : Nat) (D : Nat → Prop) (cv : Value) (u : Value) (X : List EntT) (w : World) (hS : StC S w b L ep hz ms fl) (hb : Blk w d 36 #[.int .i64 ep, cv, .int .u64 fl, .int .u64 hz, u]) (hL : RgR D w u X) (hcv : w.ownsRow 0 112 2 cv ms.length (ms.flatMap memE)) (hSd : ¬ S d) (hap : ∀ k, S k → D k → False) (hcS : ∀ i, cv.ownBlock = some i → ¬ S i) (heq : L.map e0 = X.map e0) (hcf : CfR ep hz ms fl) (hl20 : ms.length ≤ 20) :
    Calls Tryz.prog 10 #[pt b 0, pt d 0] w fun e w' => ∃ (S' : Nat → Prop), e = .returned (.int .i64 1) ∧ StC S' w' b L ep hz ms fl ∧ (∀ k, S' k → S k ∨ w.heap.size ≤ k) ∧ But (S) w w' := by
 have hld := hb.lt;have hB0 := But.refl (S) w;have hl_hb := hb.lt;have hinS : ∀ k, S k → S k ∨ w.heap.size ≤ k := fun k hk => .inl hk;have hleq := e0_len heq;have hcr := hcf.ep; have hcr2 := hcf.fl; have hcr3 := hcf.hz;refine co_enter (n := 84) Tryz.func10 rfl rfl rfl [(0, pt b 0), (1, pt d 0)] rfl (fun a s => ?_);refine q2 ?_;refine pk0 (v := .int .i64 0) s rfl fun _ s => q1 <| co_seq <| co_seq ?_;refine dr_gen (fun x => But (S) w x ∧ Blk x d 36 #[.int .i64 ep, cv, .int .u64 fl, .int .u64 hz, u] ∧ RgR D x u X) (by kernel_rfl) (fun w2 hg3 => ?_) (fun w2 hg3 => ?_)
 ·
  have hz4 := hg3.size;have hB5 := fbU_new hB0 hg3;have hk6 := hb.kept hg3 (by simp);have hR7 := RgR.gr hL hg3 (fun k e => by cases e);exact ⟨hB5, hk6, hR7⟩
 have hz8 := hg3.size;have hB9 := fbU_new hB0 hg3;have hk10 := hb.kept hg3 (by simp);have hR11 := RgR.gr hL hg3 (fun k e => by cases e);refine dk0 0 (v := pt b 0) s rfl rfl ⟨hB9, hk10, hR11⟩ fun _ s => ?_;refine dk0 2 (v := pt d 0) s rfl rfl ⟨hB9, hk10, hR11⟩ fun _ s => ?_;refine dk0 3 (v := pt d 0) s rfl rfl ⟨hB9, hk10, hR11⟩ fun _ s => ?_;refine dk0 4 (v := pt d 0) s rfl rfl ⟨hB9, hk10, hR11⟩ fun _ s => ?_;refine dk 5 (v := .agg #[.int .i64 ep, cv, .int .u64 fl]) s rfl rfl ⟨hB9, hk10, hR11⟩ (fun x hx => (rn_loadN rfl rfl Tryz.underlying31 rfl (by kernel_rfl) (blk_part hx.2.1 0 (by rfl)))) fun _ s => ?_;have hO22 := StC.gr hS hg3 (fun k e => by cases e);refine d1 1 s rfl rfl (op_call (args := #[pt b 0]) (R := fun res xw => ∃ (u : Value), res = .agg #[.int .i64 ep, u, .int .u64 fl] ∧ xw.ownsRow w2.heap.size 112 2 u ms.length (ms.flatMap memE) ∧ Below w2.heap.size w2 xw) rfl rfl rfl (by kernel_rfl) (by kernel_rfl) (Tryz.call31 _ _) (scConf w2 hO22) (by rintro e x ⟨u, h0, h⟩; exact ⟨_, h0, u, rfl, h⟩)) ?_ ?_
 ·
  rintro _ w18 ⟨u19, rfl, hr20, hb21⟩;have hz23 := hb21.size;have ho24 := StC.ofS hO22;have hB25 := fbU_call hB9 hb21;have hk26 := hk10.below hb21;have hR27 := RgR.gr hR11 (below_grown hb21) (fun k e => by cases e);exact ⟨hB25, hk26, hR27⟩
 rintro _ w18 a17 ⟨u19, rfl, hr20, hb21⟩ s;have hz23 := hb21.size;have ho24 := StC.ofS hO22;have hB25 := fbU_call hB9 hb21;have hk26 := hk10.below hb21;have hR27 := RgR.gr hR11 (below_grown hb21) (fun k e => by cases e);have hr30 := row_kept_new hcv hg3;have hr31 := row_kept_new hr30 (below_grown hb21);refine d1 6 s rfl rfl (op_call (args := #[.agg #[.int .i64 ep, u19, .int .u64 fl], .agg #[.int .i64 ep, cv, .int .u64 fl]]) (R := fun res xw => res = .bool true ∧ Below w18.heap.size w18 xw) rfl rfl rfl (by kernel_rfl) (by kernel_rfl) (Tryz.call30 _ _) (wrsame_any ep u19 ms fl ep cv ms fl w18 (row_sl hr20 memE_len) hcf.mm hcf.ep hcf.fl (row_sl hr31 memE_len) hcf.mm hcf.ep hcf.fl) (by rintro e x ⟨h0, h⟩; rw [sameCf_reflS] at h0; exact ⟨_, h0, rfl, h⟩)) ?_ ?_
 ·
  rintro _ w29 ⟨rfl, hb32⟩;have hz33 := hb32.size;have hO35 := StC.gr hO22 (below_grown hb21) (fun k e => by cases e);have ho34 := StC.ofS hO35;have hB36 := fbU_call hB25 hb32;have hk37 := hk26.below hb32;have hR38 := RgR.gr hR27 (below_grown hb32) (fun k e => by cases e);exact ⟨hB36, hk37, hR38⟩
 rintro _ w29 a28 ⟨rfl, hb32⟩ s;have hz33 := hb32.size;have hO35 := StC.gr hO22 (below_grown hb21) (fun k e => by cases e);have ho34 := StC.ofS hO35;have hB36 := fbU_call hB25 hb32;have hk37 := hk26.below hb32;have hR38 := RgR.gr hR27 (below_grown hb32) (fun k e => by cases e);refine dk0 7 (v := .bool false) s rfl rfl ⟨hB36, hk37, hR38⟩ fun _ s => ?_;refine dk0 8 (v := .bool false) s rfl rfl ⟨hB36, hk37, hR38⟩ fun _ s => ?_;refine dk0 9 (v := pt b 0) s rfl rfl ⟨hB36, hk37, hR38⟩ fun _ s => ?_;refine dk0 11 (v := pt d 0) s rfl rfl ⟨hB36, hk37, hR38⟩ fun _ s => ?_;refine dk0 12 (v := pt d 0) s rfl rfl ⟨hB36, hk37, hR38⟩ fun _ s => ?_;refine dk0 13 (v := pt d 3) s rfl rfl ⟨hB36, hk37, hR38⟩ fun _ s => ?_;refine dk 14 (v := .int .u64 hz) s rfl rfl ⟨hB36, hk37, hR38⟩ (fun x hx => (rn_load1 rfl rfl Tryz.isAgg29 (hx.2.1.cell rfl))) fun _ s => ?_;have hO48 := StC.gr hO35 (below_grown hb32) (fun k e => by cases e);refine d1 10 s rfl rfl (op_call (args := #[pt b 0]) (R := fun res xw => res = .int .u64 hz ∧ w29 = xw) rfl rfl rfl (by kernel_rfl) (by kernel_rfl) (Tryz.call32 _ _) (scHorizon w29 hO48) (by rintro e x ⟨rfl, rfl⟩; exact ⟨_, rfl, rfl, rfl⟩)) ?_ ?_
 ·
  rintro _ _ ⟨rfl, rfl⟩;exact ⟨hB36, hk37, hR38⟩
 rintro _ _ a46 ⟨rfl, rfl⟩ s;refine dk0 15 (v := .bool (hz != hz)) s rfl rfl ⟨hB36, hk37, hR38⟩ fun _ s => ?_;refine dk0 16 (v := .bool (hz != hz)) s rfl rfl ⟨hB36, hk37, hR38⟩ fun _ s => ?_;refine dk0 17 (v := .bool (hz != hz)) s rfl rfl ⟨hB36, hk37, hR38⟩ fun _ s => ?_;have hc52 : (hz != hz) = false := by first | (simp; done) | (simp; omega) | exact beq_false_of_ne (by omega) | exact beq_iff_eq.2 (by omega)
 rw [hc52] at s;refine dk0 18 (v := pt b 0) s rfl rfl ⟨hB36, hk37, hR38⟩ fun _ s => ?_;refine dk0 20 (v := pt d 0) s rfl rfl ⟨hB36, hk37, hR38⟩ fun _ s => ?_;refine dk0 21 (v := pt d 0) s rfl rfl ⟨hB36, hk37, hR38⟩ fun _ s => ?_;refine dk0 22 (v := pt d 4) s rfl rfl ⟨hB36, hk37, hR38⟩ fun _ s => ?_;refine dk0 23 (v := pt d 4) s rfl rfl ⟨hB36, hk37, hR38⟩ fun _ s => ?_;refine dk 24 (v := u) s rfl rfl ⟨hB36, hk37, hR38⟩ (fun x hx => (rn_load1 rfl rfl Tryz.isAgg32 (hx.2.1.cell rfl))) fun _ s => ?_;have ho61 := StC.ofS hO48;refine d1 19 s rfl rfl (op_call (args := #[pt b 0]) (R := fun res xw => ∃ L2 : List EntT, ∃ u2 : Value, ∃ S' : Nat → Prop, res = u2 ∧ StC S' xw b L ep hz ms fl ∧ (xw.ownsRow w29.heap.size 44 4 u2 L2.length (L2.flatMap entE)) ∧ (EntsK (fun _ => False) w29.heap.size xw L2) ∧ (L2.map e0 = L.map e0) ∧ Grew S S' w29 xw) rfl rfl rfl (by kernel_rfl) (by kernel_rfl) (Tryz.call34 _ _) (scAll w29 hO48) (by rintro e x ⟨L2, u2, S', h0, h⟩; exact ⟨_, h0, L2, u2, S', rfl, h⟩)) ?_ ?_
 ·
  rintro u263 w60 ⟨L262, _, S64, rfl, hO65, hq67, hq68, hq69, hx66⟩;have hr70 := row_kept_new hr31 (below_grown hb32);have hB71 := fbU_foot hB36 hx66.but (fun i hi hq => by rcases hinS i hq with k | k; exact k; omega);have hz72 := hB71.size;have hz73 := hx66.but.size;have hin74 : ∀ k, S64 k → (S k) ∨ w.heap.size ≤ k := fun k hk => by rcases hx66.sub k hk with j | j; exact hinS k j; exact .inr (by omega)
  have hk75 := Blk.butS hk37 hx66.but hSd;have hR76 := RgR.but hR38 hx66.but (ap_symm hap);exact ⟨hB71, hk75, hR76⟩
 rintro u263 w60 a59 ⟨L262, _, S64, rfl, hO65, hq67, hq68, hq69, hx66⟩ s;have hr70 := row_kept_new hr31 (below_grown hb32);have hB71 := fbU_foot hB36 hx66.but (fun i hi hq => by rcases hinS i hq with k | k; exact k; omega);have hz72 := hB71.size;have hz73 := hx66.but.size;have hin74 : ∀ k, S64 k → (S k) ∨ w.heap.size ≤ k := fun k hk => by rcases hx66.sub k hk with j | j; exact hinS k j; exact .inr (by omega)
 have hk75 := Blk.butS hk37 hx66.but hSd;have hR76 := RgR.but hR38 hx66.but (ap_symm hap);refine d1 25 s rfl rfl (op_call (args := #[u263, u]) (R := fun res xw => res = .bool true ∧ Below w60.heap.size w60 xw) rfl rfl rfl (by kernel_rfl) (by kernel_rfl) (Tryz.call33 _ _) (sameAllE_any u263 L262 u X w60 (row_sl hq67 entE_len) (entsK_got hq68) (RgR.sl hR76) (RgR.ok hR76) (hq69.trans heq)) (by rintro e x ⟨rfl, h⟩; exact ⟨_, rfl, rfl, h⟩)) ?_ ?_
 ·
  rintro _ w78 ⟨rfl, hb79⟩;have hz80 := hb79.size;have ho81 := StC.ofS hO65;have hB82 := fbU_call hB71 hb79;have hk83 := hk75.below hb79;have hR84 := RgR.gr hR76 (below_grown hb79) (fun k e => by cases e);exact ⟨hB82, hk83, hR84⟩
 rintro _ w78 a77 ⟨rfl, hb79⟩ s;have hz80 := hb79.size;have ho81 := StC.ofS hO65;have hB82 := fbU_call hB71 hb79;have hk83 := hk75.below hb79;have hR84 := RgR.gr hR76 (below_grown hb79) (fun k e => by cases e);refine dk0 26 (v := .bool false) s rfl rfl ⟨hB82, hk83, hR84⟩ fun _ s => ?_;refine dk0 27 (v := .bool false) s rfl rfl ⟨hB82, hk83, hR84⟩ fun _ s => ?_;refine dk0 28 (v := .bool false) s rfl rfl ⟨hB82, hk83, hR84⟩ fun _ s => ?_;refine dk0 29 (v := pt b 0) s rfl rfl ⟨hB82, hk83, hR84⟩ fun _ s => ?_;refine dk0 31 (v := pt d 0) s rfl rfl ⟨hB82, hk83, hR84⟩ fun _ s => ?_;refine dk0 32 (v := pt d 0) s rfl rfl ⟨hB82, hk83, hR84⟩ fun _ s => ?_;refine dk0 33 (v := pt d 4) s rfl rfl ⟨hB82, hk83, hR84⟩ fun _ s => ?_;refine dk0 34 (v := pt d 4) s rfl rfl ⟨hB82, hk83, hR84⟩ fun _ s => ?_;refine dk 35 (v := u) s rfl rfl ⟨hB82, hk83, hR84⟩ (fun x hx => (rn_load1 rfl rfl Tryz.isAgg32 (hx.2.1.cell rfl))) fun _ s => ?_;refine dk 36 (v := .int .i64 (X.length : Int)) s rfl rfl ⟨hB82, hk83, hR84⟩ (fun x hx => (rn_len rfl rfl Tryz.underlying32 (RgR.sl hx.2.2))) fun _ s => ?_;have hr97 := own_butS hr70 hx66.but hcS;have hr98 := row_kept_new hr97 (below_grown hb79);have hO100 := StC.gr hO65 (below_grown hb79) (fun k e => by cases e);have ho99 := StC.ofS hO100;refine d1 30 s rfl rfl (op_call (args := #[pt b 0]) (R := fun res xw => ∃ S' : Nat → Prop, res = .int .i64 (L.length : Int) ∧ StC S' xw b L ep hz ms fl ∧ Grew S64 S' w78 xw) rfl rfl rfl (by kernel_rfl) (by kernel_rfl) (Tryz.call35 _ _) (scLen w78 hO100) (by rintro e x ⟨S', h0, h⟩; exact ⟨_, h0, S', rfl, h⟩)) ?_ ?_
 ·
  rintro _ w96 ⟨S101, rfl, hO102, hx103⟩;have hB104 := fbU_foot hB82 hx103.but (fun i hi hq => by rcases hin74 i hq with k | k; exact k; omega);have hz105 := hB104.size;have hz106 := hx103.but.size;have hin107 : ∀ k, S101 k → (S k) ∨ w.heap.size ≤ k := fun k hk => by rcases hx103.sub k hk with j | j; exact hin74 k j; exact .inr (by omega)
  have hk108 := Blk.butS hk83 hx103.but (Grew.off hx66 hSd hk37.lt);have hR109 := RgR.but hR84 hx103.but (ap_symm (Grew.ap hx66 (ap_symm (ap_symm hap)) (RgR.ofS hR38)));exact ⟨hB104, hk108, hR109⟩
 rintro _ w96 a95 ⟨S101, rfl, hO102, hx103⟩ s;have hB104 := fbU_foot hB82 hx103.but (fun i hi hq => by rcases hin74 i hq with k | k; exact k; omega);have hz105 := hB104.size;have hz106 := hx103.but.size;have hin107 : ∀ k, S101 k → (S k) ∨ w.heap.size ≤ k := fun k hk => by rcases hx103.sub k hk with j | j; exact hin74 k j; exact .inr (by omega)
 have hk108 := Blk.butS hk83 hx103.but (Grew.off hx66 hSd hk37.lt);have hR109 := RgR.but hR84 hx103.but (ap_symm (Grew.ap hx66 (ap_symm (ap_symm hap)) (RgR.ofS hR38)));refine dk0 37 (v := .bool ((L.length : Int) != (X.length : Int))) s rfl rfl ⟨hB104, hk108, hR109⟩ fun _ s => ?_;refine dk0 38 (v := .bool ((L.length : Int) != (X.length : Int))) s rfl rfl ⟨hB104, hk108, hR109⟩ fun _ s => ?_;refine dk0 39 (v := .bool ((L.length : Int) != (X.length : Int))) s rfl rfl ⟨hB104, hk108, hR109⟩ fun _ s => ?_;have hc113 : ((L.length : Int) != (X.length : Int)) = false := by first | (simp; done) | (simp; omega) | exact beq_false_of_ne (by omega) | exact beq_iff_eq.2 (by omega)
 rw [hc113] at s;refine dk0 40 (v := pt b 0) s rfl rfl ⟨hB104, hk108, hR109⟩ fun _ s => ?_;refine dk0 42 (v := pt d 0) s rfl rfl ⟨hB104, hk108, hR109⟩ fun _ s => ?_;refine dk0 43 (v := pt d 0) s rfl rfl ⟨hB104, hk108, hR109⟩ fun _ s => ?_;refine dk0 44 (v := pt d 4) s rfl rfl ⟨hB104, hk108, hR109⟩ fun _ s => ?_;refine dk0 45 (v := pt d 4) s rfl rfl ⟨hB104, hk108, hR109⟩ fun _ s => ?_;refine dk 46 (v := u) s rfl rfl ⟨hB104, hk108, hR109⟩ (fun x hx => (rn_load1 rfl rfl Tryz.isAgg32 (hx.2.1.cell rfl))) fun _ s => ?_;have ho122 := StC.ofS hO102;refine d1 41 s rfl rfl (op_call (args := #[pt b 0]) (R := fun res xw => ∃ S' : Nat → Prop, res = .int .i64 ((stN L : Nat) : Int) ∧ StC S' xw b L ep hz ms fl ∧ Grew S101 S' w96 xw) rfl rfl rfl (by kernel_rfl) (by kernel_rfl) (Tryz.call17 _ _) (scStamped w96 hO102) (by rintro e x ⟨S', h0, h⟩; exact ⟨_, h0, S', rfl, h⟩)) ?_ ?_
 ·
  rintro _ w121 ⟨S123, rfl, hO124, hx125⟩;have hr126 := own_butS hr98 hx103.but (Grew.offR hx66 hr70 hcS);have hB127 := fbU_foot hB104 hx125.but (fun i hi hq => by rcases hin107 i hq with k | k; exact k; omega);have hz128 := hB127.size;have hz129 := hx125.but.size;have hin130 : ∀ k, S123 k → (S k) ∨ w.heap.size ≤ k := fun k hk => by rcases hx125.sub k hk with j | j; exact hin107 k j; exact .inr (by omega)
  have hk131 := Blk.butS hk108 hx125.but (Grew.off hx103 (Grew.off hx66 hSd hk37.lt) hk83.lt);have hR132 := RgR.but hR109 hx125.but (ap_symm (Grew.ap hx103 (ap_symm (ap_symm (Grew.ap hx66 (ap_symm (ap_symm hap)) (RgR.ofS hR38)))) (RgR.ofS hR84)));exact ⟨hB127, hk131, hR132⟩
 rintro _ w121 a120 ⟨S123, rfl, hO124, hx125⟩ s;have hr126 := own_butS hr98 hx103.but (Grew.offR hx66 hr70 hcS);have hB127 := fbU_foot hB104 hx125.but (fun i hi hq => by rcases hin107 i hq with k | k; exact k; omega);have hz128 := hB127.size;have hz129 := hx125.but.size;have hin130 : ∀ k, S123 k → (S k) ∨ w.heap.size ≤ k := fun k hk => by rcases hx125.sub k hk with j | j; exact hin107 k j; exact .inr (by omega)
 have hk131 := Blk.butS hk108 hx125.but (Grew.off hx103 (Grew.off hx66 hSd hk37.lt) hk83.lt);have hR132 := RgR.but hR109 hx125.but (ap_symm (Grew.ap hx103 (ap_symm (ap_symm (Grew.ap hx66 (ap_symm (ap_symm hap)) (RgR.ofS hR38)))) (RgR.ofS hR84)));have hst135 := eqStN heq;refine d1 47 s rfl rfl (op_call (args := #[u]) (R := fun res xw => res = .int .i64 ((stN X : Nat) : Int) ∧ Below w121.heap.size w121 xw) rfl rfl rfl (by kernel_rfl) (by kernel_rfl) (Tryz.call36 _ _) (ritemStamped_any u X w121 (RgR.sl hR132) (RgR.ok hR132)) (by rintro e x ⟨rfl, h⟩; exact ⟨_, rfl, rfl, h⟩)) ?_ ?_
 ·
  rintro _ w134 ⟨rfl, hb136⟩;have hz137 := hb136.size;have ho138 := StC.ofS hO124;have hB139 := fbU_call hB127 hb136;have hk140 := hk131.below hb136;have hR141 := RgR.gr hR132 (below_grown hb136) (fun k e => by cases e);exact ⟨hB139, hk140, hR141⟩
 rintro _ w134 a133 ⟨rfl, hb136⟩ s;have hz137 := hb136.size;have ho138 := StC.ofS hO124;have hB139 := fbU_call hB127 hb136;have hk140 := hk131.below hb136;have hR141 := RgR.gr hR132 (below_grown hb136) (fun k e => by cases e);refine dk0 48 (v := .bool (((stN L : Nat) : Int) != ((stN X : Nat) : Int))) s rfl rfl ⟨hB139, hk140, hR141⟩ fun _ s => ?_;refine dk0 49 (v := .bool (((stN L : Nat) : Int) != ((stN X : Nat) : Int))) s rfl rfl ⟨hB139, hk140, hR141⟩ fun _ s => ?_;refine dr_done (by kernel_rfl) ?_;refine co_then ?_;have hc144 : (((stN L : Nat) : Int) != ((stN X : Nat) : Int)) = false := by first | (simp; done) | (simp; omega) | exact beq_false_of_ne (by omega) | exact beq_iff_eq.2 (by omega)
 rw [hc144] at s;refine co_false s rfl <| q8 ?_;refine pk0 (v := .int .i64 0) s rfl fun _ s => q1 <| wp_block ?_;have hia9 := hin130;have hib9 : ∀ k, S123 k → D k → False := (ap_symm (ap_symm (Grew.ap hx125 (ap_symm (ap_symm (Grew.ap hx103 (ap_symm (ap_symm (Grew.ap hx66 (ap_symm (ap_symm hap)) (RgR.ofS hR38)))) (RgR.ofS hR84)))) (RgR.ofS hR109))));have hic9 : ¬ S123 d := (Grew.off hx125 (Grew.off hx103 (Grew.off hx66 hSd hk37.lt) hk83.lt) hk108.lt);have s : Slots 84 [(0, pt b 0), (1, pt d 0), (5, .int .i64 0)] _ := s.sub ⟨rfl, rfl, rfl, trivial⟩;refine co_loop (fun mm a x => ∃ (i : Nat) (SA : Nat → Prop), Slots 84 [(0, pt b 0), (1, pt d 0), (5, .int .i64 (i : Int))] a ∧ mm = 3 - i ∧ (i ≤ 3) ∧ (∀ k, SA k → S k ∨ w.heap.size ≤ k) ∧ (∀ k, SA k → D k → False) ∧ (¬ SA d) ∧ StC SA x b L ep hz ms fl ∧ RgR D x u X ∧ Blk x d 36 #[.int .i64 ep, cv, .int .u64 fl, .int .u64 hz, u] ∧ But (S) w x) (3 - 0) ?_ ?_;have hO147 := StC.gr hO124 (below_grown hb136) (fun k e => by cases e)
 · exact ⟨0, S123, s.sub ⟨rfl, rfl, (slot_eq rfl (congrArg (Value.int .i64) (by first | rfl | omega))), trivial⟩, rfl, by omega, by exact hia9, by exact hib9, by exact hic9, hO147, hR141, hk140, hB139⟩
 · rintro k148 a149 w150 ⟨i, SA, s, rfl, hi151, hi152, hi153, hi154, hf155, hf156, hf157, hB158⟩
   have hz159 := hB158.size;have hl160 := hf157.lt;have hinA : ∀ k, SA k → S k ∨ w.heap.size ≤ k := by assumption
   have hapA : ∀ k, SA k → D k → False := by assumption
   have hSdA : ¬ SA d := by assumption
   refine q9 ?_;refine pk0 (v := .int .i64 (i : Int)) s rfl fun _ s => ?_;refine pk0 (v := .bool (decide ((i : Int) < 3))) s rfl fun _ s => q1 ?_;cases hc163 : (decide ((i : Int) < 3))
   ·
    rw [hc163] at s;have hp164 : ¬ ((i : Int) < 3) := of_decide_eq_false hc163;refine co_false s rfl <| wp_exit <| co_thenX <| co_thenX <| qx <| q2 ?_;refine pk0 (v := .int .i64 1) s rfl fun _ s => q4 ?_;refine co_ret1 s rfl rfl ?_;exact ⟨_, rfl, hf155, hinA, hB158⟩
   rw [hc163] at s;have hp166 : (i : Int) < 3 := of_decide_eq_true hc163;refine co_true s rfl <| q0 <| co_seq <| wp_block <| q2 ?_;refine pk0 (v := pt b 0) s rfl fun _ s => ?_;refine pk0 (v := .int .i64 (i : Int)) s rfl fun _ s => ?_;have ho171 := StC.ofS hf155;refine pw s rfl (op_call (args := #[pt b 0, .int .i64 (i : Int)]) (R := fun res xw => ∃ S' : Nat → Prop, res = .int .i64 (topN L (i : Int)) ∧ StC S' xw b L ep hz ms fl ∧ Grew SA S' w150 xw) rfl rfl rfl (by kernel_rfl) (by kernel_rfl) (Tryz.call37 _ _) (scTop w150 (i : Int) hf155) (by rintro e x ⟨S', h0, h⟩; exact ⟨_, h0, S', rfl, h⟩)) ?_;rintro _ w170 a169 ⟨S172, rfl, hO173, hx174⟩ s;have hB175 := fbU_foot hB158 hx174.but (fun i hi hq => by rcases hinA i hq with k | k; exact k; omega);have hz176 := hB175.size;have hz177 := hx174.but.size;have hin178 : ∀ k, S172 k → (S k) ∨ w.heap.size ≤ k := fun k hk => by rcases hx174.sub k hk with j | j; exact hinA k j; exact .inr (by omega)
   refine pk0 (v := .int .i64 (topN L (i : Int))) s rfl fun _ s => q1 <| co_seq ?_;refine dr_gen (fun x => But (S) w x ∧ RgR D x u X) (by kernel_rfl) (fun w180 hg181 => ?_) (fun w180 hg181 => ?_)
   ·
    have hz182 := hg181.size;have hB183 := fbU_new hB175 hg181;have hR184 := RgR.but hf156 hx174.but (ap_symm hapA);have hR185 := RgR.gr hR184 hg181 (fun k e => by cases e);exact ⟨hB183, hR185⟩
   have hz186 := hg181.size;have hB187 := fbU_new hB175 hg181;have hR188 := RgR.but hf156 hx174.but (ap_symm hapA);have hR189 := RgR.gr hR188 hg181 (fun k e => by cases e);refine dk0 0 (v := .int .i64 (topN L (i : Int))) s rfl rfl ⟨hB187, hR189⟩ fun _ s => ?_;refine dk0 1 (v := pt d 0) s rfl rfl ⟨hB187, hR189⟩ fun _ s => ?_;refine dk0 2 (v := pt d 0) s rfl rfl ⟨hB187, hR189⟩ fun _ s => ?_;refine dk0 3 (v := pt d 4) s rfl rfl ⟨hB187, hR189⟩ fun _ s => ?_;refine dk0 4 (v := .int .i64 (i : Int)) s rfl rfl ⟨hB187, hR189⟩ fun _ s => ?_;have hk197 := Blk.butS hf157 hx174.but hSdA;have hk198 := hk197.kept hg181 (by simp);have hq199 := eqTop heq (i : Int);refine d1 5 s rfl rfl (op_call (args := #[pt d 4, .int .i64 (i : Int)]) (R := fun res xw => res = .int .i64 (topN X (i : Int)) ∧ Below w180.heap.size w180 xw) rfl rfl rfl (by kernel_rfl) (by kernel_rfl) (Tryz.call38 _ _) (rTop30_any d ep cv fl hz u X (i : Int) w180 hk198 (RgR.sl hR189) (RgR.ok hR189)) (by rintro e x ⟨rfl, h⟩; exact ⟨_, rfl, rfl, h⟩)) ?_ ?_
   ·
    rintro _ w196 ⟨rfl, hb200⟩;have hz201 := hb200.size;have hO203 := StC.gr hO173 hg181 (fun k e => by cases e);have ho202 := StC.ofS hO203;have hB204 := fbU_call hB187 hb200;have hR205 := RgR.gr hR189 (below_grown hb200) (fun k e => by cases e);exact ⟨hB204, hR205⟩
   rintro _ w196 a195 ⟨rfl, hb200⟩ s;have hz201 := hb200.size;have hO203 := StC.gr hO173 hg181 (fun k e => by cases e);have ho202 := StC.ofS hO203;have hB204 := fbU_call hB187 hb200;have hR205 := RgR.gr hR189 (below_grown hb200) (fun k e => by cases e);refine dk0 6 (v := .bool (topN L (i : Int) != topN X (i : Int))) s rfl rfl ⟨hB204, hR205⟩ fun _ s => ?_;refine dk0 7 (v := .bool (topN L (i : Int) != topN X (i : Int))) s rfl rfl ⟨hB204, hR205⟩ fun _ s => ?_;have hc208 : (topN L (i : Int) != topN X (i : Int)) = false := by first | (simp; done) | (simp; omega) | exact beq_false_of_ne (by omega) | exact beq_iff_eq.2 (by omega)
   rw [hc208] at s;refine dk0 8 (v := pt b 0) s rfl rfl ⟨hB204, hR205⟩ fun _ s => ?_;refine dk0 9 (v := .int .i64 (i : Int)) s rfl rfl ⟨hB204, hR205⟩ fun _ s => ?_;refine dk0 10 (v := .int .i64 (topN L (i : Int))) s rfl rfl ⟨hB204, hR205⟩ fun _ s => ?_;refine dk0 12 (v := pt d 0) s rfl rfl ⟨hB204, hR205⟩ fun _ s => ?_;refine dk0 13 (v := pt d 0) s rfl rfl ⟨hB204, hR205⟩ fun _ s => ?_;refine dk0 14 (v := pt d 4) s rfl rfl ⟨hB204, hR205⟩ fun _ s => ?_;refine dk0 15 (v := .int .i64 (i : Int)) s rfl rfl ⟨hB204, hR205⟩ fun _ s => ?_;refine dk0 16 (v := .int .i64 (topN L (i : Int))) s rfl rfl ⟨hB204, hR205⟩ fun _ s => ?_;have hO220 := StC.gr hO203 (below_grown hb200) (fun k e => by cases e);have ho219 := StC.ofS hO220;refine d1 11 s rfl rfl (op_call (args := #[pt b 0, .int .i64 (i : Int), .int .i64 (topN L (i : Int))]) (R := fun res xw => ∃ S' : Nat → Prop, res = .int .i64 (fndI L (i : Int) (topN L (i : Int))) ∧ StC S' xw b L ep hz ms fl ∧ Grew S172 S' w196 xw) rfl rfl rfl (by kernel_rfl) (by kernel_rfl) (Tryz.call39 _ _) (scFind w196 (i : Int) (topN L (i : Int)) hO220) (by rintro e x ⟨S', h0, h⟩; exact ⟨_, h0, S', rfl, h⟩)) ?_ ?_
   ·
    rintro _ w218 ⟨S221, rfl, hO222, hx223⟩;have hk224 := hk198.below hb200;have hB225 := fbU_foot hB204 hx223.but (fun i hi hq => by rcases hin178 i hq with k | k; exact k; omega);have hz226 := hB225.size;have hz227 := hx223.but.size;have hin228 : ∀ k, S221 k → (S k) ∨ w.heap.size ≤ k := fun k hk => by rcases hx223.sub k hk with j | j; exact hin178 k j; exact .inr (by omega)
    have hR229 := RgR.but hR205 hx223.but (ap_symm (Grew.ap hx174 (ap_symm (ap_symm hapA)) (RgR.ofS hf156)));exact ⟨hB225, hR229⟩
   rintro _ w218 a217 ⟨S221, rfl, hO222, hx223⟩ s;have hk224 := hk198.below hb200;have hB225 := fbU_foot hB204 hx223.but (fun i hi hq => by rcases hin178 i hq with k | k; exact k; omega);have hz226 := hB225.size;have hz227 := hx223.but.size;have hin228 : ∀ k, S221 k → (S k) ∨ w.heap.size ≤ k := fun k hk => by rcases hx223.sub k hk with j | j; exact hin178 k j; exact .inr (by omega)
   have hR229 := RgR.but hR205 hx223.but (ap_symm (Grew.ap hx174 (ap_symm (ap_symm hapA)) (RgR.ofS hf156)));have hq232 := eqFnd heq (i : Int) (topN L (i : Int));have hk233 := Blk.butS hk224 hx223.but (Grew.off hx174 hSdA hf157.lt);refine d1 17 s rfl rfl (op_call (args := #[pt d 4, .int .i64 (i : Int), .int .i64 (topN L (i : Int))]) (R := fun res xw => res = .int .i64 (fndI X (i : Int) (topN L (i : Int))) ∧ Below w218.heap.size w218 xw) rfl rfl rfl (by kernel_rfl) (by kernel_rfl) (Tryz.call40 _ _) (rFind30_any d ep cv fl hz u X (i : Int) (topN L (i : Int)) w218 hk233 (RgR.sl hR229) (RgR.ok hR229)) (by rintro e x ⟨rfl, h⟩; exact ⟨_, rfl, rfl, h⟩)) ?_ ?_
   ·
    rintro _ w231 ⟨rfl, hb234⟩;have hz235 := hb234.size;have ho236 := StC.ofS hO222;have hB237 := fbU_call hB225 hb234;have hR238 := RgR.gr hR229 (below_grown hb234) (fun k e => by cases e);exact ⟨hB237, hR238⟩
   rintro _ w231 a230 ⟨rfl, hb234⟩ s;have hz235 := hb234.size;have ho236 := StC.ofS hO222;have hB237 := fbU_call hB225 hb234;have hR238 := RgR.gr hR229 (below_grown hb234) (fun k e => by cases e);refine dk0 18 (v := .bool (fndI L (i : Int) (topN L (i : Int)) != fndI X (i : Int) (topN L (i : Int)))) s rfl rfl ⟨hB237, hR238⟩ fun _ s => ?_;refine dk0 19 (v := .bool (fndI L (i : Int) (topN L (i : Int)) != fndI X (i : Int) (topN L (i : Int)))) s rfl rfl ⟨hB237, hR238⟩ fun _ s => ?_;refine dr_done (by kernel_rfl) ?_;refine co_then ?_;have hc241 : (fndI L (i : Int) (topN L (i : Int)) != fndI X (i : Int) (topN L (i : Int))) = false := by first | (simp; done) | (simp; omega) | exact beq_false_of_ne (by omega) | exact beq_iff_eq.2 (by omega)
   rw [hc241] at s;refine co_false s rfl <| wp_skip <| co_blockN <| co_then <| co_reg ?_;refine pk0 (v := .int .i64 (i : Int)) s rfl fun _ s => ?_;refine pk (v := .int .i64 ((i + 1 : Nat) : Int)) s rfl (rn_arith' rfl rfl rfl rfl rfl rfl (IntWalk.i64_in _ (by omega)) (by omega)) fun _ s => ?_;refine pk0 (v := .int .i64 ((i + 1 : Nat) : Int)) s rfl fun _ s => q1 ?_;refine ⟨(3 - (i + 1)), by omega, ?_⟩;have hia9 := hin228;have hib9 : ∀ k, S221 k → D k → False := (ap_symm (ap_symm (Grew.ap hx223 (ap_symm (ap_symm (Grew.ap hx174 (ap_symm (ap_symm hapA)) (RgR.ofS hf156)))) (RgR.ofS hR205))));have hic9 : ¬ S221 d := (Grew.off hx223 (Grew.off hx174 hSdA hf157.lt) hk224.lt);have hO245 := StC.gr hO222 (below_grown hb234) (fun k e => by cases e);have hk246 := hk233.below hb234;exact ⟨i + 1, S221, s.sub ⟨rfl, rfl, rfl, trivial⟩, rfl, by omega, by exact hia9, by exact hib9, by exact hic9, hO245, hR238, hk246, hB237⟩
end Go.Proofs.YtniojcnkjehflaaGreat

/- catenalaw30: awake. Conditions: none. -/
namespace Go.Proofs.YtniojcnkjehflaaGreat
open Go.RowKit Go.PlainAid
set_option linter.unusedVariables false
set_option linter.unusedSimpArgs false


def dPut : NoteD := ⟨2, 0, 0, 0, [], 0, [], 0, 1, [opA], 0, 0, 0, 0, 0, 0, 0, 0⟩
def dSta : NoteD := ⟨3, 0, 5, 0, [], 0, [], 0, 0, [], 0, 0, 0, 0, 0, 0, 0, 0⟩
def dLeg : NoteD := ⟨5, 0, 0, 0, [], 0, [], 0, 0, [], 0, 0, 0, 0, 0, 0, 0, 0⟩
theorem d3_R (d : NoteD) (h : d = dPut ∨ d = dSta ∨ d = dLeg) : NoteR d := by
  rcases h with rfl | rfl | rfl <;> exact ⟨(fun m hm => by cases hm), by decide⟩
theorem rw_ok : chkB 0 1 [opA] = 0 := by rfl
theorem c_put : chkN dPut = 0 := by rw [chkN_2 rfl]; exact rw_ok
theorem c_sta : chkN dSta = 0 := by rw [chkN_3 (.inl rfl)]; rfl
theorem c_leg : chkN dLeg = 0 := by rw [chkN_3 (.inr (.inr (.inl rfl)))]; rfl
theorem awA1 {r ep' hz' : Int} {L' : List EntT} (h : ApR dPut 0 0 [] r ep' hz' L') : r = 0 ∧ ep' = 0 ∧ hz' = 0 ∧ ∃ v, L' = [enA v 0] := by
  rcases h with ⟨_, _, h1, h2, h3, h4⟩ | ⟨_, h, _⟩ | ⟨_, h, _⟩ | ⟨_, h, _⟩ | ⟨h, _⟩
  · refine ⟨h1.trans (by rfl), h3, h4, ?_⟩
    rcases h2 with ⟨h, _⟩ | ⟨_, ⟨h, _⟩ | ⟨_, v, h⟩⟩
    · exact absurd (by rfl) h
    · cases h
    · exact ⟨v, h⟩
  · exact absurd h (by decide)
  · exact absurd h (by decide)
  · exact absurd h (by decide)
  · rcases h with ⟨h, _⟩ | ⟨_, h, _⟩ | ⟨_, _, h, _⟩
    · exact absurd c_put h
    · rcases h with ⟨h, _⟩ | ⟨h, _⟩ <;> exact absurd h (by decide)
    · exact absurd rfl h
theorem awA2 {v : Value} {r ep' hz' : Int} {L' : List EntT} (h : ApR dSta 0 0 [enA v 0] r ep' hz' L') : r = 0 ∧ ep' = 0 ∧ hz' = 0 ∧ L' = [enA v 5] := by
  rcases h with ⟨_, h, _⟩ | ⟨_, _, h1, h2, h3, h4⟩ | ⟨_, h, _⟩ | ⟨_, h, _⟩ | ⟨h, _⟩
  · exact absurd h (by decide)
  · exact ⟨h1.trans (by rfl), h3, h4, h2.trans (by rfl)⟩
  · exact absurd h (by decide)
  · exact absurd h (by decide)
  · rcases h with ⟨h, _⟩ | ⟨_, h, _⟩ | ⟨_, _, _, h, _⟩
    · exact absurd c_sta h
    · rcases h with ⟨h, _⟩ | ⟨h, _⟩ <;> exact absurd h (by decide)
    · exact absurd rfl h
theorem awA3 {v : Value} {r ep' hz' : Int} {L' : List EntT} (h : ApR dLeg 0 0 [enA v 5] r ep' hz' L') : r = 11 ∧ ep' = 0 ∧ hz' = 0 ∧ L' = [enA v 5] := by
  rcases h with ⟨_, h, _⟩ | ⟨_, h, _⟩ | ⟨_, h, _⟩ | ⟨_, h, _⟩ | ⟨h, h2, h3, h4⟩
  · exact absurd h (by decide)
  · exact absurd h (by decide)
  · exact absurd h (by decide)
  · exact absurd h (by decide)
  · rcases h with ⟨h, _⟩ | ⟨_, h, _⟩ | ⟨_, _, _, _, _, h⟩
    · exact absurd c_leg h
    · rcases h with ⟨h, _⟩ | ⟨h, _⟩ <;> exact absurd h (by decide)
    · exact ⟨h, h3, h4, h2⟩
section
variable {S : Nat → Prop} {b m n : Nat} {la ce : Int} {f : Fv}
theorem awAp1 (w : World) (ev : Value) (h : StO S w b [] 0 0) (he : SliceOf opE 3 w ev [opA]) (ho : [opA] ≠ [] → ∀ k, ev.ownBlock = some k → ¬ S k) :
    Calls Tryz.prog 8 #[pt b 0, .agg #[.int .i64 2, .int .i64 0, .int .u64 0, .int .i64 0, .slice none 0 0, .int .u64 0, .slice none 0 0, .int .i64 0, .int .i64 1, ev, .int .u64 0, .int .i64 0, .int .u64 0, .int .i64 0, .int .i64 0, .int .i64 0, .int .i64 0, .int .i64 0]] w fun e w' => ∃ (v : Value) (S' : Nat → Prop), e = .returned (.int .i64 0) ∧ StO S' w' b [enA v 0] 0 0 ∧ Grew S S' w w' := by
  refine (stApply w dPut (.slice none 0 0) (.slice none 0 0) ev h (sl_nil _) (sl_nil _) he (d3_R _ (.inl rfl)) (fun h => absurd rfl h) (fun h => absurd rfl h) ho).mono ?_
  rintro e x ⟨r, L', ep', hz', S', rfl, k1, k2, g⟩
  obtain ⟨rfl, rfl, rfl, v, rfl⟩ := awA1 k2
  exact ⟨v, S', rfl, k1, g⟩
theorem awAp2 (w : World) (v : Value) (h : StO S w b [enA v 0] 0 0) :
    Calls Tryz.prog 8 #[pt b 0, .agg #[.int .i64 3, .int .i64 0, .int .u64 5, .int .i64 0, .slice none 0 0, .int .u64 0, .slice none 0 0, .int .i64 0, .int .i64 0, .slice none 0 0, .int .u64 0, .int .i64 0, .int .u64 0, .int .i64 0, .int .i64 0, .int .i64 0, .int .i64 0, .int .i64 0]] w fun e w' => ∃ (S' : Nat → Prop), e = .returned (.int .i64 0) ∧ StO S' w' b [enA v 5] 0 0 ∧ Grew S S' w w' := by
  refine (stApply w dSta (.slice none 0 0) (.slice none 0 0) (.slice none 0 0) h (sl_nil _) (sl_nil _) (sl_nil _) (d3_R _ (.inr (.inl rfl))) (fun h => absurd rfl h) (fun h => absurd rfl h) (fun h => absurd rfl h)).mono ?_
  rintro e x ⟨r, L', ep', hz', S', rfl, k1, k2, g⟩
  obtain ⟨rfl, rfl, rfl, rfl⟩ := awA2 k2
  exact ⟨S', rfl, k1, g⟩
theorem awAp3 (w : World) (v : Value) (h : TwS S w b m [enA v 5] 0 0 f la ce n) :
    Calls Tryz.prog 8 #[pt b 0, .agg #[.int .i64 5, .int .i64 0, .int .u64 0, .int .i64 0, .slice none 0 0, .int .u64 0, .slice none 0 0, .int .i64 0, .int .i64 0, .slice none 0 0, .int .u64 0, .int .i64 0, .int .u64 0, .int .i64 0, .int .i64 0, .int .i64 0, .int .i64 0, .int .i64 0]] w fun e w' => ∃ (S' : Nat → Prop), e = .returned (.int .i64 11) ∧ TwS S' w' b m [enA v 5] 0 0 f la ce n ∧ Grew S S' w w' := by
  refine (twApply w dLeg (.slice none 0 0) (.slice none 0 0) (.slice none 0 0) h (sl_nil _) (sl_nil _) (sl_nil _) (d3_R _ (.inr (.inr rfl))) (fun h => absurd rfl h) (fun h => absurd rfl h) (fun h => absurd rfl h)).mono ?_
  rintro e x ⟨r, L', ep', hz', S', rfl, k1, k2, g⟩
  obtain ⟨rfl, rfl, rfl, rfl⟩ := awA3 k2
  exact ⟨S', rfl, k1, g⟩
end
theorem rw_e : mvE 0 5 [opA] = 0 := by rw [mvE_c (by decide) (by decide), rw_ok]
theorem rw_get : atS (mvF (fun _ => []) 0 5 [opA] ⟨#[97]⟩) 5 = (⟨#[49]⟩, true) := by
  have e1 : mvF (fun _ => []) 0 5 [opA] ⟨#[97]⟩ = [(5, ⟨#[49]⟩, false)] := by
    unfold mvF; rw [if_pos rw_e]
    have e : putsF (fun _ => []) 5 [opA] = upd (fun _ => []) ⟨#[97]⟩ ([] ++ [(5, ⟨#[49]⟩, false)]) := rfl
    rw [e, upd_eq]; rfl
  rw [e1]; rfl

set_option maxRecDepth 100000 in
set_option maxHeartbeats 1600000 in
theorem awake30  (w : World)  :
    Calls Tryz.prog 6 #[] w fun e w' => e = .returned (.bool true) ∧ Below w.heap.size w w' := by
 have hB0 := Below.refl w.heap.size w;refine co_enter (n := 56) Tryz.func6 rfl rfl rfl [] rfl (fun a s => ?_);refine q2 ?_;refine pk0 (v := .bool false) s rfl fun _ s => q3 ?_;refine pw s rfl (op_call (args := #[]) (R := fun res xw => ∃ N S, res = pt N 0 ∧ StO S xw N [] 0 0 ∧ (∀ q, S q → w.heap.size ≤ q) ∧ Below w.heap.size w xw) rfl rfl rfl (by kernel_rfl) (by kernel_rfl) (Tryz.call7 _ _) (stNew w) (by rintro e x ⟨N, S, rfl, h⟩; exact ⟨_, rfl, N, S, rfl, h⟩)) ?_;rintro _ w3 a2 ⟨N4, S5, rfl, hO6, hlo7, hb8⟩ s;have hz9 := hb8.size;have hlo10 : ∀ q, S5 q → w.heap.size ≤ q := fun q hq => by have := hlo7 q hq; omega
 refine pk0 (v := pt N4 0) s rfl fun _ s => q3 ?_;refine pk0 (v := pt N4 0) s rfl fun _ s => ?_;refine pk0 (v := .agg #[.string (⟨#[97]⟩), .string (⟨#[49]⟩), .bool false]) s rfl fun _ s => ?_;refine pw s rfl (op_new (v := fun N => .slice (some ⟨N, 0, none⟩) 1 1) (T := 58) (cs := #[.string (⟨#[97]⟩), .string (⟨#[49]⟩), .bool false]) (by kernel_rfl) (by kernel_rfl) (by kernel_rfl)) ?_;rintro _ w15 a14 ⟨N16, rfl, hN19, hz20, hk18, hg17⟩ s;have hz21 := hg17.size;have ho22 := off_new (StO.ofS hO6) hN19
 try dsimp only at s
 refine pk0 (v := .agg #[.int .i64 0, .int .i64 1, .slice (some ⟨N16, 0, none⟩) 1 1]) s rfl fun _ s => ?_;refine pk0 (v := .agg #[.int .i64 0, .int .i64 1, .slice (some ⟨N16, 0, none⟩) 1 1, .int .u64 0]) s rfl fun _ s => ?_;refine pk0 (v := .agg #[.int .i64 2, .int .i64 0, .int .u64 0, .int .i64 0, .slice none 0 0, .int .u64 0, .slice none 0 0, .int .i64 0, .int .i64 1, .slice (some ⟨N16, 0, none⟩) 1 1, .int .u64 0, .int .i64 0, .int .u64 0, .int .i64 0, .int .i64 0, .int .i64 0, .int .i64 0, .int .i64 0]) s rfl fun _ s => ?_;have hB28 := hb_call hB0 hb8;have hB29 := hb_new hB28 hg17;have hO31 := StO.gr hO6 hg17 (fun k e => by cases e);have ho30 := StO.ofS hO31;have hr32 := row_of_cells (enc := opE) (sz := 3) ([(⟨#[97]⟩, ⟨#[49]⟩, false)] : List OpT) hk18 (Nat.le_refl _) rfl rfl (by unfold maxLen; simp);refine pw s rfl (op_call (args := #[pt N4 0, .agg #[.int .i64 2, .int .i64 0, .int .u64 0, .int .i64 0, .slice none 0 0, .int .u64 0, .slice none 0 0, .int .i64 0, .int .i64 1, .slice (some ⟨N16, 0, none⟩) 1 1, .int .u64 0, .int .i64 0, .int .u64 0, .int .i64 0, .int .i64 0, .int .i64 0, .int .i64 0, .int .i64 0]]) (R := fun res xw => ∃ v : Value, ∃ S' : Nat → Prop, res = .int .i64 0 ∧ StO S' xw N4 [enA v 0] 0 0 ∧ Grew S5 S' w15 xw) rfl rfl rfl (by kernel_rfl) (by kernel_rfl) (Tryz.call8 _ _) (awAp1 w15 (.slice (some ⟨N16, 0, none⟩) 1 1) hO31 (row_sl hr32 opE_len) (fun _ => (fun k hk => by cases hk; exact ho22))) (by rintro e x ⟨v, S', h0, h⟩; exact ⟨_, h0, v, S', rfl, h⟩)) ?_;rintro _ w27 a26 ⟨v33, S34, rfl, hO35, hx36⟩ s;have hlo38 : ∀ q, S34 q → w.heap.size ≤ q := hx36.lo hlo10 (by omega);have hB37 := hbL hB29 hlo10 hx36.but;have hz39 := hB37.size;have hz40 := hx36.but.size;refine pk0 (v := .int .i64 0) s rfl fun _ s => q3 ?_;refine pk0 (v := pt N4 0) s rfl fun _ s => ?_;refine pk0 (v := .agg #[.int .i64 3, .int .i64 0, .int .u64 5, .int .i64 0, .slice none 0 0, .int .u64 0, .slice none 0 0, .int .i64 0, .int .i64 0, .slice none 0 0, .int .u64 0, .int .i64 0, .int .u64 0, .int .i64 0, .int .i64 0, .int .i64 0, .int .i64 0, .int .i64 0]) s rfl fun _ s => ?_;have ho46 := StO.ofS hO35;refine pw s rfl (op_call (args := #[pt N4 0, .agg #[.int .i64 3, .int .i64 0, .int .u64 5, .int .i64 0, .slice none 0 0, .int .u64 0, .slice none 0 0, .int .i64 0, .int .i64 0, .slice none 0 0, .int .u64 0, .int .i64 0, .int .u64 0, .int .i64 0, .int .i64 0, .int .i64 0, .int .i64 0, .int .i64 0]]) (R := fun res xw => ∃ S' : Nat → Prop, res = .int .i64 0 ∧ StO S' xw N4 [enA v33 5] 0 0 ∧ Grew S34 S' w27 xw) rfl rfl rfl (by kernel_rfl) (by kernel_rfl) (Tryz.call8 _ _) (awAp2 w27 v33 hO35) (by rintro e x ⟨S', h0, h⟩; exact ⟨_, h0, S', rfl, h⟩)) ?_;rintro _ w45 a44 ⟨S47, rfl, hO48, hx49⟩ s;have hr50 := own_butS hr32 hx36.but (fun k hk => by cases hk; exact ho22);have hlo52 : ∀ q, S47 q → w.heap.size ≤ q := hx49.lo hlo38 (by omega);have hB51 := hbL hB37 hlo38 hx49.but;have hz53 := hB51.size;have hz54 := hx49.but.size;refine pk0 (v := .int .i64 0) s rfl fun _ s => q3 ?_;refine pw s rfl (op_call (args := #[]) (R := fun res xw => ∃ N : Nat, ∃ S' : Nat → Prop, res = pt N 0 ∧ TwS S' xw N4 N [enA v33 5] 0 0 (fun _ => []) 0 0 0 ∧ Grew S47 S' w45 xw) rfl rfl rfl (by kernel_rfl) (by kernel_rfl) (Tryz.call14 _ _) (twNew w45 hO48) (by rintro e x ⟨N, S', h0, h⟩; exact ⟨_, h0, N, S', rfl, h⟩)) ?_;rintro _ w57 a56 ⟨N58, S59, rfl, hO60, hx61⟩ s;have hr62 := own_butS hr50 hx49.but (Grew.offR hx36 hr32 (fun k hk => by cases hk; exact ho22));have hlo64 : ∀ q, S59 q → w.heap.size ≤ q := hx61.lo hlo52 (by omega);have hB63 := hbL hB51 hlo52 hx61.but;have hz65 := hB63.size;have hz66 := hx61.but.size;refine pk0 (v := pt N58 0) s rfl fun _ s => q3 ?_;refine pk0 (v := pt N4 0) s rfl fun _ s => ?_;refine pk0 (v := pt N58 0) s rfl fun _ s => ?_;refine pw s rfl (op_call (args := #[pt N4 0, pt N58 0, .int .i64 0, .int .i64 9]) (R := fun res xw => ∃ S' : Nat → Prop, res = .int .i64 1 ∧ TwS S' xw N4 N58 [enA v33 5] 0 0 (mvF (fun _ => []) 0 5 [opA]) (mvLa 0 5 [opA]) (mvCe 0 5 0 [opA]) 1 ∧ Grew S59 S' w57 xw) rfl rfl rfl (by kernel_rfl) (by kernel_rfl) (Tryz.call15 _ _) (twFeed1 w57 v33 hO60) (by rintro e x ⟨S', h0, h⟩; exact ⟨_, h0, S', rfl, h⟩)) ?_;rintro _ w71 a70 ⟨S72, rfl, hO73, hx74⟩ s;have hr75 := own_butS hr62 hx61.but (Grew.offR hx49 hr50 (Grew.offR hx36 hr32 (fun k hk => by cases hk; exact ho22)));have hlo77 : ∀ q, S72 q → w.heap.size ≤ q := hx74.lo hlo64 (by omega);have hB76 := hbL hB63 hlo64 hx74.but;have hz78 := hB76.size;have hz79 := hx74.but.size;refine pk0 (v := .int .i64 1) s rfl fun _ s => q3 ?_;refine pk0 (v := pt N58 0) s rfl fun _ s => ?_;refine pw s rfl (op_call (args := #[pt N58 0, .string (⟨#[97]⟩), .int .u64 5]) (R := fun res xw => res = .tuple #[.string (⟨#[49]⟩), .bool true] ∧ Below w71.heap.size w71 xw) rfl rfl rfl (by kernel_rfl) (by kernel_rfl) (Tryz.call16 _ _) (twGet w71 (⟨#[97]⟩) 5 hO73) (by rintro e x ⟨rfl, h⟩; rw [rw_get]; exact ⟨_, rfl, rfl, h⟩)) ?_;rintro _ w83 a82 ⟨rfl, hb84⟩ s;have hz85 := hb84.size;have ho86 := TwS.ofS hO73;refine pk0 (v := .tuple #[.string (⟨#[49]⟩), .bool true]) s rfl fun _ s => ?_;refine pk0 (v := .string (⟨#[49]⟩)) s rfl fun _ s => ?_;refine pk0 (v := .bool true) s rfl fun _ s => ?_;refine pk0 (v := .string (⟨#[49]⟩)) s rfl fun _ s => ?_;refine pk0 (v := .bool true) s rfl fun _ s => q3 ?_;refine pk0 (v := .int .i64 0) s rfl fun _ s => ?_;refine pk0 (v := .bool ((0 : Int) == 0)) s rfl fun _ s => ?_;refine pk0 (v := .bool ((0 : Int) == 0)) s rfl fun _ s => ?_;have hc95 : ((0 : Int) == 0) = true := by first | (simp; done) | (simp; omega) | exact beq_false_of_ne (by omega) | exact beq_iff_eq.2 (by omega)
 rw [hc95] at s;refine pk0 (v := .int .i64 0) s rfl fun _ s => ?_;refine pk0 (v := .bool ((0 : Int) == 0)) s rfl fun _ s => ?_;refine pk0 (v := .bool ((0 : Int) == 0)) s rfl fun _ s => ?_;refine pk0 (v := .bool ((0 : Int) == 0)) s rfl fun _ s => ?_;have hc100 : ((0 : Int) == 0) = true := by first | (simp; done) | (simp; omega) | exact beq_false_of_ne (by omega) | exact beq_iff_eq.2 (by omega)
 rw [hc100] at s;refine pk0 (v := pt N4 0) s rfl fun _ s => ?_;have hB104 := hb_call hB76 hb84;have hr105 := own_butS hr75 hx74.but (Grew.offR hx61 hr62 (Grew.offR hx49 hr50 (Grew.offR hx36 hr32 (fun k hk => by cases hk; exact ho22))));have hr106 := row_kept_new hr105 (below_grown hb84);have hO107 := TwS.gr hO73 (below_grown hb84) (fun k e => by cases e);refine pw s rfl (op_call (args := #[pt N4 0]) (R := fun res xw => ∃ S' : Nat → Prop, res = .int .i64 1 ∧ TwS S' xw N4 N58 [enA v33 5] 0 0 (mvF (fun _ => []) 0 5 [opA]) (mvLa 0 5 [opA]) (mvCe 0 5 0 [opA]) 1 ∧ Grew S72 S' w83 xw) rfl rfl rfl (by kernel_rfl) (by kernel_rfl) (Tryz.call17 _ _) (twStamped w83 hO107) (by rintro e x ⟨S', h0, h⟩; exact ⟨_, h0, S', rfl, h⟩)) ?_;rintro _ w103 a102 ⟨S108, rfl, hO109, hx110⟩ s;have hlo112 : ∀ q, S108 q → w.heap.size ≤ q := hx110.lo hlo77 (by omega);have hB111 := hbL hB104 hlo77 hx110.but;have hz113 := hB111.size;have hz114 := hx110.but.size;refine pk0 (v := .bool ((1 : Int) == 1)) s rfl fun _ s => ?_;refine pk0 (v := .bool ((1 : Int) == 1)) s rfl fun _ s => ?_;refine pk0 (v := .bool ((1 : Int) == 1)) s rfl fun _ s => ?_;have hc118 : ((1 : Int) == 1) = true := by first | (simp; done) | (simp; omega) | exact beq_false_of_ne (by omega) | exact beq_iff_eq.2 (by omega)
 rw [hc118] at s;refine pk0 (v := .int .i64 1) s rfl fun _ s => ?_;refine pk0 (v := .bool ((1 : Int) == 1)) s rfl fun _ s => ?_;refine pk0 (v := .bool ((1 : Int) == 1)) s rfl fun _ s => ?_;refine pk0 (v := .bool ((1 : Int) == 1)) s rfl fun _ s => ?_;have hc123 : ((1 : Int) == 1) = true := by first | (simp; done) | (simp; omega) | exact beq_false_of_ne (by omega) | exact beq_iff_eq.2 (by omega)
 rw [hc123] at s;refine pk0 (v := .string (⟨#[49]⟩)) s rfl fun _ s => ?_;refine pk0 (v := .bool ((⟨#[49]⟩ : ByteArray).toList == (⟨#[49]⟩ : ByteArray).toList)) s rfl fun _ s => ?_;refine pk0 (v := .bool ((⟨#[49]⟩ : ByteArray).toList == (⟨#[49]⟩ : ByteArray).toList)) s rfl fun _ s => ?_;refine pk0 (v := .bool ((⟨#[49]⟩ : ByteArray).toList == (⟨#[49]⟩ : ByteArray).toList)) s rfl fun _ s => ?_;have hc128 : ((⟨#[49]⟩ : ByteArray).toList == (⟨#[49]⟩ : ByteArray).toList) = true := by first | (simp; done) | (simp; omega) | exact beq_false_of_ne (by omega) | exact beq_iff_eq.2 (by omega)
 rw [hc128] at s;refine pk0 (v := .bool true) s rfl fun _ s => ?_;refine pk0 (v := .bool true) s rfl fun _ s => ?_;refine pk0 (v := .bool true) s rfl fun _ s => ?_;refine pk0 (v := pt N4 0) s rfl fun _ s => ?_;refine pk0 (v := .agg #[.int .i64 5, .int .i64 0, .int .u64 0, .int .i64 0, .slice none 0 0, .int .u64 0, .slice none 0 0, .int .i64 0, .int .i64 0, .slice none 0 0, .int .u64 0, .int .i64 0, .int .u64 0, .int .i64 0, .int .i64 0, .int .i64 0, .int .i64 0, .int .i64 0]) s rfl fun _ s => ?_;have ho136 := TwS.ofS hO109;refine pw s rfl (op_call (args := #[pt N4 0, .agg #[.int .i64 5, .int .i64 0, .int .u64 0, .int .i64 0, .slice none 0 0, .int .u64 0, .slice none 0 0, .int .i64 0, .int .i64 0, .slice none 0 0, .int .u64 0, .int .i64 0, .int .u64 0, .int .i64 0, .int .i64 0, .int .i64 0, .int .i64 0, .int .i64 0]]) (R := fun res xw => ∃ S' : Nat → Prop, res = .int .i64 11 ∧ TwS S' xw N4 N58 [enA v33 5] 0 0 (mvF (fun _ => []) 0 5 [opA]) (mvLa 0 5 [opA]) (mvCe 0 5 0 [opA]) 1 ∧ Grew S108 S' w103 xw) rfl rfl rfl (by kernel_rfl) (by kernel_rfl) (Tryz.call8 _ _) (awAp3 w103 v33 hO109) (by rintro e x ⟨S', h0, h⟩; exact ⟨_, h0, S', rfl, h⟩)) ?_;rintro _ w135 a134 ⟨S137, rfl, hO138, hx139⟩ s;have hr140 := own_butS hr106 hx110.but (Grew.offR hx74 hr75 (Grew.offR hx61 hr62 (Grew.offR hx49 hr50 (Grew.offR hx36 hr32 (fun k hk => by cases hk; exact ho22)))));have hlo142 : ∀ q, S137 q → w.heap.size ≤ q := hx139.lo hlo112 (by omega);have hB141 := hbL hB111 hlo112 hx139.but;have hz143 := hB141.size;have hz144 := hx139.but.size;refine pk0 (v := .bool ((11 : Int) == 11)) s rfl fun _ s => ?_;refine pk0 (v := .bool ((11 : Int) == 11)) s rfl fun _ s => ?_;refine pk0 (v := .bool ((11 : Int) == 11)) s rfl fun _ s => q4 ?_;refine co_ret1 s rfl rfl ?_;exact ⟨rfl, hB141⟩
end Go.Proofs.YtniojcnkjehflaaGreat

/- Configurations and members that came in by value, opened. Conditions: none. -/
namespace Go.Proofs.YtniojcnkjehflaaGreat
open Go.RowKit Go.ChangeShapes Go.WideShapes Go.Deep
section
variable {H : Type} {enc : TypeId × Value → H} {w : World} {base : Nat} {spare : Nat → Bool} {held : Bool}
set_option maxRecDepth 10000 in
theorem elem_mem (n : Nat) (cs : List Value) (x : DataW H × List MemPlace) (h : DataW.trod enc Tryz.prog w base spare held n 112 cs = some x) : ∃ p, cs = memE p ∧ memOk p := by
  obtain ⟨hl, m, hf⟩ := trod_fields Tryz.underlying112 (by kernel_rfl) (by kernel_rfl) h
  have hl2 : cs.length = 2 := hl
  clear hl
  match cs, hl2 with
  | [c0, c1], _ =>
    obtain ⟨_, y0, e0, h0⟩ := hf 0 _ rfl
    obtain ⟨_, y1, e1, h1⟩ := hf 1 _ rfl
    cases e0; cases e1
    obtain ⟨a, e0, _, w0⟩ := DataW.trod_int Tryz.underlying3 h0
    obtain ⟨b, e1, _, w1⟩ := DataW.trod_int Tryz.underlying3 h1
    simp only [List.cons.injEq, and_true] at e0 e1
    subst e0 e1
    exact ⟨(a, b), rfl, wf_i64 w0, wf_i64 w1⟩
theorem open_mems {fuel : Nat} {cs : List Value} {x : DataW H × List MemPlace} (h : DataW.trod enc Tryz.prog w base spare held fuel 28 cs = some x) :
    ∃ (l : List MemT) (v : Value), cs = [v] ∧ SliceOf memE 2 w v l ∧ ∀ p ∈ l, memOk p :=
  open_rows memE 2 memOk Tryz.underlying28 (by kernel_rfl) (by omega) elem_mem h
set_option maxRecDepth 10000 in
theorem elem_conf (n : Nat) (cs : List Value) (x : DataW H × List MemPlace) (h : DataW.trod enc Tryz.prog w base spare held n 31 cs = some x) : ∃ c : ConfT, cs = confE c ∧ ConfOk w c := by
  obtain ⟨hl, m, hf⟩ := trod_fields Tryz.underlying31 (by kernel_rfl) (by kernel_rfl) h
  have hl3 : cs.length = 3 := hl
  clear hl
  match cs, hl3 with
  | [c0, c1, c2], _ =>
    obtain ⟨_, y0, e0, h0⟩ := hf 0 _ rfl
    obtain ⟨_, y1, e1, h1⟩ := hf 1 _ rfl
    obtain ⟨_, y2, e2, h2⟩ := hf 2 _ rfl
    cases e0; cases e1; cases e2
    obtain ⟨a, e0, _, w0⟩ := DataW.trod_int Tryz.underlying3 h0
    obtain ⟨l, v, e1, hs, hall⟩ := open_mems h1
    obtain ⟨b, e2, _, w2⟩ := DataW.trod_int Tryz.underlying29 h2
    simp only [List.cons.injEq, and_true] at e0 e1 e2
    subst e0 e1 e2
    have k0 := wf_i64 w0; have k2 := wf_u64 w2
    exact ⟨⟨a, c1, l, b⟩, rfl, ⟨hs, hall, k0.1, k0.2, k2.1, k2.2⟩⟩
end
end Go.Proofs.YtniojcnkjehflaaGreat

/- Notes that came in by value, opened. Conditions: none. -/
namespace Go.Proofs.YtniojcnkjehflaaGreat
open Go.RowKit Go.ChangeShapes Go.WideShapes Go.Deep
structure NoteX where
  d : NoteD
  mv : Value
  lv : Value
  ev : Value
def noteE (x : NoteX) : List Value := [.int .i64 x.d.k, .int .i64 x.d.n, .int .u64 x.d.t, .int .i64 x.d.ep, x.mv, .int .u64 x.d.fl, x.lv, .int .i64 x.d.ec, .int .i64 x.d.er, x.ev, .int .u64 x.d.ets, .int .i64 x.d.pid, .int .u64 x.d.pat, .int .i64 x.d.plf, .int .i64 x.d.sc, .int .i64 x.d.sr, .int .i64 x.d.se, .int .i64 x.d.sp]
def noteV (x : NoteX) : Value := .agg #[.int .i64 x.d.k, .int .i64 x.d.n, .int .u64 x.d.t, .int .i64 x.d.ep, x.mv, .int .u64 x.d.fl, x.lv, .int .i64 x.d.ec, .int .i64 x.d.er, x.ev, .int .u64 x.d.ets, .int .i64 x.d.pid, .int .u64 x.d.pat, .int .i64 x.d.plf, .int .i64 x.d.sc, .int .i64 x.d.sr, .int .i64 x.d.se, .int .i64 x.d.sp]
structure NoteOk (w : World) (x : NoteX) : Prop where
  hm : SliceOf memE 2 w x.mv x.d.ms
  hg : SliceOf (intE .i64) 1 w x.lv x.d.lg
  he : SliceOf opE 3 w x.ev x.d.el
  hR : NoteR x.d
section
variable {H : Type} {enc : TypeId × Value → H} {w : World} {base : Nat} {spare : Nat → Bool} {held : Bool}
theorem open_i64s {fuel : Nat} {cs : List Value} {x : DataW H × List MemPlace} (h : DataW.trod enc Tryz.prog w base spare held fuel 39 cs = some x) :
    ∃ (l : List Int) (v : Value), cs = [v] ∧ SliceOf (intE .i64) 1 w v l ∧ ∀ n ∈ l, (Lit.int .i64 n).wf = true :=
  open_rows (intE .i64) 1 _ Tryz.underlying39 (by kernel_rfl) (by omega) (fun n cs x h => by
    obtain ⟨a, e, _, hw⟩ := DataW.trod_int Tryz.underlying3 h
    exact ⟨a, e, hw⟩) h
set_option maxRecDepth 10000 in
theorem elem_note (n : Nat) (cs : List Value) (x : DataW H × List MemPlace) (h : DataW.trod enc Tryz.prog w base spare held n 50 cs = some x) : ∃ y : NoteX, cs = noteE y ∧ NoteOk w y := by
  obtain ⟨xs, m, _, _, hl, hxl, hf⟩ := DataW.trod_struct Tryz.underlying50 h
  have hl18 : cs.length = 18 := hl
  have hx8 : xs.length = 8 := hxl
  clear hl hxl
  match cs, hl18, xs, hx8 with
  | [c0, c1, c2, c3, c4, c5, c6, c7, c8, c9, c10, c11, c12, c13, c14, c15, c16, c17], _, [x0, x1, x2, x3, x4, x5, x6, x7], _ =>
    have h0 : DataW.trod enc Tryz.prog w base spare held m 3 [c0] = some x0 := hf 0 _ rfl
    have h1 : DataW.trod enc Tryz.prog w base spare held m 3 [c1] = some x1 := hf 1 _ rfl
    have h2 : DataW.trod enc Tryz.prog w base spare held m 29 [c2] = some x2 := hf 2 _ rfl
    have h3 : DataW.trod enc Tryz.prog w base spare held m 31 [c3, c4, c5] = some x3 := hf 3 _ rfl
    have h4 : DataW.trod enc Tryz.prog w base spare held m 39 [c6] = some x4 := hf 4 _ rfl
    have h5 : DataW.trod enc Tryz.prog w base spare held m 44 [c7, c8, c9, c10] = some x5 := hf 5 _ rfl
    have h6 : DataW.trod enc Tryz.prog w base spare held m 46 [c11, c12, c13] = some x6 := hf 6 _ rfl
    have h7 : DataW.trod enc Tryz.prog w base spare held m 48 [c14, c15, c16, c17] = some x7 := hf 7 _ rfl
    clear hf h
    obtain ⟨k, e0, _, _⟩ := DataW.trod_int Tryz.underlying3 h0
    obtain ⟨nn, e1, _, _⟩ := DataW.trod_int Tryz.underlying3 h1
    obtain ⟨t, e2, _, w2⟩ := DataW.trod_int Tryz.underlying29 h2
    obtain ⟨c, e3, hc⟩ := elem_conf _ _ _ h3
    obtain ⟨lg, lv, e4, hg, _⟩ := open_i64s h4
    obtain ⟨ys, m5, _, _, _, hyl, hf5⟩ := DataW.trod_struct Tryz.underlying44 h5
    have hy2 : ys.length = 2 := hyl
    clear hyl h5
    match ys, hy2 with
    | [y0, y1], _ =>
      have b0 : DataW.trod enc Tryz.prog w base spare held m5 42 [c7, c8, c9] = some y0 := hf5 0 _ rfl
      have b1 : DataW.trod enc Tryz.prog w base spare held m5 29 [c10] = some y1 := hf5 1 _ rfl
      clear hf5
      obtain ⟨ets, e10, _, w10⟩ := DataW.trod_int Tryz.underlying29 b1
      obtain ⟨_, m6, hf6⟩ := trod_fields Tryz.underlying42 (by kernel_rfl) (by kernel_rfl) b0
      obtain ⟨_, z0, f0, g0⟩ := hf6 0 _ rfl
      obtain ⟨_, z1, f1, g1⟩ := hf6 1 _ rfl
      obtain ⟨_, z2, f2, g2⟩ := hf6 2 _ rfl
      cases f0; cases f1; cases f2
      obtain ⟨ec, e7, _, _⟩ := DataW.trod_int Tryz.underlying3 g0
      obtain ⟨er, e8, _, _⟩ := DataW.trod_int Tryz.underlying3 g1
      obtain ⟨el, ev, e9, he, _⟩ := open_opsS g2
      obtain ⟨_, m7, hf7⟩ := trod_fields Tryz.underlying46 (by kernel_rfl) (by kernel_rfl) h6
      obtain ⟨_, z3, f3, g3⟩ := hf7 0 _ rfl
      obtain ⟨_, z4, f4, g4⟩ := hf7 1 _ rfl
      obtain ⟨_, z5, f5, g5⟩ := hf7 2 _ rfl
      cases f3; cases f4; cases f5
      obtain ⟨pid, e11, _, _⟩ := DataW.trod_int Tryz.underlying3 g3
      obtain ⟨pat, e12, _, w12⟩ := DataW.trod_int Tryz.underlying29 g4
      obtain ⟨plf, e13, _, _⟩ := DataW.trod_int Tryz.underlying3 g5
      obtain ⟨_, m8, hf8⟩ := trod_fields Tryz.underlying48 (by kernel_rfl) (by kernel_rfl) h7
      obtain ⟨_, z6, f6, g6⟩ := hf8 0 _ rfl
      obtain ⟨_, z7, f7, g7⟩ := hf8 1 _ rfl
      obtain ⟨_, z8, f8, g8⟩ := hf8 2 _ rfl
      obtain ⟨_, z9, f9, g9⟩ := hf8 3 _ rfl
      cases f6; cases f7; cases f8; cases f9
      obtain ⟨sc, e14, _, _⟩ := DataW.trod_int Tryz.underlying3 g6
      obtain ⟨sr, e15, _, _⟩ := DataW.trod_int Tryz.underlying3 g7
      obtain ⟨se, e16, _, _⟩ := DataW.trod_int Tryz.underlying37 g8
      obtain ⟨sp, e17, _, _⟩ := DataW.trod_int Tryz.underlying3 g9
      clear h0 h1 h2 h3 h4 h6 h7 hf6 hf7 hf8 g0 g1 g2 g3 g4 g5 g6 g7 g8 g9 b0 b1
      simp only [confE, List.cons.injEq, and_true] at e0 e1 e2 e3 e4 e7 e8 e9 e10 e11 e12 e13 e14 e15 e16 e17
      obtain ⟨rfl, rfl, rfl⟩ := e3
      subst e0 e1 e2 e4 e7 e8 e9 e10 e11 e12 e13 e14 e15 e16 e17
      exact ⟨⟨⟨k, nn, t, c.ep, c.ms, c.fl, lg, ec, er, el, ets, pid, pat, plf, sc, sr, se, sp⟩, c.mv, _, _⟩, rfl, ⟨hc.ms, hg, he, ⟨hc.each, ⟨hc.e0, hc.e1⟩, ⟨hc.f0, hc.f1⟩, wf_u64 w2, wf_u64 w10, wf_u64 w12⟩⟩⟩
end
end Go.Proofs.YtniojcnkjehflaaGreat

/- catenalaw30: RstateRight. Conditions: none. -/
namespace Go.Proofs.YtniojcnkjehflaaGreat
open Go.RowKit Go.PlainAid
set_option linter.unusedVariables false
set_option linter.unusedSimpArgs false


instance : Inhabited NoteX := ⟨⟨zN 0, .slice none 0 0, .slice none 0 0, .slice none 0 0⟩⟩
theorem noteE_len (x : NoteX) : (noteE x).length = 18 := rfl
theorem NoteOk.below {w x : World} {y : NoteX} (h : NoteOk w y) (hb : Below w.heap.size w x) : NoteOk x y := ⟨h.hm.below hb, h.hg.below hb, h.he.below hb, h.hR⟩
theorem memE_ne (l : List MemT) : ∀ y ∈ l, memE y ≠ [] := fun y _ e => by cases e
theorem intE_ne (l : List Int) : ∀ y ∈ l, intE .i64 y ≠ [] := fun y _ e => by cases e
section
open Go.ChangeShapes Go.WideShapes Go.Deep
theorem open_notes {H : Type} {enc : TypeId × Value → H} {w : World} {base : Nat} {spare : Nat → Bool} {held : Bool} {fuel : Nat} {cs : List Value} {x : DataW H × List MemPlace} (h : DataW.trod enc Tryz.prog w base spare held fuel 22 cs = some x) :
    ∃ (l : List NoteX) (v : Value), cs = [v] ∧ SliceOf noteE 18 w v l ∧ ∀ p ∈ l, NoteOk w p :=
  open_rows noteE 18 (NoteOk w) Tryz.underlying22 (by kernel_rfl) (by omega) elem_note h
end


set_option maxRecDepth 100000 in
theorem partsL_any (v : Value) (l : List NoteX) (w : World) (hs : SliceOf noteE 18 w v l) (hok : ∀ z ∈ l, NoteOk w z) :
    Calls Tryz.prog 5 #[v] w fun e w' => ∃ (r : Int), e = .returned (.int .i64 r) ∧ Below w.heap.size w w' := by
 have hB0 := Below.refl w.heap.size w;have hl_hs := sl_len hs;refine co_enter (n := 39) Tryz.func5 rfl rfl rfl [(0, v)] rfl (fun a s => ?_);refine q2 ?_;refine pk0 (v := .int .i64 0) s rfl fun _ s => q3 ?_;refine pk0 (v := .int .i64 0) s rfl fun _ s => q6 ?_;refine pk0 (v := .int .i64 0) s rfl fun _ s => q1 <| wp_block ?_;have s : Slots 39 [(0, v), (3, .int .i64 0), (4, .int .i64 0)] _ := s.sub ⟨rfl, rfl, rfl, trivial⟩;refine co_loop (fun mm a x => ∃ (i : Nat) (z : Int), Slots 39 [(0, v), (3, .int .i64 z), (4, .int .i64 (i : Int))] a ∧ mm = l.length - i ∧ (i ≤ l.length) ∧ (i ≤ 60) ∧ Below w.heap.size w x) (l.length - 0) ?_ ?_
 · exact ⟨0, 0, s.sub ⟨rfl, rfl, (slot_eq rfl (congrArg (Value.int .i64) (by first | rfl | omega))), trivial⟩, rfl, by omega, by omega, hB0⟩
 · rintro k5 a6 w7 ⟨i, z, s, rfl, hi8, hi9, hB10⟩
   have hz11 := hB10.size;refine q9 ?_;refine pk0 (v := .int .i64 (i : Int)) s rfl fun _ s => ?_;refine pk0 (v := v) s rfl fun _ s => ?_;refine pk (v := .int .i64 (l.length : Int)) s rfl (rn_len rfl rfl Tryz.underlying22 (hs.below hB10)) fun _ s => ?_;refine pk0 (v := .bool (decide ((i : Int) < (l.length : Int)))) s rfl fun _ s => ?_;refine pk0 (v := .bool (decide ((i : Int) < (l.length : Int)))) s rfl fun _ s => ?_;cases hc17 : (decide ((i : Int) < (l.length : Int)))
   ·
    rw [hc17] at s;have hp18 : ¬ ((i : Int) < (l.length : Int)) := of_decide_eq_false hc17;refine psk s rfl fun _ s => ?_;refine psk s rfl fun _ s => ?_;refine pk0 (v := .bool false) s rfl fun _ s => q1 ?_;refine co_false s rfl <| wp_exit <| co_thenX <| co_thenX <| qx <| q2 ?_;refine pk0 (v := .int .i64 z) s rfl fun _ s => ?_;refine pk0 (v := .int .i64 z) s rfl fun _ s => q4 ?_;refine co_ret1 s rfl rfl ?_;exact ⟨_, rfl, hB10⟩
   rw [hc17] at s;have hp24 : (i : Int) < (l.length : Int) := of_decide_eq_true hc17;refine pk0 (v := .int .i64 (i : Int)) s rfl fun _ s => ?_;refine pk0 (v := .bool (decide ((i : Int) < 60))) s rfl fun _ s => ?_;refine pk0 (v := .bool (decide ((i : Int) < 60))) s rfl fun _ s => q1 ?_;cases hc28 : (decide ((i : Int) < 60))
   ·
    rw [hc28] at s;have hp29 : ¬ ((i : Int) < 60) := of_decide_eq_false hc28;refine co_false s rfl <| wp_exit <| co_thenX <| co_thenX <| qx <| q2 ?_;refine pk0 (v := .int .i64 z) s rfl fun _ s => ?_;refine pk0 (v := .int .i64 z) s rfl fun _ s => q4 ?_;refine co_ret1 s rfl rfl ?_;exact ⟨_, rfl, hB10⟩
   rw [hc28] at s;have hp32 : (i : Int) < 60 := of_decide_eq_true hc28;refine co_true s rfl <| q0 <| co_seq <| wp_block ?_;refine dr_eq (by kernel_rfl) (fun w33 hg34 => ?_);have hz35 := hg34.size;refine dk0 0 (v := .int .i64 z) s rfl rfl rfl fun _ s => ?_;refine dk0 1 (v := v) s rfl rfl rfl fun _ s => ?_;refine dk0 2 (v := .int .i64 (i : Int)) s rfl rfl rfl fun _ s => ?_;have hB40 := hb_new hB10 hg34;obtain ⟨y39, hy39⟩ : ∃ z, l[i]? = some z := ⟨_, List.getElem?_eq_getElem (by first | omega | (simp; done) | (simp; omega))⟩;have oky39 := hok _ (List.mem_of_getElem? hy39);refine dk 3 (v := pt (blkOf v) (offOf v + i * 18)) s rfl rfl rfl (fun x hx => by subst hx; exact (rn_index rfl rfl rfl Tryz.underlying22 Tryz.sizeOf50 (hs.below hB40) (by omega) (by first | omega | (simp; done) | (simp; omega)))) fun _ s => ?_;refine dk0 4 (v := pt (blkOf v) (offOf v + i * 18 + 3)) s rfl rfl rfl fun _ s => ?_;refine dk0 5 (v := pt (blkOf v) (offOf v + i * 18 + 3 + 1)) s rfl rfl rfl fun _ s => ?_;refine dk 6 (v := y39.mv) s rfl rfl rfl (fun x hx => by subst hx; exact (rn_load1 rfl rfl Tryz.isAgg28 ((sl_at (hs.below hB40) hy39) 4 _ rfl))) fun _ s => ?_;refine dk 7 (v := .int .i64 (y39.d.ms.length : Int)) s rfl rfl rfl (fun x hx => by subst hx; exact (rn_len rfl rfl Tryz.underlying28 (oky39.hm.below hB40))) fun _ s => ?_;refine dk0 8 (v := v) s rfl rfl rfl fun _ s => ?_;refine dk0 9 (v := .int .i64 (i : Int)) s rfl rfl rfl fun _ s => ?_;refine dk 10 (v := pt (blkOf v) (offOf v + i * 18)) s rfl rfl rfl (fun x hx => by subst hx; exact (rn_index rfl rfl rfl Tryz.underlying22 Tryz.sizeOf50 (hs.below hB40) (by omega) (by first | omega | (simp; done) | (simp; omega)))) fun _ s => ?_;refine dk0 11 (v := pt (blkOf v) (offOf v + i * 18 + 6)) s rfl rfl rfl fun _ s => ?_;refine dk 12 (v := y39.lv) s rfl rfl rfl (fun x hx => by subst hx; exact (rn_load1 rfl rfl Tryz.isAgg39 ((sl_at (hs.below hB40) hy39) 6 _ rfl))) fun _ s => ?_;refine dk 13 (v := .int .i64 (y39.d.lg.length : Int)) s rfl rfl rfl (fun x hx => by subst hx; exact (rn_len rfl rfl Tryz.underlying39 (oky39.hg.below hB40))) fun _ s => ?_;refine dk0 14 (v := v) s rfl rfl rfl fun _ s => ?_;refine dk0 15 (v := .int .i64 (i : Int)) s rfl rfl rfl fun _ s => ?_;refine dk 16 (v := pt (blkOf v) (offOf v + i * 18)) s rfl rfl rfl (fun x hx => by subst hx; exact (rn_index rfl rfl rfl Tryz.underlying22 Tryz.sizeOf50 (hs.below hB40) (by omega) (by first | omega | (simp; done) | (simp; omega)))) fun _ s => ?_;refine dk0 17 (v := pt (blkOf v) (offOf v + i * 18 + 7)) s rfl rfl rfl fun _ s => ?_;refine dk0 18 (v := pt (blkOf v) (offOf v + i * 18 + 7)) s rfl rfl rfl fun _ s => ?_;refine dk0 19 (v := pt (blkOf v) (offOf v + i * 18 + 7 + 2)) s rfl rfl rfl fun _ s => ?_;refine dk 20 (v := y39.ev) s rfl rfl rfl (fun x hx => by subst hx; exact (rn_load1 rfl rfl Tryz.isAgg40 ((sl_at (hs.below hB40) hy39) 9 _ rfl))) fun _ s => ?_;refine dk 21 (v := .int .i64 (y39.d.el.length : Int)) s rfl rfl rfl (fun x hx => by subst hx; exact (rn_len rfl rfl Tryz.underlying40 (oky39.he.below hB40))) fun _ s => ?_;have hmm60 := mxI_p z (y39.d.ms.length : Int);have hmm61 := mxI_p (mxI z (y39.d.ms.length : Int)) (y39.d.lg.length : Int);have hmm62 := mxI_p (mxI (mxI z (y39.d.ms.length : Int)) (y39.d.lg.length : Int)) (y39.d.el.length : Int);refine dk0 22 (v := .int .i64 (mxI (mxI (mxI z (y39.d.ms.length : Int)) (y39.d.lg.length : Int)) (y39.d.el.length : Int))) s rfl rfl rfl fun _ s => ?_;refine dk0 23 (v := .int .i64 (mxI (mxI (mxI z (y39.d.ms.length : Int)) (y39.d.lg.length : Int)) (y39.d.el.length : Int))) s rfl rfl rfl fun _ s => ?_;refine dr_done (by kernel_rfl) ?_;refine co_blockN <| co_then <| co_reg ?_;refine pk0 (v := .int .i64 (i : Int)) s rfl fun _ s => ?_;refine pk (v := .int .i64 ((i + 1 : Nat) : Int)) s rfl (rn_arith' rfl rfl rfl rfl rfl rfl (IntWalk.i64_in _ (by omega)) (by omega)) fun _ s => ?_;refine pk0 (v := .int .i64 ((i + 1 : Nat) : Int)) s rfl fun _ s => q1 ?_;refine ⟨(l.length - (i + 1)), by omega, ?_⟩;exact ⟨i + 1, (mxI (mxI (mxI z (y39.d.ms.length : Int)) (y39.d.lg.length : Int)) (y39.d.el.length : Int)), s.sub ⟨rfl, rfl, rfl, trivial⟩, rfl, by omega, by omega, hB40⟩
end Go.Proofs.YtniojcnkjehflaaGreat

/- A range over a function whose yields come with what holds of them then; to its end. Conditions: no round breaks. -/
namespace Go.Proofs.YtniojcnkjehflaaGreat
open Go.RowKit Go.Shelf
set_option linter.unusedVariables false

/-- It yields what All tells, to whatever goes on always; what holds between stays when memory only grows; G holds of each as it comes. -/
def SeqG {α : Type} (P : Program) (gf : Nat) (lb : Array Value) (encs : α → Array Value) (Kp : World → World → Prop) (G : α → World → Prop) (All : List α → Prop) (Bd : Nat) (w : World) : Prop :=
  ∀ (l : Nat) (J : List α → World → Prop) (W : World), Below w.heap.size w W → w.heap.size + 2 ≤ W.heap.size →
    (∀ pre A B, J pre A → Below A.heap.size A B → J pre B) →
    (∀ pre x A, J pre A → pre.length < Bd → G x A → YieldAt Fence.wide 1 P l (encs x) A fun e B => e = .returned (.bool true) ∧ J (pre ++ [x]) B ∧ Kp A B) →
    J [] W → CallsIn Fence.wide 2 P gf (#[.func (.yield l) #[] #[]] ++ lb) W fun e B => (∃ v, e = .returned v) ∧ ∃ ks, All ks ∧ J ks B
/-- A round ends so. -/
def rfPostG {α : Type} (B : Nat) (Kp : World → World → Prop) (I : List α → World → Prop) (pre : List α) (W : World) : Exit → Act → World → Prop
  | .normal, _, W' => KeepsFrom B W W' ∧ Kp W W' ∧ I pre W'
  | _, _, _ => False
theorem rf_G {α : Type} {P : Program} {n : Nat} {g : Operand} {ps : Array Tmp} {assign body : Code} {Q : Exit → Act → World → Prop} {a : Act} {w : World} {gf : Nat} {lb : Array Value} (hg : a.eval g = .func (.func gf) #[] lb)
    (eg : ∀ args w, (callFunc gf args).run P w = .ok (.enter gf args) w) {encs : α → Array Value} {Kp : World → World → Prop} {G : α → World → Prop} {All : List α → Prop} {Bd : Nat} (hseq : SeqG P gf lb encs Kp G All Bd w) (hps : ∀ x, (encs x).size = ps.size)
    (hKt : ∀ {A B C : World}, Kp A B → Kp B C → Kp A C) (hKb : ∀ (W : World) (o o' : Obj), W.heap[w.heap.size + 1]? = some o → o.isCells = false → Kp W (W.putObj (w.heap.size + 1) o'))
    (I : List α → World → Prop) (hI : OwnFrom w.heap.size I) (hIb : ∀ pre A B, I pre A → Below A.heap.size A B → I pre B) (h0 : I [] w) (Ax : α → Act → World → Prop) (hAx : ∀ x a', OwnFrom w.heap.size (fun (_ : Unit) W => Ax x a' W))
    (hassign : ∀ (l : Nat) (pre : List α) (x : α) (W : World) (K : Act → World → Prop), I pre W → G x W → (∀ a' W', KeepsFrom w.heap.size W W' → Kp W W' → I pre W' → Ax x a' W' → K a' W') →
      assign.wpIn (Fence.wide.inRound l) 1 P (Exit.then K (fun _ _ _ => False)) { tmps := (ps.zip (encs x)).foldl (fun t (p, v) => t.setIfInBounds p v) a.tmps, defers := [] } W)
    (hbody : ∀ (l : Nat) (pre : List α) (x : α) (a' : Act) (W : World), w.heap.size + 1 = l → l < W.heap.size → I pre W → Ax x a' W → pre.length < Bd → body.wpIn (Fence.wide.inRound l) 1 P (rfPostG w.heap.size Kp I (pre ++ [x]) W) a' W)
    (hdone : ∀ (D : Nat) (ks : List α) (W : World), w.heap.size ≤ D → All ks → I ks W → W.heap[D]? = some (.deferred (some [])) → Q .normal { a with defers := { target := .collected D, args := #[] } :: a.defers } W) :
    (Code.rangeFunc g ps assign body).wpIn Fence.wide n P Q a w := by
  refine wpIn_rangeFunc fun fn hfn => ?_
  let R : LoopState → Option Code → Loop := fun st pe => { state := st, pending := pe, fn := fn, tmps := a.tmps, params := ps, assign := assign, body := body, defers := w.heap.size }
  obtain ⟨V, hV⟩ : ∃ V, V = (w.alloc (.deferred (some []))).alloc (.loop (R .ready none)) := ⟨_, rfl⟩
  have vL : V.heap[w.heap.size + 1]? = some (.loop (R .ready none)) := by rw [hV]; have := World.alloc_heap_new (w.alloc (.deferred (some []))) (.loop (R .ready none)); rwa [World.size_alloc] at this
  have vD : V.heap[w.heap.size]? = some (.deferred (some [])) := by rw [hV]; exact (Below.heap_alloc _ _ _ (by simp)).trans (World.alloc_heap_new w _)
  have vS : V.heap.size = w.heap.size + 2 := by rw [hV]; simp
  have vI : I [] V := by rw [hV]; exact hI.alloc _ (hI.alloc _ h0)
  have vB : Below w.heap.size w V := by rw [hV]; exact ((Below.refl _ w).alloc (Nat.le_refl _) _).alloc (by simp) _
  refine ⟨w.heap.size + 1, [{ target := .collected w.heap.size, args := #[] }], V, { target := .fn (.func gf) lb, args := #[.func (.yield (w.heap.size + 1)) #[] #[]] }, V, gf,
    #[.func (.yield (w.heap.size + 1)) #[] #[]] ++ lb, V, by rw [hV]; exact run_enterLoop_outer _ _ _ _ _, by simp only [resolve, hg]; simp [go_sem], (fun f' hf' => by simp [Target.leads] at hf'; subst hf'; trivial), by simp [invoke, go_sem, eg], (fun h => by cases h), ?_⟩
  refine (callsIn_wide.2 (callsIn_wide.1 (hseq (w.heap.size + 1) (fun pre W => I pre W ∧ W.heap[w.heap.size + 1]? = some (.loop (R .ready none)) ∧ W.heap[w.heap.size]? = some (.deferred (some []))) V vB (by omega) ?_ ?_ ⟨vI, vL, vD⟩))).mono ?_
  · rintro pre A B ⟨h1, h2, h3⟩ hb'
    exact ⟨hIb pre A B h1 hb', (hb'.block _ (Array.getElem?_eq_some_iff.1 h2).1).trans h2, (hb'.block _ (Array.getElem?_eq_some_iff.1 h3).1).trans h3⟩
  · rintro pre x A ⟨h1, h2, h3⟩ hlb hp
    have hy := run_yield (P := P) (args := encs x) h2 (hps x)
    refine ⟨fn, _, assign, body, hy, ?_⟩
    refine roundIn_of_wpIn hfn ?_
    refine hassign _ pre x A _ h1 hp fun a' B kf kp h1' hax => ?_
    have b2 := kf.same _ _ (by omega) h2 rfl
    have b3 := kf.same _ _ (Nat.le_refl _) h3 rfl
    have hlt : w.heap.size + 1 < B.heap.size := (Array.getElem?_eq_some_iff.1 b2).1
    refine ⟨_, run_beginRound b2 rfl, ?_⟩
    have c2 : (B.putObj (w.heap.size + 1) (.loop (R .busy none))).heap[w.heap.size + 1]? = some (.loop (R .busy none)) := World.putObj_heap_same hlt
    have c3 : (B.putObj (w.heap.size + 1) (.loop (R .busy none))).heap[w.heap.size]? = some (.deferred (some [])) := (World.putObj_heap_other (by omega)).trans b3
    refine wpIn_mono (hbody _ pre x a' (B.putObj (w.heap.size + 1) (.loop (R .busy none))) rfl (Array.getElem?_eq_some_iff.1 c2).1 (hI.putObj _ h1' (by omega) b2 rfl) ((hAx x a').putObj (s := ()) _ hax (by omega) b2 rfl) hlb) ?_
    rintro e a3 C hq
    cases e with
    | normal =>
      obtain ⟨q1, q2, q3⟩ := hq
      have d2 := q1.same _ _ (by omega) c2 rfl
      have d3 := q1.same _ _ (Nat.le_refl _) c3 rfl
      refine ⟨_, _, run_endRound none d2, rfl, ⟨hI.putObj _ q3 (by omega) d2 rfl, World.putObj_heap_same (Array.getElem?_eq_some_iff.1 d2).1, (World.putObj_heap_other (by omega)).trans d3⟩, ?_⟩
      exact hKt kp (hKt (hKt (hKb _ _ _ b2 rfl) q2) (hKb _ _ _ d2 rfl))
    | ret => exact hq.elim
    | exit id => exact hq.elim
    | goto t => exact hq.elim
    | panic ch => exact hq.elim
    | outgrown => exact hq.elim
  · rintro e B ⟨⟨v, rfl⟩, ks, hks, h1, h2, h3⟩
    exact ⟨none, _, run_endLoop h2 (by simp [R]), hdone _ ks _ (Nat.le_refl _) hks (hI.putObj _ h1 (by omega) h2 rfl) ((World.putObj_heap_other (by omega)).trans h3)⟩

/-- Between two worlds: what lay below n₀, and all blocks but notes and lists of them, are as they were. -/
structure KN (n₀ : Nat) (A C : World) : Prop where
  below : Below n₀ A C
  keep : ∀ i T cs, Blk A i T cs → T ≠ 50 → T ≠ 22 → Blk C i T cs
theorem KN.refl (n₀ : Nat) (A : World) : KN n₀ A A := ⟨Below.refl _ _, fun _ _ _ h _ _ => h⟩
theorem KN.trans {n₀ : Nat} {A B C : World} (h : KN n₀ A B) (k : KN n₀ B C) : KN n₀ A C := ⟨h.below.trans k.below, fun i T cs x y z => k.keep i T cs (h.keep i T cs x y z) y z⟩
theorem KN.of_below {n₀ : Nat} {A C : World} (h : Below A.heap.size A C) (hn : n₀ ≤ A.heap.size) : KN n₀ A C := ⟨h.mono hn, fun i T cs hb _ _ => hb.below h⟩
theorem KN.putObj {n₀ l : Nat} {W : World} {o : Obj} (o' : Obj) (h : W.heap[l]? = some o) (hc : o.isCells = false) (hn : n₀ ≤ l) : KN n₀ W (W.putObj l o') := by
  have hg := grownBy_putObj' W l o'
  refine ⟨(Below.refl n₀ W).grown hg (by have := (Array.getElem?_eq_some_iff.1 h).1; omega) (fun k e => by cases e; omega), fun i T cs hb _ _ => ?_⟩
  refine hb.kept hg (fun e => ?_)
  cases e
  unfold Blk at hb; rw [hb] at h; cases h; cases hc
theorem KN.box {n₀ : Nat} {A C : World} (h : KN n₀ A C) {B : Nat} {t : TypeId} {v : Value} (hb : Boxed A B t v) (h1 : t ≠ 50) (h2 : t ≠ 22) : Boxed C B t v := h.keep B t #[v] hb h1 h2
theorem KN.row {n₀ base sz k : Nat} {A C : World} {e : TypeId} {v : Value} {xs : List Value} (h : KN n₀ A C) (hr : A.ownsRow base e sz v k xs) (h1 : e ≠ 50) (h2 : e ≠ 22) : C.ownsRow base e sz v k xs := by
  refine row_sameL hr (fun i hi => ?_)
  rcases hr.2 with ⟨hv, _⟩ | ⟨g, cap, cur, hv, _, hh, _⟩
  · rw [hv] at hi; cases hi
  · rw [hv] at hi
    have : g = i := by simpa [Value.ownBlock] using hi
    subst this
    exact (h.keep g e cur hh h1 h2).trans hh.symm
/-- What a note that is told has, in rows that were made since. -/
structure NtH (n₀ : Nat) (x : NoteX) (W : World) : Prop where
  mv : W.ownsRow n₀ 112 2 x.mv x.d.ms.length (x.d.ms.flatMap memE)
  ev : W.ownsRow n₀ 58 3 x.ev x.d.el.length (x.d.el.flatMap opE)
  lv : x.lv = .slice none 0 0
  lg : x.d.lg = []
  nr : NoteR x.d
  each : ∀ o ∈ x.d.el, opOk o
theorem ownN {W W' : World} {row : Option Nat} {base sz k : Nat} {e : TypeId} {v : Value} {xs : List Value} (h : W.ownsRow base e sz v k xs) (hg : W.grownBy W' row) (hr : ∀ r, row = some r → ∃ o : Obj, W.heap[r]? = some o ∧ o.isCells = false) : W'.ownsRow base e sz v k xs := by
  refine row_sameL h (fun i hi => ?_)
  rcases h.2 with ⟨hv, _⟩ | ⟨g, cap, cur, hv, _, hh, _⟩
  · rw [hv] at hi; cases hi
  · rw [hv] at hi
    have : g = i := by simpa [Value.ownBlock] using hi
    subst this
    refine hg.block g (Array.getElem?_eq_some_iff.1 hh).1 (fun e => ?_)
    obtain ⟨o, ho, hc⟩ := hr g e.symm
    rw [hh] at ho; cases ho; cases hc
theorem NtH.own {n₀ : Nat} {x : NoteX} {W W' : World} {row : Option Nat} (h : NtH n₀ x W) (hg : W.grownBy W' row) (hr : ∀ r, row = some r → ∃ o : Obj, W.heap[r]? = some o ∧ o.isCells = false) : NtH n₀ x W' := ⟨ownN h.mv hg hr, ownN h.ev hg hr, h.lv, h.lg, h.nr, h.each⟩
theorem NtH.kn {n₀ n₁ : Nat} {x : NoteX} {W W' : World} (h : NtH n₀ x W) (k : KN n₁ W W') : NtH n₀ x W' := ⟨k.row h.mv (by decide) (by decide), k.row h.ev (by decide) (by decide), h.lv, h.lg, h.nr, h.each⟩
theorem NtH.below {n₀ : Nat} {x : NoteX} {W W' : World} (h : NtH n₀ x W) (hb : Below W.heap.size W W') : NtH n₀ x W' := h.kn (KN.of_below hb (Nat.le_refl _))
theorem NtH.ok {n₀ : Nat} {x : NoteX} {W : World} (h : NtH n₀ x W) : NoteOk W x := ⟨row_sl h.mv memE_len, by rw [h.lv, h.lg]; exact SliceOf.nil _ _ _, row_sl h.ev opE_len, h.nr⟩
end Go.Proofs.YtniojcnkjehflaaGreat

/- Package rlog: All, with nothing turned. Conditions: none. -/
namespace Go.Proofs.YtniojcnkjehflaaGreat
open Go.RowKit Go.PlainAid
set_option linter.unusedVariables false
set_option linter.unusedSimpArgs false


theorem entsK_low0 {m n : Nat} {w : World} {L : List EntT} (h : EntsK (fun _ => False) m w L) (hn : n ≤ m) : EntsK (fun _ => False) n w L := fun z hz => by
  have k := h z hz
  exact ⟨k.row, fun i hi => .inr (by rcases k.ins i hi with q | q; exact q.elim; omega), k.len, k.each, k.ts0, k.ts1, k.cl, k.rq⟩

set_option maxRecDepth 100000 in
theorem lAllB_any (b : Nat) (M : Nat) (u : Value) (L : List EntT) (w : World) (hD : Blk w b 104 #[.bool true, u, .map (some M)]) (hs : SliceOf entE 4 w u L) (hok : ∀ z ∈ L, EntOk w z) (hl20 : ∀ z ∈ L, z.opl.length ≤ 20) (hlen : L.length ≤ 100) :
    Calls Tryz.prog 73 #[pt b 0] w fun e w' => ∃ (L2 : List EntT) (u2 : Value), e = .returned (u2) ∧ w'.ownsRow w.heap.size 44 4 u2 L2.length (L2.flatMap entE) ∧ EntsK (fun _ => False) w.heap.size w' L2 ∧ L2.map e0 = L.map e0 ∧ Below w.heap.size w w' := by
 have hB0 := Below.refl w.heap.size w;have hl_hD := hD.lt;have hl_hs := sl_len hs;refine co_enter (n := 10) Tryz.func73 rfl rfl rfl [(0, pt b 0)] rfl (fun a s => ?_);refine q2 ?_;refine pk0 (v := .slice none 0 0) s rfl fun _ s => q6 ?_;refine pk0 (v := pt b 0) s rfl fun _ s => ?_;refine pw s rfl (op_call (args := #[pt b 0]) (R := fun res xw => res = .bool false ∧ w = xw) rfl rfl rfl (by kernel_rfl) (by kernel_rfl) (Tryz.call57 _ _) (lzero_any b M u w hD) (by rintro e x ⟨rfl, rfl⟩; exact ⟨_, rfl, ⟨rfl, rfl⟩⟩)) ?_;rintro _ _ a3 ⟨rfl, rfl⟩ s;refine q1 ?_;refine co_false s rfl <| q7 ?_;refine pk0 (v := pt b 0) s rfl fun _ s => ?_;refine pk0 (v := pt b 0) s rfl fun _ s => ?_;refine pk0 (v := pt b 1) s rfl fun _ s => ?_;refine pk (v := u) s rfl (rn_load1 rfl rfl Tryz.isAgg32 (hD.cell rfl)) fun _ s => ?_;refine pw s rfl (op_call (args := #[u]) (R := fun res xw => ∃ L2 : List EntT, ∃ u : Value, res = u ∧ xw.ownsRow w.heap.size 44 4 u L2.length (L2.flatMap entE) ∧ EntsK (fun _ => False) w.heap.size xw L2 ∧ L2.map e0 = L.map e0 ∧ Below w.heap.size w xw) rfl rfl rfl (by kernel_rfl) (by kernel_rfl) (Tryz.call90 _ _) (freshEntries_any u L w hs (fun z hz => (hok z hz).below hB0) hl20 hlen) (by rintro e x ⟨L2, u, rfl, hq14, hq15, hq16, hb17⟩; exact ⟨_, rfl, ⟨L2, u, rfl, hq14, hq15, hq16, hb17⟩⟩)) ?_;rintro u13 w11 a10 ⟨L212, _, rfl, hq14, hq15, hq16, hb17⟩ s;have hz18 := hb17.size;have hl19 := sl_len (row_sl hq14 entE_len);refine pk0 (v := u13) s rfl fun _ s => q4 ?_;refine co_ret1 s rfl rfl ?_;have hB21 := hb_call hB0 hb17;exact ⟨_, _, rfl, (row_lows hq14 (by omega)), entsK_low0 hq15 (by omega), hq16, hB21⟩

theorem logAllB {A : Nat → Prop} {g : Nat} {L : List EntT} (w : World) (h : LObj A w g L) : Calls Tryz.prog 73 #[pt g 0] w fun e w' => ∃ (L2 : List EntT) (u2 : Value), e = .returned u2 ∧ w'.ownsRow w.heap.size 44 4 u2 L2.length (L2.flatMap entE) ∧ EntsK (fun _ => False) w.heap.size w' L2 ∧ L2.map e0 = L.map e0 ∧ Below w.heap.size w w' := by
  obtain ⟨_, M, u, hP⟩ := h
  exact (lAllB_any g M u L w hP.blk (row_sl hP.row entE_len) (entsK_got hP.ents) (fun z hz => (hP.ents z hz).len) hP.len).mono fun e x ⟨L2, u2, h1, h2, h3, h4, h5⟩ => ⟨L2, u2, h1, h2, h3, h4, h5⟩

end Go.Proofs.YtniojcnkjehflaaGreat

/- Package rstate: the iterator of Notes. Conditions: none. -/
namespace Go.Proofs.YtniojcnkjehflaaGreat
open Go.RowKit Go.Shelf
attribute [local go_sem] Oper.semAt_some
set_option linter.unusedVariables false
set_option linter.unusedSimpArgs false

/-- A struct out of a row is loaded inside a fence. -/
theorem wpListIn_load_midN {F : Fence} {n : Nat} {P : Program} {ops : Array Oper} {rest : List Oper} {o : Oper} {a : Act} {w : World} {Q : Exit → Act → World → Prop} (hgd : o.guard = none) (ty : TypeId) (x : Operand) (ho : o.op = .load ty x)
    (b off : Nat) (hx : a.eval x = .pointer (some ⟨b, off, none⟩)) (cs : List Value) (d : TypeDesc) (hc : w.rangeAt b off cs)
    (hu : P.underlying ty = some d) (hd : d.isRow = true) (hi : (P.info? ty).map (·.size) = some cs.length)
    (h : wpListIn F n P ops Q rest (a.put o.dst (.agg cs.toArray)) w) : wpListIn F n P ops Q (o :: rest) a w := by
  refine wpListIn_plain hgd fun K hK => ?_
  unfold Oper.wpIn
  refine ⟨?_, ?_⟩
  · simp [Oper.about, ho]
  · rw [Oper.semAt_plain F _ _ (by rw [ho]; intro c hc'; cases hc')]
    simp only [execOp, ho, hx, Instr.loadAt, Instr.sureAddr, Sem.run_bind, Sem.run_pure, Result.andThen_ok, run_loadVar_mid w b off ty cs d hc hu hd hi]
    exact hK _ _ h
theorem own_raise {w : World} {B n sz k : Nat} {e : TypeId} {v : Value} {xs : List Value} (h : w.ownsRow B e sz v k xs) (hi : ∀ i, v.ownBlock = some i → n ≤ i) : w.ownsRow n e sz v k xs := by
  refine ⟨h.1, ?_⟩
  rcases h.2 with h1 | ⟨g, c, cur, rfl, hg, hh⟩
  · exact .inl h1
  · exact .inr ⟨g, c, cur, rfl, hi g rfl, hh⟩
theorem rangeN {α : Type} {enc : α → List Value} {sz : Nat} {w : World} {ao : Option Addr} {n cap : Nat} {l : List α} (h : SliceOf enc sz w (.slice ao n cap) l) (j : Nat) (y : α) (hy : l[j]? = some y) : ∃ b off, ao = some ⟨b, off, none⟩ ∧ w.rangeAt b (off + j * sz) (enc y) := by
  obtain ⟨a', c', e1, _, _, _, hx⟩ := h
  obtain ⟨hj, rfl⟩ := List.getElem?_eq_some_iff.1 hy
  obtain ⟨b, off, e2, hr⟩ := hx j hj
  simp only [Value.slice.injEq] at e1
  exact ⟨b, off, by rw [e1.1, e2], fun i u hu => hr i u hu⟩
theorem own_sliceN {W : World} {base : Nat} {e : TypeId} {size : Nat} {v : Value} {k : Nat} {xs : List Value} (h : W.ownsRow base e size v k xs) : ∃ ao n cap, v = .slice ao n cap := by
  rcases h.2 with ⟨rfl, _⟩ | ⟨g, cap, cur, rfl, _⟩
  · exact ⟨_, _, _, rfl⟩
  · exact ⟨_, _, _, rfl⟩
/-- The notes that are told. -/
def nCf (ep : Int) (ms : List MemT) (fl : Int) (u : Value) : NoteX := ⟨⟨1, 0, 0, ep, ms, fl, [], 0, 0, [], 0, 0, 0, 0, 0, 0, 0, 0⟩, u, .slice none 0 0, .slice none 0 0⟩
def nPt (i : Nat) (e : EntT) : NoteX := ⟨⟨2, (i : Int), 0, 0, [], 0, [], e.client, e.req, e.opl, e.ts, 0, 0, 0, 0, 0, 0, 0⟩, .slice none 0 0, .slice none 0 0, e.ops⟩
def nHz (t : Int) : NoteX := ⟨⟨4, 0, t, 0, [], 0, [], 0, 0, [], 0, 0, 0, 0, 0, 0, 0, 0⟩, .slice none 0 0, .slice none 0 0, .slice none 0 0⟩
def zE : EntT := ⟨0, 0, .slice none 0 0, [], 0⟩
def ntPs (L : List EntT) (k : Nat) : List NoteX := (List.range k).map fun i => nPt i (L.getD i zE)
theorem ntPs_snoc (L : List EntT) {k : Nat} {y : EntT} (hy : L[k]? = some y) : ntPs L (k + 1) = ntPs L k ++ [nPt k y] := by
  unfold ntPs; rw [List.range_succ, List.map_append, List.map_singleton, List.getD_eq_getElem?_getD, hy]; rfl
def cfS (ep : Int) (ms : List MemT) (fl : Int) (u : Value) : List NoteX := if 0 < ep then [nCf ep ms fl u] else []
theorem pre_len (ep : Int) (ms : List MemT) (fl : Int) (u : Value) (L : List EntT) (k : Nat) (h : k ≤ 100) : (cfS ep ms fl u ++ ntPs L k).length < 200 := by
  have h1 : (cfS ep ms fl u).length ≤ 1 := by unfold cfS; split <;> simp
  have h2 : (ntPs L k).length = k := by unfold ntPs; simp
  rw [List.length_append]; omega
def AllN (L : List EntT) (ep hz : Int) (ms : List MemT) (fl : Int) (ks : List NoteX) : Prop := ∃ (L2 : List EntT) (u : Value), L2.map e0 = L.map e0 ∧ ks = cfS ep ms fl u ++ ntPs L2 L2.length ++ [nHz hz]
/-- What the iterator leans on. -/
structure NCx (n₀ B q g : Nat) (A : Nat → Prop) (cv : Value) (L : List EntT) (ep hz : Int) (ms : List MemT) (fl : Int) (W : World) : Prop where
  bx : Boxed W B 65 (pt q 0)
  blk : Blk W q 69 #[pt g 0, .int .i64 ep, cv, .int .u64 fl, .int .u64 hz]
  log : LObj A W g L
  row : W.ownsRow 0 112 2 cv ms.length (ms.flatMap memE)
  hms : ms.length ≤ 20
  hA : ∀ k, A k → k < n₀
  hn : n₀ ≤ W.heap.size
  cf : CfR ep hz ms fl
section
variable {n₀ B q g : Nat} {A : Nat → Prop} {cv : Value} {L : List EntT} {ep hz fl : Int} {ms : List MemT} {W W' : World}
theorem NCx.kn (h : NCx n₀ B q g A cv L ep hz ms fl W) (k : KN n₀ W W') : NCx n₀ B q g A cv L ep hz ms fl W' :=
  ⟨k.box h.bx (by decide) (by decide), k.keep _ _ _ h.blk (by decide) (by decide), h.log.keep k.below.size (fun i hi => k.below.block i (h.hA i hi)), k.row h.row (by decide) (by decide), h.hms, h.hA, Nat.le_trans h.hn k.below.size, h.cf⟩
theorem NCx.confR (h : NCx n₀ B q g A cv L ep hz ms fl W) : W.rangeAt q 1 [.int .i64 ep, cv, .int .u64 fl] := fun j x hx => by
  match j, hx with
  | 0, hx => cases hx; exact h.blk.cell (k := 1) rfl
  | 1, hx => cases hx; exact h.blk.cell (k := 2) rfl
  | 2, hx => cases hx; exact h.blk.cell (k := 3) rfl
theorem NCx.cfN {u : Value} (h : NCx n₀ B q g A cv L ep hz ms fl W) (hb : Below W.heap.size W W') (hr : W'.ownsRow W.heap.size 112 2 u ms.length (ms.flatMap memE)) : NtH n₀ (nCf ep ms fl u) W' :=
  ⟨own_raise hr (fun i hi => Nat.le_trans h.hn (hr.lt i hi).1), World.ownsRow_nil _ _ _ _, rfl, rfl, ⟨h.cf.mm, ⟨h.cf.ep, h.cf.fl, ⟨by show (0 : Int) ≤ 0; omega, by show (0 : Int) < 18446744073709551616; omega⟩, ⟨by show (0 : Int) ≤ 0; omega, by show (0 : Int) < 18446744073709551616; omega⟩, ⟨by show (0 : Int) ≤ 0; omega, by show (0 : Int) < 18446744073709551616; omega⟩⟩⟩, (fun o ho => by cases ho)⟩
theorem NCx.hzN (h : NCx n₀ B q g A cv L ep hz ms fl W) : NtH n₀ (nHz hz) W :=
  ⟨World.ownsRow_nil _ _ _ _, World.ownsRow_nil _ _ _ _, rfl, rfl, ⟨(fun m hm => by cases hm), ⟨⟨by show (-9223372036854775808 : Int) ≤ 0; omega, by show (0 : Int) ≤ 9223372036854775807; omega⟩, ⟨by show (0 : Int) ≤ 0; omega, by show (0 : Int) < 18446744073709551616; omega⟩, h.cf.hz, ⟨by show (0 : Int) ≤ 0; omega, by show (0 : Int) < 18446744073709551616; omega⟩, ⟨by show (0 : Int) ≤ 0; omega, by show (0 : Int) < 18446744073709551616; omega⟩⟩⟩, (fun o ho => by cases ho)⟩
theorem ptN {i n : Nat} {y : EntT} (hn : n₀ ≤ n) (h : EntK (fun _ => False) n W y) : NtH n₀ (nPt i y) W :=
  ⟨World.ownsRow_nil _ _ _ _, own_raise h.row (fun i hi => by rcases h.ins i hi with k | k; exact k.elim; omega), rfl, rfl, ⟨(fun m hm => by cases hm), ⟨⟨by show (-9223372036854775808 : Int) ≤ 0; omega, by show (0 : Int) ≤ 9223372036854775807; omega⟩, ⟨by show (0 : Int) ≤ 0; omega, by show (0 : Int) < 18446744073709551616; omega⟩, ⟨by show (0 : Int) ≤ 0; omega, by show (0 : Int) < 18446744073709551616; omega⟩, ⟨h.ts0, h.ts1⟩, ⟨by show (0 : Int) ≤ 0; omega, by show (0 : Int) < 18446744073709551616; omega⟩⟩⟩, h.each⟩
end
/-- The entries, as they are copied. -/
structure NLx (n₀ : Nat) (ao : Option Addr) (cap : Nat) (L2 : List EntT) (n₁ : Nat) (W : World) : Prop where
  row : W.ownsRow n₁ 44 4 (.slice ao L2.length cap) L2.length (L2.flatMap entE)
  ents : EntsK (fun _ => False) n₁ W L2
  hn : n₀ ≤ n₁
theorem NLx.kn {n₀ n₁ n₂ : Nat} {ao : Option Addr} {cap : Nat} {L2 : List EntT} {W W' : World} (h : NLx n₀ ao cap L2 n₁ W) (k : KN n₂ W W') : NLx n₀ ao cap L2 n₁ W' :=
  ⟨k.row h.row (by decide) (by decide), fun e he => by have j := h.ents e he; exact ⟨k.row j.row (by decide) (by decide), j.ins, j.len, j.each, j.ts0, j.ts1, j.cl, j.rq⟩, h.hn⟩

theorem wpListIn_load_rowN {F : Fence} {n : Nat} {P : Program} {ops : Array Oper} {rest : List Oper} {o : Oper} {a : Act} {w : World} {Q : Exit → Act → World → Prop} (hgd : o.guard = none) (ty : TypeId) (x : Operand) (ho : o.op = .load ty x)
    (g : Nat) (hx : a.eval x = .pointer (some ⟨g, 0, none⟩)) (t : TypeId) (cs : Array Value) (fr : Nat × Nat) (d : TypeDesc) (hg : w.heap[g]? = some (.cells cs t fr))
    (hu : P.underlying ty = some d) (hd : (match d with | .struct _ | .array _ _ => true | _ => false) = true) (hi : (P.info? ty).map (·.size) = some cs.size)
    (h : wpListIn F n P ops Q rest (a.put o.dst (.agg cs)) w) : wpListIn F n P ops Q (o :: rest) a w := by
  refine wpListIn_plain hgd fun K hK => ?_
  unfold Oper.wpIn
  refine ⟨?_, ?_⟩
  · simp [Oper.about, ho]
  · rw [Oper.semAt_plain F _ _ (by rw [ho]; intro c hc'; cases hc')]
    simp only [execOp, ho, hx, Instr.loadAt, Instr.sureAddr, Sem.run_bind, Sem.run_pure, Result.andThen_ok, run_loadVar_row w g t ty cs fr d hg hu hd hi]
    exact hK _ _ h
set_option maxRecDepth 100000 in
set_option maxHeartbeats 8000000 in
theorem niter_in (lp n₀ B q g : Nat) (A : Nat → Prop) (cv : Value) (L : List EntT) (ep hz : Int) (ms : List MemT) (fl : Int) (J : List NoteX → World → Prop)
    (hJb : ∀ pre X Y, J pre X → Below X.heap.size X Y → J pre Y)
    (hY : ∀ pre x W, J pre W → pre.length < 200 → NtH n₀ x W → YieldAt Fence.wide 1 Tryz.prog lp #[noteV x] W fun e B => e = .returned (.bool true) ∧ J (pre ++ [x]) B ∧ KN n₀ W B)
    (W : World) (hC : NCx n₀ B q g A cv L ep hz ms fl W) (hJ : J [] W) :
    CallsIn Fence.wide 2 Tryz.prog 77 #[.func (.yield lp) #[] #[], .pointer (some ⟨B, 0, none⟩)] W fun e W' => (∃ v, e = .returned v) ∧ ∃ ks, AllN L ep hz ms fl ks ∧ J ks W' := by
  refine callsIn_of_wp Tryz.func77 rfl trivial ?_ rfl
  simp only [Tryz.ntmps77, List.size_toArray, List.length_cons, List.length_nil, Nat.reduceAdd, Nat.reduceSub, Array.replicate_succ, Array.replicate_zero, List.push_toArray, List.append_toArray, List.nil_append, List.cons_append]
  have h1 : 1 ≤ (2 : Nat) := by omega
  have HY := Lib.hid hY; have HJB := Lib.hid hJb; clear hY hJb
  have HC := Lib.hid hC; clear hC
  have cB := HC.out.bx.cell; simp only [pt] at cB
  have c1 : W.cell? ⟨q, 1, none⟩ = some (.int .i64 ep) := HC.out.blk.cell (k := 1) rfl
  have c2 : W.cell? ⟨q, 2, none⟩ = some cv := HC.out.blk.cell (k := 2) rfl
  have c3 : W.cell? ⟨q, 3, none⟩ = some (.int .u64 fl) := HC.out.blk.cell (k := 3) rfl
  by_cases hep : 0 < ep
  · have hd : decide (ep > 0) = true := decide_eq_true hep
    have HEP := Lib.hid hep; clear hep
    gi_wp2_with (first
      | (refine wpListIn_load_midN rfl 31 (.tmp 15) rfl q 1 rfl [.int .i64 ep, cv, .int .u64 fl] _ HC.out.confR Tryz.underlying31 rfl (by kernel_rfl) ?_)
      | (refine ⟨trivial, ?_⟩; gi_at_call 22; refine (callsIn_wide.2 (freshConf_any ep fl cv ms _ (row_sl HC.out.row memE_len) HC.out.hms)).mono ?_; rintro e w1 ⟨u, rfl, hru, hbu⟩; have hcf := HC.out.cfN hbu hru; have HBU := Lib.hid hbu; obtain ⟨fn, tmps, assign, body, hy, hR⟩ := HY.out [] (nCf ep ms fl u) _ (HJB.out _ _ _ hJ hbu) (by simp) hcf; dsimp only [noteV, nCf] at hy; clear hcf hru hbu hJ))
    refine hR.mono ?_
    rintro e8 W3 ⟨rfl, hJ3, hk3⟩
    have hC3 := HC.out.kn ((KN.of_below HBU.out HC.out.hn).trans hk3)
    have hJ3 : J (cfS ep ms fl u) W3 := by have e : cfS ep ms fl u = [] ++ [nCf ep ms fl u] := by unfold cfS; rw [if_pos HEP.out]; rfl
                                           rw [e]; exact hJ3
    clear hk3 HBU cB c1 c2 c3 hd
    have HJ3 := Lib.hid hJ3; have HC3 := Lib.hid hC3; clear hJ3 hC3
    have cB3 := HC3.out.bx.cell; simp only [pt] at cB3
    have d0 : W3.cell? ⟨q, 0, none⟩ = some (.pointer (some ⟨g, 0, none⟩)) := HC3.out.blk.cell (k := 0) rfl
    gi_wp2_with (refine ⟨trivial, ?_⟩; gi_at_call 73; refine (callsIn_wide.2 (logAllB _ HC3.out.log)).mono ?_; rintro e w4 ⟨L2, u2, hu2, hr2, he2, hq2, hb2⟩; have hsl := row_sl hr2 entE_len; obtain ⟨ao, cap, hu3, hc1, hc2, _, _⟩ := hsl; rw [hu3] at hu2 hr2; subst hu2; clear hu3)
    have HL4 : Hid (NLx n₀ ao cap L2 W3.heap.size w4) := Lib.hid ⟨hr2, he2, HC3.out.hn⟩
    have HC4 := Lib.hid (HC3.out.kn (KN.of_below hb2 HC3.out.hn)); have HJ4 := Lib.hid (HJB.out _ _ _ HJ3.out hb2); have HQ2 := Lib.hid hq2
    have hl100 : L2.length ≤ 100 := by rw [e0_len hq2]; obtain ⟨_, _, _, hP⟩ := HC3.out.log; exact hP.len
    clear hr2 he2 hq2 hb2 cB3 d0
    gi_loopw [28] (fun p wr => ∃ k : Nat, p = .int .i64 (k : Int) ∧ k ≤ L2.length ∧ J (cfS ep ms fl u ++ ntPs L2 k) wr ∧ Hid (KN n₀ w4 wr)) (fun p wr => L2.length - (intOf p).toNat)
    case atStart => exact ⟨0, rfl, Nat.zero_le _, by simpa [ntPs] using HJ4.out, Lib.hid (KN.refl _ _)⟩
    case round =>
      obtain ⟨k, rfl, hk, hJs, HK⟩ := hrel
      by_cases hlt : k < L2.length
      · have hd : decide ((k : Int) < (L2.length : Int)) = true := decide_eq_true (by omega)
        have hw : IntKind.i64.wrap ((k : Int) + 1) = (k : Int) + 1 := IntWalk.i64_in _ (by omega)
        obtain ⟨⟨yc, yr, yo, yl, yt⟩, hyk⟩ : ∃ y, L2[k]? = some y := ⟨_, List.getElem?_eq_getElem hlt⟩
        have hL5 := HL4.out.kn HK.out
        obtain ⟨oa, on_, oc, rfl⟩ := own_sliceN (hL5.ents _ (List.mem_of_getElem? hyk)).row
        obtain ⟨b2, off, rfl, hr5⟩ := rangeN (row_sl hL5.row entE_len) k _ hyk
        have HR5 := Lib.hid hr5; have HYK := Lib.hid hyk
        have hb6 : Below wr.heap.size wr (wr.alloc (.cells #[.int .i64 yc, .int .i64 yr, .slice oa on_ oc, .int .u64 yt] 44)) := (Below.refl _ _).alloc (Nat.le_refl _) _
        have hJ6 := HJB.out _ _ _ hJs hb6
        have hP6 : NtH n₀ (nPt k ⟨yc, yr, .slice oa on_ oc, yl, yt⟩) (wr.alloc (.cells #[.int .i64 yc, .int .i64 yr, .slice oa on_ oc, .int .u64 yt] 44)) := (ptN (i := k) hL5.hn (hL5.ents _ (List.mem_of_getElem? hyk))).below hb6
        have HB6 := Lib.hid hb6
        obtain ⟨fn, tmps, assign, body, hy, hR⟩ := HY.out _ (nPt k ⟨yc, yr, .slice oa on_ oc, yl, yt⟩) _ hJ6 (pre_len _ _ _ _ _ _ (by omega)) hP6
        dsimp only [noteV, nPt] at hy
        clear hr5 hyk hL5 hJ6 hP6 hb6
        gi_wp2_with (first
          | (refine wpListIn_load_midN rfl 44 (.tmp 31) rfl b2 (off + k * 4) rfl (entE ⟨yc, yr, .slice oa on_ oc, yl, yt⟩) _ HR5.out Tryz.underlying44 rfl (by kernel_rfl) ?_; unfold entE)
          | (refine wpListIn_load_rowN rfl 44 (.tmp 4) rfl wr.heap.size rfl 44 #[.int .i64 yc, .int .i64 yr, .slice oa on_ oc, .int .u64 yt] (0, 0) _ (World.alloc_heap_new wr _) Tryz.underlying44 rfl (by kernel_rfl) ?_))
        refine hR.mono ?_
        rintro e8 W7 ⟨rfl, hJ7, hk7⟩
        have HJ7 := Lib.hid hJ7; have HK7 := Lib.hid hk7; clear hJ7 hk7 hJs
        gi_wp2
        go_roundw
        case rel => exact ⟨k + 1, by go_num, by omega, by rw [ntPs_snoc _ HYK.out, ← List.append_assoc]; exact HJ7.out, Lib.hid (HK.out.trans ((KN.of_below HB6.out (Nat.le_trans HC4.out.hn HK.out.below.size)).trans HK7.out))⟩
        case measure =>
          show L2.length - ((k : Int) + 1).toNat < L2.length - ((k : Int)).toNat
          omega
      · have hd : decide ((k : Int) < (L2.length : Int)) = false := decide_eq_false (by omega)
        have hC8 := HC4.out.kn HK.out
        have cB8 := hC8.bx.cell; simp only [pt] at cB8
        have d4 : wr.cell? ⟨q, 4, none⟩ = some (.int .u64 hz) := hC8.blk.cell (k := 4) rfl
        obtain ⟨fn, tmps, assign, body, hy, hR⟩ := HY.out _ (nHz hz) wr hJs (pre_len _ _ _ _ _ _ (by omega)) hC8.hzN
        dsimp only [noteV, nHz] at hy
        have HKL : Hid (k = L2.length) := Lib.hid (by omega)
        clear hC8 hJs
        gi_wp2
        refine hR.mono ?_
        rintro e8 W7 ⟨rfl, hJ7, hk7⟩
        have HJ7 := Lib.hid hJ7; clear hJ7 hk7
        gi_wp2
        go_end0
        refine ⟨⟨_, rfl⟩, _, ⟨L2, u, HQ2.out, rfl⟩, ?_⟩
        have hkl := HKL.out; subst hkl
        exact HJ7.out
  · have hd : decide (ep > 0) = false := decide_eq_false hep
    have HEP := Lib.hid hep; clear hep
    obtain ⟨W3, hW3⟩ : ∃ W3, W3 = W := ⟨_, rfl⟩
    have hJ3 : J (cfS ep ms fl (.slice none 0 0)) W := by unfold cfS; rw [if_neg HEP.out]; exact hJ
    have hC3 := HC.out
    subst hW3
    clear hJ
    have HJ3 := Lib.hid hJ3; have HC3 := Lib.hid hC3; clear hJ3 hC3
    have cB3 := HC3.out.bx.cell; simp only [pt] at cB3
    have d0 : W3.cell? ⟨q, 0, none⟩ = some (.pointer (some ⟨g, 0, none⟩)) := HC3.out.blk.cell (k := 0) rfl
    gi_wp2
    refine ⟨trivial, ?_⟩
    gi_wp2
    refine ⟨fun _ h => (by cases h), ?_⟩
    gi_wp2_with (refine ⟨trivial, ?_⟩; gi_at_call 73; refine (callsIn_wide.2 (logAllB _ HC3.out.log)).mono ?_; rintro e w4 ⟨L2, u2, hu2, hr2, he2, hq2, hb2⟩; have hsl := row_sl hr2 entE_len; obtain ⟨ao, cap, hu3, hc1, hc2, _, _⟩ := hsl; rw [hu3] at hu2 hr2; subst hu2; clear hu3)
    have HL4 : Hid (NLx n₀ ao cap L2 W3.heap.size w4) := Lib.hid ⟨hr2, he2, HC3.out.hn⟩
    have HC4 := Lib.hid (HC3.out.kn (KN.of_below hb2 HC3.out.hn)); have HJ4 := Lib.hid (HJB.out _ _ _ HJ3.out hb2); have HQ2 := Lib.hid hq2
    have hl100 : L2.length ≤ 100 := by rw [e0_len hq2]; obtain ⟨_, _, _, hP⟩ := HC3.out.log; exact hP.len
    clear hr2 he2 hq2 hb2 cB3 d0
    gi_loopw [28] (fun p wr => ∃ k : Nat, p = .int .i64 (k : Int) ∧ k ≤ L2.length ∧ J (cfS ep ms fl (.slice none 0 0) ++ ntPs L2 k) wr ∧ Hid (KN n₀ w4 wr)) (fun p wr => L2.length - (intOf p).toNat)
    case atStart => exact ⟨0, rfl, Nat.zero_le _, by simpa [ntPs] using HJ4.out, Lib.hid (KN.refl _ _)⟩
    case round =>
      obtain ⟨k, rfl, hk, hJs, HK⟩ := hrel
      by_cases hlt : k < L2.length
      · have hd : decide ((k : Int) < (L2.length : Int)) = true := decide_eq_true (by omega)
        have hw : IntKind.i64.wrap ((k : Int) + 1) = (k : Int) + 1 := IntWalk.i64_in _ (by omega)
        obtain ⟨⟨yc, yr, yo, yl, yt⟩, hyk⟩ : ∃ y, L2[k]? = some y := ⟨_, List.getElem?_eq_getElem hlt⟩
        have hL5 := HL4.out.kn HK.out
        obtain ⟨oa, on_, oc, rfl⟩ := own_sliceN (hL5.ents _ (List.mem_of_getElem? hyk)).row
        obtain ⟨b2, off, rfl, hr5⟩ := rangeN (row_sl hL5.row entE_len) k _ hyk
        have HR5 := Lib.hid hr5; have HYK := Lib.hid hyk
        have hb6 : Below wr.heap.size wr (wr.alloc (.cells #[.int .i64 yc, .int .i64 yr, .slice oa on_ oc, .int .u64 yt] 44)) := (Below.refl _ _).alloc (Nat.le_refl _) _
        have hJ6 := HJB.out _ _ _ hJs hb6
        have hP6 : NtH n₀ (nPt k ⟨yc, yr, .slice oa on_ oc, yl, yt⟩) (wr.alloc (.cells #[.int .i64 yc, .int .i64 yr, .slice oa on_ oc, .int .u64 yt] 44)) := (ptN (i := k) hL5.hn (hL5.ents _ (List.mem_of_getElem? hyk))).below hb6
        have HB6 := Lib.hid hb6
        obtain ⟨fn, tmps, assign, body, hy, hR⟩ := HY.out _ (nPt k ⟨yc, yr, .slice oa on_ oc, yl, yt⟩) _ hJ6 (pre_len _ _ _ _ _ _ (by omega)) hP6
        dsimp only [noteV, nPt] at hy
        clear hr5 hyk hL5 hJ6 hP6 hb6
        gi_wp2_with (first
          | (refine wpListIn_load_midN rfl 44 (.tmp 31) rfl b2 (off + k * 4) rfl (entE ⟨yc, yr, .slice oa on_ oc, yl, yt⟩) _ HR5.out Tryz.underlying44 rfl (by kernel_rfl) ?_; unfold entE)
          | (refine wpListIn_load_rowN rfl 44 (.tmp 4) rfl wr.heap.size rfl 44 #[.int .i64 yc, .int .i64 yr, .slice oa on_ oc, .int .u64 yt] (0, 0) _ (World.alloc_heap_new wr _) Tryz.underlying44 rfl (by kernel_rfl) ?_))
        refine hR.mono ?_
        rintro e8 W7 ⟨rfl, hJ7, hk7⟩
        have HJ7 := Lib.hid hJ7; have HK7 := Lib.hid hk7; clear hJ7 hk7 hJs
        gi_wp2
        go_roundw
        case rel => exact ⟨k + 1, by go_num, by omega, by rw [ntPs_snoc _ HYK.out, ← List.append_assoc]; exact HJ7.out, Lib.hid (HK.out.trans ((KN.of_below HB6.out (Nat.le_trans HC4.out.hn HK.out.below.size)).trans HK7.out))⟩
        case measure =>
          show L2.length - ((k : Int) + 1).toNat < L2.length - ((k : Int)).toNat
          omega
      · have hd : decide ((k : Int) < (L2.length : Int)) = false := decide_eq_false (by omega)
        have hC8 := HC4.out.kn HK.out
        have cB8 := hC8.bx.cell; simp only [pt] at cB8
        have d4 : wr.cell? ⟨q, 4, none⟩ = some (.int .u64 hz) := hC8.blk.cell (k := 4) rfl
        obtain ⟨fn, tmps, assign, body, hy, hR⟩ := HY.out _ (nHz hz) wr hJs (pre_len _ _ _ _ _ _ (by omega)) hC8.hzN
        dsimp only [noteV, nHz] at hy
        have HKL : Hid (k = L2.length) := Lib.hid (by omega)
        clear hC8 hJs
        gi_wp2
        refine hR.mono ?_
        rintro e8 W7 ⟨rfl, hJ7, hk7⟩
        have HJ7 := Lib.hid hJ7; clear hJ7 hk7
        gi_wp2
        go_end0
        refine ⟨⟨_, rfl⟩, _, ⟨L2, (.slice none 0 0), HQ2.out, rfl⟩, ?_⟩
        have hkl := HKL.out; subst hkl
        exact HJ7.out
end Go.Proofs.YtniojcnkjehflaaGreat

/- Package rstate: Notes. Conditions: none. -/
namespace Go.Proofs.YtniojcnkjehflaaGreat
open Go.RowKit Go.Shelf
attribute [local go_sem] Oper.semAt_some
set_option linter.unusedVariables false
set_option linter.unusedSimpArgs false

theorem info_noteN : (Tryz.prog.info? 50).map (fun i => (i.zero, i.size, i.bytes)) = some (some (.agg #[.int .i64 0, .int .i64 0, .int .u64 0, .int .i64 0, .slice none 0 0, .int .u64 0, .slice none 0 0, .int .i64 0, .int .i64 0, .slice none 0 0, .int .u64 0, .int .i64 0, .int .u64 0, .int .i64 0, .int .i64 0, .int .i64 0, .int .i64 0, .int .i64 0]), 18, 192) := by kernel_rfl
theorem KN.grow {n₀ B k : Nat} {A C : World} {v : Value} {xs : List Value} (hr : A.ownsRow B 50 18 v k xs) (hB : n₀ ≤ B) (hn : n₀ ≤ A.heap.size) (hg : A.grownBy C v.ownBlock) : KN n₀ A C :=
  ⟨(Below.refl n₀ A).grown hg hn (fun k e => Nat.le_trans hB (hr.lt k e).1), fun i T cs hb h1 h2 => hb.kept hg (fun e => own_neT hr hb (Ne.symm h1) e)⟩
theorem KN.set {n₀ N : Nat} {A : World} {v : Value} (v' : Value) (hb : Boxed A N 22 v) (hn : n₀ ≤ N) : KN n₀ A (A.setCell ⟨N, 0, none⟩ v') := by
  have hl := hb.lt
  refine ⟨(Below.refl n₀ A).grown (grownBy_setCell' A N v') (by omega) (fun k e => by cases e; exact hn), fun i T cs h h1 h2 => h.kept (grownBy_setCell' A N v') (fun e => ?_)⟩
  cases e
  unfold Boxed at hb; unfold Blk at h
  rw [h] at hb; injection hb with q; injection q with q1 q2 q3
  exact h2 q2
/-- The variable of the loop. -/
def NlN (W : World) (B : Nat) (x : NoteX) : Prop := W.heap[B]? = some (.cells (noteE x).toArray 50 (0, 0))
theorem NlN.lt {W : World} {B : Nat} {x : NoteX} (h : NlN W B x) : B < W.heap.size := (Array.getElem?_eq_some_iff.1 h).1
theorem NlN.kept {W W' : World} {row : Option Nat} {B : Nat} {x : NoteX} (h : NlN W B x) (hg : W.grownBy W' row) (hne : some B ≠ row) : NlN W' B x := (hg.block B h.lt hne).trans h
theorem NlN.own (B : Nat) (x : NoteX) : Own (fun (_ : Unit) W => NlN W B x) := fun _ X Y row hs hg hrow =>
  NlN.kept hs hg (fun e' => by obtain ⟨o, ho, hc⟩ := hrow B e'.symm; rw [show X.heap[B]? = _ from hs] at ho; cases ho; cases hc)
set_option maxHeartbeats 800000 in
theorem knotes_any (q : Nat) (w : World) :
    CallsIn Fence.wide 2 Tryz.prog 41 #[.pointer (some ⟨q, 0, none⟩)] w fun e w' => e = .returned (.func (.func 77) #[] #[.pointer (some ⟨w.heap.size, 0, none⟩)]) ∧ w' = w.alloc (.cells #[.pointer (some ⟨q, 0, none⟩)] 65) := by
  refine callsIn_of_wp Tryz.func41 rfl trivial ?_ rfl
  simp only [Tryz.ntmps41, List.size_toArray, List.length_cons, List.length_nil, Nat.reduceAdd, Nat.reduceSub, Array.replicate_succ, Array.replicate_zero, List.push_toArray, List.append_toArray, List.nil_append, List.cons_append]
  gi_wp2
  go_ret
  exact ⟨rfl, rfl⟩
theorem niter_seq (n₀ B q g : Nat) (A : Nat → Prop) (cv : Value) (L : List EntT) (ep hz : Int) (ms : List MemT) (fl : Int) (w : World) (hC : NCx n₀ B q g A cv L ep hz ms fl w) :
    SeqG Tryz.prog 77 #[.pointer (some ⟨B, 0, none⟩)] (fun x : NoteX => #[noteV x]) (KN n₀) (NtH n₀) (AllN L ep hz ms fl) 200 w := fun l J W hW _ hJb hY h0 =>
  niter_in l n₀ B q g A cv L ep hz ms fl J hJb hY W (hC.kn (KN.of_below hW hC.hn)) h0
abbrev INt (N : Nat) (pre : List NoteX) (W : World) : Prop := ∃ v, Boxed W N 22 v ∧ W.ownsRow (N + 2) 50 18 v pre.length (pre.flatMap noteE) ∧ True

set_option maxRecDepth 100000 in
set_option maxHeartbeats 4000000 in
theorem scNotes {S : Nat → Prop} {b : Nat} {L : List EntT} {ep hz fl : Int} {ms : List MemT} (w : World) (h : StC S w b L ep hz ms fl) (cf : CfR ep hz ms fl) :
    Calls Tryz.prog 11 #[pt b 0] w fun e w' => ∃ (u : Value) (ks : List NoteX), e = .returned u ∧ AllN L ep hz ms fl ks ∧ w'.ownsRow w.heap.size 50 18 u ks.length (ks.flatMap noteE) ∧ (∀ x ∈ ks, NtH w.heap.size x w') ∧ Below w.heap.size w w' := by
  obtain ⟨i0, hi, hz0, hz1, hz2⟩ := info_parts info_noteN
  have hS := h.ofS
  obtain ⟨q, g, A, cv, k1, k2, k3, k4, k5, k6, k7, k8, k9, k10, k11⟩ := h
  have hA : ∀ k, A k → k < w.heap.size := fun k hk => hS k ((k11 k).2 (.inr (.inr (.inl hk))))
  obtain ⟨N, hN⟩ : ∃ N, N = w.heap.size := ⟨_, rfl⟩
  rw [← hN] at hA
  have HC : NCx N (N + 1) q g A cv L ep hz ms fl ((w.alloc (.cells #[.slice none 0 0] 22)).alloc (.cells #[.pointer (some ⟨q, 0, none⟩)] 65)) := by
    have hb : Below w.heap.size w ((w.alloc (.cells #[.slice none 0 0] 22)).alloc (.cells #[.pointer (some ⟨q, 0, none⟩)] 65)) := ((Below.refl _ w).alloc (Nat.le_refl _) _).alloc (by simp) _
    refine ⟨?_, k2.below hb, k3.keep hb.size (fun i hi => hb.block i (by rw [← hN]; exact hA i hi)), row_sameL k4 (fun i hi => hb.block i (k4.lt i hi).2), k5, hA, by rw [hN]; exact hb.size, cf⟩
    have := Boxed.new (w.alloc (.cells #[.slice none 0 0] 22)) 65 (.pointer (some ⟨q, 0, none⟩))
    rw [World.size_alloc, ← hN] at this; exact this
  have HC := Lib.hid HC; have K1 := Lib.hid k1; have K2 := Lib.hid k2; have HA := Lib.hid hA
  clear hS k1 k2 k3 k4 k5 k6 k7 k8 k9 k10 k11 hA cf
  refine (callsIn_wide (n := 3)).1 ?_
  refine callsIn_of_wp_marks Tryz.func11 rfl trivial ?_ rfl
  simp only [Tryz.ntmps11, List.size_toArray, List.length_cons, List.length_nil, Nat.reduceAdd, Nat.reduceSub, Array.replicate_succ, Array.replicate_zero, List.push_toArray, List.append_toArray, List.nil_append, List.cons_append]
  have h1 : 1 ≤ (3 : Nat) := by omega
  rw [← hN]
  have HN := Lib.hid hN; clear hN
  gi_wp2_with (first
    | (refine ⟨trivial, ?_⟩; gi_at_call 19; refine (callsIn_wide.2 (rsgetT b q _ K1.out)).mono ?_; rintro e w1 ⟨rfl, rfl⟩; try simp only [pt])
    | (refine ⟨trivial, ?_⟩; gi_at_call 20; refine (callsIn_wide.2 (rszeroT q g ep cv fl hz _ K2.out)).mono ?_; rintro e w1 ⟨rfl, rfl⟩)
    | (refine ⟨trivial, ?_⟩; refine (knotes_any q _).mono ?_; rintro e w1 ⟨rfl, rfl⟩))
  have bL := (Boxed.new w 22 (.slice none 0 0)).alloc (.cells #[.pointer (some ⟨q, 0, none⟩)] 65)
  have hB0 : Below w.heap.size w ((w.alloc (.cells #[.slice none 0 0] 22)).alloc (.cells #[.pointer (some ⟨q, 0, none⟩)] 65)) := ((Below.refl _ w).alloc (Nat.le_refl _) _).alloc (by simp) _
  have hsz : ((w.alloc (.cells #[.slice none 0 0] 22)).alloc (.cells #[.pointer (some ⟨q, 0, none⟩)] 65)).heap.size = w.heap.size + 2 := by simp
  try simp only [World.size_alloc]
  rw [← HN.out] at bL hB0 hsz ⊢
  obtain ⟨W0, hW0⟩ : ∃ W0, ((w.alloc (.cells #[.slice none 0 0] 22)).alloc (.cells #[.pointer (some ⟨q, 0, none⟩)] 65)) = W0 := ⟨_, rfl⟩
  rw [hW0] at bL hB0 hsz HC ⊢
  clear hW0
  have hNW : N ≤ W0.heap.size := by omega
  refine rf_G (gf := 77) (lb := #[.pointer (some ⟨N + 1, 0, none⟩)]) rfl (enters_of Tryz.func77 (by kernel_rfl) rfl)
    (niter_seq N (N + 1) q g A cv L ep hz ms fl W0 HC.out) (fun _ => rfl) KN.trans (fun X o o' h hc => KN.putObj o' h hc (by omega))
    (fun pre X => (INt N pre X ∧ ∀ x ∈ pre, NtH N x X) ∧ Below N w X) ?hI ?hIb ⟨⟨⟨_, bL, World.ownsRow_nil _ _ _ _, trivial⟩, (fun x hx => by cases hx)⟩, hB0⟩
    (fun x a' X => ∃ Bx, N < Bx ∧ NlN X Bx x ∧ NtH N x X ∧ a' = { tmps := #[.pointer (some ⟨b, 0, none⟩), undef, .slice none 0 0, .pointer (some ⟨q, 0, none⟩), .pointer (some ⟨N, 0, none⟩), .pointer (some ⟨Bx, 0, none⟩), .pointer (some ⟨b, 0, none⟩), .pointer (some ⟨q, 0, none⟩), .pointer (some ⟨q, 0, none⟩), .bool false, .pointer (some ⟨q, 0, none⟩), .func (.func 77) #[] #[.pointer (some ⟨N + 1, 0, none⟩)], noteV x, undef, undef, undef, undef, undef], defers := [] })
    (fun x a' _ X Y row hs hg hr => by obtain ⟨Bx, h1, h2, h3, h4⟩ := hs; exact ⟨Bx, h1, NlN.own Bx x () X Y row h2 hg (fun r e => (hr r e).2), h3.own hg (fun r e => (hr r e).2), h4⟩)
    ?assign ?body ?done
  case hI => exact fun s' X Y row hs' hg hr => ⟨⟨holdsRow_own (N + 2) N 22 50 18 (fun pre : List NoteX => pre.length) (fun pre => pre.flatMap noteE) (fun _ _ => True) s' X Y row hs'.1.1 hg (fun r e => (hr r e).2), fun x hx => (hs'.1.2 x hx).own hg (fun r e => (hr r e).2)⟩, ownFrom_below (by have := HN.out; omega) hNW s' X Y row hs'.2 hg hr⟩
  case hIb =>
    rintro pre X Y ⟨⟨⟨v, hv, hrow, -⟩, hx⟩, hB⟩ hb
    exact ⟨⟨⟨v, (KN.of_below (n₀ := X.heap.size) hb (Nat.le_refl _)).below.block N hv.lt |>.trans hv, row_sameL hrow (fun i hi => hb.block i (hrow.lt i hi).2), trivial⟩, fun x hm => (hx x hm).below hb⟩, hB.trans (hb.mono (by have := hB.size; have := HN.out; omega))⟩
  case assign =>
    rintro lp pre ⟨⟨x1, x2, x3, x4, x5, x6, x7, x8, x9, x10, x11, x12, x13, x14, x15, x16, x17, x18⟩, mv, lv, ev⟩ X K ⟨⟨⟨v, hv, hrow, -⟩, hxs⟩, hB⟩ hG hK
    have HSZ := Lib.hid hsz; clear hsz
    have hlt2 := hv.lt
    obtain ⟨ma, mb, mc, rfl⟩ := own_sliceN hG.mv
    obtain ⟨ea, eb, ec, rfl⟩ := own_sliceN hG.ev
    obtain rfl : lv = .slice none 0 0 := hG.lv
    have HG := Lib.hid hG; have HXS := Lib.hid hxs; have HBB := Lib.hid hB; clear hG hxs hB
    dsimp only [noteV]
    gi_wp2
    have hNs : N ≤ X.heap.size := by omega
    have hbx := (Below.refl X.heap.size X).alloc (Nat.le_refl _) (.cells (noteE ⟨⟨x1, x2, x3, x4, x5, x6, x7, x8, x9, x10, x11, x12, x13, x14, x15, x16, x17, x18⟩, .slice ma mb mc, .slice none 0 0, .slice ea eb ec⟩).toArray 50)
    exact hK _ _ ((KeepsOthers.alloc _ _).from _) (KN.of_below hbx hNs) ⟨⟨⟨v, hv.alloc _, hrow.alloc _, trivial⟩, fun x hm => (HXS.out x hm).below hbx⟩, HBB.out.alloc hNs _⟩ ⟨X.heap.size, hlt2, World.alloc_heap_new X _, HG.out.below hbx, rfl⟩
  case body =>
    rintro lp pre ⟨⟨x1, x2, x3, x4, x5, x6, x7, x8, x9, x10, x11, x12, x13, x14, x15, x16, x17, x18⟩, mv, lv, ev⟩ a' X hlp hlt ⟨⟨⟨v, hv, hrow, -⟩, hxs⟩, hB⟩ ⟨Bx, hBx, hx, hG, rfl⟩ hlb
    have hB4 : N + 2 ≤ X.heap.size := by omega
    have cv' := hv.cell
    obtain ⟨ma, mb, mc, rfl⟩ := own_sliceN hG.mv
    obtain ⟨ea, eb, ec, rfl⟩ := own_sliceN hG.ev
    obtain rfl : lv = .slice none 0 0 := hG.lv
    have hxb : X.heap[Bx]? = some (.cells (noteE ⟨⟨x1, x2, x3, x4, x5, x6, x7, x8, x9, x10, x11, x12, x13, x14, x15, x16, x17, x18⟩, .slice ma mb mc, .slice none 0 0, .slice ea eb ec⟩).toArray 50 (0, 0)) := hx
    have HXB := Lib.hid hxb; have HG := Lib.hid hG; have HXS := Lib.hid hxs; have HBB := Lib.hid hB; have HSZ := Lib.hid hsz
    clear hsz hB hxb hx hG hxs
    dsimp only [noteV]
    gi_wp2_with (first
      | (refine wpListIn_load_rowN rfl 50 (.tmp 5) rfl Bx rfl 50 (noteE ⟨⟨x1, x2, x3, x4, x5, x6, x7, x8, x9, x10, x11, x12, x13, x14, x15, x16, x17, x18⟩, .slice ma mb mc, .slice none 0 0, .slice ea eb ec⟩).toArray (0, 0) _ HXB.out Tryz.underlying50 rfl (by kernel_rfl) ?_; dsimp only [noteE])
      | (gi_at_builtin; refine wpListIn_append_own _ rfl _ _ 22 rfl (N + 2) 50 i0 (.agg #[.int .i64 0, .int .i64 0, .int .u64 0, .int .i64 0, .slice none 0 0, .int .u64 0, .slice none 0 0, .int .i64 0, .int .i64 0, .slice none 0 0, .int .u64 0, .int .i64 0, .int .u64 0, .int .i64 0, .int .i64 0, .int .i64 0, .int .i64 0, .int .i64 0]) 18 192 Tryz.underlying22 hi hz0 hz1 hz2 rfl (by decide) _ _ _ rfl (hrow.alloc _) ⟨X.heap.size, 0, none⟩ 1 1 (noteE ⟨⟨x1, x2, x3, x4, x5, x6, x7, x8, x9, x10, x11, x12, x13, x14, x15, x16, x17, x18⟩, .slice ma mb mc, .slice none 0 0, .slice ea eb ec⟩) rfl rfl (World.news_of_block (World.alloc_heap_new _ _)) (by simp [Value.oneCell', noteE]) (by unfold maxLen; omega) (by omega) (by simp; omega) ?_; intro v' w1 hown' hgrow _; obtain ⟨g', cap', rfl⟩ := ownsRow_succ hown'; obtain ⟨p1, p2, p3, p4, p5⟩ := hv.appended (by decide) (row_lows hrow (base' := N) (by omega)) (by omega) (Nat.le_refl _) (row_lows hown' (base' := N) (by omega)) hgrow; have hc1 := p1.cell; have hf1 := p1.frozen))
    have kn : KN N X (w1.setCell ⟨N, 0, none⟩ (.slice (some ⟨g', 0, none⟩) (pre.length + 1) cap')) := ((KN.of_below ((Below.refl _ X).alloc (Nat.le_refl _) _) (by omega)).trans (KN.grow (hrow.alloc _) (by omega) (by simp; omega) hgrow)).trans (KN.set _ p1 (Nat.le_refl _))
    refine ⟨p4.from _, kn, ⟨⟨⟨_, p2, ?_, trivial⟩, fun x hm => ?_⟩, HBB.out.trans kn.below⟩⟩
    · rw [List.length_append, List.flatMap_append]
      exact hown'.kept (grownBy_setCell' w1 N _) (.inr (p1.not_row (by decide) hown').symm)
    · rw [List.mem_append, List.mem_singleton] at hm
      rcases hm with hm | rfl
      · exact (HXS.out x hm).kn kn
      · exact HG.out.kn kn
  case done =>
    rintro D ks X hD hS ⟨⟨⟨v, hv, hrow, -⟩, hxs⟩, hB⟩ hK
    have hc := hv.cell
    have HROW := Lib.hid hrow; have HB := Lib.hid hB; have HK := Lib.hid hK; have HSZ := Lib.hid hsz; have HSS := Lib.hid hS; have HXS := Lib.hid hxs
    clear hrow hB hK hsz hS hxs
    gi_wp2
    refine ⟨by simp, .inl ⟨_, _, rfl, run_takeDeferred HK.out, ?_⟩⟩
    exact ⟨_, results_tmp rfl _ _ _, _, ks, rfl, HSS.out, ownsRow_putObj (row_lows HROW.out (by omega)) _ HK.out rfl, fun x hm => (HXS.out x hm).own (grownBy_putObj' X D _) (fun r e => by cases e; exact ⟨_, HK.out, rfl⟩), HB.out.trans (belowK_b (w := w) (by have := HN.out; omega) X D _ _ (by have := HN.out; omega) HK.out rfl rfl)⟩
end Go.Proofs.YtniojcnkjehflaaGreat

/- RstateAgain: states as one; the notes that are told, taken again. Conditions: none. -/
namespace Go.Proofs.YtniojcnkjehflaaGreat
open Go.RowKit Go.PlainAid
set_option linter.unusedVariables false
set_option linter.unusedSimpArgs false

structure StT where
  L : List EntT
  ep : Int
  hz : Int
  ms : List MemT
  fl : Int
def stZ : StT := ⟨[], 0, 0, [], 0⟩
/-- What a note makes of a state. -/
structure ApT (d : NoteD) (s s' : StT) : Prop where
  ep : s'.ep = apEp d s.ep
  hz : s'.hz = apHz d s.hz
  ms : s'.ms = apMs d s.ep s.ms
  fl : s'.fl = apFl d s.ep s.fl
  L : s'.L.map e0 = (apL d s.hz s.L).map e0
def apR (d : NoteD) (s : StT) : Int := apE d s.ep s.hz s.L
/-- Two states are alike. -/
structure EqT (a b : StT) : Prop where
  ep : a.ep = b.ep
  hz : a.hz = b.hz
  ms : a.ms = b.ms
  fl : a.fl = b.fl
  L : a.L.map e0 = b.L.map e0
theorem EqT.refl (a : StT) : EqT a a := ⟨rfl, rfl, rfl, rfl, rfl⟩
theorem EqT.symm {a b : StT} (h : EqT a b) : EqT b a := ⟨h.ep.symm, h.hz.symm, h.ms.symm, h.fl.symm, h.L.symm⟩
theorem EqT.trans {a b c : StT} (h : EqT a b) (k : EqT b c) : EqT a c := ⟨h.ep.trans k.ep, h.hz.trans k.hz, h.ms.trans k.ms, h.fl.trans k.fl, h.L.trans k.L⟩
theorem EqT.r {a b : StT} (h : EqT a b) (d : NoteD) : apR d a = apR d b := by unfold apR; rw [h.ep, h.hz]; exact apE_e0 h.L
theorem EqT.ap {a b a' b' : StT} {d : NoteD} (h : EqT a b) (h1 : ApT d a a') (h2 : ApT d b b') : EqT a' b' := by
  refine ⟨?_, ?_, ?_, ?_, ?_⟩
  · rw [h1.ep, h2.ep, h.ep]
  · rw [h1.hz, h2.hz, h.hz]
  · rw [h1.ms, h2.ms, h.ep, h.ms]
  · rw [h1.fl, h2.fl, h.ep, h.fl]
  · rw [h1.L, h2.L, h.hz]; exact apL_e0 h.L
/-- A state that notes make. -/
structure VaT (s : StT) : Prop where
  cf : CfR s.ep s.hz s.ms s.fl
  v : (s.ep = 0 ∧ s.ms = [] ∧ s.fl = 0) ∨ (0 < s.ep ∧ chkC s.ep s.ms = 0)
theorem VaT.z : VaT stZ := ⟨cfR0, .inl ⟨rfl, rfl, rfl⟩⟩
theorem VaT.ap {s s' : StT} {d : NoteD} (h : VaT s) (hR : NoteR d) (ha : ApT d s s') : VaT s' := by
  have h1 := h.cf.ap hR
  rw [← ha.ep, ← ha.hz, ← ha.ms, ← ha.fl] at h1
  refine ⟨h1, ?_⟩
  have e1 := ha.ep; have e2 := ha.ms; have e3 := ha.fl
  unfold apEp at e1; unfold apMs at e2; unfold apFl at e3
  by_cases q : chkN d = 0 ∧ d.k = 1 ∧ ¬ d.ep ≤ s.ep
  · rw [if_pos q] at e1 e2
    have hc := ((chkN_ok q.1).2.1 q.2.1).1
    right
    rw [e1, e2]
    refine ⟨?_, hc⟩
    rcases h.v with ⟨k, _⟩ | ⟨k, _⟩ <;> omega
  · rw [if_neg q] at e1 e2 e3
    rw [e1, e2, e3]; exact h.v
section
variable {l LL L' : List EntT} {k : Nat} {y : EntT}
end
def cN (ep : Int) : Nat := if 0 < ep then 1 else 0
theorem cfS_len (ep : Int) (ms : List MemT) (fl : Int) (u : Value) : (cfS ep ms fl u).length = cN ep := by unfold cfS cN; split <;> rfl
theorem ntPs_len (L : List EntT) (k : Nat) : (ntPs L k).length = k := by unfold ntPs; simp
theorem AllN.len {L : List EntT} {ep hz fl : Int} {ms : List MemT} {ks : List NoteX} (h : AllN L ep hz ms fl ks) : ks.length = cN ep + L.length + 1 := by
  obtain ⟨L2, u, h1, rfl⟩ := h
  have := e0_len h1
  simp only [List.length_append, cfS_len, ntPs_len, List.length_cons, List.length_nil]; omega
end Go.Proofs.YtniojcnkjehflaaGreat

/- RstateAgain, RstatePlays: what the laws call, on states as one. Conditions: none. -/
namespace Go.Proofs.YtniojcnkjehflaaGreat
open Go.RowKit Go.PlainAid
set_option linter.unusedVariables false
set_option linter.unusedSimpArgs false

def StS (S : Nat → Prop) (w : World) (b : Nat) (s : StT) : Prop := StC S w b s.L s.ep s.hz s.ms s.fl
def DcS (S : Nat → Prop) (w : World) (d : Nat) (s : StT) : Prop := DcO S w d s.L s.ep s.hz s.ms s.fl
section
variable {S D A T : Nat → Prop} {w x : World} {b d k : Nat} {s t : StT} {v : Value} {ks : List NoteX} {y : NoteX}
theorem StS.ofS (h : StS S w b s) : ∀ k, S k → k < w.heap.size := StC.ofS h
theorem StS.gr {row : Option Nat} (h : StS S w b s) (hg : w.grownBy x row) (hr : ∀ k, row = some k → ¬ S k) : StS S x b s := StC.gr h hg hr
theorem StS.but (h : StS S w b s) (hb : But D w x) (ha : ∀ q, S q → D q → False) : StS S x b s := StC.but h hb ha
theorem StS.ri (h : StS S w b s) : RI s.L := StC.ri h
theorem StS.len (h : StS S w b s) : s.L.length ≤ 100 := (StC.len h).1
theorem DcS.ofS (h : DcS S w d s) : ∀ k, S k → k < w.heap.size := DcO.ofS h
theorem DcS.gr {row : Option Nat} (h : DcS S w d s) (hg : w.grownBy x row) (hr : ∀ k, row = some k → ¬ S k) : DcS S x d s := DcO.gr h hg hr
theorem DcS.but (h : DcS S w d s) (hb : But D w x) (ha : ∀ q, S q → D q → False) : DcS S x d s := DcO.but h hb ha
theorem ssNew (w : World) : Calls Tryz.prog 7 #[] w fun e w' => ∃ (N : Nat) (S : Nat → Prop), e = .returned (pt N 0) ∧ StS S w' N stZ ∧ (∀ k, S k → w.heap.size ≤ k) ∧ Below w.heap.size w w' := scNew w
theorem ssApply (w : World) (d : NoteD) (mv lv ev : Value) (h : StS S w b s) (ho : NoteOk w ⟨d, mv, lv, ev⟩)
    (hbm : d.ms ≠ [] → ∀ k, mv.ownBlock = some k → ¬ S k) (hbg : d.lg ≠ [] → ∀ k, lv.ownBlock = some k → ¬ S k) (hbe : d.el ≠ [] → ∀ k, ev.ownBlock = some k → ¬ S k) :
    Calls Tryz.prog 8 #[pt b 0, .agg #[.int .i64 d.k, .int .i64 d.n, .int .u64 d.t, .int .i64 d.ep, mv, .int .u64 d.fl, lv, .int .i64 d.ec, .int .i64 d.er, ev, .int .u64 d.ets, .int .i64 d.pid, .int .u64 d.pat, .int .i64 d.plf, .int .i64 d.sc, .int .i64 d.sr, .int .i64 d.se, .int .i64 d.sp]] w fun e w' =>
      ∃ (s' : StT) (S' : Nat → Prop), e = .returned (.int .i64 (apR d s)) ∧ StS S' w' b s' ∧ ApT d s s' ∧ Grew S S' w w' :=
  (scApply w d mv lv ev h ho.hm ho.hg ho.he ho.hR hbm hbg hbe).mono fun e x ⟨L', S', h1, h2, h3, h4⟩ => ⟨⟨L', apEp d s.ep, apHz d s.hz, apMs d s.ep s.ms, apFl d s.ep s.fl⟩, S', h1, h2, ⟨rfl, rfl, rfl, rfl, h3⟩, h4⟩
theorem dsApply (w : World) (y : NoteD) (mv lv ev : Value) (h : DcS S w d s) (ho : NoteOk w ⟨y, mv, lv, ev⟩)
    (hbm : y.ms ≠ [] → ∀ k, mv.ownBlock = some k → ¬ S k) (hbg : y.lg ≠ [] → ∀ k, lv.ownBlock = some k → ¬ S k) (hbe : y.el ≠ [] → ∀ k, ev.ownBlock = some k → ¬ S k) :
    Calls Tryz.prog 9 #[pt d 0, .agg #[.int .i64 y.k, .int .i64 y.n, .int .u64 y.t, .int .i64 y.ep, mv, .int .u64 y.fl, lv, .int .i64 y.ec, .int .i64 y.er, ev, .int .u64 y.ets, .int .i64 y.pid, .int .u64 y.pat, .int .i64 y.plf, .int .i64 y.sc, .int .i64 y.sr, .int .i64 y.se, .int .i64 y.sp]] w fun e w' =>
      ∃ (s' : StT) (S' : Nat → Prop), e = .returned (.int .i64 (apR y s)) ∧ DcS S' w' d s' ∧ ApT y s s' ∧ Grew S S' w w' :=
  (dcApply w y mv lv ev h ho.hm ho.hg ho.he ho.hR hbm hbg hbe).mono fun e x ⟨L', S', h1, h2, h3, h4⟩ => ⟨⟨L', apEp y s.ep, apHz y s.hz, apMs y s.ep s.ms, apFl y s.ep s.fl⟩, S', h1, h2, ⟨rfl, rfl, rfl, rfl, h3⟩, h4⟩
/-- Notes, whose blocks lie in S. -/
def NtY (S : Nat → Prop) (w : World) (v : Value) (ks : List NoteX) : Prop :=
  (SliceOf noteE 18 w v ks ∧ ∀ z ∈ ks, NoteOk w z) ∧ (∀ i, v.ownBlock = some i → S i) ∧ (∀ z ∈ ks, (∀ i, z.mv.ownBlock = some i → S i) ∧ (∀ i, z.lv.ownBlock = some i → S i) ∧ (∀ i, z.ev.ownBlock = some i → S i)) ∧ ∀ q, S q → q < w.heap.size
theorem sl_keepN {α : Type} {enc : α → List Value} {sz : Nat} {w x : World} {v : Value} {l : List α} (h : SliceOf enc sz w v l) (hv : ∀ k, v.ownBlock = some k → x.heap[k]? = w.heap[k]?) : SliceOf enc sz x v l := by
  obtain ⟨ao, cap, rfl, h1, h2, h3, h4⟩ := h
  refine ⟨ao, cap, rfl, h1, h2, h3, fun j hj => ?_⟩
  obtain ⟨b, off, e, hr⟩ := h4 j hj
  subst e
  exact ⟨b, off, rfl, fun i u hu => (World.cell?_of_block (w := w) (hv b rfl)).trans (hr i u hu)⟩
theorem NtY.ofS (h : NtY S w v ks) : ∀ q, S q → q < w.heap.size := h.2.2.2
theorem NtY.keep (h : NtY S w v ks) (hk : ∀ q, S q → x.heap[q]? = w.heap[q]?) (hz : w.heap.size ≤ x.heap.size) : NtY S x v ks := by
  obtain ⟨⟨h1, h2⟩, h3, h4, h5⟩ := h
  refine ⟨⟨sl_keepN h1 fun k e => hk k (h3 k e), fun z hm => ?_⟩, h3, h4, fun q hq => Nat.lt_of_lt_of_le (h5 q hq) hz⟩
  have a := h2 z hm
  obtain ⟨b1, b2, b3⟩ := h4 z hm
  exact ⟨sl_keepN a.hm fun k e => hk k (b1 k e), sl_keepN a.hg fun k e => hk k (b2 k e), sl_keepN a.he fun k e => hk k (b3 k e), a.hR⟩
theorem NtY.below (h : NtY S w v ks) (hb : Below w.heap.size w x) : NtY S x v ks := h.keep (fun q hq => hb.block q (h.ofS q hq)) hb.size
theorem NtY.new (h : NtY S w v ks) (hg : w.grownBy x none) : NtY S x v ks := h.keep (fun q hq => hg.block q (h.ofS q hq) (fun e => by cases e)) hg.size
theorem NtY.but (h : NtY S w v ks) (hb : But D w x) (ha : ∀ q, S q → D q → False) : NtY S x v ks := h.keep (fun q hq => hb.block q (h.ofS q hq) (fun hd => ha q hq hd)) hb.size
theorem NtY.one (h : NtY S w v ks) (hy : ks[k]? = some y) : NoteOk w y ∧ (∀ i, y.mv.ownBlock = some i → S i) ∧ (∀ i, y.lv.ownBlock = some i → S i) ∧ (∀ i, y.ev.ownBlock = some i → S i) :=
  ⟨h.1.2 y (List.mem_of_getElem? hy), h.2.2.1 y (List.mem_of_getElem? hy)⟩
theorem ntY_of {n : Nat} (hr : w.ownsRow n 50 18 v ks.length (ks.flatMap noteE)) (hx : ∀ z ∈ ks, NtH n z w) : ∃ S : Nat → Prop, NtY S w v ks ∧ ∀ q, S q → n ≤ q := by
  refine ⟨fun q => v.ownBlock = some q ∨ ∃ z ∈ ks, z.mv.ownBlock = some q ∨ z.ev.ownBlock = some q, ⟨⟨row_sl hr noteE_len, fun z hz => (hx z hz).ok⟩, fun i hi => .inl hi, fun z hz => ⟨fun i hi => .inr ⟨z, hz, .inl hi⟩, fun i hi => by rw [(hx z hz).lv] at hi; simp [Value.ownBlock] at hi, fun i hi => .inr ⟨z, hz, .inr hi⟩⟩, ?_⟩, ?_⟩
  · rintro q (hq | ⟨z, hz, hq | hq⟩)
    · exact (hr.lt q hq).2
    · exact ((hx z hz).mv.lt q hq).2
    · exact ((hx z hz).ev.lt q hq).2
  · rintro q (hq | ⟨z, hz, hq | hq⟩)
    · exact (hr.lt q hq).1
    · exact ((hx z hz).mv.lt q hq).1
    · exact ((hx z hz).ev.lt q hq).1
theorem ssNotes (w : World) (h : StS S w b s) (hv : VaT s) : Calls Tryz.prog 11 #[pt b 0] w fun e w' => ∃ (u : Value) (ks : List NoteX) (N : Nat → Prop), e = .returned u ∧ AllN s.L s.ep s.hz s.ms s.fl ks ∧ NtY N w' u ks ∧ (∀ q, N q → w.heap.size ≤ q) ∧ Below w.heap.size w w' := by
  refine (scNotes w h hv.cf).mono ?_
  rintro e x ⟨u, ks, rfl, k1, k2, k3, k4⟩
  obtain ⟨N, h1, h2⟩ := ntY_of k2 k3
  exact ⟨u, ks, N, rfl, k1, h1, h2, k4⟩
theorem dcS0 (hb : Blk w d 36 #[.int .i64 0, .slice none 0 0, .int .u64 0, .int .u64 0, .slice none 0 0]) : DcS (fun q => q = d) w d stZ := dcMk0 hb
theorem ssSame (w : World) (h : StS S w b s) (hd : DcS D w d t) (ha : ∀ q, S q → D q → False) (he : EqT s t) (hv : VaT s) :
    Calls Tryz.prog 10 #[pt b 0, pt d 0] w fun e w' => ∃ (S' : Nat → Prop), e = .returned (.int .i64 1) ∧ StS S' w' b s ∧ Grew S S' w w' := by
  unfold DcS at hd
  rw [← he.ep, ← he.hz, ← he.ms, ← he.fl] at hd
  have hl := (StC.len h).2
  obtain ⟨T, cv, u, ⟨T0, i1, i2, i3, i4⟩, h2, h3, h4, h5⟩ := hd
  refine (same30_any S b s.L s.ep s.hz s.ms s.fl d T0 cv u t.L w h i3 i4 h2 (fun k => ha d k ((h5 d).2 (.inl ((i1 d).2 (.inl rfl))))) (fun k k1 k2 => ha k k1 ((h5 k).2 (.inl ((i1 k).2 (.inr k2))))) (fun i hi k => ha i k ((h5 i).2 (.inr hi))) he.L hv.cf hl).mono ?_
  rintro e x ⟨S', rfl, k1, k2, k3⟩
  exact ⟨S', rfl, k1, k2, k3⟩
end
end Go.Proofs.YtniojcnkjehflaaGreat
