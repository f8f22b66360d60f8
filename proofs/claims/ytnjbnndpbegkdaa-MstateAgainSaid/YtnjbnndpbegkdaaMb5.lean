/- Put together: MsaEMa, ConfJzMa, NoJMa, MstQMa, MsaFMa. Conditions: as each says. -/
import Derived.Test.YtnjbnndpbegkdaaMb4
import Derived.Test.YtnjbnndpbegkdaaMb1
import Derived.Test.YtnjbnndpbegkdaaMb2
import Derived.Test.YtnjbnndpbegkdaaMb3
/- The document's master state: Apply of what a client is told. Conditions: none. -/
namespace Go.Proofs.Ytnjbnndpbegkdaa
open Go.RowKit Go.PlainAid
set_option linter.unusedVariables false
set_option linter.unusedSimpArgs false

set_option maxRecDepth 100000 in
set_option maxHeartbeats 1600000 in
theorem dcApply80 (b : Nat) (ep : Int) (cv : Value) (fl : Int) (lgv : Value) (hz : Int) (pv : Value) (tp : Int) (y0 : AnT) (y1 : AnT) (y2 : AnT) (d : NoteD) (mv : Value) (lv : Value) (ev : Value) (w : World) (hb : Blk w b 50 #[.int .i64 ep, cv, .int .u64 fl, lgv, .int .u64 hz, pv, .int .i64 tp, .int .i64 y0.1, .int .i64 y0.2.1, .int .i64 y0.2.2.1, .int .i64 y0.2.2.2, .int .i64 y1.1, .int .i64 y1.2.1, .int .i64 y1.2.2.1, .int .i64 y1.2.2.2, .int .i64 y2.1, .int .i64 y2.2.1, .int .i64 y2.2.2.1, .int .i64 y2.2.2.2]) (hm : SliceOf memE 2 w mv d.ms) (hg : SliceOf (intE .i64) 1 w lv d.lg) (he : SliceOf opE 3 w ev d.el) (hR : NoteR d) (hbm : d.ms ≠ [] → ∀ k, mv.ownBlock = some k → ¬ k = b) (hbg : d.lg ≠ [] → ∀ k, lv.ownBlock = some k → ¬ k = b) (hbe : d.el ≠ [] → ∀ k, ev.ownBlock = some k → ¬ k = b) (hkx : d.k = 8) (hsc : d.sc = 0) :
    Calls Try.prog 10 #[pt b 0, .agg #[.int .i64 d.k, .int .i64 d.n, .int .u64 d.t, .int .i64 d.ep, mv, .int .u64 d.fl, lv, .int .i64 d.ec, .int .i64 d.er, ev, .int .u64 d.ets, .int .i64 d.pid, .int .u64 d.pat, .int .i64 d.plf, .int .i64 d.sc, .int .i64 d.sr, .int .i64 d.se, .int .i64 d.sp]] w fun e w' => e = .returned (.int .i64 ((docS y0 d).1)) ∧ Blk w' b 50 #[.int .i64 ep, cv, .int .u64 fl, lgv, .int .u64 hz, pv, .int .i64 tp, .int .i64 ((docS y0 d).2.1), .int .i64 ((docS y0 d).2.2.1), .int .i64 ((docS y0 d).2.2.2.1), .int .i64 ((docS y0 d).2.2.2.2), .int .i64 y1.1, .int .i64 y1.2.1, .int .i64 y1.2.2.1, .int .i64 y1.2.2.2, .int .i64 y2.1, .int .i64 y2.2.1, .int .i64 y2.2.2.1, .int .i64 y2.2.2.2] ∧ But (fun q => q = b) w w' := by
 have hrng := hR.rng
 have hB0 := But.refl (fun q => q = b) w
 have hl_hb := hb.lt
 have hl_hm := sl_len hm
 have hl_hg := sl_len hg
 have hl_he := sl_len he
 refine co_enter (n := 128) Try.func10 rfl rfl rfl [(0, pt b 0), (1, .agg #[.int .i64 d.k, .int .i64 d.n, .int .u64 d.t, .int .i64 d.ep, mv, .int .u64 d.fl, lv, .int .i64 d.ec, .int .i64 d.er, ev, .int .u64 d.ets, .int .i64 d.pid, .int .u64 d.pat, .int .i64 d.plf, .int .i64 d.sc, .int .i64 d.sr, .int .i64 d.se, .int .i64 d.sp])] rfl (fun a h0 => ?_)
 refine co_seq ?_
 refine co_reg ?_
 refine pw h0 rfl (op_new (v := fun N => pt N 0) (T := 44) (cs := #[.int .i64 d.k, .int .i64 d.n, .int .u64 d.t, .int .i64 d.ep, mv, .int .u64 d.fl, lv, .int .i64 d.ec, .int .i64 d.er, ev, .int .u64 d.ets, .int .i64 d.pid, .int .u64 d.pat, .int .i64 d.plf, .int .i64 d.sc, .int .i64 d.sr, .int .i64 d.se, .int .i64 d.sp]) (by kernel_rfl) (by kernel_rfl) (by kernel_rfl)) ?_; clear h0
 rintro _ w2 a1 ⟨N3, rfl, hN6, hz7, hk5, hg4⟩ h1
 have hz8 := hg4.size
 try dsimp only at h1
 refine pk0 (v := .int .i64 0) h1 rfl fun a9 h9 => ?_; clear h1
 refine pl_nil ?_
 refine co_then ?_
 refine co_seq ?_
 refine co_seq ?_
 refine co_reg ?_
 refine pk (v := .agg #[.int .i64 d.k, .int .i64 d.n, .int .u64 d.t, .int .i64 d.ep, mv, .int .u64 d.fl, lv, .int .i64 d.ec, .int .i64 d.er, ev, .int .u64 d.ets, .int .i64 d.pid, .int .u64 d.pat, .int .i64 d.plf, .int .i64 d.sc, .int .i64 d.sr, .int .i64 d.se, .int .i64 d.sp]) h9 rfl (rn_loadN rfl rfl Try.underlying44 rfl (by kernel_rfl) hk5.all) fun a10 h10 => ?_; clear h9
 have hB13 := fb_new hB0 hg4
 refine pw h10 rfl (op_call (args := #[.agg #[.int .i64 d.k, .int .i64 d.n, .int .u64 d.t, .int .i64 d.ep, mv, .int .u64 d.fl, lv, .int .i64 d.ec, .int .i64 d.er, ev, .int .u64 d.ets, .int .i64 d.pid, .int .u64 d.pat, .int .i64 d.plf, .int .i64 d.sc, .int .i64 d.sr, .int .i64 d.se, .int .i64 d.sp]]) (R := fun res xw => res = .int .i64 (chkN d) ∧ Below w2.heap.size w2 xw) rfl rfl rfl (by kernel_rfl) (by kernel_rfl) (Try.call27 _ _) (rnCheck_any d mv lv ev w2 (sl_butS hm hB13 hbm) (sl_butS hg hB13 hbg) (sl_butS he hB13 hbe) hR) (by rintro e x ⟨rfl, hb14⟩; exact ⟨_, rfl, ⟨rfl, hb14⟩⟩)) ?_; clear h10
 rintro _ w12 a11 ⟨rfl, hb14⟩ h11
 have hz15 := hb14.size
 refine pk0 (v := .int .i64 (chkN d)) h11 rfl fun a16 h16 => ?_; clear h11
 refine pl_nil ?_
 refine co_then ?_
 refine co_seq ?_
 refine co_reg ?_
 refine pk0 (v := .int .i64 (chkN d)) h16 rfl fun a17 h17 => ?_; clear h16
 refine pk0 (v := .bool (chkN d != 0)) h17 rfl fun a18 h18 => ?_; clear h17
 refine pl_nil ?_
 refine co_then ?_
 have hB20 := fb_call hB13 hb14
 have hk21 := hb.kept hg4 (by simp)
 have hk22 := hk21.below hb14
 cases hc19 : (chkN d != 0)
 ·
  rw [hc19] at h18
  have hp23 : ¬ (chkN d ≠ 0) := by first | simpa using hc19 | simpa [and_assoc] using hc19
  clear hc19
  refine co_false h18 rfl ?_
  refine wp_skip ?_
  refine co_then ?_
  refine co_seq ?_
  refine co_seq ?_
  refine co_reg ?_
  refine pk0 (v := pt N3 0) h18 rfl fun a24 h24 => ?_; clear h18
  have hk25 := hk5.below hb14
  refine pk (v := .int .i64 d.k) h24 rfl (rn_load1 rfl rfl Try.isAgg3 (hk25.cell rfl)) fun a26 h26 => ?_; clear h24
  refine pl_nil ?_
  refine co_then ?_
  refine wp_block ?_
  refine co_seq ?_
  refine co_reg ?_
  refine pk0 (v := .bool (d.k == 1)) h26 rfl fun a27 h27 => ?_; clear h26
  refine pk0 (v := .bool (d.k == 1)) h27 rfl fun a28 h28 => ?_; clear h27
  refine pl_nil ?_
  refine co_then ?_
  have hc29 : (d.k == 1) = false := by first | (simp; done) | (simp; omega) | exact beq_false_of_ne (by omega) | exact beq_iff_eq.2 (by omega)
  rw [hc29] at h28; clear hc29
  refine co_false h28 rfl ?_
  refine co_seq ?_
  refine co_reg ?_
  refine pk0 (v := .bool (d.k == 5)) h28 rfl fun a30 h30 => ?_; clear h28
  refine pk0 (v := .bool (d.k == 5)) h30 rfl fun a31 h31 => ?_; clear h30
  refine pl_nil ?_
  refine co_then ?_
  have hc32 : (d.k == 5) = false := by first | (simp; done) | (simp; omega) | exact beq_false_of_ne (by omega) | exact beq_iff_eq.2 (by omega)
  rw [hc32] at h31; clear hc32
  refine co_false h31 rfl ?_
  refine co_seq ?_
  refine co_reg ?_
  refine pk0 (v := .bool (d.k == 4)) h31 rfl fun a33 h33 => ?_; clear h31
  refine pk0 (v := .bool (d.k == 4)) h33 rfl fun a34 h34 => ?_; clear h33
  refine pl_nil ?_
  refine co_then ?_
  have hc35 : (d.k == 4) = false := by first | (simp; done) | (simp; omega) | exact beq_false_of_ne (by omega) | exact beq_iff_eq.2 (by omega)
  rw [hc35] at h34; clear hc35
  refine co_false h34 rfl ?_
  refine co_seq ?_
  refine co_reg ?_
  refine pk0 (v := .bool (d.k == 6)) h34 rfl fun a36 h36 => ?_; clear h34
  refine pk0 (v := .bool (d.k == 6)) h36 rfl fun a37 h37 => ?_; clear h36
  refine pl_nil ?_
  refine co_then ?_
  have hc38 : (d.k == 6) = false := by first | (simp; done) | (simp; omega) | exact beq_false_of_ne (by omega) | exact beq_iff_eq.2 (by omega)
  rw [hc38] at h37; clear hc38
  refine co_false h37 rfl ?_
  refine co_seq ?_
  refine co_reg ?_
  refine pk0 (v := .bool (d.k == 7)) h37 rfl fun a39 h39 => ?_; clear h37
  refine pk0 (v := .bool (d.k == 7)) h39 rfl fun a40 h40 => ?_; clear h39
  refine pl_nil ?_
  refine co_then ?_
  have hc41 : (d.k == 7) = false := by first | (simp; done) | (simp; omega) | exact beq_false_of_ne (by omega) | exact beq_iff_eq.2 (by omega)
  rw [hc41] at h40; clear hc41
  refine co_false h40 rfl ?_
  refine co_seq ?_
  refine co_reg ?_
  refine pk0 (v := .bool (d.k == 8)) h40 rfl fun a42 h42 => ?_; clear h40
  refine pk0 (v := .bool (d.k == 8)) h42 rfl fun a43 h43 => ?_; clear h42
  refine pl_nil ?_
  refine co_then ?_
  have hc44 : (d.k == 8) = true := by first | (simp; done) | (simp; omega) | exact beq_false_of_ne (by omega) | exact beq_iff_eq.2 (by omega)
  rw [hc44] at h43; clear hc44
  refine co_true h43 rfl ?_
  refine co_seq ?_
  refine co_seq ?_
  refine dr_eq (by kernel_rfl) (fun w45 hg46 => ?_)
  have hz47 := hg46.size
  refine dk0 0 (v := pt N3 14) h43 rfl rfl rfl fun a48 h48 => ?_; clear h43
  refine dk0 1 (v := pt N3 15) h48 rfl rfl rfl fun a49 h49 => ?_; clear h48
  have hk50 := hk25.kept hg46 (by simp)
  refine dk 2 (v := .int .i64 d.sr) h49 rfl rfl rfl (fun x hx => by subst hx; exact (rn_load1 rfl rfl Try.isAgg3 (hk50.cell rfl))) fun a51 h51 => ?_; clear h49
  refine dk0 3 (v := pt b 0) h51 rfl rfl rfl fun a52 h52 => ?_; clear h51
  refine dk0 4 (v := pt N3 14) h52 rfl rfl rfl fun a53 h53 => ?_; clear h52
  refine dk0 5 (v := pt N3 14) h53 rfl rfl rfl fun a54 h54 => ?_; clear h53
  refine dk 6 (v := .int .i64 d.sc) h54 rfl rfl rfl (fun x hx => by subst hx; exact (rn_load1 rfl rfl Try.isAgg3 (hk50.cell rfl))) fun a55 h55 => ?_; clear h54
  refine dk0 7 (v := pt b 0) h55 rfl rfl rfl fun a56 h56 => ?_; clear h55
  refine dk0 8 (v := pt b 7) h56 rfl rfl rfl fun a57 h57 => ?_; clear h56
  refine dk 9 (v := pt b 7) h57 rfl rfl rfl (fun x hx => by subst hx; exact (by rw [hsc]; kernel_rfl)) fun a58 h58 => ?_; clear h57
  refine dk0 10 (v := pt b 8) h58 rfl rfl rfl fun a59 h59 => ?_; clear h58
  have hk60 := hk22.kept hg46 (by simp)
  refine dk 11 (v := .int .i64 y0.2.1) h59 rfl rfl rfl (fun x hx => by subst hx; exact (rn_load1 rfl rfl Try.isAgg3 (hk60.cell rfl))) fun a61 h61 => ?_; clear h59
  refine dk0 12 (v := .bool (decide (d.sr < y0.2.1))) h61 rfl rfl rfl fun a62 h62 => ?_; clear h61
  refine dr_done (by kernel_rfl) ?_
  refine co_then ?_
  have hB64 := fb_new hB20 hg46
  cases hc63 : (decide (d.sr < y0.2.1))
  ·
   rw [hc63] at h62
   have hp65 : ¬ (d.sr < y0.2.1) := of_decide_eq_false hc63
   clear hc63
   refine co_false h62 rfl ?_
   refine wp_skip ?_
   refine co_then ?_
   refine dr_gen (fun x => But (fun q => q = b) w x ∧ Blk x N3 44 #[.int .i64 d.k, .int .i64 d.n, .int .u64 d.t, .int .i64 d.ep, mv, .int .u64 d.fl, lv, .int .i64 d.ec, .int .i64 d.er, ev, .int .u64 d.ets, .int .i64 d.pid, .int .u64 d.pat, .int .i64 d.plf, .int .i64 d.sc, .int .i64 d.sr, .int .i64 d.se, .int .i64 d.sp]) (by kernel_rfl) (fun w66 hg67 => ?_) (fun w66 hg67 => ?_)
   ·
    have hz68 := hg67.size
    have hB69 := fb_new hB64 hg67
    have hk70 := hk50.kept hg67 (by simp)
    exact ⟨hB69, hk70⟩
   have hz71 := hg67.size
   have hB72 := fb_new hB64 hg67
   have hk73 := hk50.kept hg67 (by simp)
   refine dk0 0 (v := pt b 0) h62 rfl rfl ⟨hB72, hk73⟩ fun a74 h74 => ?_; clear h62
   refine dk0 1 (v := pt N3 14) h74 rfl rfl ⟨hB72, hk73⟩ fun a75 h75 => ?_; clear h74
   refine dk0 2 (v := pt N3 14) h75 rfl rfl ⟨hB72, hk73⟩ fun a76 h76 => ?_; clear h75
   refine dk 3 (v := .int .i64 d.sc) h76 rfl rfl ⟨hB72, hk73⟩ (fun x hx => (rn_load1 rfl rfl Try.isAgg3 (hx.2.cell rfl))) fun a77 h77 => ?_; clear h76
   refine dk0 4 (v := pt N3 14) h77 rfl rfl ⟨hB72, hk73⟩ fun a78 h78 => ?_; clear h77
   refine dk 5 (v := .agg #[.int .i64 d.sc, .int .i64 d.sr, .int .i64 d.se, .int .i64 d.sp]) h78 rfl rfl ⟨hB72, hk73⟩ (fun x hx => (rn_loadN rfl rfl Try.underlying42 rfl (by kernel_rfl) (blk_part hx.2 14 (by rfl)))) fun a79 h79 => ?_; clear h78
   refine dk0 6 (v := pt b 0) h79 rfl rfl ⟨hB72, hk73⟩ fun a80 h80 => ?_; clear h79
   refine dk0 7 (v := pt b 7) h80 rfl rfl ⟨hB72, hk73⟩ fun a81 h81 => ?_; clear h80
   refine dk 8 (v := pt b 7) h81 rfl rfl ⟨hB72, hk73⟩ (fun x hx => (by rw [hsc]; kernel_rfl)) fun a82 h82 => ?_; clear h81
   have hk88 := hk60.kept hg67 (by simp)
   refine d1D 9 h82 rfl rfl (op_storePart (k := 7) (cs' := #[.int .i64 ep, cv, .int .u64 fl, lgv, .int .u64 hz, pv, .int .i64 tp, .int .i64 d.sc, .int .i64 d.sr, .int .i64 d.se, .int .i64 d.sp, .int .i64 y1.1, .int .i64 y1.2.1, .int .i64 y1.2.2.1, .int .i64 y1.2.2.2, .int .i64 y2.1, .int .i64 y2.2.1, .int .i64 y2.2.2.1, .int .i64 y2.2.2.2]) rfl rfl rfl (by kernel_rfl) (by kernel_rfl) hk88 rfl rfl) ?_ ?_; clear h82
   ·
    rintro _ w84 ⟨hk85, hz86, hg87⟩
    have hk85' : Blk w84 b 50 #[.int .i64 ep, cv, .int .u64 fl, lgv, .int .u64 hz, pv, .int .i64 tp, .int .i64 d.sc, .int .i64 d.sr, .int .i64 d.se, .int .i64 d.sp, .int .i64 y1.1, .int .i64 y1.2.1, .int .i64 y1.2.2.1, .int .i64 y1.2.2.2, .int .i64 y2.1, .int .i64 y2.2.1, .int .i64 y2.2.2.1, .int .i64 y2.2.2.2] := hk85; clear hk85
    have hz89 := hg87.size
    have hB90 := fb_at hB72 hg87 (fun hlt => by first | (exfalso; omega) | (simp; done) | simp_all)
    have hk91 := hk73.kept hg87 (by simp; omega)
    exact ⟨hB90, hk91⟩
   rintro _ w84 a83 ⟨hk85, hz86, hg87⟩ h83
   have hk85' : Blk w84 b 50 #[.int .i64 ep, cv, .int .u64 fl, lgv, .int .u64 hz, pv, .int .i64 tp, .int .i64 d.sc, .int .i64 d.sr, .int .i64 d.se, .int .i64 d.sp, .int .i64 y1.1, .int .i64 y1.2.1, .int .i64 y1.2.2.1, .int .i64 y1.2.2.2, .int .i64 y2.1, .int .i64 y2.2.1, .int .i64 y2.2.2.1, .int .i64 y2.2.2.2] := hk85; clear hk85
   have hz89 := hg87.size
   refine dr_done (by kernel_rfl) ?_
   refine co_blockN ?_
   refine co_then ?_
   refine co_seq ?_
   refine co_reg ?_
   refine pk0 (v := .int .i64 0) h83 rfl fun a90 h90 => ?_; clear h83
   refine pl_nil ?_
   refine co_then ?_
   refine wp_ret ?_
   refine co_ret1 h90 rfl rfl ?_
   have hB91 := fb_at hB72 hg87 (fun hlt => by first | (exfalso; omega) | (simp; done) | simp_all)
   have hA : docS y0 d = (0, (d.sc, d.sr, d.se, d.sp)) := by unfold docS; first | (rw [if_pos (by omega)]; done) | (rw [if_neg (by omega), if_pos (by omega)]; done) | (rw [if_neg (by omega), if_neg (by omega)]; done)
   exact ⟨by rw [hA], by rw [hA]; exact hk85', hB91⟩
  ·
   rw [hc63] at h62
   have hp92 : d.sr < y0.2.1 := of_decide_eq_true hc63
   clear hc63
   refine co_true h62 rfl ?_
   refine co_seq ?_
   refine co_reg ?_
   refine pk0 (v := .int .i64 18) h62 rfl fun a93 h93 => ?_; clear h62
   refine pl_nil ?_
   refine co_then ?_
   refine wp_ret ?_
   refine co_thenR ?_
   refine co_blockR ?_
   refine co_thenR ?_
   refine co_ret1 h93 rfl rfl ?_
   have hA : docS y0 d = (18, y0) := by unfold docS; first | (rw [if_pos (by omega)]; done) | (rw [if_neg (by omega), if_pos (by omega)]; done) | (rw [if_neg (by omega), if_neg (by omega)]; done)
   exact ⟨by rw [hA], by rw [hA]; exact hk60, hB64⟩
 ·
  rw [hc19] at h18
  have hp94 : chkN d ≠ 0 := by first | simpa using hc19 | simpa [and_assoc] using hc19
  clear hc19
  refine co_true h18 rfl ?_
  refine co_seq ?_
  refine co_reg ?_
  refine pk0 (v := .int .i64 (chkN d)) h18 rfl fun a95 h95 => ?_; clear h18
  refine pk0 (v := .int .i64 (chkN d)) h95 rfl fun a96 h96 => ?_; clear h95
  refine pl_nil ?_
  refine co_then ?_
  refine wp_ret ?_
  refine co_thenR ?_
  refine co_ret1 h96 rfl rfl ?_
  have hA : docS y0 d = (chkN d, y0) := by unfold docS; first | (rw [if_pos (by omega)]; done) | (rw [if_neg (by omega), if_pos (by omega)]; done) | (rw [if_neg (by omega), if_neg (by omega)]; done)
  exact ⟨by rw [hA], by rw [hA]; exact hk22, hB20⟩
set_option maxRecDepth 100000 in
set_option maxHeartbeats 1600000 in
theorem dcApply81 (b : Nat) (ep : Int) (cv : Value) (fl : Int) (lgv : Value) (hz : Int) (pv : Value) (tp : Int) (y0 : AnT) (y1 : AnT) (y2 : AnT) (d : NoteD) (mv : Value) (lv : Value) (ev : Value) (w : World) (hb : Blk w b 50 #[.int .i64 ep, cv, .int .u64 fl, lgv, .int .u64 hz, pv, .int .i64 tp, .int .i64 y0.1, .int .i64 y0.2.1, .int .i64 y0.2.2.1, .int .i64 y0.2.2.2, .int .i64 y1.1, .int .i64 y1.2.1, .int .i64 y1.2.2.1, .int .i64 y1.2.2.2, .int .i64 y2.1, .int .i64 y2.2.1, .int .i64 y2.2.2.1, .int .i64 y2.2.2.2]) (hm : SliceOf memE 2 w mv d.ms) (hg : SliceOf (intE .i64) 1 w lv d.lg) (he : SliceOf opE 3 w ev d.el) (hR : NoteR d) (hbm : d.ms ≠ [] → ∀ k, mv.ownBlock = some k → ¬ k = b) (hbg : d.lg ≠ [] → ∀ k, lv.ownBlock = some k → ¬ k = b) (hbe : d.el ≠ [] → ∀ k, ev.ownBlock = some k → ¬ k = b) (hkx : d.k = 8) (hsc : d.sc = 1) :
    Calls Try.prog 10 #[pt b 0, .agg #[.int .i64 d.k, .int .i64 d.n, .int .u64 d.t, .int .i64 d.ep, mv, .int .u64 d.fl, lv, .int .i64 d.ec, .int .i64 d.er, ev, .int .u64 d.ets, .int .i64 d.pid, .int .u64 d.pat, .int .i64 d.plf, .int .i64 d.sc, .int .i64 d.sr, .int .i64 d.se, .int .i64 d.sp]] w fun e w' => e = .returned (.int .i64 ((docS y1 d).1)) ∧ Blk w' b 50 #[.int .i64 ep, cv, .int .u64 fl, lgv, .int .u64 hz, pv, .int .i64 tp, .int .i64 y0.1, .int .i64 y0.2.1, .int .i64 y0.2.2.1, .int .i64 y0.2.2.2, .int .i64 ((docS y1 d).2.1), .int .i64 ((docS y1 d).2.2.1), .int .i64 ((docS y1 d).2.2.2.1), .int .i64 ((docS y1 d).2.2.2.2), .int .i64 y2.1, .int .i64 y2.2.1, .int .i64 y2.2.2.1, .int .i64 y2.2.2.2] ∧ But (fun q => q = b) w w' := by
 have hrng := hR.rng
 have hB0 := But.refl (fun q => q = b) w
 have hl_hb := hb.lt
 have hl_hm := sl_len hm
 have hl_hg := sl_len hg
 have hl_he := sl_len he
 refine co_enter (n := 128) Try.func10 rfl rfl rfl [(0, pt b 0), (1, .agg #[.int .i64 d.k, .int .i64 d.n, .int .u64 d.t, .int .i64 d.ep, mv, .int .u64 d.fl, lv, .int .i64 d.ec, .int .i64 d.er, ev, .int .u64 d.ets, .int .i64 d.pid, .int .u64 d.pat, .int .i64 d.plf, .int .i64 d.sc, .int .i64 d.sr, .int .i64 d.se, .int .i64 d.sp])] rfl (fun a h0 => ?_)
 refine co_seq ?_
 refine co_reg ?_
 refine pw h0 rfl (op_new (v := fun N => pt N 0) (T := 44) (cs := #[.int .i64 d.k, .int .i64 d.n, .int .u64 d.t, .int .i64 d.ep, mv, .int .u64 d.fl, lv, .int .i64 d.ec, .int .i64 d.er, ev, .int .u64 d.ets, .int .i64 d.pid, .int .u64 d.pat, .int .i64 d.plf, .int .i64 d.sc, .int .i64 d.sr, .int .i64 d.se, .int .i64 d.sp]) (by kernel_rfl) (by kernel_rfl) (by kernel_rfl)) ?_; clear h0
 rintro _ w2 a1 ⟨N3, rfl, hN6, hz7, hk5, hg4⟩ h1
 have hz8 := hg4.size
 try dsimp only at h1
 refine pk0 (v := .int .i64 0) h1 rfl fun a9 h9 => ?_; clear h1
 refine pl_nil ?_
 refine co_then ?_
 refine co_seq ?_
 refine co_seq ?_
 refine co_reg ?_
 refine pk (v := .agg #[.int .i64 d.k, .int .i64 d.n, .int .u64 d.t, .int .i64 d.ep, mv, .int .u64 d.fl, lv, .int .i64 d.ec, .int .i64 d.er, ev, .int .u64 d.ets, .int .i64 d.pid, .int .u64 d.pat, .int .i64 d.plf, .int .i64 d.sc, .int .i64 d.sr, .int .i64 d.se, .int .i64 d.sp]) h9 rfl (rn_loadN rfl rfl Try.underlying44 rfl (by kernel_rfl) hk5.all) fun a10 h10 => ?_; clear h9
 have hB13 := fb_new hB0 hg4
 refine pw h10 rfl (op_call (args := #[.agg #[.int .i64 d.k, .int .i64 d.n, .int .u64 d.t, .int .i64 d.ep, mv, .int .u64 d.fl, lv, .int .i64 d.ec, .int .i64 d.er, ev, .int .u64 d.ets, .int .i64 d.pid, .int .u64 d.pat, .int .i64 d.plf, .int .i64 d.sc, .int .i64 d.sr, .int .i64 d.se, .int .i64 d.sp]]) (R := fun res xw => res = .int .i64 (chkN d) ∧ Below w2.heap.size w2 xw) rfl rfl rfl (by kernel_rfl) (by kernel_rfl) (Try.call27 _ _) (rnCheck_any d mv lv ev w2 (sl_butS hm hB13 hbm) (sl_butS hg hB13 hbg) (sl_butS he hB13 hbe) hR) (by rintro e x ⟨rfl, hb14⟩; exact ⟨_, rfl, ⟨rfl, hb14⟩⟩)) ?_; clear h10
 rintro _ w12 a11 ⟨rfl, hb14⟩ h11
 have hz15 := hb14.size
 refine pk0 (v := .int .i64 (chkN d)) h11 rfl fun a16 h16 => ?_; clear h11
 refine pl_nil ?_
 refine co_then ?_
 refine co_seq ?_
 refine co_reg ?_
 refine pk0 (v := .int .i64 (chkN d)) h16 rfl fun a17 h17 => ?_; clear h16
 refine pk0 (v := .bool (chkN d != 0)) h17 rfl fun a18 h18 => ?_; clear h17
 refine pl_nil ?_
 refine co_then ?_
 have hB20 := fb_call hB13 hb14
 have hk21 := hb.kept hg4 (by simp)
 have hk22 := hk21.below hb14
 cases hc19 : (chkN d != 0)
 ·
  rw [hc19] at h18
  have hp23 : ¬ (chkN d ≠ 0) := by first | simpa using hc19 | simpa [and_assoc] using hc19
  clear hc19
  refine co_false h18 rfl ?_
  refine wp_skip ?_
  refine co_then ?_
  refine co_seq ?_
  refine co_seq ?_
  refine co_reg ?_
  refine pk0 (v := pt N3 0) h18 rfl fun a24 h24 => ?_; clear h18
  have hk25 := hk5.below hb14
  refine pk (v := .int .i64 d.k) h24 rfl (rn_load1 rfl rfl Try.isAgg3 (hk25.cell rfl)) fun a26 h26 => ?_; clear h24
  refine pl_nil ?_
  refine co_then ?_
  refine wp_block ?_
  refine co_seq ?_
  refine co_reg ?_
  refine pk0 (v := .bool (d.k == 1)) h26 rfl fun a27 h27 => ?_; clear h26
  refine pk0 (v := .bool (d.k == 1)) h27 rfl fun a28 h28 => ?_; clear h27
  refine pl_nil ?_
  refine co_then ?_
  have hc29 : (d.k == 1) = false := by first | (simp; done) | (simp; omega) | exact beq_false_of_ne (by omega) | exact beq_iff_eq.2 (by omega)
  rw [hc29] at h28; clear hc29
  refine co_false h28 rfl ?_
  refine co_seq ?_
  refine co_reg ?_
  refine pk0 (v := .bool (d.k == 5)) h28 rfl fun a30 h30 => ?_; clear h28
  refine pk0 (v := .bool (d.k == 5)) h30 rfl fun a31 h31 => ?_; clear h30
  refine pl_nil ?_
  refine co_then ?_
  have hc32 : (d.k == 5) = false := by first | (simp; done) | (simp; omega) | exact beq_false_of_ne (by omega) | exact beq_iff_eq.2 (by omega)
  rw [hc32] at h31; clear hc32
  refine co_false h31 rfl ?_
  refine co_seq ?_
  refine co_reg ?_
  refine pk0 (v := .bool (d.k == 4)) h31 rfl fun a33 h33 => ?_; clear h31
  refine pk0 (v := .bool (d.k == 4)) h33 rfl fun a34 h34 => ?_; clear h33
  refine pl_nil ?_
  refine co_then ?_
  have hc35 : (d.k == 4) = false := by first | (simp; done) | (simp; omega) | exact beq_false_of_ne (by omega) | exact beq_iff_eq.2 (by omega)
  rw [hc35] at h34; clear hc35
  refine co_false h34 rfl ?_
  refine co_seq ?_
  refine co_reg ?_
  refine pk0 (v := .bool (d.k == 6)) h34 rfl fun a36 h36 => ?_; clear h34
  refine pk0 (v := .bool (d.k == 6)) h36 rfl fun a37 h37 => ?_; clear h36
  refine pl_nil ?_
  refine co_then ?_
  have hc38 : (d.k == 6) = false := by first | (simp; done) | (simp; omega) | exact beq_false_of_ne (by omega) | exact beq_iff_eq.2 (by omega)
  rw [hc38] at h37; clear hc38
  refine co_false h37 rfl ?_
  refine co_seq ?_
  refine co_reg ?_
  refine pk0 (v := .bool (d.k == 7)) h37 rfl fun a39 h39 => ?_; clear h37
  refine pk0 (v := .bool (d.k == 7)) h39 rfl fun a40 h40 => ?_; clear h39
  refine pl_nil ?_
  refine co_then ?_
  have hc41 : (d.k == 7) = false := by first | (simp; done) | (simp; omega) | exact beq_false_of_ne (by omega) | exact beq_iff_eq.2 (by omega)
  rw [hc41] at h40; clear hc41
  refine co_false h40 rfl ?_
  refine co_seq ?_
  refine co_reg ?_
  refine pk0 (v := .bool (d.k == 8)) h40 rfl fun a42 h42 => ?_; clear h40
  refine pk0 (v := .bool (d.k == 8)) h42 rfl fun a43 h43 => ?_; clear h42
  refine pl_nil ?_
  refine co_then ?_
  have hc44 : (d.k == 8) = true := by first | (simp; done) | (simp; omega) | exact beq_false_of_ne (by omega) | exact beq_iff_eq.2 (by omega)
  rw [hc44] at h43; clear hc44
  refine co_true h43 rfl ?_
  refine co_seq ?_
  refine co_seq ?_
  refine dr_eq (by kernel_rfl) (fun w45 hg46 => ?_)
  have hz47 := hg46.size
  refine dk0 0 (v := pt N3 14) h43 rfl rfl rfl fun a48 h48 => ?_; clear h43
  refine dk0 1 (v := pt N3 15) h48 rfl rfl rfl fun a49 h49 => ?_; clear h48
  have hk50 := hk25.kept hg46 (by simp)
  refine dk 2 (v := .int .i64 d.sr) h49 rfl rfl rfl (fun x hx => by subst hx; exact (rn_load1 rfl rfl Try.isAgg3 (hk50.cell rfl))) fun a51 h51 => ?_; clear h49
  refine dk0 3 (v := pt b 0) h51 rfl rfl rfl fun a52 h52 => ?_; clear h51
  refine dk0 4 (v := pt N3 14) h52 rfl rfl rfl fun a53 h53 => ?_; clear h52
  refine dk0 5 (v := pt N3 14) h53 rfl rfl rfl fun a54 h54 => ?_; clear h53
  refine dk 6 (v := .int .i64 d.sc) h54 rfl rfl rfl (fun x hx => by subst hx; exact (rn_load1 rfl rfl Try.isAgg3 (hk50.cell rfl))) fun a55 h55 => ?_; clear h54
  refine dk0 7 (v := pt b 0) h55 rfl rfl rfl fun a56 h56 => ?_; clear h55
  refine dk0 8 (v := pt b 7) h56 rfl rfl rfl fun a57 h57 => ?_; clear h56
  refine dk 9 (v := pt b 11) h57 rfl rfl rfl (fun x hx => by subst hx; exact (by rw [hsc]; kernel_rfl)) fun a58 h58 => ?_; clear h57
  refine dk0 10 (v := pt b 12) h58 rfl rfl rfl fun a59 h59 => ?_; clear h58
  have hk60 := hk22.kept hg46 (by simp)
  refine dk 11 (v := .int .i64 y1.2.1) h59 rfl rfl rfl (fun x hx => by subst hx; exact (rn_load1 rfl rfl Try.isAgg3 (hk60.cell rfl))) fun a61 h61 => ?_; clear h59
  refine dk0 12 (v := .bool (decide (d.sr < y1.2.1))) h61 rfl rfl rfl fun a62 h62 => ?_; clear h61
  refine dr_done (by kernel_rfl) ?_
  refine co_then ?_
  have hB64 := fb_new hB20 hg46
  cases hc63 : (decide (d.sr < y1.2.1))
  ·
   rw [hc63] at h62
   have hp65 : ¬ (d.sr < y1.2.1) := of_decide_eq_false hc63
   clear hc63
   refine co_false h62 rfl ?_
   refine wp_skip ?_
   refine co_then ?_
   refine dr_gen (fun x => But (fun q => q = b) w x ∧ Blk x N3 44 #[.int .i64 d.k, .int .i64 d.n, .int .u64 d.t, .int .i64 d.ep, mv, .int .u64 d.fl, lv, .int .i64 d.ec, .int .i64 d.er, ev, .int .u64 d.ets, .int .i64 d.pid, .int .u64 d.pat, .int .i64 d.plf, .int .i64 d.sc, .int .i64 d.sr, .int .i64 d.se, .int .i64 d.sp]) (by kernel_rfl) (fun w66 hg67 => ?_) (fun w66 hg67 => ?_)
   ·
    have hz68 := hg67.size
    have hB69 := fb_new hB64 hg67
    have hk70 := hk50.kept hg67 (by simp)
    exact ⟨hB69, hk70⟩
   have hz71 := hg67.size
   have hB72 := fb_new hB64 hg67
   have hk73 := hk50.kept hg67 (by simp)
   refine dk0 0 (v := pt b 0) h62 rfl rfl ⟨hB72, hk73⟩ fun a74 h74 => ?_; clear h62
   refine dk0 1 (v := pt N3 14) h74 rfl rfl ⟨hB72, hk73⟩ fun a75 h75 => ?_; clear h74
   refine dk0 2 (v := pt N3 14) h75 rfl rfl ⟨hB72, hk73⟩ fun a76 h76 => ?_; clear h75
   refine dk 3 (v := .int .i64 d.sc) h76 rfl rfl ⟨hB72, hk73⟩ (fun x hx => (rn_load1 rfl rfl Try.isAgg3 (hx.2.cell rfl))) fun a77 h77 => ?_; clear h76
   refine dk0 4 (v := pt N3 14) h77 rfl rfl ⟨hB72, hk73⟩ fun a78 h78 => ?_; clear h77
   refine dk 5 (v := .agg #[.int .i64 d.sc, .int .i64 d.sr, .int .i64 d.se, .int .i64 d.sp]) h78 rfl rfl ⟨hB72, hk73⟩ (fun x hx => (rn_loadN rfl rfl Try.underlying42 rfl (by kernel_rfl) (blk_part hx.2 14 (by rfl)))) fun a79 h79 => ?_; clear h78
   refine dk0 6 (v := pt b 0) h79 rfl rfl ⟨hB72, hk73⟩ fun a80 h80 => ?_; clear h79
   refine dk0 7 (v := pt b 7) h80 rfl rfl ⟨hB72, hk73⟩ fun a81 h81 => ?_; clear h80
   refine dk 8 (v := pt b 11) h81 rfl rfl ⟨hB72, hk73⟩ (fun x hx => (by rw [hsc]; kernel_rfl)) fun a82 h82 => ?_; clear h81
   have hk88 := hk60.kept hg67 (by simp)
   refine d1D 9 h82 rfl rfl (op_storePart (k := 11) (cs' := #[.int .i64 ep, cv, .int .u64 fl, lgv, .int .u64 hz, pv, .int .i64 tp, .int .i64 y0.1, .int .i64 y0.2.1, .int .i64 y0.2.2.1, .int .i64 y0.2.2.2, .int .i64 d.sc, .int .i64 d.sr, .int .i64 d.se, .int .i64 d.sp, .int .i64 y2.1, .int .i64 y2.2.1, .int .i64 y2.2.2.1, .int .i64 y2.2.2.2]) rfl rfl rfl (by kernel_rfl) (by kernel_rfl) hk88 rfl rfl) ?_ ?_; clear h82
   ·
    rintro _ w84 ⟨hk85, hz86, hg87⟩
    have hk85' : Blk w84 b 50 #[.int .i64 ep, cv, .int .u64 fl, lgv, .int .u64 hz, pv, .int .i64 tp, .int .i64 y0.1, .int .i64 y0.2.1, .int .i64 y0.2.2.1, .int .i64 y0.2.2.2, .int .i64 d.sc, .int .i64 d.sr, .int .i64 d.se, .int .i64 d.sp, .int .i64 y2.1, .int .i64 y2.2.1, .int .i64 y2.2.2.1, .int .i64 y2.2.2.2] := hk85; clear hk85
    have hz89 := hg87.size
    have hB90 := fb_at hB72 hg87 (fun hlt => by first | (exfalso; omega) | (simp; done) | simp_all)
    have hk91 := hk73.kept hg87 (by simp; omega)
    exact ⟨hB90, hk91⟩
   rintro _ w84 a83 ⟨hk85, hz86, hg87⟩ h83
   have hk85' : Blk w84 b 50 #[.int .i64 ep, cv, .int .u64 fl, lgv, .int .u64 hz, pv, .int .i64 tp, .int .i64 y0.1, .int .i64 y0.2.1, .int .i64 y0.2.2.1, .int .i64 y0.2.2.2, .int .i64 d.sc, .int .i64 d.sr, .int .i64 d.se, .int .i64 d.sp, .int .i64 y2.1, .int .i64 y2.2.1, .int .i64 y2.2.2.1, .int .i64 y2.2.2.2] := hk85; clear hk85
   have hz89 := hg87.size
   refine dr_done (by kernel_rfl) ?_
   refine co_blockN ?_
   refine co_then ?_
   refine co_seq ?_
   refine co_reg ?_
   refine pk0 (v := .int .i64 0) h83 rfl fun a90 h90 => ?_; clear h83
   refine pl_nil ?_
   refine co_then ?_
   refine wp_ret ?_
   refine co_ret1 h90 rfl rfl ?_
   have hB91 := fb_at hB72 hg87 (fun hlt => by first | (exfalso; omega) | (simp; done) | simp_all)
   have hA : docS y1 d = (0, (d.sc, d.sr, d.se, d.sp)) := by unfold docS; first | (rw [if_pos (by omega)]; done) | (rw [if_neg (by omega), if_pos (by omega)]; done) | (rw [if_neg (by omega), if_neg (by omega)]; done)
   exact ⟨by rw [hA], by rw [hA]; exact hk85', hB91⟩
  ·
   rw [hc63] at h62
   have hp92 : d.sr < y1.2.1 := of_decide_eq_true hc63
   clear hc63
   refine co_true h62 rfl ?_
   refine co_seq ?_
   refine co_reg ?_
   refine pk0 (v := .int .i64 18) h62 rfl fun a93 h93 => ?_; clear h62
   refine pl_nil ?_
   refine co_then ?_
   refine wp_ret ?_
   refine co_thenR ?_
   refine co_blockR ?_
   refine co_thenR ?_
   refine co_ret1 h93 rfl rfl ?_
   have hA : docS y1 d = (18, y1) := by unfold docS; first | (rw [if_pos (by omega)]; done) | (rw [if_neg (by omega), if_pos (by omega)]; done) | (rw [if_neg (by omega), if_neg (by omega)]; done)
   exact ⟨by rw [hA], by rw [hA]; exact hk60, hB64⟩
 ·
  rw [hc19] at h18
  have hp94 : chkN d ≠ 0 := by first | simpa using hc19 | simpa [and_assoc] using hc19
  clear hc19
  refine co_true h18 rfl ?_
  refine co_seq ?_
  refine co_reg ?_
  refine pk0 (v := .int .i64 (chkN d)) h18 rfl fun a95 h95 => ?_; clear h18
  refine pk0 (v := .int .i64 (chkN d)) h95 rfl fun a96 h96 => ?_; clear h95
  refine pl_nil ?_
  refine co_then ?_
  refine wp_ret ?_
  refine co_thenR ?_
  refine co_ret1 h96 rfl rfl ?_
  have hA : docS y1 d = (chkN d, y1) := by unfold docS; first | (rw [if_pos (by omega)]; done) | (rw [if_neg (by omega), if_pos (by omega)]; done) | (rw [if_neg (by omega), if_neg (by omega)]; done)
  exact ⟨by rw [hA], by rw [hA]; exact hk22, hB20⟩
set_option maxRecDepth 100000 in
set_option maxHeartbeats 1600000 in
theorem dcApply82 (b : Nat) (ep : Int) (cv : Value) (fl : Int) (lgv : Value) (hz : Int) (pv : Value) (tp : Int) (y0 : AnT) (y1 : AnT) (y2 : AnT) (d : NoteD) (mv : Value) (lv : Value) (ev : Value) (w : World) (hb : Blk w b 50 #[.int .i64 ep, cv, .int .u64 fl, lgv, .int .u64 hz, pv, .int .i64 tp, .int .i64 y0.1, .int .i64 y0.2.1, .int .i64 y0.2.2.1, .int .i64 y0.2.2.2, .int .i64 y1.1, .int .i64 y1.2.1, .int .i64 y1.2.2.1, .int .i64 y1.2.2.2, .int .i64 y2.1, .int .i64 y2.2.1, .int .i64 y2.2.2.1, .int .i64 y2.2.2.2]) (hm : SliceOf memE 2 w mv d.ms) (hg : SliceOf (intE .i64) 1 w lv d.lg) (he : SliceOf opE 3 w ev d.el) (hR : NoteR d) (hbm : d.ms ≠ [] → ∀ k, mv.ownBlock = some k → ¬ k = b) (hbg : d.lg ≠ [] → ∀ k, lv.ownBlock = some k → ¬ k = b) (hbe : d.el ≠ [] → ∀ k, ev.ownBlock = some k → ¬ k = b) (hkx : d.k = 8) (hsc : d.sc = 2) :
    Calls Try.prog 10 #[pt b 0, .agg #[.int .i64 d.k, .int .i64 d.n, .int .u64 d.t, .int .i64 d.ep, mv, .int .u64 d.fl, lv, .int .i64 d.ec, .int .i64 d.er, ev, .int .u64 d.ets, .int .i64 d.pid, .int .u64 d.pat, .int .i64 d.plf, .int .i64 d.sc, .int .i64 d.sr, .int .i64 d.se, .int .i64 d.sp]] w fun e w' => e = .returned (.int .i64 ((docS y2 d).1)) ∧ Blk w' b 50 #[.int .i64 ep, cv, .int .u64 fl, lgv, .int .u64 hz, pv, .int .i64 tp, .int .i64 y0.1, .int .i64 y0.2.1, .int .i64 y0.2.2.1, .int .i64 y0.2.2.2, .int .i64 y1.1, .int .i64 y1.2.1, .int .i64 y1.2.2.1, .int .i64 y1.2.2.2, .int .i64 ((docS y2 d).2.1), .int .i64 ((docS y2 d).2.2.1), .int .i64 ((docS y2 d).2.2.2.1), .int .i64 ((docS y2 d).2.2.2.2)] ∧ But (fun q => q = b) w w' := by
 have hrng := hR.rng
 have hB0 := But.refl (fun q => q = b) w
 have hl_hb := hb.lt
 have hl_hm := sl_len hm
 have hl_hg := sl_len hg
 have hl_he := sl_len he
 refine co_enter (n := 128) Try.func10 rfl rfl rfl [(0, pt b 0), (1, .agg #[.int .i64 d.k, .int .i64 d.n, .int .u64 d.t, .int .i64 d.ep, mv, .int .u64 d.fl, lv, .int .i64 d.ec, .int .i64 d.er, ev, .int .u64 d.ets, .int .i64 d.pid, .int .u64 d.pat, .int .i64 d.plf, .int .i64 d.sc, .int .i64 d.sr, .int .i64 d.se, .int .i64 d.sp])] rfl (fun a h0 => ?_)
 refine co_seq ?_
 refine co_reg ?_
 refine pw h0 rfl (op_new (v := fun N => pt N 0) (T := 44) (cs := #[.int .i64 d.k, .int .i64 d.n, .int .u64 d.t, .int .i64 d.ep, mv, .int .u64 d.fl, lv, .int .i64 d.ec, .int .i64 d.er, ev, .int .u64 d.ets, .int .i64 d.pid, .int .u64 d.pat, .int .i64 d.plf, .int .i64 d.sc, .int .i64 d.sr, .int .i64 d.se, .int .i64 d.sp]) (by kernel_rfl) (by kernel_rfl) (by kernel_rfl)) ?_; clear h0
 rintro _ w2 a1 ⟨N3, rfl, hN6, hz7, hk5, hg4⟩ h1
 have hz8 := hg4.size
 try dsimp only at h1
 refine pk0 (v := .int .i64 0) h1 rfl fun a9 h9 => ?_; clear h1
 refine pl_nil ?_
 refine co_then ?_
 refine co_seq ?_
 refine co_seq ?_
 refine co_reg ?_
 refine pk (v := .agg #[.int .i64 d.k, .int .i64 d.n, .int .u64 d.t, .int .i64 d.ep, mv, .int .u64 d.fl, lv, .int .i64 d.ec, .int .i64 d.er, ev, .int .u64 d.ets, .int .i64 d.pid, .int .u64 d.pat, .int .i64 d.plf, .int .i64 d.sc, .int .i64 d.sr, .int .i64 d.se, .int .i64 d.sp]) h9 rfl (rn_loadN rfl rfl Try.underlying44 rfl (by kernel_rfl) hk5.all) fun a10 h10 => ?_; clear h9
 have hB13 := fb_new hB0 hg4
 refine pw h10 rfl (op_call (args := #[.agg #[.int .i64 d.k, .int .i64 d.n, .int .u64 d.t, .int .i64 d.ep, mv, .int .u64 d.fl, lv, .int .i64 d.ec, .int .i64 d.er, ev, .int .u64 d.ets, .int .i64 d.pid, .int .u64 d.pat, .int .i64 d.plf, .int .i64 d.sc, .int .i64 d.sr, .int .i64 d.se, .int .i64 d.sp]]) (R := fun res xw => res = .int .i64 (chkN d) ∧ Below w2.heap.size w2 xw) rfl rfl rfl (by kernel_rfl) (by kernel_rfl) (Try.call27 _ _) (rnCheck_any d mv lv ev w2 (sl_butS hm hB13 hbm) (sl_butS hg hB13 hbg) (sl_butS he hB13 hbe) hR) (by rintro e x ⟨rfl, hb14⟩; exact ⟨_, rfl, ⟨rfl, hb14⟩⟩)) ?_; clear h10
 rintro _ w12 a11 ⟨rfl, hb14⟩ h11
 have hz15 := hb14.size
 refine pk0 (v := .int .i64 (chkN d)) h11 rfl fun a16 h16 => ?_; clear h11
 refine pl_nil ?_
 refine co_then ?_
 refine co_seq ?_
 refine co_reg ?_
 refine pk0 (v := .int .i64 (chkN d)) h16 rfl fun a17 h17 => ?_; clear h16
 refine pk0 (v := .bool (chkN d != 0)) h17 rfl fun a18 h18 => ?_; clear h17
 refine pl_nil ?_
 refine co_then ?_
 have hB20 := fb_call hB13 hb14
 have hk21 := hb.kept hg4 (by simp)
 have hk22 := hk21.below hb14
 cases hc19 : (chkN d != 0)
 ·
  rw [hc19] at h18
  have hp23 : ¬ (chkN d ≠ 0) := by first | simpa using hc19 | simpa [and_assoc] using hc19
  clear hc19
  refine co_false h18 rfl ?_
  refine wp_skip ?_
  refine co_then ?_
  refine co_seq ?_
  refine co_seq ?_
  refine co_reg ?_
  refine pk0 (v := pt N3 0) h18 rfl fun a24 h24 => ?_; clear h18
  have hk25 := hk5.below hb14
  refine pk (v := .int .i64 d.k) h24 rfl (rn_load1 rfl rfl Try.isAgg3 (hk25.cell rfl)) fun a26 h26 => ?_; clear h24
  refine pl_nil ?_
  refine co_then ?_
  refine wp_block ?_
  refine co_seq ?_
  refine co_reg ?_
  refine pk0 (v := .bool (d.k == 1)) h26 rfl fun a27 h27 => ?_; clear h26
  refine pk0 (v := .bool (d.k == 1)) h27 rfl fun a28 h28 => ?_; clear h27
  refine pl_nil ?_
  refine co_then ?_
  have hc29 : (d.k == 1) = false := by first | (simp; done) | (simp; omega) | exact beq_false_of_ne (by omega) | exact beq_iff_eq.2 (by omega)
  rw [hc29] at h28; clear hc29
  refine co_false h28 rfl ?_
  refine co_seq ?_
  refine co_reg ?_
  refine pk0 (v := .bool (d.k == 5)) h28 rfl fun a30 h30 => ?_; clear h28
  refine pk0 (v := .bool (d.k == 5)) h30 rfl fun a31 h31 => ?_; clear h30
  refine pl_nil ?_
  refine co_then ?_
  have hc32 : (d.k == 5) = false := by first | (simp; done) | (simp; omega) | exact beq_false_of_ne (by omega) | exact beq_iff_eq.2 (by omega)
  rw [hc32] at h31; clear hc32
  refine co_false h31 rfl ?_
  refine co_seq ?_
  refine co_reg ?_
  refine pk0 (v := .bool (d.k == 4)) h31 rfl fun a33 h33 => ?_; clear h31
  refine pk0 (v := .bool (d.k == 4)) h33 rfl fun a34 h34 => ?_; clear h33
  refine pl_nil ?_
  refine co_then ?_
  have hc35 : (d.k == 4) = false := by first | (simp; done) | (simp; omega) | exact beq_false_of_ne (by omega) | exact beq_iff_eq.2 (by omega)
  rw [hc35] at h34; clear hc35
  refine co_false h34 rfl ?_
  refine co_seq ?_
  refine co_reg ?_
  refine pk0 (v := .bool (d.k == 6)) h34 rfl fun a36 h36 => ?_; clear h34
  refine pk0 (v := .bool (d.k == 6)) h36 rfl fun a37 h37 => ?_; clear h36
  refine pl_nil ?_
  refine co_then ?_
  have hc38 : (d.k == 6) = false := by first | (simp; done) | (simp; omega) | exact beq_false_of_ne (by omega) | exact beq_iff_eq.2 (by omega)
  rw [hc38] at h37; clear hc38
  refine co_false h37 rfl ?_
  refine co_seq ?_
  refine co_reg ?_
  refine pk0 (v := .bool (d.k == 7)) h37 rfl fun a39 h39 => ?_; clear h37
  refine pk0 (v := .bool (d.k == 7)) h39 rfl fun a40 h40 => ?_; clear h39
  refine pl_nil ?_
  refine co_then ?_
  have hc41 : (d.k == 7) = false := by first | (simp; done) | (simp; omega) | exact beq_false_of_ne (by omega) | exact beq_iff_eq.2 (by omega)
  rw [hc41] at h40; clear hc41
  refine co_false h40 rfl ?_
  refine co_seq ?_
  refine co_reg ?_
  refine pk0 (v := .bool (d.k == 8)) h40 rfl fun a42 h42 => ?_; clear h40
  refine pk0 (v := .bool (d.k == 8)) h42 rfl fun a43 h43 => ?_; clear h42
  refine pl_nil ?_
  refine co_then ?_
  have hc44 : (d.k == 8) = true := by first | (simp; done) | (simp; omega) | exact beq_false_of_ne (by omega) | exact beq_iff_eq.2 (by omega)
  rw [hc44] at h43; clear hc44
  refine co_true h43 rfl ?_
  refine co_seq ?_
  refine co_seq ?_
  refine dr_eq (by kernel_rfl) (fun w45 hg46 => ?_)
  have hz47 := hg46.size
  refine dk0 0 (v := pt N3 14) h43 rfl rfl rfl fun a48 h48 => ?_; clear h43
  refine dk0 1 (v := pt N3 15) h48 rfl rfl rfl fun a49 h49 => ?_; clear h48
  have hk50 := hk25.kept hg46 (by simp)
  refine dk 2 (v := .int .i64 d.sr) h49 rfl rfl rfl (fun x hx => by subst hx; exact (rn_load1 rfl rfl Try.isAgg3 (hk50.cell rfl))) fun a51 h51 => ?_; clear h49
  refine dk0 3 (v := pt b 0) h51 rfl rfl rfl fun a52 h52 => ?_; clear h51
  refine dk0 4 (v := pt N3 14) h52 rfl rfl rfl fun a53 h53 => ?_; clear h52
  refine dk0 5 (v := pt N3 14) h53 rfl rfl rfl fun a54 h54 => ?_; clear h53
  refine dk 6 (v := .int .i64 d.sc) h54 rfl rfl rfl (fun x hx => by subst hx; exact (rn_load1 rfl rfl Try.isAgg3 (hk50.cell rfl))) fun a55 h55 => ?_; clear h54
  refine dk0 7 (v := pt b 0) h55 rfl rfl rfl fun a56 h56 => ?_; clear h55
  refine dk0 8 (v := pt b 7) h56 rfl rfl rfl fun a57 h57 => ?_; clear h56
  refine dk 9 (v := pt b 15) h57 rfl rfl rfl (fun x hx => by subst hx; exact (by rw [hsc]; kernel_rfl)) fun a58 h58 => ?_; clear h57
  refine dk0 10 (v := pt b 16) h58 rfl rfl rfl fun a59 h59 => ?_; clear h58
  have hk60 := hk22.kept hg46 (by simp)
  refine dk 11 (v := .int .i64 y2.2.1) h59 rfl rfl rfl (fun x hx => by subst hx; exact (rn_load1 rfl rfl Try.isAgg3 (hk60.cell rfl))) fun a61 h61 => ?_; clear h59
  refine dk0 12 (v := .bool (decide (d.sr < y2.2.1))) h61 rfl rfl rfl fun a62 h62 => ?_; clear h61
  refine dr_done (by kernel_rfl) ?_
  refine co_then ?_
  have hB64 := fb_new hB20 hg46
  cases hc63 : (decide (d.sr < y2.2.1))
  ·
   rw [hc63] at h62
   have hp65 : ¬ (d.sr < y2.2.1) := of_decide_eq_false hc63
   clear hc63
   refine co_false h62 rfl ?_
   refine wp_skip ?_
   refine co_then ?_
   refine dr_gen (fun x => But (fun q => q = b) w x ∧ Blk x N3 44 #[.int .i64 d.k, .int .i64 d.n, .int .u64 d.t, .int .i64 d.ep, mv, .int .u64 d.fl, lv, .int .i64 d.ec, .int .i64 d.er, ev, .int .u64 d.ets, .int .i64 d.pid, .int .u64 d.pat, .int .i64 d.plf, .int .i64 d.sc, .int .i64 d.sr, .int .i64 d.se, .int .i64 d.sp]) (by kernel_rfl) (fun w66 hg67 => ?_) (fun w66 hg67 => ?_)
   ·
    have hz68 := hg67.size
    have hB69 := fb_new hB64 hg67
    have hk70 := hk50.kept hg67 (by simp)
    exact ⟨hB69, hk70⟩
   have hz71 := hg67.size
   have hB72 := fb_new hB64 hg67
   have hk73 := hk50.kept hg67 (by simp)
   refine dk0 0 (v := pt b 0) h62 rfl rfl ⟨hB72, hk73⟩ fun a74 h74 => ?_; clear h62
   refine dk0 1 (v := pt N3 14) h74 rfl rfl ⟨hB72, hk73⟩ fun a75 h75 => ?_; clear h74
   refine dk0 2 (v := pt N3 14) h75 rfl rfl ⟨hB72, hk73⟩ fun a76 h76 => ?_; clear h75
   refine dk 3 (v := .int .i64 d.sc) h76 rfl rfl ⟨hB72, hk73⟩ (fun x hx => (rn_load1 rfl rfl Try.isAgg3 (hx.2.cell rfl))) fun a77 h77 => ?_; clear h76
   refine dk0 4 (v := pt N3 14) h77 rfl rfl ⟨hB72, hk73⟩ fun a78 h78 => ?_; clear h77
   refine dk 5 (v := .agg #[.int .i64 d.sc, .int .i64 d.sr, .int .i64 d.se, .int .i64 d.sp]) h78 rfl rfl ⟨hB72, hk73⟩ (fun x hx => (rn_loadN rfl rfl Try.underlying42 rfl (by kernel_rfl) (blk_part hx.2 14 (by rfl)))) fun a79 h79 => ?_; clear h78
   refine dk0 6 (v := pt b 0) h79 rfl rfl ⟨hB72, hk73⟩ fun a80 h80 => ?_; clear h79
   refine dk0 7 (v := pt b 7) h80 rfl rfl ⟨hB72, hk73⟩ fun a81 h81 => ?_; clear h80
   refine dk 8 (v := pt b 15) h81 rfl rfl ⟨hB72, hk73⟩ (fun x hx => (by rw [hsc]; kernel_rfl)) fun a82 h82 => ?_; clear h81
   have hk88 := hk60.kept hg67 (by simp)
   refine d1D 9 h82 rfl rfl (op_storePart (k := 15) (cs' := #[.int .i64 ep, cv, .int .u64 fl, lgv, .int .u64 hz, pv, .int .i64 tp, .int .i64 y0.1, .int .i64 y0.2.1, .int .i64 y0.2.2.1, .int .i64 y0.2.2.2, .int .i64 y1.1, .int .i64 y1.2.1, .int .i64 y1.2.2.1, .int .i64 y1.2.2.2, .int .i64 d.sc, .int .i64 d.sr, .int .i64 d.se, .int .i64 d.sp]) rfl rfl rfl (by kernel_rfl) (by kernel_rfl) hk88 rfl rfl) ?_ ?_; clear h82
   ·
    rintro _ w84 ⟨hk85, hz86, hg87⟩
    have hk85' : Blk w84 b 50 #[.int .i64 ep, cv, .int .u64 fl, lgv, .int .u64 hz, pv, .int .i64 tp, .int .i64 y0.1, .int .i64 y0.2.1, .int .i64 y0.2.2.1, .int .i64 y0.2.2.2, .int .i64 y1.1, .int .i64 y1.2.1, .int .i64 y1.2.2.1, .int .i64 y1.2.2.2, .int .i64 d.sc, .int .i64 d.sr, .int .i64 d.se, .int .i64 d.sp] := hk85; clear hk85
    have hz89 := hg87.size
    have hB90 := fb_at hB72 hg87 (fun hlt => by first | (exfalso; omega) | (simp; done) | simp_all)
    have hk91 := hk73.kept hg87 (by simp; omega)
    exact ⟨hB90, hk91⟩
   rintro _ w84 a83 ⟨hk85, hz86, hg87⟩ h83
   have hk85' : Blk w84 b 50 #[.int .i64 ep, cv, .int .u64 fl, lgv, .int .u64 hz, pv, .int .i64 tp, .int .i64 y0.1, .int .i64 y0.2.1, .int .i64 y0.2.2.1, .int .i64 y0.2.2.2, .int .i64 y1.1, .int .i64 y1.2.1, .int .i64 y1.2.2.1, .int .i64 y1.2.2.2, .int .i64 d.sc, .int .i64 d.sr, .int .i64 d.se, .int .i64 d.sp] := hk85; clear hk85
   have hz89 := hg87.size
   refine dr_done (by kernel_rfl) ?_
   refine co_blockN ?_
   refine co_then ?_
   refine co_seq ?_
   refine co_reg ?_
   refine pk0 (v := .int .i64 0) h83 rfl fun a90 h90 => ?_; clear h83
   refine pl_nil ?_
   refine co_then ?_
   refine wp_ret ?_
   refine co_ret1 h90 rfl rfl ?_
   have hB91 := fb_at hB72 hg87 (fun hlt => by first | (exfalso; omega) | (simp; done) | simp_all)
   have hA : docS y2 d = (0, (d.sc, d.sr, d.se, d.sp)) := by unfold docS; first | (rw [if_pos (by omega)]; done) | (rw [if_neg (by omega), if_pos (by omega)]; done) | (rw [if_neg (by omega), if_neg (by omega)]; done)
   exact ⟨by rw [hA], by rw [hA]; exact hk85', hB91⟩
  ·
   rw [hc63] at h62
   have hp92 : d.sr < y2.2.1 := of_decide_eq_true hc63
   clear hc63
   refine co_true h62 rfl ?_
   refine co_seq ?_
   refine co_reg ?_
   refine pk0 (v := .int .i64 18) h62 rfl fun a93 h93 => ?_; clear h62
   refine pl_nil ?_
   refine co_then ?_
   refine wp_ret ?_
   refine co_thenR ?_
   refine co_blockR ?_
   refine co_thenR ?_
   refine co_ret1 h93 rfl rfl ?_
   have hA : docS y2 d = (18, y2) := by unfold docS; first | (rw [if_pos (by omega)]; done) | (rw [if_neg (by omega), if_pos (by omega)]; done) | (rw [if_neg (by omega), if_neg (by omega)]; done)
   exact ⟨by rw [hA], by rw [hA]; exact hk60, hB64⟩
 ·
  rw [hc19] at h18
  have hp94 : chkN d ≠ 0 := by first | simpa using hc19 | simpa [and_assoc] using hc19
  clear hc19
  refine co_true h18 rfl ?_
  refine co_seq ?_
  refine co_reg ?_
  refine pk0 (v := .int .i64 (chkN d)) h18 rfl fun a95 h95 => ?_; clear h18
  refine pk0 (v := .int .i64 (chkN d)) h95 rfl fun a96 h96 => ?_; clear h95
  refine pl_nil ?_
  refine co_then ?_
  refine wp_ret ?_
  refine co_thenR ?_
  refine co_ret1 h96 rfl rfl ?_
  have hA : docS y2 d = (chkN d, y2) := by unfold docS; first | (rw [if_pos (by omega)]; done) | (rw [if_neg (by omega), if_pos (by omega)]; done) | (rw [if_neg (by omega), if_neg (by omega)]; done)
  exact ⟨by rw [hA], by rw [hA]; exact hk22, hB20⟩
end Go.Proofs.Ytnjbnndpbegkdaa

/- Configurations and members that came in by value, opened. Conditions: none. -/
namespace Go.Proofs.Ytnjbnndpbegkdaa
open Go.RowKit Go.ChangeShapes Go.WideShapes Go.Deep
section
variable {H : Type} {enc : TypeId × Value → H} {w : World} {base : Nat} {spare : Nat → Bool} {held : Bool}
set_option maxRecDepth 10000 in
theorem elem_mem (n : Nat) (cs : List Value) (x : DataW H × List MemPlace) (h : DataW.trod enc Try.prog w base spare held n 102 cs = some x) : ∃ p, cs = memE p ∧ memOk p := by
  obtain ⟨hl, m, hf⟩ := trod_fields Try.underlying102 (by kernel_rfl) (by kernel_rfl) h
  have hl2 : cs.length = 2 := hl
  clear hl
  match cs, hl2 with
  | [c0, c1], _ =>
    obtain ⟨_, y0, e0, h0⟩ := hf 0 _ rfl
    obtain ⟨_, y1, e1, h1⟩ := hf 1 _ rfl
    cases e0; cases e1
    obtain ⟨a, e0, _, w0⟩ := DataW.trod_int Try.underlying3 h0
    obtain ⟨b, e1, _, w1⟩ := DataW.trod_int Try.underlying3 h1
    simp only [List.cons.injEq, and_true] at e0 e1
    subst e0 e1
    exact ⟨(a, b), rfl, wf_i64 w0, wf_i64 w1⟩
theorem open_mems {fuel : Nat} {cs : List Value} {x : DataW H × List MemPlace} (h : DataW.trod enc Try.prog w base spare held fuel 30 cs = some x) :
    ∃ (l : List MemT) (v : Value), cs = [v] ∧ SliceOf memE 2 w v l ∧ ∀ p ∈ l, memOk p :=
  open_rows memE 2 memOk Try.underlying30 (by kernel_rfl) (by omega) elem_mem h
set_option maxRecDepth 10000 in
theorem elem_conf (n : Nat) (cs : List Value) (x : DataW H × List MemPlace) (h : DataW.trod enc Try.prog w base spare held n 32 cs = some x) : ∃ c : ConfT, cs = confE c ∧ ConfOk w c := by
  obtain ⟨hl, m, hf⟩ := trod_fields Try.underlying32 (by kernel_rfl) (by kernel_rfl) h
  have hl3 : cs.length = 3 := hl
  clear hl
  match cs, hl3 with
  | [c0, c1, c2], _ =>
    obtain ⟨_, y0, e0, h0⟩ := hf 0 _ rfl
    obtain ⟨_, y1, e1, h1⟩ := hf 1 _ rfl
    obtain ⟨_, y2, e2, h2⟩ := hf 2 _ rfl
    cases e0; cases e1; cases e2
    obtain ⟨a, e0, _, w0⟩ := DataW.trod_int Try.underlying3 h0
    obtain ⟨l, v, e1, hs, hall⟩ := open_mems h1
    obtain ⟨b, e2, _, w2⟩ := DataW.trod_int Try.underlying29 h2
    simp only [List.cons.injEq, and_true] at e0 e1 e2
    subst e0 e1 e2
    have k0 := wf_i64 w0; have k2 := wf_u64 w2
    exact ⟨⟨a, c1, l, b⟩, rfl, ⟨hs, hall, k0.1, k0.2, k2.1, k2.2⟩⟩
end
end Go.Proofs.Ytnjbnndpbegkdaa

/- Notes that came in by value, opened. Conditions: none. -/
namespace Go.Proofs.Ytnjbnndpbegkdaa
open Go.RowKit Go.ChangeShapes Go.WideShapes Go.Deep
structure NoteX where
  d : NoteD
  mv : Value
  lv : Value
  ev : Value
def noteE (x : NoteX) : List Value := [.int .i64 x.d.k, .int .i64 x.d.n, .int .u64 x.d.t, .int .i64 x.d.ep, x.mv, .int .u64 x.d.fl, x.lv, .int .i64 x.d.ec, .int .i64 x.d.er, x.ev, .int .u64 x.d.ets, .int .i64 x.d.pid, .int .u64 x.d.pat, .int .i64 x.d.plf, .int .i64 x.d.sc, .int .i64 x.d.sr, .int .i64 x.d.se, .int .i64 x.d.sp]
structure NoteOk (w : World) (x : NoteX) : Prop where
  hm : SliceOf memE 2 w x.mv x.d.ms
  hg : SliceOf (intE .i64) 1 w x.lv x.d.lg
  he : SliceOf opE 3 w x.ev x.d.el
  hR : NoteR x.d
section
variable {H : Type} {enc : TypeId × Value → H} {w : World} {base : Nat} {spare : Nat → Bool} {held : Bool}
theorem open_i64s {fuel : Nat} {cs : List Value} {x : DataW H × List MemPlace} (h : DataW.trod enc Try.prog w base spare held fuel 33 cs = some x) :
    ∃ (l : List Int) (v : Value), cs = [v] ∧ SliceOf (intE .i64) 1 w v l ∧ ∀ n ∈ l, (Lit.int .i64 n).wf = true :=
  open_rows (intE .i64) 1 _ Try.underlying33 (by kernel_rfl) (by omega) (fun n cs x h => by
    obtain ⟨a, e, _, hw⟩ := DataW.trod_int Try.underlying3 h
    exact ⟨a, e, hw⟩) h
set_option maxRecDepth 10000 in
theorem elem_note (n : Nat) (cs : List Value) (x : DataW H × List MemPlace) (h : DataW.trod enc Try.prog w base spare held n 44 cs = some x) : ∃ y : NoteX, cs = noteE y ∧ NoteOk w y := by
  obtain ⟨xs, m, _, _, hl, hxl, hf⟩ := DataW.trod_struct Try.underlying44 h
  have hl18 : cs.length = 18 := hl
  have hx8 : xs.length = 8 := hxl
  clear hl hxl
  match cs, hl18, xs, hx8 with
  | [c0, c1, c2, c3, c4, c5, c6, c7, c8, c9, c10, c11, c12, c13, c14, c15, c16, c17], _, [x0, x1, x2, x3, x4, x5, x6, x7], _ =>
    have h0 : DataW.trod enc Try.prog w base spare held m 3 [c0] = some x0 := hf 0 _ rfl
    have h1 : DataW.trod enc Try.prog w base spare held m 3 [c1] = some x1 := hf 1 _ rfl
    have h2 : DataW.trod enc Try.prog w base spare held m 29 [c2] = some x2 := hf 2 _ rfl
    have h3 : DataW.trod enc Try.prog w base spare held m 32 [c3, c4, c5] = some x3 := hf 3 _ rfl
    have h4 : DataW.trod enc Try.prog w base spare held m 33 [c6] = some x4 := hf 4 _ rfl
    have h5 : DataW.trod enc Try.prog w base spare held m 38 [c7, c8, c9, c10] = some x5 := hf 5 _ rfl
    have h6 : DataW.trod enc Try.prog w base spare held m 40 [c11, c12, c13] = some x6 := hf 6 _ rfl
    have h7 : DataW.trod enc Try.prog w base spare held m 42 [c14, c15, c16, c17] = some x7 := hf 7 _ rfl
    clear hf h
    obtain ⟨k, e0, _, _⟩ := DataW.trod_int Try.underlying3 h0
    obtain ⟨nn, e1, _, _⟩ := DataW.trod_int Try.underlying3 h1
    obtain ⟨t, e2, _, w2⟩ := DataW.trod_int Try.underlying29 h2
    obtain ⟨c, e3, hc⟩ := elem_conf _ _ _ h3
    obtain ⟨lg, lv, e4, hg, _⟩ := open_i64s h4
    obtain ⟨ys, m5, _, _, _, hyl, hf5⟩ := DataW.trod_struct Try.underlying38 h5
    have hy2 : ys.length = 2 := hyl
    clear hyl h5
    match ys, hy2 with
    | [y0, y1], _ =>
      have b0 : DataW.trod enc Try.prog w base spare held m5 36 [c7, c8, c9] = some y0 := hf5 0 _ rfl
      have b1 : DataW.trod enc Try.prog w base spare held m5 29 [c10] = some y1 := hf5 1 _ rfl
      clear hf5
      obtain ⟨ets, e10, _, w10⟩ := DataW.trod_int Try.underlying29 b1
      obtain ⟨_, m6, hf6⟩ := trod_fields Try.underlying36 (by kernel_rfl) (by kernel_rfl) b0
      obtain ⟨_, z0, f0, g0⟩ := hf6 0 _ rfl
      obtain ⟨_, z1, f1, g1⟩ := hf6 1 _ rfl
      obtain ⟨_, z2, f2, g2⟩ := hf6 2 _ rfl
      cases f0; cases f1; cases f2
      obtain ⟨ec, e7, _, _⟩ := DataW.trod_int Try.underlying3 g0
      obtain ⟨er, e8, _, _⟩ := DataW.trod_int Try.underlying3 g1
      obtain ⟨el, ev, e9, he, _⟩ := open_opsS g2
      obtain ⟨_, m7, hf7⟩ := trod_fields Try.underlying40 (by kernel_rfl) (by kernel_rfl) h6
      obtain ⟨_, z3, f3, g3⟩ := hf7 0 _ rfl
      obtain ⟨_, z4, f4, g4⟩ := hf7 1 _ rfl
      obtain ⟨_, z5, f5, g5⟩ := hf7 2 _ rfl
      cases f3; cases f4; cases f5
      obtain ⟨pid, e11, _, _⟩ := DataW.trod_int Try.underlying3 g3
      obtain ⟨pat, e12, _, w12⟩ := DataW.trod_int Try.underlying29 g4
      obtain ⟨plf, e13, _, _⟩ := DataW.trod_int Try.underlying3 g5
      obtain ⟨_, m8, hf8⟩ := trod_fields Try.underlying42 (by kernel_rfl) (by kernel_rfl) h7
      obtain ⟨_, z6, f6, g6⟩ := hf8 0 _ rfl
      obtain ⟨_, z7, f7, g7⟩ := hf8 1 _ rfl
      obtain ⟨_, z8, f8, g8⟩ := hf8 2 _ rfl
      obtain ⟨_, z9, f9, g9⟩ := hf8 3 _ rfl
      cases f6; cases f7; cases f8; cases f9
      obtain ⟨sc, e14, _, _⟩ := DataW.trod_int Try.underlying3 g6
      obtain ⟨sr, e15, _, _⟩ := DataW.trod_int Try.underlying3 g7
      obtain ⟨se, e16, _, _⟩ := DataW.trod_int Try.underlying27 g8
      obtain ⟨sp, e17, _, _⟩ := DataW.trod_int Try.underlying3 g9
      clear h0 h1 h2 h3 h4 h6 h7 hf6 hf7 hf8 g0 g1 g2 g3 g4 g5 g6 g7 g8 g9 b0 b1
      simp only [confE, List.cons.injEq, and_true] at e0 e1 e2 e3 e4 e7 e8 e9 e10 e11 e12 e13 e14 e15 e16 e17
      obtain ⟨rfl, rfl, rfl⟩ := e3
      subst e0 e1 e2 e4 e7 e8 e9 e10 e11 e12 e13 e14 e15 e16 e17
      exact ⟨⟨⟨k, nn, t, c.ep, c.ms, c.fl, lg, ec, er, el, ets, pid, pat, plf, sc, sr, se, sp⟩, c.mv, _, _⟩, rfl, ⟨hc.ms, hg, he, ⟨hc.each, ⟨hc.e0, hc.e1⟩, ⟨hc.f0, hc.f1⟩, wf_u64 w2, wf_u64 w10, wf_u64 w12⟩⟩⟩
end
end Go.Proofs.Ytnjbnndpbegkdaa

/- catenalaw28: lists of notes; the state's calls. Conditions: at most 900 trusted. -/
namespace Go.Proofs.Ytnjbnndpbegkdaa
open Go.RowKit Go.PlainAid
set_option linter.unusedVariables false
set_option linter.unusedSimpArgs false


instance : Inhabited NoteX := ⟨⟨zN 0, .slice none 0 0, .slice none 0 0, .slice none 0 0⟩⟩
theorem noteE_len (x : NoteX) : (noteE x).length = 18 := rfl
theorem NoteOk.below {w x : World} {y : NoteX} (h : NoteOk w y) (hb : Below w.heap.size w x) : NoteOk x y := ⟨h.hm.below hb, h.hg.below hb, h.he.below hb, h.hR⟩
theorem memE_ne (l : List MemT) : ∀ y ∈ l, memE y ≠ [] := fun y _ e => by cases e
theorem intE_ne (l : List Int) : ∀ y ∈ l, intE .i64 y ≠ [] := fun y _ e => by cases e
section
open Go.ChangeShapes Go.WideShapes Go.Deep
theorem open_notes {H : Type} {enc : TypeId × Value → H} {w : World} {base : Nat} {spare : Nat → Bool} {held : Bool} {fuel : Nat} {cs : List Value} {x : DataW H × List MemPlace} (h : DataW.trod enc Try.prog w base spare held fuel 22 cs = some x) :
    ∃ (l : List NoteX) (v : Value), cs = [v] ∧ SliceOf noteE 18 w v l ∧ ∀ p ∈ l, NoteOk w p :=
  open_rows noteE 18 (NoteOk w) Try.underlying22 (by kernel_rfl) (by omega) elem_note h
end

theorem sl_offM {α : Type} {enc : α → List Value} {sz : Nat} {w : World} {v : Value} {l : List α} (h : SliceOf enc sz w v l) (hne : ∀ y ∈ l, enc y ≠ []) {b : Nat} (hb : w.heap.size ≤ b) : l ≠ [] → ∀ k, v.ownBlock = some k → ¬ k = b := by
  obtain ⟨ao, cap, rfl, h1, h2, h3, h4⟩ := h
  intro hl k hk e
  subst e
  cases l with
  | nil => exact hl rfl
  | cons y r =>
    obtain ⟨bb, off, e2, hr⟩ := h4 0 (by simp)
    subst e2
    simp only [Value.ownBlock, Option.some.injEq] at hk
    subst hk
    cases he : enc y with
    | nil => exact hne y (List.mem_cons_self ..) he
    | cons u us =>
      have hc := hr 0 u (by simp [he])
      have : w.heap[bb]? = none := Array.getElem?_eq_none (by omega)
      simp [World.cell?, this] at hc
section
variable {w x : World} {b N : Nat} {s : MsT} {d : NoteD} {mv lv ev : Value}
theorem MsO.keep (h : MsO w b s) (hs : w.heap.size ≤ x.heap.size) (hk : ∀ i, i < w.heap.size → (i = b ∨ ∃ T sz k v xs, w.ownsRow 0 T sz v k xs ∧ v.ownBlock = some i ∧ (T = 102 ∨ T = 3 ∨ T = 40)) → x.heap[i]? = w.heap[i]?) : MsO x b s := by
  obtain ⟨cv, lgv, pv, h1, h2, h3, h4, h5⟩ := h
  exact ⟨cv, lgv, pv, (hk b h1.lt (.inl rfl)).trans h1, row_sameL h2 (fun i hi => hk i (h2.lt i hi).2 (.inr ⟨_, _, _, _, _, h2, hi, .inl rfl⟩)), row_sameL h3 (fun i hi => hk i (h3.lt i hi).2 (.inr ⟨_, _, _, _, _, h3, hi, .inr (.inl rfl)⟩)), row_sameL h4 (fun i hi => hk i (h4.lt i hi).2 (.inr ⟨_, _, _, _, _, h4, hi, .inr (.inr rfl)⟩)), h5⟩
theorem MsO.below (h : MsO w b s) (hb : Below w.heap.size w x) : MsO x b s := h.keep hb.size (fun i hi _ => hb.block i hi)
theorem MsO.new (h : MsO w b s) (hg : w.grownBy x none) : MsO x b s := h.keep hg.size (fun i hi _ => hg.block i hi (fun e => by cases e))
theorem MsO.at (h : MsO w b s) {T : TypeId} {cs : Array Value} (hN : Blk w N T cs) (hT : T ≠ 66 ∧ T ≠ 102 ∧ T ≠ 3 ∧ T ≠ 40) (hg : w.grownBy x (some N)) : MsO x b s :=
  h.keep hg.size (fun i hi hq => hg.block i hi (fun e => by
    cases e
    rcases hq with rfl | ⟨T', sz, k, v, xs, h1, h2, h3⟩
    · obtain ⟨_, _, _, h1, _⟩ := h
      unfold Blk at hN h1
      rw [hN] at h1; injection h1 with q; injection q with q1 q2
      exact hT.1 q2
    · have hne : T' ≠ T := by rcases h3 with rfl | rfl | rfl <;> first | exact Ne.symm hT.2.1 | exact Ne.symm hT.2.2.1 | exact Ne.symm hT.2.2.2
      exact own_neT h1 hN hne h2))
theorem moHor (h : MsO w b s) : Calls Try.prog 12 #[pt b 0] w fun e w' => e = .returned (.int .u64 s.hz) ∧ Below w.heap.size w w' := by
  obtain ⟨cv, lgv, pv, h1, h2, h3, h4, h5⟩ := h
  exact msHorizon_any b s.ep cv s.fl lgv s.hz pv s.tp s.x0 s.x1 s.x2 w h1
theorem moConf (h : MsO w b s) (hm : s.ms.length ≤ 20) : Calls Try.prog 13 #[pt b 0] w fun e w' => ∃ u, e = .returned (.agg #[.int .i64 s.ep, u, .int .u64 s.fl]) ∧ w'.ownsRow w.heap.size 102 2 u s.ms.length (s.ms.flatMap memE) ∧ Below w.heap.size w w' := by
  obtain ⟨cv, lgv, pv, h1, h2, h3, h4, h5⟩ := h
  exact msConf_any b s.ep cv s.fl lgv s.hz pv s.tp s.x0 s.x1 s.x2 s.ms w h1 h2 hm
theorem moPins (h : MsO w b s) : Calls Try.prog 14 #[pt b 0] w fun e w' => ∃ u, e = .returned u ∧ w'.ownsRow w.heap.size 40 3 u s.pn.length (s.pn.flatMap pinE) ∧ Below w.heap.size w w' := by
  obtain ⟨cv, lgv, pv, h1, h2, h3, h4, h5⟩ := h
  exact msPins_any b s.ep cv s.fl lgv s.hz pv s.pn s.tp s.x0 s.x1 s.x2 w h1 h4 h5
theorem moLegit (h : MsO w b s) (hl : s.lg.length ≤ 1000) : Calls Try.prog 16 #[pt b 0] w fun e w' => ∃ u, e = .returned u ∧ w'.ownsRow w.heap.size 3 1 u s.lg.length (s.lg.flatMap (intE .i64)) ∧ Below w.heap.size w w' := by
  obtain ⟨cv, lgv, pv, h1, h2, h3, h4, h5⟩ := h
  exact msLegit_any b s.ep cv s.fl lgv s.hz pv s.tp s.x0 s.x1 s.x2 s.lg w h1 h3 hl
theorem MsO.pn3 (h : MsO w b s) : s.pn.length ≤ 3 := by obtain ⟨_, _, _, _, _, _, _, h⟩ := h; exact h
end

set_option maxRecDepth 100000 in
theorem partsL_any (v : Value) (l : List NoteX) (w : World) (hs : SliceOf noteE 18 w v l) (hok : ∀ z ∈ l, NoteOk w z) :
    Calls Try.prog 5 #[v] w fun e w' => ∃ (r : Int), e = .returned (.int .i64 r) ∧ Below w.heap.size w w' := by
 have hB0 := Below.refl w.heap.size w
 have hl_hs := sl_len hs
 refine co_enter (n := 39) Try.func5 rfl rfl rfl [(0, v)] rfl (fun a h0 => ?_)
 refine co_seq ?_
 refine co_reg ?_
 refine pk0 (v := .int .i64 0) h0 rfl fun a1 h1 => ?_; clear h0
 refine pl_nil ?_
 refine co_then ?_
 refine co_seq ?_
 refine co_reg ?_
 refine pk0 (v := .int .i64 0) h1 rfl fun a2 h2 => ?_; clear h1
 refine pl_nil ?_
 refine co_then ?_
 refine co_seq ?_
 refine co_seq ?_
 refine co_reg ?_
 refine pk0 (v := .int .i64 0) h2 rfl fun a3 h3 => ?_; clear h2
 refine pl_nil ?_
 refine co_then ?_
 refine wp_block ?_
 have h4 : Slots 39 [(0, v), (3, .int .i64 0), (4, .int .i64 0)] _ := h3.sub ⟨rfl, rfl, rfl, trivial⟩; clear h3
 refine co_loop (fun mm a x => ∃ (i : Nat) (z : Int), Slots 39 [(0, v), (3, .int .i64 z), (4, .int .i64 ((i : Nat) : Int))] a ∧ mm = l.length - i ∧ (i ≤ l.length) ∧ (i ≤ 60) ∧ Below w.heap.size w x) (l.length - 0) ?_ ?_
 · exact ⟨0, 0, h4.sub ⟨rfl, rfl, (slot_eq rfl (congrArg (Value.int .i64) (by first | rfl | omega))), trivial⟩, rfl, by omega, by omega, hB0⟩
 · rintro k5 a6 w7 ⟨i, z, h6, rfl, hi8, hi9, hB10⟩
   have hz11 := hB10.size
   refine co_seq ?_
   refine co_seq ?_
   refine co_reg ?_
   refine pk0 (v := .int .i64 ((i : Nat) : Int)) h6 rfl fun a12 h12 => ?_; clear h6
   refine pk0 (v := v) h12 rfl fun a13 h13 => ?_; clear h12
   refine pk (v := .int .i64 ((l.length : Nat) : Int)) h13 rfl (rn_len rfl rfl Try.underlying22 (hs.below hB10)) fun a14 h14 => ?_; clear h13
   refine pk0 (v := .bool (decide (((i : Nat) : Int) < ((l.length : Nat) : Int)))) h14 rfl fun a15 h15 => ?_; clear h14
   refine pk0 (v := .bool (decide (((i : Nat) : Int) < ((l.length : Nat) : Int)))) h15 rfl fun a16 h16 => ?_; clear h15
   cases hc17 : (decide (((i : Nat) : Int) < ((l.length : Nat) : Int)))
   ·
    rw [hc17] at h16
    have hp18 : ¬ (((i : Nat) : Int) < ((l.length : Nat) : Int)) := of_decide_eq_false hc17
    clear hc17
    refine psk h16 rfl fun a19 h19 => ?_; clear h16
    refine psk h19 rfl fun a20 h20 => ?_; clear h19
    refine pk0 (v := .bool false) h20 rfl fun a21 h21 => ?_; clear h20
    refine pl_nil ?_
    refine co_then ?_
    refine co_false h21 rfl ?_
    refine wp_exit ?_
    refine co_thenX ?_
    refine co_thenX ?_
    refine co_blockX ?_
    refine co_then ?_
    refine co_seq ?_
    refine co_reg ?_
    refine pk0 (v := .int .i64 z) h21 rfl fun a22 h22 => ?_; clear h21
    refine pk0 (v := .int .i64 z) h22 rfl fun a23 h23 => ?_; clear h22
    refine pl_nil ?_
    refine co_then ?_
    refine wp_ret ?_
    refine co_ret1 h23 rfl rfl ?_
    exact ⟨_, rfl, hB10⟩
   ·
    rw [hc17] at h16
    have hp24 : ((i : Nat) : Int) < ((l.length : Nat) : Int) := of_decide_eq_true hc17
    clear hc17
    refine pk0 (v := .int .i64 ((i : Nat) : Int)) h16 rfl fun a25 h25 => ?_; clear h16
    refine pk0 (v := .bool (decide (((i : Nat) : Int) < 60))) h25 rfl fun a26 h26 => ?_; clear h25
    refine pk0 (v := .bool (decide (((i : Nat) : Int) < 60))) h26 rfl fun a27 h27 => ?_; clear h26
    refine pl_nil ?_
    refine co_then ?_
    cases hc28 : (decide (((i : Nat) : Int) < 60))
    ·
     rw [hc28] at h27
     have hp29 : ¬ (((i : Nat) : Int) < 60) := of_decide_eq_false hc28
     clear hc28
     refine co_false h27 rfl ?_
     refine wp_exit ?_
     refine co_thenX ?_
     refine co_thenX ?_
     refine co_blockX ?_
     refine co_then ?_
     refine co_seq ?_
     refine co_reg ?_
     refine pk0 (v := .int .i64 z) h27 rfl fun a30 h30 => ?_; clear h27
     refine pk0 (v := .int .i64 z) h30 rfl fun a31 h31 => ?_; clear h30
     refine pl_nil ?_
     refine co_then ?_
     refine wp_ret ?_
     refine co_ret1 h31 rfl rfl ?_
     exact ⟨_, rfl, hB10⟩
    ·
     rw [hc28] at h27
     have hp32 : ((i : Nat) : Int) < 60 := of_decide_eq_true hc28
     clear hc28
     refine co_true h27 rfl ?_
     refine wp_skip ?_
     refine co_then ?_
     refine co_seq ?_
     refine wp_block ?_
     refine dr_eq (by kernel_rfl) (fun w33 hg34 => ?_)
     have hz35 := hg34.size
     refine dk0 0 (v := .int .i64 z) h27 rfl rfl rfl fun a36 h36 => ?_; clear h27
     refine dk0 1 (v := v) h36 rfl rfl rfl fun a37 h37 => ?_; clear h36
     refine dk0 2 (v := .int .i64 ((i : Nat) : Int)) h37 rfl rfl rfl fun a38 h38 => ?_; clear h37
     have hB40 := hb_new hB10 hg34
     obtain ⟨y39, hy39⟩ : ∃ z, l[i]? = some z := ⟨_, List.getElem?_eq_getElem (by first | omega | (simp; done) | (simp; omega))⟩
     have oky39 := hok _ (List.mem_of_getElem? hy39)
     refine dk 3 (v := pt (blkOf v) (offOf v + i * 18)) h38 rfl rfl rfl (fun x hx => by subst hx; exact (rn_index rfl rfl rfl Try.underlying22 Try.sizeOf44 (hs.below hB40) (by omega) (by first | omega | (simp; done) | (simp; omega)))) fun a41 h41 => ?_; clear h38
     refine dk0 4 (v := pt (blkOf v) (offOf v + i * 18 + 3)) h41 rfl rfl rfl fun a42 h42 => ?_; clear h41
     refine dk0 5 (v := pt (blkOf v) (offOf v + i * 18 + 3 + 1)) h42 rfl rfl rfl fun a43 h43 => ?_; clear h42
     refine dk 6 (v := y39.mv) h43 rfl rfl rfl (fun x hx => by subst hx; exact (rn_load1 rfl rfl Try.isAgg30 ((sl_at (hs.below hB40) hy39) 4 _ rfl))) fun a44 h44 => ?_; clear h43
     refine dk 7 (v := .int .i64 ((y39.d.ms.length : Nat) : Int)) h44 rfl rfl rfl (fun x hx => by subst hx; exact (rn_len rfl rfl Try.underlying30 (oky39.hm.below hB40))) fun a45 h45 => ?_; clear h44
     refine dk0 8 (v := v) h45 rfl rfl rfl fun a46 h46 => ?_; clear h45
     refine dk0 9 (v := .int .i64 ((i : Nat) : Int)) h46 rfl rfl rfl fun a47 h47 => ?_; clear h46
     refine dk 10 (v := pt (blkOf v) (offOf v + i * 18)) h47 rfl rfl rfl (fun x hx => by subst hx; exact (rn_index rfl rfl rfl Try.underlying22 Try.sizeOf44 (hs.below hB40) (by omega) (by first | omega | (simp; done) | (simp; omega)))) fun a48 h48 => ?_; clear h47
     refine dk0 11 (v := pt (blkOf v) (offOf v + i * 18 + 6)) h48 rfl rfl rfl fun a49 h49 => ?_; clear h48
     refine dk 12 (v := y39.lv) h49 rfl rfl rfl (fun x hx => by subst hx; exact (rn_load1 rfl rfl Try.isAgg33 ((sl_at (hs.below hB40) hy39) 6 _ rfl))) fun a50 h50 => ?_; clear h49
     refine dk 13 (v := .int .i64 ((y39.d.lg.length : Nat) : Int)) h50 rfl rfl rfl (fun x hx => by subst hx; exact (rn_len rfl rfl Try.underlying33 (oky39.hg.below hB40))) fun a51 h51 => ?_; clear h50
     refine dk0 14 (v := v) h51 rfl rfl rfl fun a52 h52 => ?_; clear h51
     refine dk0 15 (v := .int .i64 ((i : Nat) : Int)) h52 rfl rfl rfl fun a53 h53 => ?_; clear h52
     refine dk 16 (v := pt (blkOf v) (offOf v + i * 18)) h53 rfl rfl rfl (fun x hx => by subst hx; exact (rn_index rfl rfl rfl Try.underlying22 Try.sizeOf44 (hs.below hB40) (by omega) (by first | omega | (simp; done) | (simp; omega)))) fun a54 h54 => ?_; clear h53
     refine dk0 17 (v := pt (blkOf v) (offOf v + i * 18 + 7)) h54 rfl rfl rfl fun a55 h55 => ?_; clear h54
     refine dk0 18 (v := pt (blkOf v) (offOf v + i * 18 + 7)) h55 rfl rfl rfl fun a56 h56 => ?_; clear h55
     refine dk0 19 (v := pt (blkOf v) (offOf v + i * 18 + 7 + 2)) h56 rfl rfl rfl fun a57 h57 => ?_; clear h56
     refine dk 20 (v := y39.ev) h57 rfl rfl rfl (fun x hx => by subst hx; exact (rn_load1 rfl rfl Try.isAgg34 ((sl_at (hs.below hB40) hy39) 9 _ rfl))) fun a58 h58 => ?_; clear h57
     refine dk 21 (v := .int .i64 ((y39.d.el.length : Nat) : Int)) h58 rfl rfl rfl (fun x hx => by subst hx; exact (rn_len rfl rfl Try.underlying34 (oky39.he.below hB40))) fun a59 h59 => ?_; clear h58
     have hmm60 := mxI_p z ((y39.d.ms.length : Nat) : Int)
     have hmm61 := mxI_p (mxI z ((y39.d.ms.length : Nat) : Int)) ((y39.d.lg.length : Nat) : Int)
     have hmm62 := mxI_p (mxI (mxI z ((y39.d.ms.length : Nat) : Int)) ((y39.d.lg.length : Nat) : Int)) ((y39.d.el.length : Nat) : Int)
     refine dk0 22 (v := .int .i64 (mxI (mxI (mxI z ((y39.d.ms.length : Nat) : Int)) ((y39.d.lg.length : Nat) : Int)) ((y39.d.el.length : Nat) : Int))) h59 rfl rfl rfl fun a63 h63 => ?_; clear h59
     refine dk0 23 (v := .int .i64 (mxI (mxI (mxI z ((y39.d.ms.length : Nat) : Int)) ((y39.d.lg.length : Nat) : Int)) ((y39.d.el.length : Nat) : Int))) h63 rfl rfl rfl fun a64 h64 => ?_; clear h63
     refine dr_done (by kernel_rfl) ?_
     refine co_blockN ?_
     refine co_then ?_
     refine co_reg ?_
     refine pk0 (v := .int .i64 ((i : Nat) : Int)) h64 rfl fun a65 h65 => ?_; clear h64
     refine pk (v := .int .i64 ((i + 1 : Nat) : Int)) h65 rfl (rn_arith' rfl rfl rfl rfl rfl rfl (IntWalk.i64_in _ (by omega)) (by omega)) fun a66 h66 => ?_; clear h65
     refine pk0 (v := .int .i64 ((i + 1 : Nat) : Int)) h66 rfl fun a67 h67 => ?_; clear h66
     refine pl_nil ?_
     refine co_then ?_
     refine ⟨(l.length - (i + 1)), by omega, ?_⟩
     exact ⟨i + 1, (mxI (mxI (mxI z ((y39.d.ms.length : Nat) : Int)) ((y39.d.lg.length : Nat) : Int)) ((y39.d.el.length : Nat) : Int)), h67.sub ⟨rfl, rfl, rfl, trivial⟩, rfl, by omega, by omega, hB40⟩
end Go.Proofs.Ytnjbnndpbegkdaa

/- catenalaw28: Said of both, SameInts of what is the same, ContainsFunc of pins. Conditions: none. -/
namespace Go.Proofs.Ytnjbnndpbegkdaa
open Go.RowKit Go.PlainAid
set_option linter.unusedVariables false
set_option linter.unusedSimpArgs false


theorem anyP_at {l : List PinT} {i : Nat} {n : Int} {y : PinT} (h : l[i]? = some y) (e : y.1 = n) : true = l.any (fun p => p.1 == n) := by
  symm; rw [List.any_eq_true]; exact ⟨y, List.mem_of_getElem? h, by simpa using e⟩
theorem anyP_end {l : List PinT} {i : Nat} {n : Int} (hb : ∀ j, j < i → ∀ z, l[j]? = some z → z.1 ≠ n) (hi : l.length ≤ i) : false = l.any (fun p => p.1 == n) := by
  symm; rw [Bool.eq_false_iff]; rw [ne_eq, List.any_eq_true]
  rintro ⟨y, hy, e⟩
  obtain ⟨j, hj, e2⟩ := List.getElem_of_mem hy
  exact hb j (by omega) _ (List.getElem?_eq_getElem hj) (by rw [e2]; simpa using e)
theorem anyP_next {l : List PinT} {i : Nat} {n : Int} {y : PinT} (hb : ∀ j, j < i → ∀ z, l[j]? = some z → z.1 ≠ n) (h : l[i]? = some y) (e : ¬ y.1 = n) : ∀ j, j < i + 1 → ∀ z, l[j]? = some z → z.1 ≠ n := by
  intro j hj z hz
  by_cases e' : j = i
  · subst e'; rw [h] at hz; cases hz; exact e
  · exact hb j (by omega) z hz

set_option maxRecDepth 100000 in
theorem msSaid0 (b : Nat) (ep : Int) (cv : Value) (fl : Int) (lgv : Value) (hz : Int) (pv : Value) (tp : Int) (x0 : SdT) (x1 : SdT) (x2 : SdT) (w : World) (hb : Blk w b 66 #[.bool true, .int .i64 ep, cv, .int .u64 fl, lgv, .int .u64 hz, pv, .int .i64 tp, .bool x0.1, .int .i64 x0.2.1, .int .i64 x0.2.2.1, .int .i64 x0.2.2.2.1, .int .i64 x0.2.2.2.2, .bool x1.1, .int .i64 x1.2.1, .int .i64 x1.2.2.1, .int .i64 x1.2.2.2.1, .int .i64 x1.2.2.2.2, .bool x2.1, .int .i64 x2.2.1, .int .i64 x2.2.2.1, .int .i64 x2.2.2.2.1, .int .i64 x2.2.2.2.2]) :
    Calls Try.prog 35 #[pt b 0, .int .i64 0] w fun e w' => e = .returned (.agg #[.int .i64 x0.2.1, .int .i64 x0.2.2.1, .int .i64 x0.2.2.2.1, .int .i64 x0.2.2.2.2]) ∧ Below w.heap.size w w' := by
 have hB0 := Below.refl w.heap.size w
 have hl_hb := hb.lt
 refine co_enter (n := 23) Try.func35 rfl rfl rfl [(0, pt b 0), (1, .int .i64 0)] rfl (fun a h0 => ?_)
 refine co_seq ?_
 refine co_reg ?_
 refine pw h0 rfl (op_new (v := fun N => pt N 0) (T := 42) (cs := #[.int .i64 0, .int .i64 0, .int .i64 0, .int .i64 0]) (by kernel_rfl) (by kernel_rfl) (by kernel_rfl)) ?_; clear h0
 rintro _ w2 a1 ⟨N3, rfl, hN6, hz7, hk5, hg4⟩ h1
 have hz8 := hg4.size
 try dsimp only at h1
 refine pl_nil ?_
 refine co_then ?_
 refine co_seq ?_
 refine co_seq ?_
 refine co_reg ?_
 refine pk0 (v := pt b 0) h1 rfl fun a9 h9 => ?_; clear h1
 have hk12 := hb.kept hg4 (by simp)
 refine pw h9 rfl (op_call (args := #[pt b 0]) (R := fun res xw => res = .bool false ∧ Below w2.heap.size w2 xw) rfl rfl rfl (by kernel_rfl) (by kernel_rfl) (Try.call19 _ _) (mszeroT b ep cv fl lgv hz pv tp x0 x1 x2 w2 hk12) (by rintro e x ⟨rfl, hb13⟩; exact ⟨_, rfl, ⟨rfl, hb13⟩⟩)) ?_; clear h9
 rintro _ w11 a10 ⟨rfl, hb13⟩ h10
 have hz14 := hb13.size
 refine pk0 (v := .bool false) h10 rfl fun a15 h15 => ?_; clear h10
 refine pk0 (v := .int .i64 0) h15 rfl fun a16 h16 => ?_; clear h15
 refine pk0 (v := .bool (decide (0 < 0))) h16 rfl fun a17 h17 => ?_; clear h16
 refine pk0 (v := .bool (decide (0 < 0))) h17 rfl fun a18 h18 => ?_; clear h17
 refine pk0 (v := .bool (decide (0 < 0))) h18 rfl fun a19 h19 => ?_; clear h18
 have hc20 : (decide (0 < 0)) = false := decide_eq_false (by omega)
 rw [hc20] at h19; clear hc20
 refine pk0 (v := .int .i64 0) h19 rfl fun a21 h21 => ?_; clear h19
 refine pk0 (v := .bool (decide (0 ≥ 3))) h21 rfl fun a22 h22 => ?_; clear h21
 refine pk0 (v := .bool (decide (0 ≥ 3))) h22 rfl fun a23 h23 => ?_; clear h22
 refine pl_nil ?_
 refine co_then ?_
 have hc24 : (decide (0 ≥ 3)) = false := decide_eq_false (by omega)
 rw [hc24] at h23; clear hc24
 refine co_false h23 rfl ?_
 refine wp_skip ?_
 refine co_then ?_
 refine co_seq ?_
 refine co_reg ?_
 refine pk0 (v := pt b 0) h23 rfl fun a25 h25 => ?_; clear h23
 refine pk0 (v := .int .i64 0) h25 rfl fun a26 h26 => ?_; clear h25
 refine pk0 (v := pt b 0) h26 rfl fun a27 h27 => ?_; clear h26
 refine pk0 (v := pt b 8) h27 rfl fun a28 h28 => ?_; clear h27
 refine pk0 (v := pt b 8) h28 rfl fun a29 h29 => ?_; clear h28
 refine pk0 (v := pt b 9) h29 rfl fun a30 h30 => ?_; clear h29
 have hk31 := hk12.below hb13
 refine pk (v := .agg #[.int .i64 x0.2.1, .int .i64 x0.2.2.1, .int .i64 x0.2.2.2.1, .int .i64 x0.2.2.2.2]) h30 rfl (rn_loadN rfl rfl Try.underlying42 rfl (by kernel_rfl) (blk_part hk31 9 (by rfl))) fun a32 h32 => ?_; clear h30
 have hk38 := hk5.below hb13
 refine pwD h32 rfl (op_storeN rfl rfl rfl (by kernel_rfl) (by kernel_rfl) hk38 rfl) ?_; clear h32
 rintro _ w34 a33 ⟨hk35, hz36, hg37⟩ h33
 have hk35' : Blk w34 N3 42 #[.int .i64 x0.2.1, .int .i64 x0.2.2.1, .int .i64 x0.2.2.2.1, .int .i64 x0.2.2.2.2] := hk35; clear hk35
 have hz39 := hg37.size
 refine pl_nil ?_
 refine co_then ?_
 refine wp_ret ?_
 refine co_retC (Q := fun _ _ _ => True) h33 rfl rfl hk35' Try.underlying42 rfl (by kernel_rfl) ?_
 have hB40 := hb_new hB0 hg4
 have hB41 := hb_call hB40 hb13
 have hB42 := hb_at hB41 hg37 (by omega)
 exact ⟨rfl, hB42⟩
set_option maxRecDepth 100000 in
theorem msSaid1 (b : Nat) (ep : Int) (cv : Value) (fl : Int) (lgv : Value) (hz : Int) (pv : Value) (tp : Int) (x0 : SdT) (x1 : SdT) (x2 : SdT) (w : World) (hb : Blk w b 66 #[.bool true, .int .i64 ep, cv, .int .u64 fl, lgv, .int .u64 hz, pv, .int .i64 tp, .bool x0.1, .int .i64 x0.2.1, .int .i64 x0.2.2.1, .int .i64 x0.2.2.2.1, .int .i64 x0.2.2.2.2, .bool x1.1, .int .i64 x1.2.1, .int .i64 x1.2.2.1, .int .i64 x1.2.2.2.1, .int .i64 x1.2.2.2.2, .bool x2.1, .int .i64 x2.2.1, .int .i64 x2.2.2.1, .int .i64 x2.2.2.2.1, .int .i64 x2.2.2.2.2]) :
    Calls Try.prog 35 #[pt b 0, .int .i64 1] w fun e w' => e = .returned (.agg #[.int .i64 x1.2.1, .int .i64 x1.2.2.1, .int .i64 x1.2.2.2.1, .int .i64 x1.2.2.2.2]) ∧ Below w.heap.size w w' := by
 have hB0 := Below.refl w.heap.size w
 have hl_hb := hb.lt
 refine co_enter (n := 23) Try.func35 rfl rfl rfl [(0, pt b 0), (1, .int .i64 1)] rfl (fun a h0 => ?_)
 refine co_seq ?_
 refine co_reg ?_
 refine pw h0 rfl (op_new (v := fun N => pt N 0) (T := 42) (cs := #[.int .i64 0, .int .i64 0, .int .i64 0, .int .i64 0]) (by kernel_rfl) (by kernel_rfl) (by kernel_rfl)) ?_; clear h0
 rintro _ w2 a1 ⟨N3, rfl, hN6, hz7, hk5, hg4⟩ h1
 have hz8 := hg4.size
 try dsimp only at h1
 refine pl_nil ?_
 refine co_then ?_
 refine co_seq ?_
 refine co_seq ?_
 refine co_reg ?_
 refine pk0 (v := pt b 0) h1 rfl fun a9 h9 => ?_; clear h1
 have hk12 := hb.kept hg4 (by simp)
 refine pw h9 rfl (op_call (args := #[pt b 0]) (R := fun res xw => res = .bool false ∧ Below w2.heap.size w2 xw) rfl rfl rfl (by kernel_rfl) (by kernel_rfl) (Try.call19 _ _) (mszeroT b ep cv fl lgv hz pv tp x0 x1 x2 w2 hk12) (by rintro e x ⟨rfl, hb13⟩; exact ⟨_, rfl, ⟨rfl, hb13⟩⟩)) ?_; clear h9
 rintro _ w11 a10 ⟨rfl, hb13⟩ h10
 have hz14 := hb13.size
 refine pk0 (v := .bool false) h10 rfl fun a15 h15 => ?_; clear h10
 refine pk0 (v := .int .i64 1) h15 rfl fun a16 h16 => ?_; clear h15
 refine pk0 (v := .bool (decide (1 < 0))) h16 rfl fun a17 h17 => ?_; clear h16
 refine pk0 (v := .bool (decide (1 < 0))) h17 rfl fun a18 h18 => ?_; clear h17
 refine pk0 (v := .bool (decide (1 < 0))) h18 rfl fun a19 h19 => ?_; clear h18
 have hc20 : (decide (1 < 0)) = false := decide_eq_false (by omega)
 rw [hc20] at h19; clear hc20
 refine pk0 (v := .int .i64 1) h19 rfl fun a21 h21 => ?_; clear h19
 refine pk0 (v := .bool (decide (1 ≥ 3))) h21 rfl fun a22 h22 => ?_; clear h21
 refine pk0 (v := .bool (decide (1 ≥ 3))) h22 rfl fun a23 h23 => ?_; clear h22
 refine pl_nil ?_
 refine co_then ?_
 have hc24 : (decide (1 ≥ 3)) = false := decide_eq_false (by omega)
 rw [hc24] at h23; clear hc24
 refine co_false h23 rfl ?_
 refine wp_skip ?_
 refine co_then ?_
 refine co_seq ?_
 refine co_reg ?_
 refine pk0 (v := pt b 0) h23 rfl fun a25 h25 => ?_; clear h23
 refine pk0 (v := .int .i64 1) h25 rfl fun a26 h26 => ?_; clear h25
 refine pk0 (v := pt b 0) h26 rfl fun a27 h27 => ?_; clear h26
 refine pk0 (v := pt b 8) h27 rfl fun a28 h28 => ?_; clear h27
 refine pk0 (v := pt b 13) h28 rfl fun a29 h29 => ?_; clear h28
 refine pk0 (v := pt b 14) h29 rfl fun a30 h30 => ?_; clear h29
 have hk31 := hk12.below hb13
 refine pk (v := .agg #[.int .i64 x1.2.1, .int .i64 x1.2.2.1, .int .i64 x1.2.2.2.1, .int .i64 x1.2.2.2.2]) h30 rfl (rn_loadN rfl rfl Try.underlying42 rfl (by kernel_rfl) (blk_part hk31 14 (by rfl))) fun a32 h32 => ?_; clear h30
 have hk38 := hk5.below hb13
 refine pwD h32 rfl (op_storeN rfl rfl rfl (by kernel_rfl) (by kernel_rfl) hk38 rfl) ?_; clear h32
 rintro _ w34 a33 ⟨hk35, hz36, hg37⟩ h33
 have hk35' : Blk w34 N3 42 #[.int .i64 x1.2.1, .int .i64 x1.2.2.1, .int .i64 x1.2.2.2.1, .int .i64 x1.2.2.2.2] := hk35; clear hk35
 have hz39 := hg37.size
 refine pl_nil ?_
 refine co_then ?_
 refine wp_ret ?_
 refine co_retC (Q := fun _ _ _ => True) h33 rfl rfl hk35' Try.underlying42 rfl (by kernel_rfl) ?_
 have hB40 := hb_new hB0 hg4
 have hB41 := hb_call hB40 hb13
 have hB42 := hb_at hB41 hg37 (by omega)
 exact ⟨rfl, hB42⟩
set_option maxRecDepth 100000 in
theorem msSaid2 (b : Nat) (ep : Int) (cv : Value) (fl : Int) (lgv : Value) (hz : Int) (pv : Value) (tp : Int) (x0 : SdT) (x1 : SdT) (x2 : SdT) (w : World) (hb : Blk w b 66 #[.bool true, .int .i64 ep, cv, .int .u64 fl, lgv, .int .u64 hz, pv, .int .i64 tp, .bool x0.1, .int .i64 x0.2.1, .int .i64 x0.2.2.1, .int .i64 x0.2.2.2.1, .int .i64 x0.2.2.2.2, .bool x1.1, .int .i64 x1.2.1, .int .i64 x1.2.2.1, .int .i64 x1.2.2.2.1, .int .i64 x1.2.2.2.2, .bool x2.1, .int .i64 x2.2.1, .int .i64 x2.2.2.1, .int .i64 x2.2.2.2.1, .int .i64 x2.2.2.2.2]) :
    Calls Try.prog 35 #[pt b 0, .int .i64 2] w fun e w' => e = .returned (.agg #[.int .i64 x2.2.1, .int .i64 x2.2.2.1, .int .i64 x2.2.2.2.1, .int .i64 x2.2.2.2.2]) ∧ Below w.heap.size w w' := by
 have hB0 := Below.refl w.heap.size w
 have hl_hb := hb.lt
 refine co_enter (n := 23) Try.func35 rfl rfl rfl [(0, pt b 0), (1, .int .i64 2)] rfl (fun a h0 => ?_)
 refine co_seq ?_
 refine co_reg ?_
 refine pw h0 rfl (op_new (v := fun N => pt N 0) (T := 42) (cs := #[.int .i64 0, .int .i64 0, .int .i64 0, .int .i64 0]) (by kernel_rfl) (by kernel_rfl) (by kernel_rfl)) ?_; clear h0
 rintro _ w2 a1 ⟨N3, rfl, hN6, hz7, hk5, hg4⟩ h1
 have hz8 := hg4.size
 try dsimp only at h1
 refine pl_nil ?_
 refine co_then ?_
 refine co_seq ?_
 refine co_seq ?_
 refine co_reg ?_
 refine pk0 (v := pt b 0) h1 rfl fun a9 h9 => ?_; clear h1
 have hk12 := hb.kept hg4 (by simp)
 refine pw h9 rfl (op_call (args := #[pt b 0]) (R := fun res xw => res = .bool false ∧ Below w2.heap.size w2 xw) rfl rfl rfl (by kernel_rfl) (by kernel_rfl) (Try.call19 _ _) (mszeroT b ep cv fl lgv hz pv tp x0 x1 x2 w2 hk12) (by rintro e x ⟨rfl, hb13⟩; exact ⟨_, rfl, ⟨rfl, hb13⟩⟩)) ?_; clear h9
 rintro _ w11 a10 ⟨rfl, hb13⟩ h10
 have hz14 := hb13.size
 refine pk0 (v := .bool false) h10 rfl fun a15 h15 => ?_; clear h10
 refine pk0 (v := .int .i64 2) h15 rfl fun a16 h16 => ?_; clear h15
 refine pk0 (v := .bool (decide (2 < 0))) h16 rfl fun a17 h17 => ?_; clear h16
 refine pk0 (v := .bool (decide (2 < 0))) h17 rfl fun a18 h18 => ?_; clear h17
 refine pk0 (v := .bool (decide (2 < 0))) h18 rfl fun a19 h19 => ?_; clear h18
 have hc20 : (decide (2 < 0)) = false := decide_eq_false (by omega)
 rw [hc20] at h19; clear hc20
 refine pk0 (v := .int .i64 2) h19 rfl fun a21 h21 => ?_; clear h19
 refine pk0 (v := .bool (decide (2 ≥ 3))) h21 rfl fun a22 h22 => ?_; clear h21
 refine pk0 (v := .bool (decide (2 ≥ 3))) h22 rfl fun a23 h23 => ?_; clear h22
 refine pl_nil ?_
 refine co_then ?_
 have hc24 : (decide (2 ≥ 3)) = false := decide_eq_false (by omega)
 rw [hc24] at h23; clear hc24
 refine co_false h23 rfl ?_
 refine wp_skip ?_
 refine co_then ?_
 refine co_seq ?_
 refine co_reg ?_
 refine pk0 (v := pt b 0) h23 rfl fun a25 h25 => ?_; clear h23
 refine pk0 (v := .int .i64 2) h25 rfl fun a26 h26 => ?_; clear h25
 refine pk0 (v := pt b 0) h26 rfl fun a27 h27 => ?_; clear h26
 refine pk0 (v := pt b 8) h27 rfl fun a28 h28 => ?_; clear h27
 refine pk0 (v := pt b 18) h28 rfl fun a29 h29 => ?_; clear h28
 refine pk0 (v := pt b 19) h29 rfl fun a30 h30 => ?_; clear h29
 have hk31 := hk12.below hb13
 refine pk (v := .agg #[.int .i64 x2.2.1, .int .i64 x2.2.2.1, .int .i64 x2.2.2.2.1, .int .i64 x2.2.2.2.2]) h30 rfl (rn_loadN rfl rfl Try.underlying42 rfl (by kernel_rfl) (blk_part hk31 19 (by rfl))) fun a32 h32 => ?_; clear h30
 have hk38 := hk5.below hb13
 refine pwD h32 rfl (op_storeN rfl rfl rfl (by kernel_rfl) (by kernel_rfl) hk38 rfl) ?_; clear h32
 rintro _ w34 a33 ⟨hk35, hz36, hg37⟩ h33
 have hk35' : Blk w34 N3 42 #[.int .i64 x2.2.1, .int .i64 x2.2.2.1, .int .i64 x2.2.2.2.1, .int .i64 x2.2.2.2.2] := hk35; clear hk35
 have hz39 := hg37.size
 refine pl_nil ?_
 refine co_then ?_
 refine wp_ret ?_
 refine co_retC (Q := fun _ _ _ => True) h33 rfl rfl hk35' Try.underlying42 rfl (by kernel_rfl) ?_
 have hB40 := hb_new hB0 hg4
 have hB41 := hb_call hB40 hb13
 have hB42 := hb_at hB41 hg37 (by omega)
 exact ⟨rfl, hB42⟩
set_option maxRecDepth 100000 in
theorem msSaidX (b : Nat) (ep : Int) (cv : Value) (fl : Int) (lgv : Value) (hz : Int) (pv : Value) (tp : Int) (x0 : SdT) (x1 : SdT) (x2 : SdT) (c : Int) (w : World) (hb : Blk w b 66 #[.bool true, .int .i64 ep, cv, .int .u64 fl, lgv, .int .u64 hz, pv, .int .i64 tp, .bool x0.1, .int .i64 x0.2.1, .int .i64 x0.2.2.1, .int .i64 x0.2.2.2.1, .int .i64 x0.2.2.2.2, .bool x1.1, .int .i64 x1.2.1, .int .i64 x1.2.2.1, .int .i64 x1.2.2.2.1, .int .i64 x1.2.2.2.2, .bool x2.1, .int .i64 x2.2.1, .int .i64 x2.2.2.1, .int .i64 x2.2.2.2.1, .int .i64 x2.2.2.2.2]) (hc : c < 0 ∨ c ≥ 3) :
    Calls Try.prog 35 #[pt b 0, .int .i64 c] w fun e w' => e = .returned (.agg #[.int .i64 0, .int .i64 0, .int .i64 0, .int .i64 0]) ∧ Below w.heap.size w w' := by
 have hB0 := Below.refl w.heap.size w
 have hl_hb := hb.lt
 refine co_enter (n := 23) Try.func35 rfl rfl rfl [(0, pt b 0), (1, .int .i64 c)] rfl (fun a h0 => ?_)
 refine co_seq ?_
 refine co_reg ?_
 refine pw h0 rfl (op_new (v := fun N => pt N 0) (T := 42) (cs := #[.int .i64 0, .int .i64 0, .int .i64 0, .int .i64 0]) (by kernel_rfl) (by kernel_rfl) (by kernel_rfl)) ?_; clear h0
 rintro _ w2 a1 ⟨N3, rfl, hN6, hz7, hk5, hg4⟩ h1
 have hz8 := hg4.size
 try dsimp only at h1
 refine pl_nil ?_
 refine co_then ?_
 refine co_seq ?_
 refine co_seq ?_
 refine co_reg ?_
 refine pk0 (v := pt b 0) h1 rfl fun a9 h9 => ?_; clear h1
 have hk12 := hb.kept hg4 (by simp)
 refine pw h9 rfl (op_call (args := #[pt b 0]) (R := fun res xw => res = .bool false ∧ Below w2.heap.size w2 xw) rfl rfl rfl (by kernel_rfl) (by kernel_rfl) (Try.call19 _ _) (mszeroT b ep cv fl lgv hz pv tp x0 x1 x2 w2 hk12) (by rintro e x ⟨rfl, hb13⟩; exact ⟨_, rfl, ⟨rfl, hb13⟩⟩)) ?_; clear h9
 rintro _ w11 a10 ⟨rfl, hb13⟩ h10
 have hz14 := hb13.size
 refine pk0 (v := .bool false) h10 rfl fun a15 h15 => ?_; clear h10
 refine pk0 (v := .int .i64 c) h15 rfl fun a16 h16 => ?_; clear h15
 refine pk0 (v := .bool (decide (c < 0))) h16 rfl fun a17 h17 => ?_; clear h16
 refine pk0 (v := .bool (decide (c < 0))) h17 rfl fun a18 h18 => ?_; clear h17
 refine pk0 (v := .bool (decide (c < 0))) h18 rfl fun a19 h19 => ?_; clear h18
 have hB21 := hb_new hB0 hg4
 have hB22 := hb_call hB21 hb13
 cases hc20 : (decide (c < 0))
 ·
  rw [hc20] at h19
  have hp23 : ¬ (c < 0) := of_decide_eq_false hc20
  clear hc20
  refine pk0 (v := .int .i64 c) h19 rfl fun a24 h24 => ?_; clear h19
  refine pk0 (v := .bool (decide (c ≥ 3))) h24 rfl fun a25 h25 => ?_; clear h24
  refine pk0 (v := .bool (decide (c ≥ 3))) h25 rfl fun a26 h26 => ?_; clear h25
  refine pl_nil ?_
  refine co_then ?_
  have hc27 : (decide (c ≥ 3)) = true := decide_eq_true (by omega)
  rw [hc27] at h26; clear hc27
  refine co_true h26 rfl ?_
  refine co_seq ?_
  refine co_reg ?_
  refine pk0 (v := .agg #[.int .i64 0, .int .i64 0, .int .i64 0, .int .i64 0]) h26 rfl fun a28 h28 => ?_; clear h26
  have hk34 := hk5.below hb13
  refine pwD h28 rfl (op_storeN rfl rfl rfl (by kernel_rfl) (by kernel_rfl) hk34 rfl) ?_; clear h28
  rintro _ w30 a29 ⟨hk31, hz32, hg33⟩ h29
  have hk31' : Blk w30 N3 42 #[.int .i64 0, .int .i64 0, .int .i64 0, .int .i64 0] := hk31; clear hk31
  have hz35 := hg33.size
  refine pl_nil ?_
  refine co_then ?_
  refine wp_ret ?_
  refine co_thenR ?_
  refine co_retC (Q := fun _ _ _ => True) h29 rfl rfl hk31' Try.underlying42 rfl (by kernel_rfl) ?_
  have hB36 := hb_at hB22 hg33 (by omega)
  exact ⟨rfl, hB36⟩
 ·
  rw [hc20] at h19
  have hp37 : c < 0 := of_decide_eq_true hc20
  clear hc20
  refine psk h19 rfl fun a38 h38 => ?_; clear h19
  refine psk h38 rfl fun a39 h39 => ?_; clear h38
  refine pk0 (v := .bool true) h39 rfl fun a40 h40 => ?_; clear h39
  refine pl_nil ?_
  refine co_then ?_
  refine co_true h40 rfl ?_
  refine co_seq ?_
  refine co_reg ?_
  refine pk0 (v := .agg #[.int .i64 0, .int .i64 0, .int .i64 0, .int .i64 0]) h40 rfl fun a41 h41 => ?_; clear h40
  have hk47 := hk5.below hb13
  refine pwD h41 rfl (op_storeN rfl rfl rfl (by kernel_rfl) (by kernel_rfl) hk47 rfl) ?_; clear h41
  rintro _ w43 a42 ⟨hk44, hz45, hg46⟩ h42
  have hk44' : Blk w43 N3 42 #[.int .i64 0, .int .i64 0, .int .i64 0, .int .i64 0] := hk44; clear hk44
  have hz48 := hg46.size
  refine pl_nil ?_
  refine co_then ?_
  refine wp_ret ?_
  refine co_thenR ?_
  refine co_retC (Q := fun _ _ _ => True) h42 rfl rfl hk44' Try.underlying42 rfl (by kernel_rfl) ?_
  have hB49 := hb_at hB22 hg46 (by omega)
  exact ⟨rfl, hB49⟩
set_option maxRecDepth 100000 in
theorem mdSaid0 (b : Nat) (ep : Int) (cv : Value) (fl : Int) (lgv : Value) (hz : Int) (pv : Value) (tp : Int) (y0 : AnT) (y1 : AnT) (y2 : AnT) (w : World) (hb : Blk w b 50 #[.int .i64 ep, cv, .int .u64 fl, lgv, .int .u64 hz, pv, .int .i64 tp, .int .i64 y0.1, .int .i64 y0.2.1, .int .i64 y0.2.2.1, .int .i64 y0.2.2.2, .int .i64 y1.1, .int .i64 y1.2.1, .int .i64 y1.2.2.1, .int .i64 y1.2.2.2, .int .i64 y2.1, .int .i64 y2.2.1, .int .i64 y2.2.2.1, .int .i64 y2.2.2.2]) :
    Calls Try.prog 36 #[pt b 0, .int .i64 0] w fun e w' => e = .returned (.agg #[.int .i64 y0.1, .int .i64 y0.2.1, .int .i64 y0.2.2.1, .int .i64 y0.2.2.2]) ∧ Below w.heap.size w w' := by
 have hB0 := Below.refl w.heap.size w
 have hl_hb := hb.lt
 refine co_enter (n := 18) Try.func36 rfl rfl rfl [(0, pt b 0), (1, .int .i64 0)] rfl (fun a h0 => ?_)
 refine co_seq ?_
 refine co_reg ?_
 refine pw h0 rfl (op_new (v := fun N => pt N 0) (T := 42) (cs := #[.int .i64 0, .int .i64 0, .int .i64 0, .int .i64 0]) (by kernel_rfl) (by kernel_rfl) (by kernel_rfl)) ?_; clear h0
 rintro _ w2 a1 ⟨N3, rfl, hN6, hz7, hk5, hg4⟩ h1
 have hz8 := hg4.size
 try dsimp only at h1
 refine pl_nil ?_
 refine co_then ?_
 refine co_seq ?_
 refine co_seq ?_
 refine co_reg ?_
 refine pk0 (v := .int .i64 0) h1 rfl fun a9 h9 => ?_; clear h1
 refine pk0 (v := .bool (decide (0 < 0))) h9 rfl fun a10 h10 => ?_; clear h9
 refine pk0 (v := .bool (decide (0 < 0))) h10 rfl fun a11 h11 => ?_; clear h10
 have hc12 : (decide (0 < 0)) = false := decide_eq_false (by omega)
 rw [hc12] at h11; clear hc12
 refine pk0 (v := .int .i64 0) h11 rfl fun a13 h13 => ?_; clear h11
 refine pk0 (v := .bool (decide (0 ≥ 3))) h13 rfl fun a14 h14 => ?_; clear h13
 refine pk0 (v := .bool (decide (0 ≥ 3))) h14 rfl fun a15 h15 => ?_; clear h14
 refine pl_nil ?_
 refine co_then ?_
 have hc16 : (decide (0 ≥ 3)) = false := decide_eq_false (by omega)
 rw [hc16] at h15; clear hc16
 refine co_false h15 rfl ?_
 refine wp_skip ?_
 refine co_then ?_
 refine co_seq ?_
 refine co_reg ?_
 refine pk0 (v := pt b 0) h15 rfl fun a17 h17 => ?_; clear h15
 refine pk0 (v := .int .i64 0) h17 rfl fun a18 h18 => ?_; clear h17
 refine pk0 (v := pt b 0) h18 rfl fun a19 h19 => ?_; clear h18
 refine pk0 (v := pt b 7) h19 rfl fun a20 h20 => ?_; clear h19
 refine pk0 (v := pt b 7) h20 rfl fun a21 h21 => ?_; clear h20
 have hk22 := hb.kept hg4 (by simp)
 refine pk (v := .agg #[.int .i64 y0.1, .int .i64 y0.2.1, .int .i64 y0.2.2.1, .int .i64 y0.2.2.2]) h21 rfl (rn_loadN rfl rfl Try.underlying42 rfl (by kernel_rfl) (blk_part hk22 7 (by rfl))) fun a23 h23 => ?_; clear h21
 refine pwD h23 rfl (op_storeN rfl rfl rfl (by kernel_rfl) (by kernel_rfl) hk5 rfl) ?_; clear h23
 rintro _ w25 a24 ⟨hk26, hz27, hg28⟩ h24
 have hk26' : Blk w25 N3 42 #[.int .i64 y0.1, .int .i64 y0.2.1, .int .i64 y0.2.2.1, .int .i64 y0.2.2.2] := hk26; clear hk26
 have hz29 := hg28.size
 refine pl_nil ?_
 refine co_then ?_
 refine wp_ret ?_
 refine co_retC (Q := fun _ _ _ => True) h24 rfl rfl hk26' Try.underlying42 rfl (by kernel_rfl) ?_
 have hB30 := hb_new hB0 hg4
 have hB31 := hb_at hB30 hg28 (by omega)
 exact ⟨rfl, hB31⟩
set_option maxRecDepth 100000 in
theorem mdSaid1 (b : Nat) (ep : Int) (cv : Value) (fl : Int) (lgv : Value) (hz : Int) (pv : Value) (tp : Int) (y0 : AnT) (y1 : AnT) (y2 : AnT) (w : World) (hb : Blk w b 50 #[.int .i64 ep, cv, .int .u64 fl, lgv, .int .u64 hz, pv, .int .i64 tp, .int .i64 y0.1, .int .i64 y0.2.1, .int .i64 y0.2.2.1, .int .i64 y0.2.2.2, .int .i64 y1.1, .int .i64 y1.2.1, .int .i64 y1.2.2.1, .int .i64 y1.2.2.2, .int .i64 y2.1, .int .i64 y2.2.1, .int .i64 y2.2.2.1, .int .i64 y2.2.2.2]) :
    Calls Try.prog 36 #[pt b 0, .int .i64 1] w fun e w' => e = .returned (.agg #[.int .i64 y1.1, .int .i64 y1.2.1, .int .i64 y1.2.2.1, .int .i64 y1.2.2.2]) ∧ Below w.heap.size w w' := by
 have hB0 := Below.refl w.heap.size w
 have hl_hb := hb.lt
 refine co_enter (n := 18) Try.func36 rfl rfl rfl [(0, pt b 0), (1, .int .i64 1)] rfl (fun a h0 => ?_)
 refine co_seq ?_
 refine co_reg ?_
 refine pw h0 rfl (op_new (v := fun N => pt N 0) (T := 42) (cs := #[.int .i64 0, .int .i64 0, .int .i64 0, .int .i64 0]) (by kernel_rfl) (by kernel_rfl) (by kernel_rfl)) ?_; clear h0
 rintro _ w2 a1 ⟨N3, rfl, hN6, hz7, hk5, hg4⟩ h1
 have hz8 := hg4.size
 try dsimp only at h1
 refine pl_nil ?_
 refine co_then ?_
 refine co_seq ?_
 refine co_seq ?_
 refine co_reg ?_
 refine pk0 (v := .int .i64 1) h1 rfl fun a9 h9 => ?_; clear h1
 refine pk0 (v := .bool (decide (1 < 0))) h9 rfl fun a10 h10 => ?_; clear h9
 refine pk0 (v := .bool (decide (1 < 0))) h10 rfl fun a11 h11 => ?_; clear h10
 have hc12 : (decide (1 < 0)) = false := decide_eq_false (by omega)
 rw [hc12] at h11; clear hc12
 refine pk0 (v := .int .i64 1) h11 rfl fun a13 h13 => ?_; clear h11
 refine pk0 (v := .bool (decide (1 ≥ 3))) h13 rfl fun a14 h14 => ?_; clear h13
 refine pk0 (v := .bool (decide (1 ≥ 3))) h14 rfl fun a15 h15 => ?_; clear h14
 refine pl_nil ?_
 refine co_then ?_
 have hc16 : (decide (1 ≥ 3)) = false := decide_eq_false (by omega)
 rw [hc16] at h15; clear hc16
 refine co_false h15 rfl ?_
 refine wp_skip ?_
 refine co_then ?_
 refine co_seq ?_
 refine co_reg ?_
 refine pk0 (v := pt b 0) h15 rfl fun a17 h17 => ?_; clear h15
 refine pk0 (v := .int .i64 1) h17 rfl fun a18 h18 => ?_; clear h17
 refine pk0 (v := pt b 0) h18 rfl fun a19 h19 => ?_; clear h18
 refine pk0 (v := pt b 7) h19 rfl fun a20 h20 => ?_; clear h19
 refine pk0 (v := pt b 11) h20 rfl fun a21 h21 => ?_; clear h20
 have hk22 := hb.kept hg4 (by simp)
 refine pk (v := .agg #[.int .i64 y1.1, .int .i64 y1.2.1, .int .i64 y1.2.2.1, .int .i64 y1.2.2.2]) h21 rfl (rn_loadN rfl rfl Try.underlying42 rfl (by kernel_rfl) (blk_part hk22 11 (by rfl))) fun a23 h23 => ?_; clear h21
 refine pwD h23 rfl (op_storeN rfl rfl rfl (by kernel_rfl) (by kernel_rfl) hk5 rfl) ?_; clear h23
 rintro _ w25 a24 ⟨hk26, hz27, hg28⟩ h24
 have hk26' : Blk w25 N3 42 #[.int .i64 y1.1, .int .i64 y1.2.1, .int .i64 y1.2.2.1, .int .i64 y1.2.2.2] := hk26; clear hk26
 have hz29 := hg28.size
 refine pl_nil ?_
 refine co_then ?_
 refine wp_ret ?_
 refine co_retC (Q := fun _ _ _ => True) h24 rfl rfl hk26' Try.underlying42 rfl (by kernel_rfl) ?_
 have hB30 := hb_new hB0 hg4
 have hB31 := hb_at hB30 hg28 (by omega)
 exact ⟨rfl, hB31⟩
set_option maxRecDepth 100000 in
theorem mdSaid2 (b : Nat) (ep : Int) (cv : Value) (fl : Int) (lgv : Value) (hz : Int) (pv : Value) (tp : Int) (y0 : AnT) (y1 : AnT) (y2 : AnT) (w : World) (hb : Blk w b 50 #[.int .i64 ep, cv, .int .u64 fl, lgv, .int .u64 hz, pv, .int .i64 tp, .int .i64 y0.1, .int .i64 y0.2.1, .int .i64 y0.2.2.1, .int .i64 y0.2.2.2, .int .i64 y1.1, .int .i64 y1.2.1, .int .i64 y1.2.2.1, .int .i64 y1.2.2.2, .int .i64 y2.1, .int .i64 y2.2.1, .int .i64 y2.2.2.1, .int .i64 y2.2.2.2]) :
    Calls Try.prog 36 #[pt b 0, .int .i64 2] w fun e w' => e = .returned (.agg #[.int .i64 y2.1, .int .i64 y2.2.1, .int .i64 y2.2.2.1, .int .i64 y2.2.2.2]) ∧ Below w.heap.size w w' := by
 have hB0 := Below.refl w.heap.size w
 have hl_hb := hb.lt
 refine co_enter (n := 18) Try.func36 rfl rfl rfl [(0, pt b 0), (1, .int .i64 2)] rfl (fun a h0 => ?_)
 refine co_seq ?_
 refine co_reg ?_
 refine pw h0 rfl (op_new (v := fun N => pt N 0) (T := 42) (cs := #[.int .i64 0, .int .i64 0, .int .i64 0, .int .i64 0]) (by kernel_rfl) (by kernel_rfl) (by kernel_rfl)) ?_; clear h0
 rintro _ w2 a1 ⟨N3, rfl, hN6, hz7, hk5, hg4⟩ h1
 have hz8 := hg4.size
 try dsimp only at h1
 refine pl_nil ?_
 refine co_then ?_
 refine co_seq ?_
 refine co_seq ?_
 refine co_reg ?_
 refine pk0 (v := .int .i64 2) h1 rfl fun a9 h9 => ?_; clear h1
 refine pk0 (v := .bool (decide (2 < 0))) h9 rfl fun a10 h10 => ?_; clear h9
 refine pk0 (v := .bool (decide (2 < 0))) h10 rfl fun a11 h11 => ?_; clear h10
 have hc12 : (decide (2 < 0)) = false := decide_eq_false (by omega)
 rw [hc12] at h11; clear hc12
 refine pk0 (v := .int .i64 2) h11 rfl fun a13 h13 => ?_; clear h11
 refine pk0 (v := .bool (decide (2 ≥ 3))) h13 rfl fun a14 h14 => ?_; clear h13
 refine pk0 (v := .bool (decide (2 ≥ 3))) h14 rfl fun a15 h15 => ?_; clear h14
 refine pl_nil ?_
 refine co_then ?_
 have hc16 : (decide (2 ≥ 3)) = false := decide_eq_false (by omega)
 rw [hc16] at h15; clear hc16
 refine co_false h15 rfl ?_
 refine wp_skip ?_
 refine co_then ?_
 refine co_seq ?_
 refine co_reg ?_
 refine pk0 (v := pt b 0) h15 rfl fun a17 h17 => ?_; clear h15
 refine pk0 (v := .int .i64 2) h17 rfl fun a18 h18 => ?_; clear h17
 refine pk0 (v := pt b 0) h18 rfl fun a19 h19 => ?_; clear h18
 refine pk0 (v := pt b 7) h19 rfl fun a20 h20 => ?_; clear h19
 refine pk0 (v := pt b 15) h20 rfl fun a21 h21 => ?_; clear h20
 have hk22 := hb.kept hg4 (by simp)
 refine pk (v := .agg #[.int .i64 y2.1, .int .i64 y2.2.1, .int .i64 y2.2.2.1, .int .i64 y2.2.2.2]) h21 rfl (rn_loadN rfl rfl Try.underlying42 rfl (by kernel_rfl) (blk_part hk22 15 (by rfl))) fun a23 h23 => ?_; clear h21
 refine pwD h23 rfl (op_storeN rfl rfl rfl (by kernel_rfl) (by kernel_rfl) hk5 rfl) ?_; clear h23
 rintro _ w25 a24 ⟨hk26, hz27, hg28⟩ h24
 have hk26' : Blk w25 N3 42 #[.int .i64 y2.1, .int .i64 y2.2.1, .int .i64 y2.2.2.1, .int .i64 y2.2.2.2] := hk26; clear hk26
 have hz29 := hg28.size
 refine pl_nil ?_
 refine co_then ?_
 refine wp_ret ?_
 refine co_retC (Q := fun _ _ _ => True) h24 rfl rfl hk26' Try.underlying42 rfl (by kernel_rfl) ?_
 have hB30 := hb_new hB0 hg4
 have hB31 := hb_at hB30 hg28 (by omega)
 exact ⟨rfl, hB31⟩
set_option maxRecDepth 100000 in
theorem mdSaidX (b : Nat) (ep : Int) (cv : Value) (fl : Int) (lgv : Value) (hz : Int) (pv : Value) (tp : Int) (y0 : AnT) (y1 : AnT) (y2 : AnT) (c : Int) (w : World) (hb : Blk w b 50 #[.int .i64 ep, cv, .int .u64 fl, lgv, .int .u64 hz, pv, .int .i64 tp, .int .i64 y0.1, .int .i64 y0.2.1, .int .i64 y0.2.2.1, .int .i64 y0.2.2.2, .int .i64 y1.1, .int .i64 y1.2.1, .int .i64 y1.2.2.1, .int .i64 y1.2.2.2, .int .i64 y2.1, .int .i64 y2.2.1, .int .i64 y2.2.2.1, .int .i64 y2.2.2.2]) (hc : c < 0 ∨ c ≥ 3) :
    Calls Try.prog 36 #[pt b 0, .int .i64 c] w fun e w' => e = .returned (.agg #[.int .i64 0, .int .i64 0, .int .i64 0, .int .i64 0]) ∧ Below w.heap.size w w' := by
 have hB0 := Below.refl w.heap.size w
 have hl_hb := hb.lt
 refine co_enter (n := 18) Try.func36 rfl rfl rfl [(0, pt b 0), (1, .int .i64 c)] rfl (fun a h0 => ?_)
 refine co_seq ?_
 refine co_reg ?_
 refine pw h0 rfl (op_new (v := fun N => pt N 0) (T := 42) (cs := #[.int .i64 0, .int .i64 0, .int .i64 0, .int .i64 0]) (by kernel_rfl) (by kernel_rfl) (by kernel_rfl)) ?_; clear h0
 rintro _ w2 a1 ⟨N3, rfl, hN6, hz7, hk5, hg4⟩ h1
 have hz8 := hg4.size
 try dsimp only at h1
 refine pl_nil ?_
 refine co_then ?_
 refine co_seq ?_
 refine co_seq ?_
 refine co_reg ?_
 refine pk0 (v := .int .i64 c) h1 rfl fun a9 h9 => ?_; clear h1
 refine pk0 (v := .bool (decide (c < 0))) h9 rfl fun a10 h10 => ?_; clear h9
 refine pk0 (v := .bool (decide (c < 0))) h10 rfl fun a11 h11 => ?_; clear h10
 have hB13 := hb_new hB0 hg4
 cases hc12 : (decide (c < 0))
 ·
  rw [hc12] at h11
  have hp14 : ¬ (c < 0) := of_decide_eq_false hc12
  clear hc12
  refine pk0 (v := .int .i64 c) h11 rfl fun a15 h15 => ?_; clear h11
  refine pk0 (v := .bool (decide (c ≥ 3))) h15 rfl fun a16 h16 => ?_; clear h15
  refine pk0 (v := .bool (decide (c ≥ 3))) h16 rfl fun a17 h17 => ?_; clear h16
  refine pl_nil ?_
  refine co_then ?_
  have hc18 : (decide (c ≥ 3)) = true := decide_eq_true (by omega)
  rw [hc18] at h17; clear hc18
  refine co_true h17 rfl ?_
  refine co_seq ?_
  refine co_reg ?_
  refine pk0 (v := .agg #[.int .i64 0, .int .i64 0, .int .i64 0, .int .i64 0]) h17 rfl fun a19 h19 => ?_; clear h17
  refine pwD h19 rfl (op_storeN rfl rfl rfl (by kernel_rfl) (by kernel_rfl) hk5 rfl) ?_; clear h19
  rintro _ w21 a20 ⟨hk22, hz23, hg24⟩ h20
  have hk22' : Blk w21 N3 42 #[.int .i64 0, .int .i64 0, .int .i64 0, .int .i64 0] := hk22; clear hk22
  have hz25 := hg24.size
  refine pl_nil ?_
  refine co_then ?_
  refine wp_ret ?_
  refine co_thenR ?_
  refine co_retC (Q := fun _ _ _ => True) h20 rfl rfl hk22' Try.underlying42 rfl (by kernel_rfl) ?_
  have hB26 := hb_at hB13 hg24 (by omega)
  exact ⟨rfl, hB26⟩
 ·
  rw [hc12] at h11
  have hp27 : c < 0 := of_decide_eq_true hc12
  clear hc12
  refine psk h11 rfl fun a28 h28 => ?_; clear h11
  refine psk h28 rfl fun a29 h29 => ?_; clear h28
  refine pk0 (v := .bool true) h29 rfl fun a30 h30 => ?_; clear h29
  refine pl_nil ?_
  refine co_then ?_
  refine co_true h30 rfl ?_
  refine co_seq ?_
  refine co_reg ?_
  refine pk0 (v := .agg #[.int .i64 0, .int .i64 0, .int .i64 0, .int .i64 0]) h30 rfl fun a31 h31 => ?_; clear h30
  refine pwD h31 rfl (op_storeN rfl rfl rfl (by kernel_rfl) (by kernel_rfl) hk5 rfl) ?_; clear h31
  rintro _ w33 a32 ⟨hk34, hz35, hg36⟩ h32
  have hk34' : Blk w33 N3 42 #[.int .i64 0, .int .i64 0, .int .i64 0, .int .i64 0] := hk34; clear hk34
  have hz37 := hg36.size
  refine pl_nil ?_
  refine co_then ?_
  refine wp_ret ?_
  refine co_thenR ?_
  refine co_retC (Q := fun _ _ _ => True) h32 rfl rfl hk34' Try.underlying42 rfl (by kernel_rfl) ?_
  have hB38 := hb_at hB13 hg36 (by omega)
  exact ⟨rfl, hB38⟩
set_option maxRecDepth 100000 in
theorem sameIntsM (v : Value) (l : List Int) (v2 : Value) (w : World) (hs : SliceOf (intE .i64) 1 w v l) (hs2 : SliceOf (intE .i64) 1 w v2 l) :
    Calls Try.prog 33 #[v, v2] w fun e w' => e = .returned (.bool true) ∧ Below w.heap.size w w' := by
 have hB0 := Below.refl w.heap.size w
 have hl_hs := sl_len hs
 have hl_hs2 := sl_len hs2
 refine co_enter (n := 32) Try.func33 rfl rfl rfl [(0, v), (1, v2)] rfl (fun a h0 => ?_)
 refine co_seq ?_
 refine co_reg ?_
 refine pk0 (v := .bool false) h0 rfl fun a1 h1 => ?_; clear h0
 refine pl_nil ?_
 refine co_then ?_
 refine co_seq ?_
 refine co_seq ?_
 refine co_reg ?_
 refine pk0 (v := v) h1 rfl fun a2 h2 => ?_; clear h1
 refine pk (v := .int .i64 ((l.length : Nat) : Int)) h2 rfl (rn_len rfl rfl Try.underlying33 hs) fun a3 h3 => ?_; clear h2
 refine pk0 (v := v2) h3 rfl fun a4 h4 => ?_; clear h3
 refine pk (v := .int .i64 ((l.length : Nat) : Int)) h4 rfl (rn_len rfl rfl Try.underlying33 hs2) fun a5 h5 => ?_; clear h4
 refine pk0 (v := .bool (((l.length : Nat) : Int) != ((l.length : Nat) : Int))) h5 rfl fun a6 h6 => ?_; clear h5
 refine pl_nil ?_
 refine co_then ?_
 have hc7 : (((l.length : Nat) : Int) != ((l.length : Nat) : Int)) = false := by first | (simp; done) | (simp; omega) | exact beq_false_of_ne (by omega) | exact beq_iff_eq.2 (by omega)
 rw [hc7] at h6; clear hc7
 refine co_false h6 rfl ?_
 refine wp_skip ?_
 refine co_then ?_
 refine co_seq ?_
 refine co_seq ?_
 refine co_reg ?_
 refine pk0 (v := .int .i64 0) h6 rfl fun a8 h8 => ?_; clear h6
 refine pl_nil ?_
 refine co_then ?_
 refine wp_block ?_
 have h9 : Slots 32 [(0, v), (1, v2), (4, .bool false), (5, .int .i64 0)] _ := h8.sub ⟨rfl, rfl, rfl, rfl, trivial⟩; clear h8
 refine co_loop (fun mm a x => ∃ (i : Nat), Slots 32 [(0, v), (1, v2), (4, .bool false), (5, .int .i64 ((i : Nat) : Int))] a ∧ mm = l.length - i ∧ (i ≤ l.length) ∧ Below w.heap.size w x) (l.length - 0) ?_ ?_
 · exact ⟨0, h9.sub ⟨rfl, rfl, rfl, (slot_eq rfl (congrArg (Value.int .i64) (by first | rfl | omega))), trivial⟩, rfl, by omega, hB0⟩
 · rintro k10 a11 w12 ⟨i, h11, rfl, hi13, hB14⟩
   have hz15 := hB14.size
   refine co_seq ?_
   refine co_seq ?_
   refine co_reg ?_
   refine pk0 (v := .int .i64 ((i : Nat) : Int)) h11 rfl fun a16 h16 => ?_; clear h11
   refine pk0 (v := v) h16 rfl fun a17 h17 => ?_; clear h16
   refine pk (v := .int .i64 ((l.length : Nat) : Int)) h17 rfl (rn_len rfl rfl Try.underlying33 (hs.below hB14)) fun a18 h18 => ?_; clear h17
   refine pk0 (v := .bool (decide (((i : Nat) : Int) < ((l.length : Nat) : Int)))) h18 rfl fun a19 h19 => ?_; clear h18
   refine pk0 (v := .bool (decide (((i : Nat) : Int) < ((l.length : Nat) : Int)))) h19 rfl fun a20 h20 => ?_; clear h19
   cases hc21 : (decide (((i : Nat) : Int) < ((l.length : Nat) : Int)))
   ·
    rw [hc21] at h20
    have hp22 : ¬ (((i : Nat) : Int) < ((l.length : Nat) : Int)) := of_decide_eq_false hc21
    clear hc21
    refine psk h20 rfl fun a23 h23 => ?_; clear h20
    refine psk h23 rfl fun a24 h24 => ?_; clear h23
    refine psk h24 rfl fun a25 h25 => ?_; clear h24
    refine psk h25 rfl fun a26 h26 => ?_; clear h25
    refine pk0 (v := .bool false) h26 rfl fun a27 h27 => ?_; clear h26
    refine pl_nil ?_
    refine co_then ?_
    refine co_false h27 rfl ?_
    refine wp_exit ?_
    refine co_thenX ?_
    refine co_thenX ?_
    refine co_blockX ?_
    refine co_then ?_
    refine co_seq ?_
    refine co_reg ?_
    refine pk0 (v := .bool true) h27 rfl fun a28 h28 => ?_; clear h27
    refine pl_nil ?_
    refine co_then ?_
    refine wp_ret ?_
    refine co_ret1 h28 rfl rfl ?_
    exact ⟨rfl, hB14⟩
   ·
    rw [hc21] at h20
    have hp29 : ((i : Nat) : Int) < ((l.length : Nat) : Int) := of_decide_eq_true hc21
    clear hc21
    refine pk0 (v := .int .i64 ((i : Nat) : Int)) h20 rfl fun a30 h30 => ?_; clear h20
    refine pk0 (v := v2) h30 rfl fun a31 h31 => ?_; clear h30
    refine pk (v := .int .i64 ((l.length : Nat) : Int)) h31 rfl (rn_len rfl rfl Try.underlying33 (hs2.below hB14)) fun a32 h32 => ?_; clear h31
    refine pk0 (v := .bool (decide (((i : Nat) : Int) < ((l.length : Nat) : Int)))) h32 rfl fun a33 h33 => ?_; clear h32
    refine pk0 (v := .bool (decide (((i : Nat) : Int) < ((l.length : Nat) : Int)))) h33 rfl fun a34 h34 => ?_; clear h33
    refine pl_nil ?_
    refine co_then ?_
    have hc35 : (decide (((i : Nat) : Int) < ((l.length : Nat) : Int))) = true := decide_eq_true (by omega)
    rw [hc35] at h34; clear hc35
    refine co_true h34 rfl ?_
    refine wp_skip ?_
    refine co_then ?_
    refine co_seq ?_
    refine wp_block ?_
    refine co_seq ?_
    refine dr_eq (by kernel_rfl) (fun w36 hg37 => ?_)
    have hz38 := hg37.size
    refine dk0 0 (v := v) h34 rfl rfl rfl fun a39 h39 => ?_; clear h34
    refine dk0 1 (v := .int .i64 ((i : Nat) : Int)) h39 rfl rfl rfl fun a40 h40 => ?_; clear h39
    have hB42 := hb_new hB14 hg37
    obtain ⟨y41, hy41⟩ : ∃ z, l[i]? = some z := ⟨_, List.getElem?_eq_getElem (by first | omega | (simp; done) | (simp; omega))⟩
    refine dk 2 (v := pt (blkOf v) (offOf v + i * 1)) h40 rfl rfl rfl (fun x hx => by subst hx; exact (rn_index rfl rfl rfl Try.underlying33 Try.sizeOf3 (hs.below hB42) (by omega) (by first | omega | (simp; done) | (simp; omega)))) fun a43 h43 => ?_; clear h40
    refine dk 3 (v := .int .i64 y41) h43 rfl rfl rfl (fun x hx => by subst hx; exact (rn_load1 rfl rfl Try.isAgg3 ((sl_at (hs.below hB42) hy41) 0 _ rfl))) fun a44 h44 => ?_; clear h43
    refine dk0 4 (v := v2) h44 rfl rfl rfl fun a45 h45 => ?_; clear h44
    refine dk0 5 (v := .int .i64 ((i : Nat) : Int)) h45 rfl rfl rfl fun a46 h46 => ?_; clear h45
    refine dk 6 (v := pt (blkOf v2) (offOf v2 + i * 1)) h46 rfl rfl rfl (fun x hx => by subst hx; exact (rn_index rfl rfl rfl Try.underlying33 Try.sizeOf3 (hs2.below hB42) (by omega) (by first | omega | (simp; done) | (simp; omega)))) fun a47 h47 => ?_; clear h46
    refine dk 7 (v := .int .i64 y41) h47 rfl rfl rfl (fun x hx => by subst hx; exact (rn_load1 rfl rfl Try.isAgg3 ((sl_at (hs2.below hB42) hy41) 0 _ rfl))) fun a48 h48 => ?_; clear h47
    refine dk0 8 (v := .bool (y41 != y41)) h48 rfl rfl rfl fun a49 h49 => ?_; clear h48
    refine dr_done (by kernel_rfl) ?_
    refine co_then ?_
    have hc50 : (y41 != y41) = false := by first | (simp; done) | (simp; omega) | exact beq_false_of_ne (by omega) | exact beq_iff_eq.2 (by omega)
    rw [hc50] at h49; clear hc50
    refine co_false h49 rfl ?_
    refine wp_skip ?_
    refine co_blockN ?_
    refine co_then ?_
    refine co_reg ?_
    refine pk0 (v := .int .i64 ((i : Nat) : Int)) h49 rfl fun a51 h51 => ?_; clear h49
    refine pk (v := .int .i64 ((i + 1 : Nat) : Int)) h51 rfl (rn_arith' rfl rfl rfl rfl rfl rfl (IntWalk.i64_in _ (by omega)) (by omega)) fun a52 h52 => ?_; clear h51
    refine pk0 (v := .int .i64 ((i + 1 : Nat) : Int)) h52 rfl fun a53 h53 => ?_; clear h52
    refine pl_nil ?_
    refine co_then ?_
    refine ⟨(l.length - (i + 1)), by omega, ?_⟩
    exact ⟨i + 1, h53.sub ⟨rfl, rfl, rfl, rfl, trivial⟩, rfl, by omega, hB42⟩
set_option maxRecDepth 100000 in
theorem notesPin_any (p : PinT) (N : Nat) (b : Nat) (ep : Int) (cv : Value) (fl : Int) (lgv : Value) (hz : Int) (pv : Value) (tp : Int) (x0 : SdT) (x1 : SdT) (x2 : SdT) (w : World) (hN : Blk w N 25 #[pt b 0]) (hb : Blk w b 66 #[.bool true, .int .i64 ep, cv, .int .u64 fl, lgv, .int .u64 hz, pv, .int .i64 tp, .bool x0.1, .int .i64 x0.2.1, .int .i64 x0.2.2.1, .int .i64 x0.2.2.2.1, .int .i64 x0.2.2.2.2, .bool x1.1, .int .i64 x1.2.1, .int .i64 x1.2.2.1, .int .i64 x1.2.2.2.1, .int .i64 x1.2.2.2.2, .bool x2.1, .int .i64 x2.2.1, .int .i64 x2.2.2.1, .int .i64 x2.2.2.2.1, .int .i64 x2.2.2.2.2]) :
    Calls Try.prog 26 #[.agg #[.int .i64 p.1, .int .u64 p.2.1, .int .i64 p.2.2], pt N 0] w fun e w' => e = .returned (.bool (p.1 == tp)) ∧ Below w.heap.size w w' := by
 have hB0 := Below.refl w.heap.size w
 have hl_hN := hN.lt
 have hl_hb := hb.lt
 refine co_enter (n := 11) Try.func26 rfl rfl rfl [(0, .agg #[.int .i64 p.1, .int .u64 p.2.1, .int .i64 p.2.2]), (1, pt N 0)] rfl (fun a h0 => ?_)
 refine co_seq ?_
 refine co_reg ?_
 refine pw h0 rfl (op_new (v := fun N => pt N 0) (T := 40) (cs := #[.int .i64 p.1, .int .u64 p.2.1, .int .i64 p.2.2]) (by kernel_rfl) (by kernel_rfl) (by kernel_rfl)) ?_; clear h0
 rintro _ w2 a1 ⟨N3, rfl, hN6, hz7, hk5, hg4⟩ h1
 have hz8 := hg4.size
 try dsimp only at h1
 refine pk0 (v := .bool false) h1 rfl fun a9 h9 => ?_; clear h1
 refine pl_nil ?_
 refine co_then ?_
 refine co_seq ?_
 refine dr_eq (by kernel_rfl) (fun w10 hg11 => ?_)
 have hz12 := hg11.size
 refine dk0 0 (v := pt N3 0) h9 rfl rfl rfl fun a13 h13 => ?_; clear h9
 have hk14 := hk5.kept hg11 (by simp)
 refine dk 1 (v := .int .i64 p.1) h13 rfl rfl rfl (fun x hx => by subst hx; exact (rn_load1 rfl rfl Try.isAgg3 (hk14.cell rfl))) fun a15 h15 => ?_; clear h13
 have hk16 := hN.kept hg4 (by simp)
 have hk17 := hk16.kept hg11 (by simp)
 refine dk 2 (v := pt b 0) h15 rfl rfl rfl (fun x hx => by subst hx; exact (rn_load1 rfl rfl Try.isAgg25 (hk17.cell rfl))) fun a18 h18 => ?_; clear h15
 refine dk0 3 (v := pt b 0) h18 rfl rfl rfl fun a19 h19 => ?_; clear h18
 refine dk0 4 (v := pt b 7) h19 rfl rfl rfl fun a20 h20 => ?_; clear h19
 have hk21 := hb.kept hg4 (by simp)
 have hk22 := hk21.kept hg11 (by simp)
 refine dk 5 (v := .int .i64 tp) h20 rfl rfl rfl (fun x hx => by subst hx; exact (rn_load1 rfl rfl Try.isAgg3 (hk22.cell rfl))) fun a23 h23 => ?_; clear h20
 refine dk0 6 (v := .bool (p.1 == tp)) h23 rfl rfl rfl fun a24 h24 => ?_; clear h23
 refine dk0 7 (v := .bool (p.1 == tp)) h24 rfl rfl rfl fun a25 h25 => ?_; clear h24
 refine dr_done (by kernel_rfl) ?_
 refine co_then ?_
 refine wp_ret ?_
 refine co_ret1 h25 rfl rfl ?_
 have hB26 := hb_new hB0 hg4
 have hB27 := hb_new hB26 hg11
 exact ⟨rfl, hB27⟩
set_option maxRecDepth 100000 in
theorem indexP_any (v : Value) (l : List PinT) (N : Nat) (b : Nat) (ep : Int) (cv : Value) (fl : Int) (lgv : Value) (hz : Int) (pv : Value) (tp : Int) (x0 : SdT) (x1 : SdT) (x2 : SdT) (w : World) (hs : SliceOf pinE 3 w v l) (hN : Blk w N 25 #[pt b 0]) (hb : Blk w b 66 #[.bool true, .int .i64 ep, cv, .int .u64 fl, lgv, .int .u64 hz, pv, .int .i64 tp, .bool x0.1, .int .i64 x0.2.1, .int .i64 x0.2.2.1, .int .i64 x0.2.2.2.1, .int .i64 x0.2.2.2.2, .bool x1.1, .int .i64 x1.2.1, .int .i64 x1.2.2.1, .int .i64 x1.2.2.2.1, .int .i64 x1.2.2.2.2, .bool x2.1, .int .i64 x2.2.1, .int .i64 x2.2.2.1, .int .i64 x2.2.2.2.1, .int .i64 x2.2.2.2.2]) :
    Calls Try.prog 56 #[v, .func (.func 26) #[] #[pt N 0]] w fun e w' => ∃ (j : Int), e = .returned (.int .i64 j) ∧ decide (j ≥ 0) = l.any (fun p => p.1 == tp) ∧ Below w.heap.size w w' := by
 have hB0 := Below.refl w.heap.size w
 have hl_hs := sl_len hs
 have hl_hN := hN.lt
 have hl_hb := hb.lt
 refine co_enter (n := 19) Try.func56 rfl rfl rfl [(0, v), (1, .func (.func 26) #[] #[pt N 0])] rfl (fun a h0 => ?_)
 refine co_seq ?_
 refine co_reg ?_
 refine pk0 (v := .int .i64 0) h0 rfl fun a1 h1 => ?_; clear h0
 refine pl_nil ?_
 refine co_then ?_
 refine co_seq ?_
 refine co_seq ?_
 refine co_reg ?_
 refine pk0 (v := v) h1 rfl fun a2 h2 => ?_; clear h1
 refine pk (v := .int .i64 ((l.length : Nat) : Int)) h2 rfl (rn_len rfl rfl Try.underlying47 hs) fun a3 h3 => ?_; clear h2
 refine pk0 (v := .int .i64 0) h3 rfl fun a4 h4 => ?_; clear h3
 refine pl_nil ?_
 refine co_then ?_
 refine wp_block ?_
 have h5 : Slots 19 [(0, v), (1, .func (.func 26) #[] #[pt N 0]), (6, v), (7, .int .i64 ((l.length : Nat) : Int)), (8, .int .i64 0)] _ := h4.sub ⟨rfl, rfl, rfl, rfl, rfl, trivial⟩; clear h4
 refine co_loop (fun mm a x => ∃ (i : Nat), Slots 19 [(0, v), (1, .func (.func 26) #[] #[pt N 0]), (6, v), (7, .int .i64 ((l.length : Nat) : Int)), (8, .int .i64 ((i : Nat) : Int))] a ∧ mm = l.length - i ∧ (i ≤ l.length) ∧ (∀ j, j < i → ∀ z, l[j]? = some z → z.1 ≠ tp) ∧ Below w.heap.size w x ∧ Blk x N 25 #[pt b 0] ∧ Blk x b 66 #[.bool true, .int .i64 ep, cv, .int .u64 fl, lgv, .int .u64 hz, pv, .int .i64 tp, .bool x0.1, .int .i64 x0.2.1, .int .i64 x0.2.2.1, .int .i64 x0.2.2.2.1, .int .i64 x0.2.2.2.2, .bool x1.1, .int .i64 x1.2.1, .int .i64 x1.2.2.1, .int .i64 x1.2.2.2.1, .int .i64 x1.2.2.2.2, .bool x2.1, .int .i64 x2.2.1, .int .i64 x2.2.2.1, .int .i64 x2.2.2.2.1, .int .i64 x2.2.2.2.2]) (l.length - 0) ?_ ?_
 · exact ⟨0, h5.sub ⟨rfl, rfl, rfl, rfl, (slot_eq rfl (congrArg (Value.int .i64) (by first | rfl | omega))), trivial⟩, rfl, by omega, by first | (intro j hj; omega) | exact anyP_next (by assumption) (by assumption) (by omega), hB0, hN, hb⟩
 · rintro k6 a7 w8 ⟨i, h7, rfl, hi9, hi10, hB11, hk12, hk13⟩
   have hz14 := hB11.size
   have hl15 := hk12.lt
   have hl16 := hk13.lt
   refine co_seq ?_
   refine co_reg ?_
   refine pk0 (v := .bool (decide (((i : Nat) : Int) < ((l.length : Nat) : Int)))) h7 rfl fun a17 h17 => ?_; clear h7
   refine pl_nil ?_
   refine co_then ?_
   refine co_seq ?_
   cases hc18 : (decide (((i : Nat) : Int) < ((l.length : Nat) : Int)))
   ·
    rw [hc18] at h17
    have hp19 : ¬ (((i : Nat) : Int) < ((l.length : Nat) : Int)) := of_decide_eq_false hc18
    clear hc18
    refine co_false h17 rfl ?_
    refine wp_exit ?_
    refine co_thenX ?_
    refine co_thenX ?_
    refine co_blockX ?_
    refine co_then ?_
    refine co_seq ?_
    refine co_reg ?_
    refine pk0 (v := .int .i64 (-1)) h17 rfl fun a20 h20 => ?_; clear h17
    refine pl_nil ?_
    refine co_then ?_
    refine wp_ret ?_
    refine co_ret1 h20 rfl rfl ?_
    exact ⟨_, rfl, by rw [decide_eq_false (by omega)]; exact anyP_end (by assumption) (by omega), hB11⟩
   ·
    rw [hc18] at h17
    have hp21 : ((i : Nat) : Int) < ((l.length : Nat) : Int) := of_decide_eq_true hc18
    clear hc18
    refine co_true h17 rfl ?_
    refine wp_skip ?_
    refine co_then ?_
    refine co_seq ?_
    refine wp_block ?_
    refine co_seq ?_
    refine co_reg ?_
    refine pk0 (v := .int .i64 ((i : Nat) : Int)) h17 rfl fun a22 h22 => ?_; clear h17
    refine pk0 (v := .int .i64 ((i : Nat) : Int)) h22 rfl fun a23 h23 => ?_; clear h22
    refine pl_nil ?_
    refine co_then ?_
    refine co_seq ?_
    refine co_reg ?_
    refine pk0 (v := .func (.func 26) #[] #[pt N 0]) h23 rfl fun a24 h24 => ?_; clear h23
    refine pk0 (v := v) h24 rfl fun a25 h25 => ?_; clear h24
    refine pk0 (v := .int .i64 ((i : Nat) : Int)) h25 rfl fun a26 h26 => ?_; clear h25
    obtain ⟨y27, hy27⟩ : ∃ z, l[i]? = some z := ⟨_, List.getElem?_eq_getElem (by first | omega | (simp; done) | (simp; omega))⟩
    refine pk (v := pt (blkOf v) (offOf v + i * 3)) h26 rfl (rn_index rfl rfl rfl Try.underlying47 Try.sizeOf40 (hs.below hB11) (by omega) (by first | omega | (simp; done) | (simp; omega))) fun a28 h28 => ?_; clear h26
    refine pk (v := .agg #[.int .i64 y27.1, .int .u64 y27.2.1, .int .i64 y27.2.2]) h28 rfl (rn_loadN rfl rfl Try.underlying40 rfl (by kernel_rfl) (sl_at (hs.below hB11) hy27)) fun a29 h29 => ?_; clear h28
    refine pw h29 rfl (op_callV (args := #[.agg #[.int .i64 y27.1, .int .u64 y27.2.1, .int .i64 y27.2.2], pt N 0]) (R := fun res xw => res = .bool (y27.1 == tp) ∧ Below w8.heap.size w8 xw) rfl rfl rfl (by kernel_rfl) (by kernel_rfl) (Try.call26 _ _) (notesPin_any y27 N b ep cv fl lgv hz pv tp _ _ _ w8 hk12 hk13) (by rintro e x ⟨rfl, hb32⟩; exact ⟨_, rfl, ⟨rfl, hb32⟩⟩)) ?_; clear h29
    rintro _ w31 a30 ⟨rfl, hb32⟩ h30
    have hz33 := hb32.size
    refine pl_nil ?_
    refine co_then ?_
    have hB35 := hb_call hB11 hb32
    cases hc34 : (y27.1 == tp)
    ·
     rw [hc34] at h30
     have hp36 : ¬ (y27.1 = tp) := by first | simpa using hc34 | simpa [and_assoc] using hc34
     clear hc34
     refine co_false h30 rfl ?_
     refine wp_skip ?_
     refine co_blockN ?_
     refine co_then ?_
     refine co_reg ?_
     refine pk (v := .int .i64 ((i + 1 : Nat) : Int)) h30 rfl (rn_arith' rfl rfl rfl rfl rfl rfl (IntWalk.i64_in _ (by omega)) (by omega)) fun a37 h37 => ?_; clear h30
     refine pk0 (v := .int .i64 ((i + 1 : Nat) : Int)) h37 rfl fun a38 h38 => ?_; clear h37
     refine pl_nil ?_
     refine co_then ?_
     refine ⟨(l.length - (i + 1)), by omega, ?_⟩
     have hk39 := hk12.below hb32
     have hk40 := hk13.below hb32
     exact ⟨i + 1, h38.sub ⟨rfl, rfl, rfl, rfl, rfl, trivial⟩, rfl, by omega, by first | (intro j hj; omega) | exact anyP_next (by assumption) (by assumption) (by omega), hB35, hk39, hk40⟩
    ·
     rw [hc34] at h30
     have hp41 : y27.1 = tp := by first | simpa using hc34 | simpa [and_assoc] using hc34
     clear hc34
     refine co_true h30 rfl ?_
     refine co_seq ?_
     refine co_reg ?_
     refine pk0 (v := .int .i64 ((i : Nat) : Int)) h30 rfl fun a42 h42 => ?_; clear h30
     refine pk0 (v := .int .i64 ((i : Nat) : Int)) h42 rfl fun a43 h43 => ?_; clear h42
     refine pl_nil ?_
     refine co_then ?_
     refine wp_ret ?_
     refine co_blockR ?_
     refine co_thenR ?_
     refine co_thenR ?_
     refine co_blockR ?_
     refine co_thenR ?_
     refine co_ret1 h43 rfl rfl ?_
     exact ⟨_, rfl, by rw [decide_eq_true (by omega)]; exact anyP_at (by assumption) (by omega), hB35⟩
set_option maxRecDepth 100000 in
theorem containsP_any (v : Value) (l : List PinT) (N : Nat) (b : Nat) (ep : Int) (cv : Value) (fl : Int) (lgv : Value) (hz : Int) (pv : Value) (tp : Int) (x0 : SdT) (x1 : SdT) (x2 : SdT) (w : World) (hs : SliceOf pinE 3 w v l) (hN : Blk w N 25 #[pt b 0]) (hb : Blk w b 66 #[.bool true, .int .i64 ep, cv, .int .u64 fl, lgv, .int .u64 hz, pv, .int .i64 tp, .bool x0.1, .int .i64 x0.2.1, .int .i64 x0.2.2.1, .int .i64 x0.2.2.2.1, .int .i64 x0.2.2.2.2, .bool x1.1, .int .i64 x1.2.1, .int .i64 x1.2.2.1, .int .i64 x1.2.2.2.1, .int .i64 x1.2.2.2.2, .bool x2.1, .int .i64 x2.2.1, .int .i64 x2.2.2.1, .int .i64 x2.2.2.2.1, .int .i64 x2.2.2.2.2]) :
    Calls Try.prog 25 #[v, .func (.func 26) #[] #[pt N 0]] w fun e w' => e = .returned (.bool (l.any (fun p => p.1 == tp))) ∧ Below w.heap.size w w' := by
 have hB0 := Below.refl w.heap.size w
 have hl_hs := sl_len hs
 have hl_hN := hN.lt
 have hl_hb := hb.lt
 refine co_enter (n := 9) Try.func25 rfl rfl rfl [(0, v), (1, .func (.func 26) #[] #[pt N 0])] rfl (fun a h0 => ?_)
 refine co_seq ?_
 refine co_reg ?_
 refine pk0 (v := .bool false) h0 rfl fun a1 h1 => ?_; clear h0
 refine pl_nil ?_
 refine co_then ?_
 refine co_seq ?_
 refine co_reg ?_
 refine pk0 (v := v) h1 rfl fun a2 h2 => ?_; clear h1
 refine pk0 (v := .func (.func 26) #[] #[pt N 0]) h2 rfl fun a3 h3 => ?_; clear h2
 refine pw h3 rfl (op_call (args := #[v, .func (.func 26) #[] #[pt N 0]]) (R := fun res xw => ∃ j : Int, res = .int .i64 j ∧ decide (j ≥ 0) = l.any (fun p => p.1 == tp) ∧ Below w.heap.size w xw) rfl rfl rfl (by kernel_rfl) (by kernel_rfl) (Try.call56 _ _) (indexP_any v l N b ep cv fl lgv hz pv tp _ _ _ w hs hN hb) (by rintro e x ⟨j, rfl, hq7, hb8⟩; exact ⟨_, rfl, ⟨j, rfl, hq7, hb8⟩⟩)) ?_; clear h3
 rintro _ w5 a4 ⟨j6, rfl, hq7, hb8⟩ h4
 have hz9 := hb8.size
 refine pk0 (v := .bool (decide (j6 ≥ 0))) h4 rfl fun a10 h10 => ?_; clear h4
 refine pk0 (v := .bool (decide (j6 ≥ 0))) h10 rfl fun a11 h11 => ?_; clear h10
 refine pl_nil ?_
 refine co_then ?_
 refine wp_ret ?_
 refine co_ret1 h11 rfl rfl ?_
 have hB12 := hb_call hB0 hb8
 exact ⟨ret_bool (by assumption), hB12⟩
end Go.Proofs.Ytnjbnndpbegkdaa
