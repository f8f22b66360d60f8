/- Put together: MstLLx, MstMLx, MstNLx, MstPLx, MstOLx, ConfJzLx, NoJLx, MstQLx, MstDLx, MstRLx. Conditions: as each says. -/
import Derived.Test.YtglfoippcmckaaaLy2
import Derived.Test.YtglfoippcmckaaaLy1
/- Package mstate: Apply of a configuration, of one who is trusted. Conditions: at most 900 trusted. -/
namespace Go.Proofs.Ytglfoippcmckaaa
open Go.RowKit Go.PlainAid
set_option linter.unusedVariables false
set_option linter.unusedSimpArgs false


theorem chkC_lenM {ep : Int} {ms : List MemT} (h : chkC ep ms = 0) : ms.length ≤ 20 := by
  unfold chkC at h
  repeat (split at h; · first | omega | simp at h)
  all_goals first | omega | assumption
theorem fwS_ne {ep fl cep cfl : Int} {ms cms : List MemT} {lg ids : List Int} (h : (fwS ep fl ms lg cep cfl cms ids).1 = 0) : 0 < ids.length ∧ (fwS ep fl ms lg cep cfl cms ids).2.2.2.2 = [] := by
  by_cases h0 : fwF ep cep cms ids = 0
  · rw [fwS_y h0]
    refine ⟨?_, rfl⟩
    cases ids with
    | nil =>
      unfold fwF at h0
      by_cases h1 : cep ≤ ep
      · rw [if_pos h1] at h0; omega
      · rw [if_neg h1] at h0; simp [memIds, inL] at h0
    | cons a r => simp
  · rw [fwS_n rfl h0] at h; exact absurd h h0
def ap5 (ms : List MemT) (lg : List Int) (d : NoteD) : Int × List Int := if chkN d ≠ 0 then (chkN d, lg) else trF ms lg [d.n]
def ap1 (ep fl : Int) (ms : List MemT) (lg : List Int) (d : NoteD) : Int × Int × Int × List MemT × List Int :=
  if chkN d ≠ 0 then (chkN d, ep, fl, ms, lg) else if (fwS ep fl ms lg d.ep d.fl d.ms d.lg).1 ≠ 0 then fwS ep fl ms lg d.ep d.fl d.ms d.lg
  else ((trF (fwS ep fl ms lg d.ep d.fl d.ms d.lg).2.2.2.1 (fwS ep fl ms lg d.ep d.fl d.ms d.lg).2.2.2.2 d.lg).1, (fwS ep fl ms lg d.ep d.fl d.ms d.lg).2.1, (fwS ep fl ms lg d.ep d.fl d.ms d.lg).2.2.1, (fwS ep fl ms lg d.ep d.fl d.ms d.lg).2.2.2.1, (trF (fwS ep fl ms lg d.ep d.fl d.ms d.lg).2.2.2.1 (fwS ep fl ms lg d.ep d.fl d.ms d.lg).2.2.2.2 d.lg).2)

set_option maxRecDepth 100000 in
set_option maxHeartbeats 1600000 in
theorem msApply5_any (b : Nat) (ep : Int) (cv : Value) (fl : Int) (lgv : Value) (hz : Int) (pv : Value) (tp : Int) (x0 : SdT) (x1 : SdT) (x2 : SdT) (ms : List MemT) (lg : List Int) (d : NoteD) (mv : Value) (lv : Value) (ev : Value) (w : World) (hb : Blk w b 66 #[.bool true, .int .i64 ep, cv, .int .u64 fl, lgv, .int .u64 hz, pv, .int .i64 tp, .bool x0.1, .int .i64 x0.2.1, .int .i64 x0.2.2.1, .int .i64 x0.2.2.2.1, .int .i64 x0.2.2.2.2, .bool x1.1, .int .i64 x1.2.1, .int .i64 x1.2.2.1, .int .i64 x1.2.2.2.1, .int .i64 x1.2.2.2.2, .bool x2.1, .int .i64 x2.2.1, .int .i64 x2.2.2.1, .int .i64 x2.2.2.2.1, .int .i64 x2.2.2.2.2]) (hcvr : w.ownsRow 0 88 2 cv ms.length (ms.flatMap memE)) (hlgr : w.ownsRow 0 3 1 lgv lg.length (lg.flatMap (intE .i64))) (hm : SliceOf memE 2 w mv d.ms) (hg : SliceOf (intE .i64) 1 w lv d.lg) (he : SliceOf opE 3 w ev d.el) (hR : NoteR d) (hbm : d.ms ≠ [] → ∀ k, mv.ownBlock = some k → ¬ k = b) (hbg : d.lg ≠ [] → ∀ k, lv.ownBlock = some k → ¬ k = b) (hbe : d.el ≠ [] → ∀ k, ev.ownBlock = some k → ¬ k = b) (hkx : d.k = 5) (hlg9 : lg.length ≤ 900) :
    Calls Try.prog 11 #[pt b 0, .agg #[.int .i64 d.k, .int .i64 d.n, .int .u64 d.t, .int .i64 d.ep, mv, .int .u64 d.fl, lv, .int .i64 d.ec, .int .i64 d.er, ev, .int .u64 d.ets, .int .i64 d.pid, .int .u64 d.pat, .int .i64 d.plf, .int .i64 d.sc, .int .i64 d.sr, .int .i64 d.se, .int .i64 d.sp]] w fun e w' => ∃ (lv2 : Value), e = .returned (.int .i64 ((ap5 ms lg d).1)) ∧ Blk w' b 66 #[.bool true, .int .i64 ep, cv, .int .u64 fl, lv2, .int .u64 hz, pv, .int .i64 tp, .bool x0.1, .int .i64 x0.2.1, .int .i64 x0.2.2.1, .int .i64 x0.2.2.2.1, .int .i64 x0.2.2.2.2, .bool x1.1, .int .i64 x1.2.1, .int .i64 x1.2.2.1, .int .i64 x1.2.2.2.1, .int .i64 x1.2.2.2.2, .bool x2.1, .int .i64 x2.2.1, .int .i64 x2.2.2.1, .int .i64 x2.2.2.2.1, .int .i64 x2.2.2.2.2] ∧ w'.ownsRow 0 3 1 lv2 ((ap5 ms lg d).2).length (((ap5 ms lg d).2).flatMap (intE .i64)) ∧ But (fun q => q = b) w w' := by
 have hrng := hR.rng
 have hB0 := But.refl (fun q => q = b) w
 have hl_hb := hb.lt
 have hl_hm := sl_len hm
 have hl_hg := sl_len hg
 have hl_he := sl_len he
 refine co_enter (n := 113) Try.func11 rfl rfl rfl [(0, pt b 0), (1, .agg #[.int .i64 d.k, .int .i64 d.n, .int .u64 d.t, .int .i64 d.ep, mv, .int .u64 d.fl, lv, .int .i64 d.ec, .int .i64 d.er, ev, .int .u64 d.ets, .int .i64 d.pid, .int .u64 d.pat, .int .i64 d.plf, .int .i64 d.sc, .int .i64 d.sr, .int .i64 d.se, .int .i64 d.sp])] rfl (fun a h0 => ?_)
 refine co_seq ?_
 refine co_reg ?_
 refine pw h0 rfl (op_new (v := fun N => pt N 0) (T := 48) (cs := #[.int .i64 d.k, .int .i64 d.n, .int .u64 d.t, .int .i64 d.ep, mv, .int .u64 d.fl, lv, .int .i64 d.ec, .int .i64 d.er, ev, .int .u64 d.ets, .int .i64 d.pid, .int .u64 d.pat, .int .i64 d.plf, .int .i64 d.sc, .int .i64 d.sr, .int .i64 d.se, .int .i64 d.sp]) (by kernel_rfl) (by kernel_rfl) (by kernel_rfl)) ?_; clear h0
 rintro _ w2 a1 ⟨N3, rfl, hN6, hz7, hk5, hg4⟩ h1
 have ha8 := row_fresh hlgr hN6
 have ha9 := row_fresh hcvr hN6
 have hz10 := hg4.size
 try dsimp only at h1
 refine pk0 (v := .int .i64 0) h1 rfl fun a11 h11 => ?_; clear h1
 refine pl_nil ?_
 refine co_then ?_
 refine co_seq ?_
 refine co_seq ?_
 refine co_reg ?_
 refine pk0 (v := pt b 0) h11 rfl fun a12 h12 => ?_; clear h11
 have hk15 := hb.kept hg4 (by simp)
 refine pw h12 rfl (op_call (args := #[pt b 0]) (R := fun res xw => res = .bool false ∧ Below w2.heap.size w2 xw) rfl rfl rfl (by kernel_rfl) (by kernel_rfl) (Try.call19 _ _) (mszeroT b ep cv fl lgv hz pv tp x0 x1 x2 w2 hk15) (by rintro e x ⟨rfl, hb16⟩; exact ⟨_, rfl, ⟨rfl, hb16⟩⟩)) ?_; clear h12
 rintro _ w14 a13 ⟨rfl, hb16⟩ h13
 have hz17 := hb16.size
 refine pl_nil ?_
 refine co_then ?_
 refine co_false h13 rfl ?_
 refine wp_skip ?_
 refine co_then ?_
 refine co_seq ?_
 refine co_seq ?_
 refine co_reg ?_
 have hk18 := hk5.below hb16
 refine pk (v := .agg #[.int .i64 d.k, .int .i64 d.n, .int .u64 d.t, .int .i64 d.ep, mv, .int .u64 d.fl, lv, .int .i64 d.ec, .int .i64 d.er, ev, .int .u64 d.ets, .int .i64 d.pid, .int .u64 d.pat, .int .i64 d.plf, .int .i64 d.sc, .int .i64 d.sr, .int .i64 d.se, .int .i64 d.sp]) h13 rfl (rn_loadN rfl rfl Try.underlying48 rfl (by kernel_rfl) hk18.all) fun a19 h19 => ?_; clear h13
 have hB22 := fb_new hB0 hg4
 have hB23 := fb_call hB22 hb16
 refine pw h19 rfl (op_call (args := #[.agg #[.int .i64 d.k, .int .i64 d.n, .int .u64 d.t, .int .i64 d.ep, mv, .int .u64 d.fl, lv, .int .i64 d.ec, .int .i64 d.er, ev, .int .u64 d.ets, .int .i64 d.pid, .int .u64 d.pat, .int .i64 d.plf, .int .i64 d.sc, .int .i64 d.sr, .int .i64 d.se, .int .i64 d.sp]]) (R := fun res xw => res = .int .i64 (chkN d) ∧ Below w14.heap.size w14 xw) rfl rfl rfl (by kernel_rfl) (by kernel_rfl) (Try.call22 _ _) (nCheck_any d mv lv ev w14 (sl_butS hm hB23 hbm) (sl_butS hg hB23 hbg) (sl_butS he hB23 hbe) hR) (by rintro e x ⟨rfl, hb24⟩; exact ⟨_, rfl, ⟨rfl, hb24⟩⟩)) ?_; clear h19
 rintro _ w21 a20 ⟨rfl, hb24⟩ h20
 have hz25 := hb24.size
 refine pk0 (v := .int .i64 (chkN d)) h20 rfl fun a26 h26 => ?_; clear h20
 refine pl_nil ?_
 refine co_then ?_
 refine co_seq ?_
 refine co_reg ?_
 refine pk0 (v := .int .i64 (chkN d)) h26 rfl fun a27 h27 => ?_; clear h26
 refine pk0 (v := .bool (chkN d != 0)) h27 rfl fun a28 h28 => ?_; clear h27
 refine pl_nil ?_
 refine co_then ?_
 have hB30 := fb_call hB23 hb24
 have hk31 := hk15.below hb16
 have hk32 := hk31.below hb24
 have hr33 := row_kept_new hlgr hg4
 have hr34 := row_kept_new hr33 (below_grown hb16)
 have hr35 := row_kept_new hr34 (below_grown hb24)
 have hr36 := row_kept_new hcvr hg4
 have hr37 := row_kept_new hr36 (below_grown hb16)
 have hr38 := row_kept_new hr37 (below_grown hb24)
 cases hc29 : (chkN d != 0)
 ·
  rw [hc29] at h28
  have hp39 : ¬ (chkN d ≠ 0) := by first | simpa using hc29 | simpa [and_assoc] using hc29
  clear hc29
  refine co_false h28 rfl ?_
  refine wp_skip ?_
  refine co_then ?_
  refine co_seq ?_
  refine co_reg ?_
  refine pk0 (v := pt N3 1) h28 rfl fun a40 h40 => ?_; clear h28
  have hk41 := hk18.below hb24
  refine pk (v := .int .i64 d.n) h40 rfl (rn_load1 rfl rfl Try.isAgg3 (hk41.cell rfl)) fun a42 h42 => ?_; clear h40
  refine pw h42 rfl (op_new (v := fun N => .slice (some ⟨N, 0, none⟩) 1 1) (T := 3) (cs := #[.int .i64 d.n]) (by kernel_rfl) (by kernel_rfl) (by kernel_rfl)) ?_; clear h42
  rintro _ w44 a43 ⟨N45, rfl, hN48, hz49, hk47, hg46⟩ h43
  have ha50 := row_fresh hr35 hN48
  have ha51 := row_fresh hr38 hN48
  have hz52 := hg46.size
  try dsimp only at h43
  refine pk0 (v := .slice (some ⟨N45, 0, none⟩) 1 1) h43 rfl fun a53 h53 => ?_; clear h43
  refine pl_nil ?_
  refine co_then ?_
  refine co_seq ?_
  refine co_seq ?_
  refine co_reg ?_
  refine pk0 (v := pt N3 0) h53 rfl fun a54 h54 => ?_; clear h53
  have hk55 := hk41.kept hg46 (by simp)
  refine pk (v := .int .i64 d.k) h54 rfl (rn_load1 rfl rfl Try.isAgg3 (hk55.cell rfl)) fun a56 h56 => ?_; clear h54
  refine pl_nil ?_
  refine co_then ?_
  refine wp_block ?_
  refine co_seq ?_
  refine wp_block ?_
  refine co_seq ?_
  refine wp_block ?_
  refine co_seq ?_
  refine wp_block ?_
  refine co_seq ?_
  refine wp_block ?_
  refine co_seq ?_
  refine wp_block ?_
  refine co_seq ?_
  refine wp_block ?_
  refine co_seq ?_
  refine wp_block ?_
  refine co_seq ?_
  refine co_seq ?_
  refine co_seq ?_
  refine co_reg ?_
  refine pk0 (v := .bool (d.k == 1)) h56 rfl fun a57 h57 => ?_; clear h56
  refine pk0 (v := .bool (d.k == 1)) h57 rfl fun a58 h58 => ?_; clear h57
  refine pl_nil ?_
  refine co_then ?_
  have hc59 : (d.k == 1) = false := by first | (simp; done) | (simp; omega) | exact beq_false_of_ne (by omega) | exact beq_iff_eq.2 (by omega)
  rw [hc59] at h58; clear hc59
  refine co_false h58 rfl ?_
  refine wp_skip ?_
  refine co_then ?_
  refine co_seq ?_
  refine co_seq ?_
  refine co_reg ?_
  refine pk0 (v := .bool (d.k == 5)) h58 rfl fun a60 h60 => ?_; clear h58
  refine pk0 (v := .bool (d.k == 5)) h60 rfl fun a61 h61 => ?_; clear h60
  refine pl_nil ?_
  refine co_then ?_
  have hc62 : (d.k == 5) = true := by first | (simp; done) | (simp; omega) | exact beq_false_of_ne (by omega) | exact beq_iff_eq.2 (by omega)
  rw [hc62] at h61; clear hc62
  refine co_true h61 rfl ?_
  refine wp_exit ?_
  refine co_thenX ?_
  refine co_thenX ?_
  refine co_blockY (by decide) ?_
  refine co_thenX ?_
  refine co_blockX ?_
  refine co_then ?_
  refine co_seq ?_
  refine co_seq ?_
  refine co_reg ?_
  refine pk0 (v := pt b 0) h61 rfl fun a63 h63 => ?_; clear h61
  refine pk0 (v := .slice (some ⟨N45, 0, none⟩) 1 1) h63 rfl fun a64 h64 => ?_; clear h63
  have hB67 := fb_new hB30 hg46
  have hq68 := row_of_cells (enc := intE .i64) (sz := 1) (base := 0) [d.n] hk47 (Nat.zero_le _) rfl rfl (by simp [maxLen])
  have hk69 := hk32.kept hg46 (by simp)
  have hlb9 := hk69.lt
  have hr70 := row_kept_new hr38 hg46
  have hr71 := row_kept_new hr35 hg46
  have hapt := own_neT hr70 hk69 (by decide)
  refine pw h64 rfl (op_call (args := #[pt b 0, .slice (some ⟨N45, 0, none⟩) 1 1]) (R := fun res xw => ∃ lv2 : Value, res = .int .i64 ((trF ms lg ([d.n])).1) ∧ Blk xw b 66 #[.bool true, .int .i64 ep, cv, .int .u64 fl, lv2, .int .u64 hz, pv, .int .i64 tp, .bool x0.1, .int .i64 x0.2.1, .int .i64 x0.2.2.1, .int .i64 x0.2.2.2.1, .int .i64 x0.2.2.2.2, .bool x1.1, .int .i64 x1.2.1, .int .i64 x1.2.2.1, .int .i64 x1.2.2.2.1, .int .i64 x1.2.2.2.2, .bool x2.1, .int .i64 x2.2.1, .int .i64 x2.2.2.1, .int .i64 x2.2.2.2.1, .int .i64 x2.2.2.2.2] ∧ xw.ownsRow 0 3 1 lv2 ((trF ms lg ([d.n])).2).length (((trF ms lg ([d.n])).2).flatMap (intE .i64)) ∧ But (fun q => q = b) w44 xw) rfl rfl rfl (by kernel_rfl) (by kernel_rfl) (Try.call24 _ _) (msTrust_any b ep cv fl lgv hz pv tp x0 x1 x2 ms lg (.slice (some ⟨N45, 0, none⟩) 1 1) ([d.n]) w44 hk69 (row_sl hr70 memE_len) (row_lows hr71 (Nat.zero_le _)) (row_sl hq68 (fun _ => rfl)) (by simp) (by simp only [List.length_cons, List.length_nil]; omega) (fun _ k e q => own_neT hr70 hk69 (by decide) (by rw [e, q])) (fun _ k e q => by simp [Value.ownBlock] at e; omega)) (by rintro e x ⟨lv2, rfl, hq73, hq74, hb75⟩; exact ⟨_, rfl, ⟨lv2, rfl, hq73, hq74, hb75⟩⟩)) ?_; clear h64
  rintro _ w66 a65 ⟨lv272, rfl, hq73, hq74, hb75⟩ h65
  have hz76 := hb75.size
  have hl77 := hq73.lt
  refine pk0 (v := .int .i64 ((trF ms lg ([d.n])).1)) h65 rfl fun a78 h78 => ?_; clear h65
  refine pl_nil ?_
  refine co_then ?_
  refine wp_ret ?_
  refine co_thenR ?_
  refine co_blockR ?_
  refine co_thenR ?_
  refine co_blockR ?_
  refine co_thenR ?_
  refine co_blockR ?_
  refine co_thenR ?_
  refine co_blockR ?_
  refine co_thenR ?_
  refine co_blockR ?_
  refine co_thenR ?_
  refine co_blockR ?_
  refine co_thenR ?_
  refine co_ret1 h78 rfl rfl ?_
  have hB79 := fb_foot hB67 hb75 (fun i hlt hS => by (try simp at hS); first | omega | (simp; omega) | simp_all)
  have hA : ap5 ms lg d = ((trF ms lg ([d.n])).1, (trF ms lg ([d.n])).2) := by unfold ap5; first | (rw [if_pos (by omega)]; done) | (rw [if_neg (by omega)]; done) | (rw [if_neg (by omega)]; rfl)
  exact ⟨lv272, by rw [hA], hq73, by rw [hA]; exact hq74, hB79⟩
 ·
  rw [hc29] at h28
  have hp80 : chkN d ≠ 0 := by first | simpa using hc29 | simpa [and_assoc] using hc29
  clear hc29
  refine co_true h28 rfl ?_
  refine co_seq ?_
  refine co_reg ?_
  refine pk0 (v := .int .i64 (chkN d)) h28 rfl fun a81 h81 => ?_; clear h28
  refine pk0 (v := .int .i64 (chkN d)) h81 rfl fun a82 h82 => ?_; clear h81
  refine pl_nil ?_
  refine co_then ?_
  refine wp_ret ?_
  refine co_thenR ?_
  refine co_ret1 h82 rfl rfl ?_
  have hA : ap5 ms lg d = (chkN d, lg) := by unfold ap5; first | (rw [if_pos (by omega)]; done) | (rw [if_neg (by omega)]; done) | (rw [if_neg (by omega)]; rfl)
  exact ⟨lgv, by rw [hA], hk32, by rw [hA]; exact hr35, hB30⟩
set_option maxRecDepth 100000 in
set_option maxHeartbeats 1600000 in
theorem msApply1_any (b : Nat) (ep : Int) (cv : Value) (fl : Int) (lgv : Value) (hz : Int) (pv : Value) (tp : Int) (x0 : SdT) (x1 : SdT) (x2 : SdT) (ms : List MemT) (lg : List Int) (d : NoteD) (mv : Value) (lv : Value) (ev : Value) (w : World) (hb : Blk w b 66 #[.bool true, .int .i64 ep, cv, .int .u64 fl, lgv, .int .u64 hz, pv, .int .i64 tp, .bool x0.1, .int .i64 x0.2.1, .int .i64 x0.2.2.1, .int .i64 x0.2.2.2.1, .int .i64 x0.2.2.2.2, .bool x1.1, .int .i64 x1.2.1, .int .i64 x1.2.2.1, .int .i64 x1.2.2.2.1, .int .i64 x1.2.2.2.2, .bool x2.1, .int .i64 x2.2.1, .int .i64 x2.2.2.1, .int .i64 x2.2.2.2.1, .int .i64 x2.2.2.2.2]) (hcvr : w.ownsRow 0 88 2 cv ms.length (ms.flatMap memE)) (hlgr : w.ownsRow 0 3 1 lgv lg.length (lg.flatMap (intE .i64))) (hm : SliceOf memE 2 w mv d.ms) (hg : SliceOf (intE .i64) 1 w lv d.lg) (he : SliceOf opE 3 w ev d.el) (hR : NoteR d) (hbm : d.ms ≠ [] → ∀ k, mv.ownBlock = some k → ¬ k = b) (hbg : d.lg ≠ [] → ∀ k, lv.ownBlock = some k → ¬ k = b) (hbe : d.el ≠ [] → ∀ k, ev.ownBlock = some k → ¬ k = b) (hkx : d.k = 1) :
    Calls Try.prog 11 #[pt b 0, .agg #[.int .i64 d.k, .int .i64 d.n, .int .u64 d.t, .int .i64 d.ep, mv, .int .u64 d.fl, lv, .int .i64 d.ec, .int .i64 d.er, ev, .int .u64 d.ets, .int .i64 d.pid, .int .u64 d.pat, .int .i64 d.plf, .int .i64 d.sc, .int .i64 d.sr, .int .i64 d.se, .int .i64 d.sp]] w fun e w' => ∃ (cv2 : Value) (lv2 : Value), e = .returned (.int .i64 ((ap1 ep fl ms lg d).1)) ∧ Blk w' b 66 #[.bool true, .int .i64 ((ap1 ep fl ms lg d).2.1), cv2, .int .u64 ((ap1 ep fl ms lg d).2.2.1), lv2, .int .u64 hz, pv, .int .i64 tp, .bool x0.1, .int .i64 x0.2.1, .int .i64 x0.2.2.1, .int .i64 x0.2.2.2.1, .int .i64 x0.2.2.2.2, .bool x1.1, .int .i64 x1.2.1, .int .i64 x1.2.2.1, .int .i64 x1.2.2.2.1, .int .i64 x1.2.2.2.2, .bool x2.1, .int .i64 x2.2.1, .int .i64 x2.2.2.1, .int .i64 x2.2.2.2.1, .int .i64 x2.2.2.2.2] ∧ w'.ownsRow 0 88 2 cv2 ((ap1 ep fl ms lg d).2.2.2.1).length (((ap1 ep fl ms lg d).2.2.2.1).flatMap memE) ∧ w'.ownsRow 0 3 1 lv2 ((ap1 ep fl ms lg d).2.2.2.2).length (((ap1 ep fl ms lg d).2.2.2.2).flatMap (intE .i64)) ∧ But (fun q => q = b) w w' := by
 have hrng := hR.rng
 have hB0 := But.refl (fun q => q = b) w
 have hl_hb := hb.lt
 have hl_hm := sl_len hm
 have hl_hg := sl_len hg
 have hl_he := sl_len he
 refine co_enter (n := 113) Try.func11 rfl rfl rfl [(0, pt b 0), (1, .agg #[.int .i64 d.k, .int .i64 d.n, .int .u64 d.t, .int .i64 d.ep, mv, .int .u64 d.fl, lv, .int .i64 d.ec, .int .i64 d.er, ev, .int .u64 d.ets, .int .i64 d.pid, .int .u64 d.pat, .int .i64 d.plf, .int .i64 d.sc, .int .i64 d.sr, .int .i64 d.se, .int .i64 d.sp])] rfl (fun a h0 => ?_)
 refine co_seq ?_
 refine co_reg ?_
 refine pw h0 rfl (op_new (v := fun N => pt N 0) (T := 48) (cs := #[.int .i64 d.k, .int .i64 d.n, .int .u64 d.t, .int .i64 d.ep, mv, .int .u64 d.fl, lv, .int .i64 d.ec, .int .i64 d.er, ev, .int .u64 d.ets, .int .i64 d.pid, .int .u64 d.pat, .int .i64 d.plf, .int .i64 d.sc, .int .i64 d.sr, .int .i64 d.se, .int .i64 d.sp]) (by kernel_rfl) (by kernel_rfl) (by kernel_rfl)) ?_; clear h0
 rintro _ w2 a1 ⟨N3, rfl, hN6, hz7, hk5, hg4⟩ h1
 have ha8 := row_fresh hlgr hN6
 have ha9 := row_fresh hcvr hN6
 have hz10 := hg4.size
 try dsimp only at h1
 refine pk0 (v := .int .i64 0) h1 rfl fun a11 h11 => ?_; clear h1
 refine pl_nil ?_
 refine co_then ?_
 refine co_seq ?_
 refine co_seq ?_
 refine co_reg ?_
 refine pk0 (v := pt b 0) h11 rfl fun a12 h12 => ?_; clear h11
 have hk15 := hb.kept hg4 (by simp)
 refine pw h12 rfl (op_call (args := #[pt b 0]) (R := fun res xw => res = .bool false ∧ Below w2.heap.size w2 xw) rfl rfl rfl (by kernel_rfl) (by kernel_rfl) (Try.call19 _ _) (mszeroT b ep cv fl lgv hz pv tp x0 x1 x2 w2 hk15) (by rintro e x ⟨rfl, hb16⟩; exact ⟨_, rfl, ⟨rfl, hb16⟩⟩)) ?_; clear h12
 rintro _ w14 a13 ⟨rfl, hb16⟩ h13
 have hz17 := hb16.size
 refine pl_nil ?_
 refine co_then ?_
 refine co_false h13 rfl ?_
 refine wp_skip ?_
 refine co_then ?_
 refine co_seq ?_
 refine co_seq ?_
 refine co_reg ?_
 have hk18 := hk5.below hb16
 refine pk (v := .agg #[.int .i64 d.k, .int .i64 d.n, .int .u64 d.t, .int .i64 d.ep, mv, .int .u64 d.fl, lv, .int .i64 d.ec, .int .i64 d.er, ev, .int .u64 d.ets, .int .i64 d.pid, .int .u64 d.pat, .int .i64 d.plf, .int .i64 d.sc, .int .i64 d.sr, .int .i64 d.se, .int .i64 d.sp]) h13 rfl (rn_loadN rfl rfl Try.underlying48 rfl (by kernel_rfl) hk18.all) fun a19 h19 => ?_; clear h13
 have hB22 := fb_new hB0 hg4
 have hB23 := fb_call hB22 hb16
 refine pw h19 rfl (op_call (args := #[.agg #[.int .i64 d.k, .int .i64 d.n, .int .u64 d.t, .int .i64 d.ep, mv, .int .u64 d.fl, lv, .int .i64 d.ec, .int .i64 d.er, ev, .int .u64 d.ets, .int .i64 d.pid, .int .u64 d.pat, .int .i64 d.plf, .int .i64 d.sc, .int .i64 d.sr, .int .i64 d.se, .int .i64 d.sp]]) (R := fun res xw => res = .int .i64 (chkN d) ∧ Below w14.heap.size w14 xw) rfl rfl rfl (by kernel_rfl) (by kernel_rfl) (Try.call22 _ _) (nCheck_any d mv lv ev w14 (sl_butS hm hB23 hbm) (sl_butS hg hB23 hbg) (sl_butS he hB23 hbe) hR) (by rintro e x ⟨rfl, hb24⟩; exact ⟨_, rfl, ⟨rfl, hb24⟩⟩)) ?_; clear h19
 rintro _ w21 a20 ⟨rfl, hb24⟩ h20
 have hz25 := hb24.size
 refine pk0 (v := .int .i64 (chkN d)) h20 rfl fun a26 h26 => ?_; clear h20
 refine pl_nil ?_
 refine co_then ?_
 refine co_seq ?_
 refine co_reg ?_
 refine pk0 (v := .int .i64 (chkN d)) h26 rfl fun a27 h27 => ?_; clear h26
 refine pk0 (v := .bool (chkN d != 0)) h27 rfl fun a28 h28 => ?_; clear h27
 refine pl_nil ?_
 refine co_then ?_
 have hB30 := fb_call hB23 hb24
 have hk31 := hk15.below hb16
 have hk32 := hk31.below hb24
 have hr33 := row_kept_new hlgr hg4
 have hr34 := row_kept_new hr33 (below_grown hb16)
 have hr35 := row_kept_new hr34 (below_grown hb24)
 have hr36 := row_kept_new hcvr hg4
 have hr37 := row_kept_new hr36 (below_grown hb16)
 have hr38 := row_kept_new hr37 (below_grown hb24)
 cases hc29 : (chkN d != 0)
 ·
  rw [hc29] at h28
  have hp39 : ¬ (chkN d ≠ 0) := by first | simpa using hc29 | simpa [and_assoc] using hc29
  clear hc29
  refine co_false h28 rfl ?_
  refine wp_skip ?_
  refine co_then ?_
  refine co_seq ?_
  refine co_reg ?_
  refine pk0 (v := pt N3 1) h28 rfl fun a40 h40 => ?_; clear h28
  have hk41 := hk18.below hb24
  refine pk (v := .int .i64 d.n) h40 rfl (rn_load1 rfl rfl Try.isAgg3 (hk41.cell rfl)) fun a42 h42 => ?_; clear h40
  refine pw h42 rfl (op_new (v := fun N => .slice (some ⟨N, 0, none⟩) 1 1) (T := 3) (cs := #[.int .i64 d.n]) (by kernel_rfl) (by kernel_rfl) (by kernel_rfl)) ?_; clear h42
  rintro _ w44 a43 ⟨N45, rfl, hN48, hz49, hk47, hg46⟩ h43
  have ha50 := row_fresh hr35 hN48
  have ha51 := row_fresh hr38 hN48
  have hz52 := hg46.size
  try dsimp only at h43
  refine pk0 (v := .slice (some ⟨N45, 0, none⟩) 1 1) h43 rfl fun a53 h53 => ?_; clear h43
  refine pl_nil ?_
  refine co_then ?_
  refine co_seq ?_
  refine co_seq ?_
  refine co_reg ?_
  refine pk0 (v := pt N3 0) h53 rfl fun a54 h54 => ?_; clear h53
  have hk55 := hk41.kept hg46 (by simp)
  refine pk (v := .int .i64 d.k) h54 rfl (rn_load1 rfl rfl Try.isAgg3 (hk55.cell rfl)) fun a56 h56 => ?_; clear h54
  refine pl_nil ?_
  refine co_then ?_
  refine wp_block ?_
  refine co_seq ?_
  refine wp_block ?_
  refine co_seq ?_
  refine wp_block ?_
  refine co_seq ?_
  refine wp_block ?_
  refine co_seq ?_
  refine wp_block ?_
  refine co_seq ?_
  refine wp_block ?_
  refine co_seq ?_
  refine wp_block ?_
  refine co_seq ?_
  refine wp_block ?_
  refine co_seq ?_
  refine co_seq ?_
  refine co_seq ?_
  refine co_reg ?_
  refine pk0 (v := .bool (d.k == 1)) h56 rfl fun a57 h57 => ?_; clear h56
  refine pk0 (v := .bool (d.k == 1)) h57 rfl fun a58 h58 => ?_; clear h57
  refine pl_nil ?_
  refine co_then ?_
  have hc59 : (d.k == 1) = true := by first | (simp; done) | (simp; omega) | exact beq_false_of_ne (by omega) | exact beq_iff_eq.2 (by omega)
  rw [hc59] at h58; clear hc59
  refine co_true h58 rfl ?_
  refine wp_exit ?_
  refine co_thenX ?_
  refine co_thenX ?_
  refine co_blockX ?_
  refine co_then ?_
  refine co_seq ?_
  refine co_reg ?_
  refine pk0 (v := pt N3 6) h58 rfl fun a60 h60 => ?_; clear h58
  refine pk (v := lv) h60 rfl (rn_load1 rfl rfl Try.isAgg37 (hk55.cell rfl)) fun a61 h61 => ?_; clear h60
  refine pk0 (v := lv) h61 rfl fun a62 h62 => ?_; clear h61
  refine pl_nil ?_
  refine co_then ?_
  refine co_seq ?_
  refine co_reg ?_
  refine pk0 (v := pt b 0) h62 rfl fun a63 h63 => ?_; clear h62
  refine pk0 (v := pt N3 3) h63 rfl fun a64 h64 => ?_; clear h63
  refine pk (v := .agg #[.int .i64 d.ep, mv, .int .u64 d.fl]) h64 rfl (rn_loadN rfl rfl Try.underlying31 rfl (by kernel_rfl) (blk_part hk55 3 (by rfl))) fun a65 h65 => ?_; clear h64
  refine pk0 (v := lv) h65 rfl fun a66 h66 => ?_; clear h65
  have hB69 := fb_new hB30 hg46
  have hml : d.ms.length ≤ 20 := chkC_lenM (((chkN_ok (d := d) (by omega)).2.1 (by omega)).1)
  have hr70 := row_kept_new hr38 hg46
  have hr71 := row_kept_new hr35 hg46
  have hk72 := hk32.kept hg46 (by simp)
  refine pw h66 rfl (op_call (args := #[pt b 0, .agg #[.int .i64 d.ep, mv, .int .u64 d.fl], lv]) (R := fun res xw => ∃ cv2 : Value, ∃ lv2 : Value, res = .int .i64 ((fwS ep fl ms lg d.ep d.fl d.ms d.lg).1) ∧ Blk xw b 66 #[.bool true, .int .i64 ((fwS ep fl ms lg d.ep d.fl d.ms d.lg).2.1), cv2, .int .u64 ((fwS ep fl ms lg d.ep d.fl d.ms d.lg).2.2.1), lv2, .int .u64 hz, pv, .int .i64 tp, .bool x0.1, .int .i64 x0.2.1, .int .i64 x0.2.2.1, .int .i64 x0.2.2.2.1, .int .i64 x0.2.2.2.2, .bool x1.1, .int .i64 x1.2.1, .int .i64 x1.2.2.1, .int .i64 x1.2.2.2.1, .int .i64 x1.2.2.2.2, .bool x2.1, .int .i64 x2.2.1, .int .i64 x2.2.2.1, .int .i64 x2.2.2.2.1, .int .i64 x2.2.2.2.2] ∧ xw.ownsRow 0 88 2 cv2 ((fwS ep fl ms lg d.ep d.fl d.ms d.lg).2.2.2.1).length (((fwS ep fl ms lg d.ep d.fl d.ms d.lg).2.2.2.1).flatMap memE) ∧ xw.ownsRow 0 3 1 lv2 ((fwS ep fl ms lg d.ep d.fl d.ms d.lg).2.2.2.2).length (((fwS ep fl ms lg d.ep d.fl d.ms d.lg).2.2.2.2).flatMap (intE .i64)) ∧ But (fun q => q = b) w44 xw) rfl rfl rfl (by kernel_rfl) (by kernel_rfl) (Try.call23 _ _) (msFollow_any b ep cv fl lgv hz pv tp x0 x1 x2 ms lg d.ep d.fl mv d.ms lv d.lg w44 hk72 (row_lows hr70 (Nat.zero_le _)) (row_lows hr71 (Nat.zero_le _)) (sl_butS hm hB69 hbm) (sl_butS hg hB69 hbg) hml hbm hbg) (by rintro e x ⟨cv2, lv2, rfl, hq75, hq76, hq77, hb78⟩; exact ⟨_, rfl, ⟨cv2, lv2, rfl, hq75, hq76, hq77, hb78⟩⟩)) ?_; clear h66
  rintro _ w68 a67 ⟨cv273, lv274, rfl, hq75, hq76, hq77, hb78⟩ h67
  have hz79 := hb78.size
  have hl80 := hq75.lt
  refine pk0 (v := .int .i64 ((fwS ep fl ms lg d.ep d.fl d.ms d.lg).1)) h67 rfl fun a81 h81 => ?_; clear h67
  refine pl_nil ?_
  refine co_then ?_
  refine co_seq ?_
  refine co_reg ?_
  refine pk0 (v := .int .i64 ((fwS ep fl ms lg d.ep d.fl d.ms d.lg).1)) h81 rfl fun a82 h82 => ?_; clear h81
  refine pk0 (v := .bool ((fwS ep fl ms lg d.ep d.fl d.ms d.lg).1 != 0)) h82 rfl fun a83 h83 => ?_; clear h82
  refine pl_nil ?_
  refine co_then ?_
  have hB85 := fb_foot hB69 hb78 (fun i hlt hS => by (try simp at hS); first | omega | (simp; omega) | simp_all)
  cases hc84 : ((fwS ep fl ms lg d.ep d.fl d.ms d.lg).1 != 0)
  ·
   rw [hc84] at h83
   have hp86 : ¬ ((fwS ep fl ms lg d.ep d.fl d.ms d.lg).1 ≠ 0) := by first | simpa using hc84 | simpa [and_assoc] using hc84
   clear hc84
   refine co_false h83 rfl ?_
   refine wp_skip ?_
   refine co_blockN ?_
   refine co_then ?_
   refine co_seq ?_
   refine co_seq ?_
   refine co_reg ?_
   refine pk0 (v := pt b 0) h83 rfl fun a87 h87 => ?_; clear h83
   refine pk0 (v := lv) h87 rfl fun a88 h88 => ?_; clear h87
   have hfn := fwS_ne (by omega : (fwS ep fl ms lg d.ep d.fl d.ms d.lg).1 = 0)
   have hapt := own_neT hq76 hq75 (by decide)
   refine pw h88 rfl (op_call (args := #[pt b 0, lv]) (R := fun res xw => ∃ lv2 : Value, res = .int .i64 ((trF ((fwS ep fl ms lg d.ep d.fl d.ms d.lg).2.2.2.1) ((fwS ep fl ms lg d.ep d.fl d.ms d.lg).2.2.2.2) d.lg).1) ∧ Blk xw b 66 #[.bool true, .int .i64 ((fwS ep fl ms lg d.ep d.fl d.ms d.lg).2.1), cv273, .int .u64 ((fwS ep fl ms lg d.ep d.fl d.ms d.lg).2.2.1), lv2, .int .u64 hz, pv, .int .i64 tp, .bool x0.1, .int .i64 x0.2.1, .int .i64 x0.2.2.1, .int .i64 x0.2.2.2.1, .int .i64 x0.2.2.2.2, .bool x1.1, .int .i64 x1.2.1, .int .i64 x1.2.2.1, .int .i64 x1.2.2.2.1, .int .i64 x1.2.2.2.2, .bool x2.1, .int .i64 x2.2.1, .int .i64 x2.2.2.1, .int .i64 x2.2.2.2.1, .int .i64 x2.2.2.2.2] ∧ xw.ownsRow 0 3 1 lv2 ((trF ((fwS ep fl ms lg d.ep d.fl d.ms d.lg).2.2.2.1) ((fwS ep fl ms lg d.ep d.fl d.ms d.lg).2.2.2.2) d.lg).2).length (((trF ((fwS ep fl ms lg d.ep d.fl d.ms d.lg).2.2.2.1) ((fwS ep fl ms lg d.ep d.fl d.ms d.lg).2.2.2.2) d.lg).2).flatMap (intE .i64)) ∧ But (fun q => q = b) w68 xw) rfl rfl rfl (by kernel_rfl) (by kernel_rfl) (Try.call24 _ _) (msTrust_any b ((fwS ep fl ms lg d.ep d.fl d.ms d.lg).2.1) cv273 ((fwS ep fl ms lg d.ep d.fl d.ms d.lg).2.2.1) lv274 hz pv tp x0 x1 x2 ((fwS ep fl ms lg d.ep d.fl d.ms d.lg).2.2.2.1) ((fwS ep fl ms lg d.ep d.fl d.ms d.lg).2.2.2.2) lv d.lg w68 hq75 (row_sl hq76 memE_len) (row_lows hq77 (Nat.zero_le _)) (sl_butS hg hB85 hbg) (by have := hfn.1; omega) (by rw [hfn.2]; have := ((chkN_ok (d := d) (by omega)).2.1 (by omega)).2.2; simp only [List.length_nil]; omega) (fun _ k e q => own_neT hq76 hq75 (by decide) (by rw [e, q])) hbg) (by rintro e x ⟨lv2, rfl, hq92, hq93, hb94⟩; exact ⟨_, rfl, ⟨lv2, rfl, hq92, hq93, hb94⟩⟩)) ?_; clear h88
   rintro _ w90 a89 ⟨lv291, rfl, hq92, hq93, hb94⟩ h89
   have hz95 := hb94.size
   have hl96 := hq92.lt
   refine pk0 (v := .int .i64 ((trF ((fwS ep fl ms lg d.ep d.fl d.ms d.lg).2.2.2.1) ((fwS ep fl ms lg d.ep d.fl d.ms d.lg).2.2.2.2) d.lg).1)) h89 rfl fun a97 h97 => ?_; clear h89
   refine pl_nil ?_
   refine co_then ?_
   refine wp_ret ?_
   refine co_thenR ?_
   refine co_blockR ?_
   refine co_thenR ?_
   refine co_blockR ?_
   refine co_thenR ?_
   refine co_blockR ?_
   refine co_thenR ?_
   refine co_blockR ?_
   refine co_thenR ?_
   refine co_blockR ?_
   refine co_thenR ?_
   refine co_blockR ?_
   refine co_thenR ?_
   refine co_ret1 h97 rfl rfl ?_
   have hr98 := own_but hq76 hb94 (fun i hi hS => by (try simp at hS); subst hS; exact absurd hi (hapt))
   have hB99 := fb_foot hB85 hb94 (fun i hlt hS => by (try simp at hS); first | omega | (simp; omega) | simp_all)
   have hA : ap1 ep fl ms lg d = ((trF ((fwS ep fl ms lg d.ep d.fl d.ms d.lg).2.2.2.1) ((fwS ep fl ms lg d.ep d.fl d.ms d.lg).2.2.2.2) d.lg).1, (fwS ep fl ms lg d.ep d.fl d.ms d.lg).2.1, (fwS ep fl ms lg d.ep d.fl d.ms d.lg).2.2.1, (fwS ep fl ms lg d.ep d.fl d.ms d.lg).2.2.2.1, (trF ((fwS ep fl ms lg d.ep d.fl d.ms d.lg).2.2.2.1) ((fwS ep fl ms lg d.ep d.fl d.ms d.lg).2.2.2.2) d.lg).2) := by unfold ap1; first | (rw [if_pos (by omega)]; done) | (rw [if_neg (by omega), if_pos (by omega)]; done) | (rw [if_neg (by omega), if_neg (by omega)]; done) | (rw [if_neg (by omega), if_pos (by omega)]; rfl)
   exact ⟨cv273, lv291, by rw [hA], by rw [hA]; exact hq92, by rw [hA]; exact hr98, by rw [hA]; exact hq93, hB99⟩
  ·
   rw [hc84] at h83
   have hp100 : (fwS ep fl ms lg d.ep d.fl d.ms d.lg).1 ≠ 0 := by first | simpa using hc84 | simpa [and_assoc] using hc84
   clear hc84
   refine co_true h83 rfl ?_
   refine co_seq ?_
   refine co_reg ?_
   refine pk0 (v := .int .i64 ((fwS ep fl ms lg d.ep d.fl d.ms d.lg).1)) h83 rfl fun a101 h101 => ?_; clear h83
   refine pk0 (v := .int .i64 ((fwS ep fl ms lg d.ep d.fl d.ms d.lg).1)) h101 rfl fun a102 h102 => ?_; clear h101
   refine pl_nil ?_
   refine co_then ?_
   refine wp_ret ?_
   refine co_blockR ?_
   refine co_thenR ?_
   refine co_blockR ?_
   refine co_thenR ?_
   refine co_blockR ?_
   refine co_thenR ?_
   refine co_blockR ?_
   refine co_thenR ?_
   refine co_blockR ?_
   refine co_thenR ?_
   refine co_blockR ?_
   refine co_thenR ?_
   refine co_blockR ?_
   refine co_thenR ?_
   refine co_ret1 h102 rfl rfl ?_
   have hA : ap1 ep fl ms lg d = ((fwS ep fl ms lg d.ep d.fl d.ms d.lg).1, (fwS ep fl ms lg d.ep d.fl d.ms d.lg).2.1, (fwS ep fl ms lg d.ep d.fl d.ms d.lg).2.2.1, (fwS ep fl ms lg d.ep d.fl d.ms d.lg).2.2.2.1, (fwS ep fl ms lg d.ep d.fl d.ms d.lg).2.2.2.2) := by unfold ap1; first | (rw [if_pos (by omega)]; done) | (rw [if_neg (by omega), if_pos (by omega)]; done) | (rw [if_neg (by omega), if_neg (by omega)]; done) | (rw [if_neg (by omega), if_pos (by omega)]; rfl)
   exact ⟨cv273, lv274, by rw [hA], by rw [hA]; exact hq75, by rw [hA]; exact hq76, by rw [hA]; exact hq77, hB85⟩
 ·
  rw [hc29] at h28
  have hp103 : chkN d ≠ 0 := by first | simpa using hc29 | simpa [and_assoc] using hc29
  clear hc29
  refine co_true h28 rfl ?_
  refine co_seq ?_
  refine co_reg ?_
  refine pk0 (v := .int .i64 (chkN d)) h28 rfl fun a104 h104 => ?_; clear h28
  refine pk0 (v := .int .i64 (chkN d)) h104 rfl fun a105 h105 => ?_; clear h104
  refine pl_nil ?_
  refine co_then ?_
  refine wp_ret ?_
  refine co_thenR ?_
  refine co_ret1 h105 rfl rfl ?_
  have hA : ap1 ep fl ms lg d = (chkN d, ep, fl, ms, lg) := by unfold ap1; first | (rw [if_pos (by omega)]; done) | (rw [if_neg (by omega), if_pos (by omega)]; done) | (rw [if_neg (by omega), if_neg (by omega)]; done) | (rw [if_neg (by omega), if_pos (by omega)]; rfl)
  exact ⟨cv, lgv, by rw [hA], by rw [hA]; exact hk32, by rw [hA]; exact hr38, by rw [hA]; exact hr35, hB30⟩
end Go.Proofs.Ytglfoippcmckaaa

/- Package mstate: Apply of what a client is told, of a note that may not be written. Conditions: none. -/
namespace Go.Proofs.Ytglfoippcmckaaa
open Go.RowKit Go.PlainAid
set_option linter.unusedVariables false
set_option linter.unusedSimpArgs false


def sdF (x : SdT) (d : NoteD) : Int × SdT := if chkN d ≠ 0 then (chkN d, x) else if d.sr < x.2.2.1 then (18, x) else (0, (true, d.sc, d.sr, d.se, d.sp))

set_option maxRecDepth 100000 in
set_option maxHeartbeats 1600000 in
theorem msApply80 (b : Nat) (ep : Int) (cv : Value) (fl : Int) (lgv : Value) (hz : Int) (pv : Value) (tp : Int) (x0 : SdT) (x1 : SdT) (x2 : SdT) (d : NoteD) (mv : Value) (lv : Value) (ev : Value) (w : World) (hb : Blk w b 66 #[.bool true, .int .i64 ep, cv, .int .u64 fl, lgv, .int .u64 hz, pv, .int .i64 tp, .bool x0.1, .int .i64 x0.2.1, .int .i64 x0.2.2.1, .int .i64 x0.2.2.2.1, .int .i64 x0.2.2.2.2, .bool x1.1, .int .i64 x1.2.1, .int .i64 x1.2.2.1, .int .i64 x1.2.2.2.1, .int .i64 x1.2.2.2.2, .bool x2.1, .int .i64 x2.2.1, .int .i64 x2.2.2.1, .int .i64 x2.2.2.2.1, .int .i64 x2.2.2.2.2]) (hm : SliceOf memE 2 w mv d.ms) (hg : SliceOf (intE .i64) 1 w lv d.lg) (he : SliceOf opE 3 w ev d.el) (hR : NoteR d) (hbm : d.ms ≠ [] → ∀ k, mv.ownBlock = some k → ¬ k = b) (hbg : d.lg ≠ [] → ∀ k, lv.ownBlock = some k → ¬ k = b) (hbe : d.el ≠ [] → ∀ k, ev.ownBlock = some k → ¬ k = b) (hkx : d.k = 8) (hsc : d.sc = 0) :
    Calls Try.prog 11 #[pt b 0, .agg #[.int .i64 d.k, .int .i64 d.n, .int .u64 d.t, .int .i64 d.ep, mv, .int .u64 d.fl, lv, .int .i64 d.ec, .int .i64 d.er, ev, .int .u64 d.ets, .int .i64 d.pid, .int .u64 d.pat, .int .i64 d.plf, .int .i64 d.sc, .int .i64 d.sr, .int .i64 d.se, .int .i64 d.sp]] w fun e w' => e = .returned (.int .i64 ((sdF x0 d).1)) ∧ Blk w' b 66 #[.bool true, .int .i64 ep, cv, .int .u64 fl, lgv, .int .u64 hz, pv, .int .i64 tp, .bool ((sdF x0 d).2.1), .int .i64 ((sdF x0 d).2.2.1), .int .i64 ((sdF x0 d).2.2.2.1), .int .i64 ((sdF x0 d).2.2.2.2.1), .int .i64 ((sdF x0 d).2.2.2.2.2), .bool x1.1, .int .i64 x1.2.1, .int .i64 x1.2.2.1, .int .i64 x1.2.2.2.1, .int .i64 x1.2.2.2.2, .bool x2.1, .int .i64 x2.2.1, .int .i64 x2.2.2.1, .int .i64 x2.2.2.2.1, .int .i64 x2.2.2.2.2] ∧ But (fun q => q = b) w w' := by
 have hrng := hR.rng
 have hB0 := But.refl (fun q => q = b) w
 have hl_hb := hb.lt
 have hl_hm := sl_len hm
 have hl_hg := sl_len hg
 have hl_he := sl_len he
 refine co_enter (n := 113) Try.func11 rfl rfl rfl [(0, pt b 0), (1, .agg #[.int .i64 d.k, .int .i64 d.n, .int .u64 d.t, .int .i64 d.ep, mv, .int .u64 d.fl, lv, .int .i64 d.ec, .int .i64 d.er, ev, .int .u64 d.ets, .int .i64 d.pid, .int .u64 d.pat, .int .i64 d.plf, .int .i64 d.sc, .int .i64 d.sr, .int .i64 d.se, .int .i64 d.sp])] rfl (fun a h0 => ?_)
 refine co_seq ?_
 refine co_reg ?_
 refine pw h0 rfl (op_new (v := fun N => pt N 0) (T := 48) (cs := #[.int .i64 d.k, .int .i64 d.n, .int .u64 d.t, .int .i64 d.ep, mv, .int .u64 d.fl, lv, .int .i64 d.ec, .int .i64 d.er, ev, .int .u64 d.ets, .int .i64 d.pid, .int .u64 d.pat, .int .i64 d.plf, .int .i64 d.sc, .int .i64 d.sr, .int .i64 d.se, .int .i64 d.sp]) (by kernel_rfl) (by kernel_rfl) (by kernel_rfl)) ?_; clear h0
 rintro _ w2 a1 ⟨N3, rfl, hN6, hz7, hk5, hg4⟩ h1
 have hz8 := hg4.size
 try dsimp only at h1
 refine pk0 (v := .int .i64 0) h1 rfl fun a9 h9 => ?_; clear h1
 refine pl_nil ?_
 refine co_then ?_
 refine co_seq ?_
 refine co_seq ?_
 refine co_reg ?_
 refine pk0 (v := pt b 0) h9 rfl fun a10 h10 => ?_; clear h9
 have hk13 := hb.kept hg4 (by simp)
 refine pw h10 rfl (op_call (args := #[pt b 0]) (R := fun res xw => res = .bool false ∧ Below w2.heap.size w2 xw) rfl rfl rfl (by kernel_rfl) (by kernel_rfl) (Try.call19 _ _) (mszeroT b ep cv fl lgv hz pv tp x0 x1 x2 w2 hk13) (by rintro e x ⟨rfl, hb14⟩; exact ⟨_, rfl, ⟨rfl, hb14⟩⟩)) ?_; clear h10
 rintro _ w12 a11 ⟨rfl, hb14⟩ h11
 have hz15 := hb14.size
 refine pl_nil ?_
 refine co_then ?_
 refine co_false h11 rfl ?_
 refine wp_skip ?_
 refine co_then ?_
 refine co_seq ?_
 refine co_seq ?_
 refine co_reg ?_
 have hk16 := hk5.below hb14
 refine pk (v := .agg #[.int .i64 d.k, .int .i64 d.n, .int .u64 d.t, .int .i64 d.ep, mv, .int .u64 d.fl, lv, .int .i64 d.ec, .int .i64 d.er, ev, .int .u64 d.ets, .int .i64 d.pid, .int .u64 d.pat, .int .i64 d.plf, .int .i64 d.sc, .int .i64 d.sr, .int .i64 d.se, .int .i64 d.sp]) h11 rfl (rn_loadN rfl rfl Try.underlying48 rfl (by kernel_rfl) hk16.all) fun a17 h17 => ?_; clear h11
 have hB20 := fb_new hB0 hg4
 have hB21 := fb_call hB20 hb14
 refine pw h17 rfl (op_call (args := #[.agg #[.int .i64 d.k, .int .i64 d.n, .int .u64 d.t, .int .i64 d.ep, mv, .int .u64 d.fl, lv, .int .i64 d.ec, .int .i64 d.er, ev, .int .u64 d.ets, .int .i64 d.pid, .int .u64 d.pat, .int .i64 d.plf, .int .i64 d.sc, .int .i64 d.sr, .int .i64 d.se, .int .i64 d.sp]]) (R := fun res xw => res = .int .i64 (chkN d) ∧ Below w12.heap.size w12 xw) rfl rfl rfl (by kernel_rfl) (by kernel_rfl) (Try.call22 _ _) (nCheck_any d mv lv ev w12 (sl_butS hm hB21 hbm) (sl_butS hg hB21 hbg) (sl_butS he hB21 hbe) hR) (by rintro e x ⟨rfl, hb22⟩; exact ⟨_, rfl, ⟨rfl, hb22⟩⟩)) ?_; clear h17
 rintro _ w19 a18 ⟨rfl, hb22⟩ h18
 have hz23 := hb22.size
 refine pk0 (v := .int .i64 (chkN d)) h18 rfl fun a24 h24 => ?_; clear h18
 refine pl_nil ?_
 refine co_then ?_
 refine co_seq ?_
 refine co_reg ?_
 refine pk0 (v := .int .i64 (chkN d)) h24 rfl fun a25 h25 => ?_; clear h24
 refine pk0 (v := .bool (chkN d != 0)) h25 rfl fun a26 h26 => ?_; clear h25
 refine pl_nil ?_
 refine co_then ?_
 have hB28 := fb_call hB21 hb22
 have hk29 := hk13.below hb14
 have hk30 := hk29.below hb22
 cases hc27 : (chkN d != 0)
 ·
  rw [hc27] at h26
  have hp31 : ¬ (chkN d ≠ 0) := by first | simpa using hc27 | simpa [and_assoc] using hc27
  clear hc27
  refine co_false h26 rfl ?_
  refine wp_skip ?_
  refine co_then ?_
  refine co_seq ?_
  refine co_reg ?_
  refine pk0 (v := pt N3 1) h26 rfl fun a32 h32 => ?_; clear h26
  have hk33 := hk16.below hb22
  refine pk (v := .int .i64 d.n) h32 rfl (rn_load1 rfl rfl Try.isAgg3 (hk33.cell rfl)) fun a34 h34 => ?_; clear h32
  refine pw h34 rfl (op_new (v := fun N => .slice (some ⟨N, 0, none⟩) 1 1) (T := 3) (cs := #[.int .i64 d.n]) (by kernel_rfl) (by kernel_rfl) (by kernel_rfl)) ?_; clear h34
  rintro _ w36 a35 ⟨N37, rfl, hN40, hz41, hk39, hg38⟩ h35
  have hz42 := hg38.size
  try dsimp only at h35
  refine pk0 (v := .slice (some ⟨N37, 0, none⟩) 1 1) h35 rfl fun a43 h43 => ?_; clear h35
  refine pl_nil ?_
  refine co_then ?_
  refine co_seq ?_
  refine co_seq ?_
  refine co_reg ?_
  refine pk0 (v := pt N3 0) h43 rfl fun a44 h44 => ?_; clear h43
  have hk45 := hk33.kept hg38 (by simp)
  refine pk (v := .int .i64 d.k) h44 rfl (rn_load1 rfl rfl Try.isAgg3 (hk45.cell rfl)) fun a46 h46 => ?_; clear h44
  refine pl_nil ?_
  refine co_then ?_
  refine wp_block ?_
  refine co_seq ?_
  refine wp_block ?_
  refine co_seq ?_
  refine wp_block ?_
  refine co_seq ?_
  refine wp_block ?_
  refine co_seq ?_
  refine wp_block ?_
  refine co_seq ?_
  refine wp_block ?_
  refine co_seq ?_
  refine wp_block ?_
  refine co_seq ?_
  refine wp_block ?_
  refine co_seq ?_
  refine co_seq ?_
  refine co_seq ?_
  refine co_reg ?_
  refine pk0 (v := .bool (d.k == 1)) h46 rfl fun a47 h47 => ?_; clear h46
  refine pk0 (v := .bool (d.k == 1)) h47 rfl fun a48 h48 => ?_; clear h47
  refine pl_nil ?_
  refine co_then ?_
  have hc49 : (d.k == 1) = false := by first | (simp; done) | (simp; omega) | exact beq_false_of_ne (by omega) | exact beq_iff_eq.2 (by omega)
  rw [hc49] at h48; clear hc49
  refine co_false h48 rfl ?_
  refine wp_skip ?_
  refine co_then ?_
  refine co_seq ?_
  refine co_seq ?_
  refine co_reg ?_
  refine pk0 (v := .bool (d.k == 5)) h48 rfl fun a50 h50 => ?_; clear h48
  refine pk0 (v := .bool (d.k == 5)) h50 rfl fun a51 h51 => ?_; clear h50
  refine pl_nil ?_
  refine co_then ?_
  have hc52 : (d.k == 5) = false := by first | (simp; done) | (simp; omega) | exact beq_false_of_ne (by omega) | exact beq_iff_eq.2 (by omega)
  rw [hc52] at h51; clear hc52
  refine co_false h51 rfl ?_
  refine wp_skip ?_
  refine co_then ?_
  refine co_seq ?_
  refine co_seq ?_
  refine co_reg ?_
  refine pk0 (v := .bool (d.k == 4)) h51 rfl fun a53 h53 => ?_; clear h51
  refine pk0 (v := .bool (d.k == 4)) h53 rfl fun a54 h54 => ?_; clear h53
  refine pl_nil ?_
  refine co_then ?_
  have hc55 : (d.k == 4) = false := by first | (simp; done) | (simp; omega) | exact beq_false_of_ne (by omega) | exact beq_iff_eq.2 (by omega)
  rw [hc55] at h54; clear hc55
  refine co_false h54 rfl ?_
  refine wp_skip ?_
  refine co_then ?_
  refine co_seq ?_
  refine co_seq ?_
  refine co_reg ?_
  refine pk0 (v := .bool (d.k == 6)) h54 rfl fun a56 h56 => ?_; clear h54
  refine pk0 (v := .bool (d.k == 6)) h56 rfl fun a57 h57 => ?_; clear h56
  refine pl_nil ?_
  refine co_then ?_
  have hc58 : (d.k == 6) = false := by first | (simp; done) | (simp; omega) | exact beq_false_of_ne (by omega) | exact beq_iff_eq.2 (by omega)
  rw [hc58] at h57; clear hc58
  refine co_false h57 rfl ?_
  refine wp_skip ?_
  refine co_then ?_
  refine co_seq ?_
  refine co_seq ?_
  refine co_reg ?_
  refine pk0 (v := .bool (d.k == 7)) h57 rfl fun a59 h59 => ?_; clear h57
  refine pk0 (v := .bool (d.k == 7)) h59 rfl fun a60 h60 => ?_; clear h59
  refine pl_nil ?_
  refine co_then ?_
  have hc61 : (d.k == 7) = false := by first | (simp; done) | (simp; omega) | exact beq_false_of_ne (by omega) | exact beq_iff_eq.2 (by omega)
  rw [hc61] at h60; clear hc61
  refine co_false h60 rfl ?_
  refine wp_skip ?_
  refine co_then ?_
  refine co_seq ?_
  refine co_reg ?_
  refine pk0 (v := .bool (d.k == 8)) h60 rfl fun a62 h62 => ?_; clear h60
  refine pk0 (v := .bool (d.k == 8)) h62 rfl fun a63 h63 => ?_; clear h62
  refine pl_nil ?_
  refine co_then ?_
  have hc64 : (d.k == 8) = true := by first | (simp; done) | (simp; omega) | exact beq_false_of_ne (by omega) | exact beq_iff_eq.2 (by omega)
  rw [hc64] at h63; clear hc64
  refine co_true h63 rfl ?_
  refine wp_exit ?_
  refine co_thenX ?_
  refine co_blockY (by decide) ?_
  refine co_thenX ?_
  refine co_blockY (by decide) ?_
  refine co_thenX ?_
  refine co_blockY (by decide) ?_
  refine co_thenX ?_
  refine co_blockY (by decide) ?_
  refine co_thenX ?_
  refine co_blockY (by decide) ?_
  refine co_thenX ?_
  refine co_blockX ?_
  refine co_then ?_
  refine co_seq ?_
  refine co_seq ?_
  refine co_seq ?_
  refine dr_eq (by kernel_rfl) (fun w65 hg66 => ?_)
  have hz67 := hg66.size
  refine dk0 0 (v := pt N3 14) h63 rfl rfl rfl fun a68 h68 => ?_; clear h63
  refine dk0 1 (v := pt N3 15) h68 rfl rfl rfl fun a69 h69 => ?_; clear h68
  have hk70 := hk45.kept hg66 (by simp)
  refine dk 2 (v := .int .i64 d.sr) h69 rfl rfl rfl (fun x hx => by subst hx; exact (rn_load1 rfl rfl Try.isAgg3 (hk70.cell rfl))) fun a71 h71 => ?_; clear h69
  refine dk0 3 (v := pt b 0) h71 rfl rfl rfl fun a72 h72 => ?_; clear h71
  refine dk0 4 (v := pt N3 14) h72 rfl rfl rfl fun a73 h73 => ?_; clear h72
  refine dk0 5 (v := pt N3 14) h73 rfl rfl rfl fun a74 h74 => ?_; clear h73
  refine dk 6 (v := .int .i64 d.sc) h74 rfl rfl rfl (fun x hx => by subst hx; exact (rn_load1 rfl rfl Try.isAgg3 (hk70.cell rfl))) fun a75 h75 => ?_; clear h74
  refine dk0 7 (v := pt b 0) h75 rfl rfl rfl fun a76 h76 => ?_; clear h75
  refine dk0 8 (v := pt b 8) h76 rfl rfl rfl fun a77 h77 => ?_; clear h76
  refine dk 9 (v := pt b 8) h77 rfl rfl rfl (fun x hx => by subst hx; exact (by rw [hsc]; kernel_rfl)) fun a78 h78 => ?_; clear h77
  refine dk0 10 (v := pt b 9) h78 rfl rfl rfl fun a79 h79 => ?_; clear h78
  refine dk0 11 (v := pt b 10) h79 rfl rfl rfl fun a80 h80 => ?_; clear h79
  have hk81 := hk30.kept hg38 (by simp)
  have hk82 := hk81.kept hg66 (by simp)
  refine dk 12 (v := .int .i64 x0.2.2.1) h80 rfl rfl rfl (fun x hx => by subst hx; exact (rn_load1 rfl rfl Try.isAgg3 (hk82.cell rfl))) fun a83 h83 => ?_; clear h80
  refine dk0 13 (v := .bool (decide (d.sr < x0.2.2.1))) h83 rfl rfl rfl fun a84 h84 => ?_; clear h83
  refine dr_done (by kernel_rfl) ?_
  refine co_then ?_
  have hB86 := fb_new hB28 hg38
  have hB87 := fb_new hB86 hg66
  cases hc85 : (decide (d.sr < x0.2.2.1))
  ·
   rw [hc85] at h84
   have hp88 : ¬ (d.sr < x0.2.2.1) := of_decide_eq_false hc85
   clear hc85
   refine co_false h84 rfl ?_
   refine wp_skip ?_
   refine co_then ?_
   refine dr_gen (fun x => But (fun q => q = b) w x ∧ Blk x N3 48 #[.int .i64 d.k, .int .i64 d.n, .int .u64 d.t, .int .i64 d.ep, mv, .int .u64 d.fl, lv, .int .i64 d.ec, .int .i64 d.er, ev, .int .u64 d.ets, .int .i64 d.pid, .int .u64 d.pat, .int .i64 d.plf, .int .i64 d.sc, .int .i64 d.sr, .int .i64 d.se, .int .i64 d.sp]) (by kernel_rfl) (fun w89 hg90 => ?_) (fun w89 hg90 => ?_)
   ·
    have hz91 := hg90.size
    have hB92 := fb_new hB87 hg90
    have hk93 := hk70.kept hg90 (by simp)
    exact ⟨hB92, hk93⟩
   have hz94 := hg90.size
   have hB95 := fb_new hB87 hg90
   have hk96 := hk70.kept hg90 (by simp)
   refine dk0 0 (v := pt b 0) h84 rfl rfl ⟨hB95, hk96⟩ fun a97 h97 => ?_; clear h84
   refine dk0 1 (v := pt N3 14) h97 rfl rfl ⟨hB95, hk96⟩ fun a98 h98 => ?_; clear h97
   refine dk0 2 (v := pt N3 14) h98 rfl rfl ⟨hB95, hk96⟩ fun a99 h99 => ?_; clear h98
   refine dk 3 (v := .int .i64 d.sc) h99 rfl rfl ⟨hB95, hk96⟩ (fun x hx => (rn_load1 rfl rfl Try.isAgg3 (hx.2.cell rfl))) fun a100 h100 => ?_; clear h99
   refine dk0 4 (v := pt N3 14) h100 rfl rfl ⟨hB95, hk96⟩ fun a101 h101 => ?_; clear h100
   refine dk 5 (v := .agg #[.int .i64 d.sc, .int .i64 d.sr, .int .i64 d.se, .int .i64 d.sp]) h101 rfl rfl ⟨hB95, hk96⟩ (fun x hx => (rn_loadN rfl rfl Try.underlying46 rfl (by kernel_rfl) (blk_part hx.2 14 (by rfl)))) fun a102 h102 => ?_; clear h101
   refine dk0 6 (v := .agg #[.bool true, .int .i64 d.sc, .int .i64 d.sr, .int .i64 d.se, .int .i64 d.sp]) h102 rfl rfl ⟨hB95, hk96⟩ fun a103 h103 => ?_; clear h102
   refine dk0 7 (v := pt b 0) h103 rfl rfl ⟨hB95, hk96⟩ fun a104 h104 => ?_; clear h103
   refine dk0 8 (v := pt b 8) h104 rfl rfl ⟨hB95, hk96⟩ fun a105 h105 => ?_; clear h104
   refine dk 9 (v := pt b 8) h105 rfl rfl ⟨hB95, hk96⟩ (fun x hx => (by rw [hsc]; kernel_rfl)) fun a106 h106 => ?_; clear h105
   have hk112 := hk82.kept hg90 (by simp)
   refine d1D 10 h106 rfl rfl (op_storePart (k := 8) (cs' := #[.bool true, .int .i64 ep, cv, .int .u64 fl, lgv, .int .u64 hz, pv, .int .i64 tp, .bool true, .int .i64 d.sc, .int .i64 d.sr, .int .i64 d.se, .int .i64 d.sp, .bool x1.1, .int .i64 x1.2.1, .int .i64 x1.2.2.1, .int .i64 x1.2.2.2.1, .int .i64 x1.2.2.2.2, .bool x2.1, .int .i64 x2.2.1, .int .i64 x2.2.2.1, .int .i64 x2.2.2.2.1, .int .i64 x2.2.2.2.2]) rfl rfl rfl (by kernel_rfl) (by kernel_rfl) hk112 rfl rfl) ?_ ?_; clear h106
   ·
    rintro _ w108 ⟨hk109, hz110, hg111⟩
    have hk109' : Blk w108 b 66 #[.bool true, .int .i64 ep, cv, .int .u64 fl, lgv, .int .u64 hz, pv, .int .i64 tp, .bool true, .int .i64 d.sc, .int .i64 d.sr, .int .i64 d.se, .int .i64 d.sp, .bool x1.1, .int .i64 x1.2.1, .int .i64 x1.2.2.1, .int .i64 x1.2.2.2.1, .int .i64 x1.2.2.2.2, .bool x2.1, .int .i64 x2.2.1, .int .i64 x2.2.2.1, .int .i64 x2.2.2.2.1, .int .i64 x2.2.2.2.2] := hk109; clear hk109
    have hz113 := hg111.size
    have hB114 := fb_at hB95 hg111 (fun hlt => by first | (exfalso; omega) | (simp; done) | simp_all)
    have hk115 := hk96.kept hg111 (by simp; omega)
    exact ⟨hB114, hk115⟩
   rintro _ w108 a107 ⟨hk109, hz110, hg111⟩ h107
   have hk109' : Blk w108 b 66 #[.bool true, .int .i64 ep, cv, .int .u64 fl, lgv, .int .u64 hz, pv, .int .i64 tp, .bool true, .int .i64 d.sc, .int .i64 d.sr, .int .i64 d.se, .int .i64 d.sp, .bool x1.1, .int .i64 x1.2.1, .int .i64 x1.2.2.1, .int .i64 x1.2.2.2.1, .int .i64 x1.2.2.2.2, .bool x2.1, .int .i64 x2.2.1, .int .i64 x2.2.2.1, .int .i64 x2.2.2.2.1, .int .i64 x2.2.2.2.2] := hk109; clear hk109
   have hz113 := hg111.size
   refine dr_done (by kernel_rfl) ?_
   refine co_then ?_
   refine wp_exit ?_
   refine co_blockY (by decide) ?_
   refine co_thenX ?_
   refine co_blockX ?_
   refine co_then ?_
   refine co_seq ?_
   refine co_reg ?_
   refine pk0 (v := .int .i64 0) h107 rfl fun a114 h114 => ?_; clear h107
   refine pl_nil ?_
   refine co_then ?_
   refine wp_ret ?_
   refine co_ret1 h114 rfl rfl ?_
   have hB115 := fb_at hB95 hg111 (fun hlt => by first | (exfalso; omega) | (simp; done) | simp_all)
   have hA : sdF x0 d = (0, (true, d.sc, d.sr, d.se, d.sp)) := by unfold sdF; first | (rw [if_pos (by omega)]; done) | (rw [if_neg (by omega), if_pos (by omega)]; done) | (rw [if_neg (by omega), if_neg (by omega)]; done)
   exact ⟨by rw [hA], by rw [hA]; exact hk109', hB115⟩
  ·
   rw [hc85] at h84
   have hp116 : d.sr < x0.2.2.1 := of_decide_eq_true hc85
   clear hc85
   refine co_true h84 rfl ?_
   refine co_seq ?_
   refine co_reg ?_
   refine pk0 (v := .int .i64 18) h84 rfl fun a117 h117 => ?_; clear h84
   refine pl_nil ?_
   refine co_then ?_
   refine wp_ret ?_
   refine co_thenR ?_
   refine co_thenR ?_
   refine co_blockR ?_
   refine co_thenR ?_
   refine co_blockR ?_
   refine co_thenR ?_
   refine co_ret1 h117 rfl rfl ?_
   have hA : sdF x0 d = (18, x0) := by unfold sdF; first | (rw [if_pos (by omega)]; done) | (rw [if_neg (by omega), if_pos (by omega)]; done) | (rw [if_neg (by omega), if_neg (by omega)]; done)
   exact ⟨by rw [hA], by rw [hA]; exact hk82, hB87⟩
 ·
  rw [hc27] at h26
  have hp118 : chkN d ≠ 0 := by first | simpa using hc27 | simpa [and_assoc] using hc27
  clear hc27
  refine co_true h26 rfl ?_
  refine co_seq ?_
  refine co_reg ?_
  refine pk0 (v := .int .i64 (chkN d)) h26 rfl fun a119 h119 => ?_; clear h26
  refine pk0 (v := .int .i64 (chkN d)) h119 rfl fun a120 h120 => ?_; clear h119
  refine pl_nil ?_
  refine co_then ?_
  refine wp_ret ?_
  refine co_thenR ?_
  refine co_ret1 h120 rfl rfl ?_
  have hA : sdF x0 d = (chkN d, x0) := by unfold sdF; first | (rw [if_pos (by omega)]; done) | (rw [if_neg (by omega), if_pos (by omega)]; done) | (rw [if_neg (by omega), if_neg (by omega)]; done)
  exact ⟨by rw [hA], by rw [hA]; exact hk30, hB28⟩
set_option maxRecDepth 100000 in
set_option maxHeartbeats 1600000 in
theorem msApply81 (b : Nat) (ep : Int) (cv : Value) (fl : Int) (lgv : Value) (hz : Int) (pv : Value) (tp : Int) (x0 : SdT) (x1 : SdT) (x2 : SdT) (d : NoteD) (mv : Value) (lv : Value) (ev : Value) (w : World) (hb : Blk w b 66 #[.bool true, .int .i64 ep, cv, .int .u64 fl, lgv, .int .u64 hz, pv, .int .i64 tp, .bool x0.1, .int .i64 x0.2.1, .int .i64 x0.2.2.1, .int .i64 x0.2.2.2.1, .int .i64 x0.2.2.2.2, .bool x1.1, .int .i64 x1.2.1, .int .i64 x1.2.2.1, .int .i64 x1.2.2.2.1, .int .i64 x1.2.2.2.2, .bool x2.1, .int .i64 x2.2.1, .int .i64 x2.2.2.1, .int .i64 x2.2.2.2.1, .int .i64 x2.2.2.2.2]) (hm : SliceOf memE 2 w mv d.ms) (hg : SliceOf (intE .i64) 1 w lv d.lg) (he : SliceOf opE 3 w ev d.el) (hR : NoteR d) (hbm : d.ms ≠ [] → ∀ k, mv.ownBlock = some k → ¬ k = b) (hbg : d.lg ≠ [] → ∀ k, lv.ownBlock = some k → ¬ k = b) (hbe : d.el ≠ [] → ∀ k, ev.ownBlock = some k → ¬ k = b) (hkx : d.k = 8) (hsc : d.sc = 1) :
    Calls Try.prog 11 #[pt b 0, .agg #[.int .i64 d.k, .int .i64 d.n, .int .u64 d.t, .int .i64 d.ep, mv, .int .u64 d.fl, lv, .int .i64 d.ec, .int .i64 d.er, ev, .int .u64 d.ets, .int .i64 d.pid, .int .u64 d.pat, .int .i64 d.plf, .int .i64 d.sc, .int .i64 d.sr, .int .i64 d.se, .int .i64 d.sp]] w fun e w' => e = .returned (.int .i64 ((sdF x1 d).1)) ∧ Blk w' b 66 #[.bool true, .int .i64 ep, cv, .int .u64 fl, lgv, .int .u64 hz, pv, .int .i64 tp, .bool x0.1, .int .i64 x0.2.1, .int .i64 x0.2.2.1, .int .i64 x0.2.2.2.1, .int .i64 x0.2.2.2.2, .bool ((sdF x1 d).2.1), .int .i64 ((sdF x1 d).2.2.1), .int .i64 ((sdF x1 d).2.2.2.1), .int .i64 ((sdF x1 d).2.2.2.2.1), .int .i64 ((sdF x1 d).2.2.2.2.2), .bool x2.1, .int .i64 x2.2.1, .int .i64 x2.2.2.1, .int .i64 x2.2.2.2.1, .int .i64 x2.2.2.2.2] ∧ But (fun q => q = b) w w' := by
 have hrng := hR.rng
 have hB0 := But.refl (fun q => q = b) w
 have hl_hb := hb.lt
 have hl_hm := sl_len hm
 have hl_hg := sl_len hg
 have hl_he := sl_len he
 refine co_enter (n := 113) Try.func11 rfl rfl rfl [(0, pt b 0), (1, .agg #[.int .i64 d.k, .int .i64 d.n, .int .u64 d.t, .int .i64 d.ep, mv, .int .u64 d.fl, lv, .int .i64 d.ec, .int .i64 d.er, ev, .int .u64 d.ets, .int .i64 d.pid, .int .u64 d.pat, .int .i64 d.plf, .int .i64 d.sc, .int .i64 d.sr, .int .i64 d.se, .int .i64 d.sp])] rfl (fun a h0 => ?_)
 refine co_seq ?_
 refine co_reg ?_
 refine pw h0 rfl (op_new (v := fun N => pt N 0) (T := 48) (cs := #[.int .i64 d.k, .int .i64 d.n, .int .u64 d.t, .int .i64 d.ep, mv, .int .u64 d.fl, lv, .int .i64 d.ec, .int .i64 d.er, ev, .int .u64 d.ets, .int .i64 d.pid, .int .u64 d.pat, .int .i64 d.plf, .int .i64 d.sc, .int .i64 d.sr, .int .i64 d.se, .int .i64 d.sp]) (by kernel_rfl) (by kernel_rfl) (by kernel_rfl)) ?_; clear h0
 rintro _ w2 a1 ⟨N3, rfl, hN6, hz7, hk5, hg4⟩ h1
 have hz8 := hg4.size
 try dsimp only at h1
 refine pk0 (v := .int .i64 0) h1 rfl fun a9 h9 => ?_; clear h1
 refine pl_nil ?_
 refine co_then ?_
 refine co_seq ?_
 refine co_seq ?_
 refine co_reg ?_
 refine pk0 (v := pt b 0) h9 rfl fun a10 h10 => ?_; clear h9
 have hk13 := hb.kept hg4 (by simp)
 refine pw h10 rfl (op_call (args := #[pt b 0]) (R := fun res xw => res = .bool false ∧ Below w2.heap.size w2 xw) rfl rfl rfl (by kernel_rfl) (by kernel_rfl) (Try.call19 _ _) (mszeroT b ep cv fl lgv hz pv tp x0 x1 x2 w2 hk13) (by rintro e x ⟨rfl, hb14⟩; exact ⟨_, rfl, ⟨rfl, hb14⟩⟩)) ?_; clear h10
 rintro _ w12 a11 ⟨rfl, hb14⟩ h11
 have hz15 := hb14.size
 refine pl_nil ?_
 refine co_then ?_
 refine co_false h11 rfl ?_
 refine wp_skip ?_
 refine co_then ?_
 refine co_seq ?_
 refine co_seq ?_
 refine co_reg ?_
 have hk16 := hk5.below hb14
 refine pk (v := .agg #[.int .i64 d.k, .int .i64 d.n, .int .u64 d.t, .int .i64 d.ep, mv, .int .u64 d.fl, lv, .int .i64 d.ec, .int .i64 d.er, ev, .int .u64 d.ets, .int .i64 d.pid, .int .u64 d.pat, .int .i64 d.plf, .int .i64 d.sc, .int .i64 d.sr, .int .i64 d.se, .int .i64 d.sp]) h11 rfl (rn_loadN rfl rfl Try.underlying48 rfl (by kernel_rfl) hk16.all) fun a17 h17 => ?_; clear h11
 have hB20 := fb_new hB0 hg4
 have hB21 := fb_call hB20 hb14
 refine pw h17 rfl (op_call (args := #[.agg #[.int .i64 d.k, .int .i64 d.n, .int .u64 d.t, .int .i64 d.ep, mv, .int .u64 d.fl, lv, .int .i64 d.ec, .int .i64 d.er, ev, .int .u64 d.ets, .int .i64 d.pid, .int .u64 d.pat, .int .i64 d.plf, .int .i64 d.sc, .int .i64 d.sr, .int .i64 d.se, .int .i64 d.sp]]) (R := fun res xw => res = .int .i64 (chkN d) ∧ Below w12.heap.size w12 xw) rfl rfl rfl (by kernel_rfl) (by kernel_rfl) (Try.call22 _ _) (nCheck_any d mv lv ev w12 (sl_butS hm hB21 hbm) (sl_butS hg hB21 hbg) (sl_butS he hB21 hbe) hR) (by rintro e x ⟨rfl, hb22⟩; exact ⟨_, rfl, ⟨rfl, hb22⟩⟩)) ?_; clear h17
 rintro _ w19 a18 ⟨rfl, hb22⟩ h18
 have hz23 := hb22.size
 refine pk0 (v := .int .i64 (chkN d)) h18 rfl fun a24 h24 => ?_; clear h18
 refine pl_nil ?_
 refine co_then ?_
 refine co_seq ?_
 refine co_reg ?_
 refine pk0 (v := .int .i64 (chkN d)) h24 rfl fun a25 h25 => ?_; clear h24
 refine pk0 (v := .bool (chkN d != 0)) h25 rfl fun a26 h26 => ?_; clear h25
 refine pl_nil ?_
 refine co_then ?_
 have hB28 := fb_call hB21 hb22
 have hk29 := hk13.below hb14
 have hk30 := hk29.below hb22
 cases hc27 : (chkN d != 0)
 ·
  rw [hc27] at h26
  have hp31 : ¬ (chkN d ≠ 0) := by first | simpa using hc27 | simpa [and_assoc] using hc27
  clear hc27
  refine co_false h26 rfl ?_
  refine wp_skip ?_
  refine co_then ?_
  refine co_seq ?_
  refine co_reg ?_
  refine pk0 (v := pt N3 1) h26 rfl fun a32 h32 => ?_; clear h26
  have hk33 := hk16.below hb22
  refine pk (v := .int .i64 d.n) h32 rfl (rn_load1 rfl rfl Try.isAgg3 (hk33.cell rfl)) fun a34 h34 => ?_; clear h32
  refine pw h34 rfl (op_new (v := fun N => .slice (some ⟨N, 0, none⟩) 1 1) (T := 3) (cs := #[.int .i64 d.n]) (by kernel_rfl) (by kernel_rfl) (by kernel_rfl)) ?_; clear h34
  rintro _ w36 a35 ⟨N37, rfl, hN40, hz41, hk39, hg38⟩ h35
  have hz42 := hg38.size
  try dsimp only at h35
  refine pk0 (v := .slice (some ⟨N37, 0, none⟩) 1 1) h35 rfl fun a43 h43 => ?_; clear h35
  refine pl_nil ?_
  refine co_then ?_
  refine co_seq ?_
  refine co_seq ?_
  refine co_reg ?_
  refine pk0 (v := pt N3 0) h43 rfl fun a44 h44 => ?_; clear h43
  have hk45 := hk33.kept hg38 (by simp)
  refine pk (v := .int .i64 d.k) h44 rfl (rn_load1 rfl rfl Try.isAgg3 (hk45.cell rfl)) fun a46 h46 => ?_; clear h44
  refine pl_nil ?_
  refine co_then ?_
  refine wp_block ?_
  refine co_seq ?_
  refine wp_block ?_
  refine co_seq ?_
  refine wp_block ?_
  refine co_seq ?_
  refine wp_block ?_
  refine co_seq ?_
  refine wp_block ?_
  refine co_seq ?_
  refine wp_block ?_
  refine co_seq ?_
  refine wp_block ?_
  refine co_seq ?_
  refine wp_block ?_
  refine co_seq ?_
  refine co_seq ?_
  refine co_seq ?_
  refine co_reg ?_
  refine pk0 (v := .bool (d.k == 1)) h46 rfl fun a47 h47 => ?_; clear h46
  refine pk0 (v := .bool (d.k == 1)) h47 rfl fun a48 h48 => ?_; clear h47
  refine pl_nil ?_
  refine co_then ?_
  have hc49 : (d.k == 1) = false := by first | (simp; done) | (simp; omega) | exact beq_false_of_ne (by omega) | exact beq_iff_eq.2 (by omega)
  rw [hc49] at h48; clear hc49
  refine co_false h48 rfl ?_
  refine wp_skip ?_
  refine co_then ?_
  refine co_seq ?_
  refine co_seq ?_
  refine co_reg ?_
  refine pk0 (v := .bool (d.k == 5)) h48 rfl fun a50 h50 => ?_; clear h48
  refine pk0 (v := .bool (d.k == 5)) h50 rfl fun a51 h51 => ?_; clear h50
  refine pl_nil ?_
  refine co_then ?_
  have hc52 : (d.k == 5) = false := by first | (simp; done) | (simp; omega) | exact beq_false_of_ne (by omega) | exact beq_iff_eq.2 (by omega)
  rw [hc52] at h51; clear hc52
  refine co_false h51 rfl ?_
  refine wp_skip ?_
  refine co_then ?_
  refine co_seq ?_
  refine co_seq ?_
  refine co_reg ?_
  refine pk0 (v := .bool (d.k == 4)) h51 rfl fun a53 h53 => ?_; clear h51
  refine pk0 (v := .bool (d.k == 4)) h53 rfl fun a54 h54 => ?_; clear h53
  refine pl_nil ?_
  refine co_then ?_
  have hc55 : (d.k == 4) = false := by first | (simp; done) | (simp; omega) | exact beq_false_of_ne (by omega) | exact beq_iff_eq.2 (by omega)
  rw [hc55] at h54; clear hc55
  refine co_false h54 rfl ?_
  refine wp_skip ?_
  refine co_then ?_
  refine co_seq ?_
  refine co_seq ?_
  refine co_reg ?_
  refine pk0 (v := .bool (d.k == 6)) h54 rfl fun a56 h56 => ?_; clear h54
  refine pk0 (v := .bool (d.k == 6)) h56 rfl fun a57 h57 => ?_; clear h56
  refine pl_nil ?_
  refine co_then ?_
  have hc58 : (d.k == 6) = false := by first | (simp; done) | (simp; omega) | exact beq_false_of_ne (by omega) | exact beq_iff_eq.2 (by omega)
  rw [hc58] at h57; clear hc58
  refine co_false h57 rfl ?_
  refine wp_skip ?_
  refine co_then ?_
  refine co_seq ?_
  refine co_seq ?_
  refine co_reg ?_
  refine pk0 (v := .bool (d.k == 7)) h57 rfl fun a59 h59 => ?_; clear h57
  refine pk0 (v := .bool (d.k == 7)) h59 rfl fun a60 h60 => ?_; clear h59
  refine pl_nil ?_
  refine co_then ?_
  have hc61 : (d.k == 7) = false := by first | (simp; done) | (simp; omega) | exact beq_false_of_ne (by omega) | exact beq_iff_eq.2 (by omega)
  rw [hc61] at h60; clear hc61
  refine co_false h60 rfl ?_
  refine wp_skip ?_
  refine co_then ?_
  refine co_seq ?_
  refine co_reg ?_
  refine pk0 (v := .bool (d.k == 8)) h60 rfl fun a62 h62 => ?_; clear h60
  refine pk0 (v := .bool (d.k == 8)) h62 rfl fun a63 h63 => ?_; clear h62
  refine pl_nil ?_
  refine co_then ?_
  have hc64 : (d.k == 8) = true := by first | (simp; done) | (simp; omega) | exact beq_false_of_ne (by omega) | exact beq_iff_eq.2 (by omega)
  rw [hc64] at h63; clear hc64
  refine co_true h63 rfl ?_
  refine wp_exit ?_
  refine co_thenX ?_
  refine co_blockY (by decide) ?_
  refine co_thenX ?_
  refine co_blockY (by decide) ?_
  refine co_thenX ?_
  refine co_blockY (by decide) ?_
  refine co_thenX ?_
  refine co_blockY (by decide) ?_
  refine co_thenX ?_
  refine co_blockY (by decide) ?_
  refine co_thenX ?_
  refine co_blockX ?_
  refine co_then ?_
  refine co_seq ?_
  refine co_seq ?_
  refine co_seq ?_
  refine dr_eq (by kernel_rfl) (fun w65 hg66 => ?_)
  have hz67 := hg66.size
  refine dk0 0 (v := pt N3 14) h63 rfl rfl rfl fun a68 h68 => ?_; clear h63
  refine dk0 1 (v := pt N3 15) h68 rfl rfl rfl fun a69 h69 => ?_; clear h68
  have hk70 := hk45.kept hg66 (by simp)
  refine dk 2 (v := .int .i64 d.sr) h69 rfl rfl rfl (fun x hx => by subst hx; exact (rn_load1 rfl rfl Try.isAgg3 (hk70.cell rfl))) fun a71 h71 => ?_; clear h69
  refine dk0 3 (v := pt b 0) h71 rfl rfl rfl fun a72 h72 => ?_; clear h71
  refine dk0 4 (v := pt N3 14) h72 rfl rfl rfl fun a73 h73 => ?_; clear h72
  refine dk0 5 (v := pt N3 14) h73 rfl rfl rfl fun a74 h74 => ?_; clear h73
  refine dk 6 (v := .int .i64 d.sc) h74 rfl rfl rfl (fun x hx => by subst hx; exact (rn_load1 rfl rfl Try.isAgg3 (hk70.cell rfl))) fun a75 h75 => ?_; clear h74
  refine dk0 7 (v := pt b 0) h75 rfl rfl rfl fun a76 h76 => ?_; clear h75
  refine dk0 8 (v := pt b 8) h76 rfl rfl rfl fun a77 h77 => ?_; clear h76
  refine dk 9 (v := pt b 13) h77 rfl rfl rfl (fun x hx => by subst hx; exact (by rw [hsc]; kernel_rfl)) fun a78 h78 => ?_; clear h77
  refine dk0 10 (v := pt b 14) h78 rfl rfl rfl fun a79 h79 => ?_; clear h78
  refine dk0 11 (v := pt b 15) h79 rfl rfl rfl fun a80 h80 => ?_; clear h79
  have hk81 := hk30.kept hg38 (by simp)
  have hk82 := hk81.kept hg66 (by simp)
  refine dk 12 (v := .int .i64 x1.2.2.1) h80 rfl rfl rfl (fun x hx => by subst hx; exact (rn_load1 rfl rfl Try.isAgg3 (hk82.cell rfl))) fun a83 h83 => ?_; clear h80
  refine dk0 13 (v := .bool (decide (d.sr < x1.2.2.1))) h83 rfl rfl rfl fun a84 h84 => ?_; clear h83
  refine dr_done (by kernel_rfl) ?_
  refine co_then ?_
  have hB86 := fb_new hB28 hg38
  have hB87 := fb_new hB86 hg66
  cases hc85 : (decide (d.sr < x1.2.2.1))
  ·
   rw [hc85] at h84
   have hp88 : ¬ (d.sr < x1.2.2.1) := of_decide_eq_false hc85
   clear hc85
   refine co_false h84 rfl ?_
   refine wp_skip ?_
   refine co_then ?_
   refine dr_gen (fun x => But (fun q => q = b) w x ∧ Blk x N3 48 #[.int .i64 d.k, .int .i64 d.n, .int .u64 d.t, .int .i64 d.ep, mv, .int .u64 d.fl, lv, .int .i64 d.ec, .int .i64 d.er, ev, .int .u64 d.ets, .int .i64 d.pid, .int .u64 d.pat, .int .i64 d.plf, .int .i64 d.sc, .int .i64 d.sr, .int .i64 d.se, .int .i64 d.sp]) (by kernel_rfl) (fun w89 hg90 => ?_) (fun w89 hg90 => ?_)
   ·
    have hz91 := hg90.size
    have hB92 := fb_new hB87 hg90
    have hk93 := hk70.kept hg90 (by simp)
    exact ⟨hB92, hk93⟩
   have hz94 := hg90.size
   have hB95 := fb_new hB87 hg90
   have hk96 := hk70.kept hg90 (by simp)
   refine dk0 0 (v := pt b 0) h84 rfl rfl ⟨hB95, hk96⟩ fun a97 h97 => ?_; clear h84
   refine dk0 1 (v := pt N3 14) h97 rfl rfl ⟨hB95, hk96⟩ fun a98 h98 => ?_; clear h97
   refine dk0 2 (v := pt N3 14) h98 rfl rfl ⟨hB95, hk96⟩ fun a99 h99 => ?_; clear h98
   refine dk 3 (v := .int .i64 d.sc) h99 rfl rfl ⟨hB95, hk96⟩ (fun x hx => (rn_load1 rfl rfl Try.isAgg3 (hx.2.cell rfl))) fun a100 h100 => ?_; clear h99
   refine dk0 4 (v := pt N3 14) h100 rfl rfl ⟨hB95, hk96⟩ fun a101 h101 => ?_; clear h100
   refine dk 5 (v := .agg #[.int .i64 d.sc, .int .i64 d.sr, .int .i64 d.se, .int .i64 d.sp]) h101 rfl rfl ⟨hB95, hk96⟩ (fun x hx => (rn_loadN rfl rfl Try.underlying46 rfl (by kernel_rfl) (blk_part hx.2 14 (by rfl)))) fun a102 h102 => ?_; clear h101
   refine dk0 6 (v := .agg #[.bool true, .int .i64 d.sc, .int .i64 d.sr, .int .i64 d.se, .int .i64 d.sp]) h102 rfl rfl ⟨hB95, hk96⟩ fun a103 h103 => ?_; clear h102
   refine dk0 7 (v := pt b 0) h103 rfl rfl ⟨hB95, hk96⟩ fun a104 h104 => ?_; clear h103
   refine dk0 8 (v := pt b 8) h104 rfl rfl ⟨hB95, hk96⟩ fun a105 h105 => ?_; clear h104
   refine dk 9 (v := pt b 13) h105 rfl rfl ⟨hB95, hk96⟩ (fun x hx => (by rw [hsc]; kernel_rfl)) fun a106 h106 => ?_; clear h105
   have hk112 := hk82.kept hg90 (by simp)
   refine d1D 10 h106 rfl rfl (op_storePart (k := 13) (cs' := #[.bool true, .int .i64 ep, cv, .int .u64 fl, lgv, .int .u64 hz, pv, .int .i64 tp, .bool x0.1, .int .i64 x0.2.1, .int .i64 x0.2.2.1, .int .i64 x0.2.2.2.1, .int .i64 x0.2.2.2.2, .bool true, .int .i64 d.sc, .int .i64 d.sr, .int .i64 d.se, .int .i64 d.sp, .bool x2.1, .int .i64 x2.2.1, .int .i64 x2.2.2.1, .int .i64 x2.2.2.2.1, .int .i64 x2.2.2.2.2]) rfl rfl rfl (by kernel_rfl) (by kernel_rfl) hk112 rfl rfl) ?_ ?_; clear h106
   ·
    rintro _ w108 ⟨hk109, hz110, hg111⟩
    have hk109' : Blk w108 b 66 #[.bool true, .int .i64 ep, cv, .int .u64 fl, lgv, .int .u64 hz, pv, .int .i64 tp, .bool x0.1, .int .i64 x0.2.1, .int .i64 x0.2.2.1, .int .i64 x0.2.2.2.1, .int .i64 x0.2.2.2.2, .bool true, .int .i64 d.sc, .int .i64 d.sr, .int .i64 d.se, .int .i64 d.sp, .bool x2.1, .int .i64 x2.2.1, .int .i64 x2.2.2.1, .int .i64 x2.2.2.2.1, .int .i64 x2.2.2.2.2] := hk109; clear hk109
    have hz113 := hg111.size
    have hB114 := fb_at hB95 hg111 (fun hlt => by first | (exfalso; omega) | (simp; done) | simp_all)
    have hk115 := hk96.kept hg111 (by simp; omega)
    exact ⟨hB114, hk115⟩
   rintro _ w108 a107 ⟨hk109, hz110, hg111⟩ h107
   have hk109' : Blk w108 b 66 #[.bool true, .int .i64 ep, cv, .int .u64 fl, lgv, .int .u64 hz, pv, .int .i64 tp, .bool x0.1, .int .i64 x0.2.1, .int .i64 x0.2.2.1, .int .i64 x0.2.2.2.1, .int .i64 x0.2.2.2.2, .bool true, .int .i64 d.sc, .int .i64 d.sr, .int .i64 d.se, .int .i64 d.sp, .bool x2.1, .int .i64 x2.2.1, .int .i64 x2.2.2.1, .int .i64 x2.2.2.2.1, .int .i64 x2.2.2.2.2] := hk109; clear hk109
   have hz113 := hg111.size
   refine dr_done (by kernel_rfl) ?_
   refine co_then ?_
   refine wp_exit ?_
   refine co_blockY (by decide) ?_
   refine co_thenX ?_
   refine co_blockX ?_
   refine co_then ?_
   refine co_seq ?_
   refine co_reg ?_
   refine pk0 (v := .int .i64 0) h107 rfl fun a114 h114 => ?_; clear h107
   refine pl_nil ?_
   refine co_then ?_
   refine wp_ret ?_
   refine co_ret1 h114 rfl rfl ?_
   have hB115 := fb_at hB95 hg111 (fun hlt => by first | (exfalso; omega) | (simp; done) | simp_all)
   have hA : sdF x1 d = (0, (true, d.sc, d.sr, d.se, d.sp)) := by unfold sdF; first | (rw [if_pos (by omega)]; done) | (rw [if_neg (by omega), if_pos (by omega)]; done) | (rw [if_neg (by omega), if_neg (by omega)]; done)
   exact ⟨by rw [hA], by rw [hA]; exact hk109', hB115⟩
  ·
   rw [hc85] at h84
   have hp116 : d.sr < x1.2.2.1 := of_decide_eq_true hc85
   clear hc85
   refine co_true h84 rfl ?_
   refine co_seq ?_
   refine co_reg ?_
   refine pk0 (v := .int .i64 18) h84 rfl fun a117 h117 => ?_; clear h84
   refine pl_nil ?_
   refine co_then ?_
   refine wp_ret ?_
   refine co_thenR ?_
   refine co_thenR ?_
   refine co_blockR ?_
   refine co_thenR ?_
   refine co_blockR ?_
   refine co_thenR ?_
   refine co_ret1 h117 rfl rfl ?_
   have hA : sdF x1 d = (18, x1) := by unfold sdF; first | (rw [if_pos (by omega)]; done) | (rw [if_neg (by omega), if_pos (by omega)]; done) | (rw [if_neg (by omega), if_neg (by omega)]; done)
   exact ⟨by rw [hA], by rw [hA]; exact hk82, hB87⟩
 ·
  rw [hc27] at h26
  have hp118 : chkN d ≠ 0 := by first | simpa using hc27 | simpa [and_assoc] using hc27
  clear hc27
  refine co_true h26 rfl ?_
  refine co_seq ?_
  refine co_reg ?_
  refine pk0 (v := .int .i64 (chkN d)) h26 rfl fun a119 h119 => ?_; clear h26
  refine pk0 (v := .int .i64 (chkN d)) h119 rfl fun a120 h120 => ?_; clear h119
  refine pl_nil ?_
  refine co_then ?_
  refine wp_ret ?_
  refine co_thenR ?_
  refine co_ret1 h120 rfl rfl ?_
  have hA : sdF x1 d = (chkN d, x1) := by unfold sdF; first | (rw [if_pos (by omega)]; done) | (rw [if_neg (by omega), if_pos (by omega)]; done) | (rw [if_neg (by omega), if_neg (by omega)]; done)
  exact ⟨by rw [hA], by rw [hA]; exact hk30, hB28⟩
set_option maxRecDepth 100000 in
set_option maxHeartbeats 1600000 in
theorem msApply82 (b : Nat) (ep : Int) (cv : Value) (fl : Int) (lgv : Value) (hz : Int) (pv : Value) (tp : Int) (x0 : SdT) (x1 : SdT) (x2 : SdT) (d : NoteD) (mv : Value) (lv : Value) (ev : Value) (w : World) (hb : Blk w b 66 #[.bool true, .int .i64 ep, cv, .int .u64 fl, lgv, .int .u64 hz, pv, .int .i64 tp, .bool x0.1, .int .i64 x0.2.1, .int .i64 x0.2.2.1, .int .i64 x0.2.2.2.1, .int .i64 x0.2.2.2.2, .bool x1.1, .int .i64 x1.2.1, .int .i64 x1.2.2.1, .int .i64 x1.2.2.2.1, .int .i64 x1.2.2.2.2, .bool x2.1, .int .i64 x2.2.1, .int .i64 x2.2.2.1, .int .i64 x2.2.2.2.1, .int .i64 x2.2.2.2.2]) (hm : SliceOf memE 2 w mv d.ms) (hg : SliceOf (intE .i64) 1 w lv d.lg) (he : SliceOf opE 3 w ev d.el) (hR : NoteR d) (hbm : d.ms ≠ [] → ∀ k, mv.ownBlock = some k → ¬ k = b) (hbg : d.lg ≠ [] → ∀ k, lv.ownBlock = some k → ¬ k = b) (hbe : d.el ≠ [] → ∀ k, ev.ownBlock = some k → ¬ k = b) (hkx : d.k = 8) (hsc : d.sc = 2) :
    Calls Try.prog 11 #[pt b 0, .agg #[.int .i64 d.k, .int .i64 d.n, .int .u64 d.t, .int .i64 d.ep, mv, .int .u64 d.fl, lv, .int .i64 d.ec, .int .i64 d.er, ev, .int .u64 d.ets, .int .i64 d.pid, .int .u64 d.pat, .int .i64 d.plf, .int .i64 d.sc, .int .i64 d.sr, .int .i64 d.se, .int .i64 d.sp]] w fun e w' => e = .returned (.int .i64 ((sdF x2 d).1)) ∧ Blk w' b 66 #[.bool true, .int .i64 ep, cv, .int .u64 fl, lgv, .int .u64 hz, pv, .int .i64 tp, .bool x0.1, .int .i64 x0.2.1, .int .i64 x0.2.2.1, .int .i64 x0.2.2.2.1, .int .i64 x0.2.2.2.2, .bool x1.1, .int .i64 x1.2.1, .int .i64 x1.2.2.1, .int .i64 x1.2.2.2.1, .int .i64 x1.2.2.2.2, .bool ((sdF x2 d).2.1), .int .i64 ((sdF x2 d).2.2.1), .int .i64 ((sdF x2 d).2.2.2.1), .int .i64 ((sdF x2 d).2.2.2.2.1), .int .i64 ((sdF x2 d).2.2.2.2.2)] ∧ But (fun q => q = b) w w' := by
 have hrng := hR.rng
 have hB0 := But.refl (fun q => q = b) w
 have hl_hb := hb.lt
 have hl_hm := sl_len hm
 have hl_hg := sl_len hg
 have hl_he := sl_len he
 refine co_enter (n := 113) Try.func11 rfl rfl rfl [(0, pt b 0), (1, .agg #[.int .i64 d.k, .int .i64 d.n, .int .u64 d.t, .int .i64 d.ep, mv, .int .u64 d.fl, lv, .int .i64 d.ec, .int .i64 d.er, ev, .int .u64 d.ets, .int .i64 d.pid, .int .u64 d.pat, .int .i64 d.plf, .int .i64 d.sc, .int .i64 d.sr, .int .i64 d.se, .int .i64 d.sp])] rfl (fun a h0 => ?_)
 refine co_seq ?_
 refine co_reg ?_
 refine pw h0 rfl (op_new (v := fun N => pt N 0) (T := 48) (cs := #[.int .i64 d.k, .int .i64 d.n, .int .u64 d.t, .int .i64 d.ep, mv, .int .u64 d.fl, lv, .int .i64 d.ec, .int .i64 d.er, ev, .int .u64 d.ets, .int .i64 d.pid, .int .u64 d.pat, .int .i64 d.plf, .int .i64 d.sc, .int .i64 d.sr, .int .i64 d.se, .int .i64 d.sp]) (by kernel_rfl) (by kernel_rfl) (by kernel_rfl)) ?_; clear h0
 rintro _ w2 a1 ⟨N3, rfl, hN6, hz7, hk5, hg4⟩ h1
 have hz8 := hg4.size
 try dsimp only at h1
 refine pk0 (v := .int .i64 0) h1 rfl fun a9 h9 => ?_; clear h1
 refine pl_nil ?_
 refine co_then ?_
 refine co_seq ?_
 refine co_seq ?_
 refine co_reg ?_
 refine pk0 (v := pt b 0) h9 rfl fun a10 h10 => ?_; clear h9
 have hk13 := hb.kept hg4 (by simp)
 refine pw h10 rfl (op_call (args := #[pt b 0]) (R := fun res xw => res = .bool false ∧ Below w2.heap.size w2 xw) rfl rfl rfl (by kernel_rfl) (by kernel_rfl) (Try.call19 _ _) (mszeroT b ep cv fl lgv hz pv tp x0 x1 x2 w2 hk13) (by rintro e x ⟨rfl, hb14⟩; exact ⟨_, rfl, ⟨rfl, hb14⟩⟩)) ?_; clear h10
 rintro _ w12 a11 ⟨rfl, hb14⟩ h11
 have hz15 := hb14.size
 refine pl_nil ?_
 refine co_then ?_
 refine co_false h11 rfl ?_
 refine wp_skip ?_
 refine co_then ?_
 refine co_seq ?_
 refine co_seq ?_
 refine co_reg ?_
 have hk16 := hk5.below hb14
 refine pk (v := .agg #[.int .i64 d.k, .int .i64 d.n, .int .u64 d.t, .int .i64 d.ep, mv, .int .u64 d.fl, lv, .int .i64 d.ec, .int .i64 d.er, ev, .int .u64 d.ets, .int .i64 d.pid, .int .u64 d.pat, .int .i64 d.plf, .int .i64 d.sc, .int .i64 d.sr, .int .i64 d.se, .int .i64 d.sp]) h11 rfl (rn_loadN rfl rfl Try.underlying48 rfl (by kernel_rfl) hk16.all) fun a17 h17 => ?_; clear h11
 have hB20 := fb_new hB0 hg4
 have hB21 := fb_call hB20 hb14
 refine pw h17 rfl (op_call (args := #[.agg #[.int .i64 d.k, .int .i64 d.n, .int .u64 d.t, .int .i64 d.ep, mv, .int .u64 d.fl, lv, .int .i64 d.ec, .int .i64 d.er, ev, .int .u64 d.ets, .int .i64 d.pid, .int .u64 d.pat, .int .i64 d.plf, .int .i64 d.sc, .int .i64 d.sr, .int .i64 d.se, .int .i64 d.sp]]) (R := fun res xw => res = .int .i64 (chkN d) ∧ Below w12.heap.size w12 xw) rfl rfl rfl (by kernel_rfl) (by kernel_rfl) (Try.call22 _ _) (nCheck_any d mv lv ev w12 (sl_butS hm hB21 hbm) (sl_butS hg hB21 hbg) (sl_butS he hB21 hbe) hR) (by rintro e x ⟨rfl, hb22⟩; exact ⟨_, rfl, ⟨rfl, hb22⟩⟩)) ?_; clear h17
 rintro _ w19 a18 ⟨rfl, hb22⟩ h18
 have hz23 := hb22.size
 refine pk0 (v := .int .i64 (chkN d)) h18 rfl fun a24 h24 => ?_; clear h18
 refine pl_nil ?_
 refine co_then ?_
 refine co_seq ?_
 refine co_reg ?_
 refine pk0 (v := .int .i64 (chkN d)) h24 rfl fun a25 h25 => ?_; clear h24
 refine pk0 (v := .bool (chkN d != 0)) h25 rfl fun a26 h26 => ?_; clear h25
 refine pl_nil ?_
 refine co_then ?_
 have hB28 := fb_call hB21 hb22
 have hk29 := hk13.below hb14
 have hk30 := hk29.below hb22
 cases hc27 : (chkN d != 0)
 ·
  rw [hc27] at h26
  have hp31 : ¬ (chkN d ≠ 0) := by first | simpa using hc27 | simpa [and_assoc] using hc27
  clear hc27
  refine co_false h26 rfl ?_
  refine wp_skip ?_
  refine co_then ?_
  refine co_seq ?_
  refine co_reg ?_
  refine pk0 (v := pt N3 1) h26 rfl fun a32 h32 => ?_; clear h26
  have hk33 := hk16.below hb22
  refine pk (v := .int .i64 d.n) h32 rfl (rn_load1 rfl rfl Try.isAgg3 (hk33.cell rfl)) fun a34 h34 => ?_; clear h32
  refine pw h34 rfl (op_new (v := fun N => .slice (some ⟨N, 0, none⟩) 1 1) (T := 3) (cs := #[.int .i64 d.n]) (by kernel_rfl) (by kernel_rfl) (by kernel_rfl)) ?_; clear h34
  rintro _ w36 a35 ⟨N37, rfl, hN40, hz41, hk39, hg38⟩ h35
  have hz42 := hg38.size
  try dsimp only at h35
  refine pk0 (v := .slice (some ⟨N37, 0, none⟩) 1 1) h35 rfl fun a43 h43 => ?_; clear h35
  refine pl_nil ?_
  refine co_then ?_
  refine co_seq ?_
  refine co_seq ?_
  refine co_reg ?_
  refine pk0 (v := pt N3 0) h43 rfl fun a44 h44 => ?_; clear h43
  have hk45 := hk33.kept hg38 (by simp)
  refine pk (v := .int .i64 d.k) h44 rfl (rn_load1 rfl rfl Try.isAgg3 (hk45.cell rfl)) fun a46 h46 => ?_; clear h44
  refine pl_nil ?_
  refine co_then ?_
  refine wp_block ?_
  refine co_seq ?_
  refine wp_block ?_
  refine co_seq ?_
  refine wp_block ?_
  refine co_seq ?_
  refine wp_block ?_
  refine co_seq ?_
  refine wp_block ?_
  refine co_seq ?_
  refine wp_block ?_
  refine co_seq ?_
  refine wp_block ?_
  refine co_seq ?_
  refine wp_block ?_
  refine co_seq ?_
  refine co_seq ?_
  refine co_seq ?_
  refine co_reg ?_
  refine pk0 (v := .bool (d.k == 1)) h46 rfl fun a47 h47 => ?_; clear h46
  refine pk0 (v := .bool (d.k == 1)) h47 rfl fun a48 h48 => ?_; clear h47
  refine pl_nil ?_
  refine co_then ?_
  have hc49 : (d.k == 1) = false := by first | (simp; done) | (simp; omega) | exact beq_false_of_ne (by omega) | exact beq_iff_eq.2 (by omega)
  rw [hc49] at h48; clear hc49
  refine co_false h48 rfl ?_
  refine wp_skip ?_
  refine co_then ?_
  refine co_seq ?_
  refine co_seq ?_
  refine co_reg ?_
  refine pk0 (v := .bool (d.k == 5)) h48 rfl fun a50 h50 => ?_; clear h48
  refine pk0 (v := .bool (d.k == 5)) h50 rfl fun a51 h51 => ?_; clear h50
  refine pl_nil ?_
  refine co_then ?_
  have hc52 : (d.k == 5) = false := by first | (simp; done) | (simp; omega) | exact beq_false_of_ne (by omega) | exact beq_iff_eq.2 (by omega)
  rw [hc52] at h51; clear hc52
  refine co_false h51 rfl ?_
  refine wp_skip ?_
  refine co_then ?_
  refine co_seq ?_
  refine co_seq ?_
  refine co_reg ?_
  refine pk0 (v := .bool (d.k == 4)) h51 rfl fun a53 h53 => ?_; clear h51
  refine pk0 (v := .bool (d.k == 4)) h53 rfl fun a54 h54 => ?_; clear h53
  refine pl_nil ?_
  refine co_then ?_
  have hc55 : (d.k == 4) = false := by first | (simp; done) | (simp; omega) | exact beq_false_of_ne (by omega) | exact beq_iff_eq.2 (by omega)
  rw [hc55] at h54; clear hc55
  refine co_false h54 rfl ?_
  refine wp_skip ?_
  refine co_then ?_
  refine co_seq ?_
  refine co_seq ?_
  refine co_reg ?_
  refine pk0 (v := .bool (d.k == 6)) h54 rfl fun a56 h56 => ?_; clear h54
  refine pk0 (v := .bool (d.k == 6)) h56 rfl fun a57 h57 => ?_; clear h56
  refine pl_nil ?_
  refine co_then ?_
  have hc58 : (d.k == 6) = false := by first | (simp; done) | (simp; omega) | exact beq_false_of_ne (by omega) | exact beq_iff_eq.2 (by omega)
  rw [hc58] at h57; clear hc58
  refine co_false h57 rfl ?_
  refine wp_skip ?_
  refine co_then ?_
  refine co_seq ?_
  refine co_seq ?_
  refine co_reg ?_
  refine pk0 (v := .bool (d.k == 7)) h57 rfl fun a59 h59 => ?_; clear h57
  refine pk0 (v := .bool (d.k == 7)) h59 rfl fun a60 h60 => ?_; clear h59
  refine pl_nil ?_
  refine co_then ?_
  have hc61 : (d.k == 7) = false := by first | (simp; done) | (simp; omega) | exact beq_false_of_ne (by omega) | exact beq_iff_eq.2 (by omega)
  rw [hc61] at h60; clear hc61
  refine co_false h60 rfl ?_
  refine wp_skip ?_
  refine co_then ?_
  refine co_seq ?_
  refine co_reg ?_
  refine pk0 (v := .bool (d.k == 8)) h60 rfl fun a62 h62 => ?_; clear h60
  refine pk0 (v := .bool (d.k == 8)) h62 rfl fun a63 h63 => ?_; clear h62
  refine pl_nil ?_
  refine co_then ?_
  have hc64 : (d.k == 8) = true := by first | (simp; done) | (simp; omega) | exact beq_false_of_ne (by omega) | exact beq_iff_eq.2 (by omega)
  rw [hc64] at h63; clear hc64
  refine co_true h63 rfl ?_
  refine wp_exit ?_
  refine co_thenX ?_
  refine co_blockY (by decide) ?_
  refine co_thenX ?_
  refine co_blockY (by decide) ?_
  refine co_thenX ?_
  refine co_blockY (by decide) ?_
  refine co_thenX ?_
  refine co_blockY (by decide) ?_
  refine co_thenX ?_
  refine co_blockY (by decide) ?_
  refine co_thenX ?_
  refine co_blockX ?_
  refine co_then ?_
  refine co_seq ?_
  refine co_seq ?_
  refine co_seq ?_
  refine dr_eq (by kernel_rfl) (fun w65 hg66 => ?_)
  have hz67 := hg66.size
  refine dk0 0 (v := pt N3 14) h63 rfl rfl rfl fun a68 h68 => ?_; clear h63
  refine dk0 1 (v := pt N3 15) h68 rfl rfl rfl fun a69 h69 => ?_; clear h68
  have hk70 := hk45.kept hg66 (by simp)
  refine dk 2 (v := .int .i64 d.sr) h69 rfl rfl rfl (fun x hx => by subst hx; exact (rn_load1 rfl rfl Try.isAgg3 (hk70.cell rfl))) fun a71 h71 => ?_; clear h69
  refine dk0 3 (v := pt b 0) h71 rfl rfl rfl fun a72 h72 => ?_; clear h71
  refine dk0 4 (v := pt N3 14) h72 rfl rfl rfl fun a73 h73 => ?_; clear h72
  refine dk0 5 (v := pt N3 14) h73 rfl rfl rfl fun a74 h74 => ?_; clear h73
  refine dk 6 (v := .int .i64 d.sc) h74 rfl rfl rfl (fun x hx => by subst hx; exact (rn_load1 rfl rfl Try.isAgg3 (hk70.cell rfl))) fun a75 h75 => ?_; clear h74
  refine dk0 7 (v := pt b 0) h75 rfl rfl rfl fun a76 h76 => ?_; clear h75
  refine dk0 8 (v := pt b 8) h76 rfl rfl rfl fun a77 h77 => ?_; clear h76
  refine dk 9 (v := pt b 18) h77 rfl rfl rfl (fun x hx => by subst hx; exact (by rw [hsc]; kernel_rfl)) fun a78 h78 => ?_; clear h77
  refine dk0 10 (v := pt b 19) h78 rfl rfl rfl fun a79 h79 => ?_; clear h78
  refine dk0 11 (v := pt b 20) h79 rfl rfl rfl fun a80 h80 => ?_; clear h79
  have hk81 := hk30.kept hg38 (by simp)
  have hk82 := hk81.kept hg66 (by simp)
  refine dk 12 (v := .int .i64 x2.2.2.1) h80 rfl rfl rfl (fun x hx => by subst hx; exact (rn_load1 rfl rfl Try.isAgg3 (hk82.cell rfl))) fun a83 h83 => ?_; clear h80
  refine dk0 13 (v := .bool (decide (d.sr < x2.2.2.1))) h83 rfl rfl rfl fun a84 h84 => ?_; clear h83
  refine dr_done (by kernel_rfl) ?_
  refine co_then ?_
  have hB86 := fb_new hB28 hg38
  have hB87 := fb_new hB86 hg66
  cases hc85 : (decide (d.sr < x2.2.2.1))
  ·
   rw [hc85] at h84
   have hp88 : ¬ (d.sr < x2.2.2.1) := of_decide_eq_false hc85
   clear hc85
   refine co_false h84 rfl ?_
   refine wp_skip ?_
   refine co_then ?_
   refine dr_gen (fun x => But (fun q => q = b) w x ∧ Blk x N3 48 #[.int .i64 d.k, .int .i64 d.n, .int .u64 d.t, .int .i64 d.ep, mv, .int .u64 d.fl, lv, .int .i64 d.ec, .int .i64 d.er, ev, .int .u64 d.ets, .int .i64 d.pid, .int .u64 d.pat, .int .i64 d.plf, .int .i64 d.sc, .int .i64 d.sr, .int .i64 d.se, .int .i64 d.sp]) (by kernel_rfl) (fun w89 hg90 => ?_) (fun w89 hg90 => ?_)
   ·
    have hz91 := hg90.size
    have hB92 := fb_new hB87 hg90
    have hk93 := hk70.kept hg90 (by simp)
    exact ⟨hB92, hk93⟩
   have hz94 := hg90.size
   have hB95 := fb_new hB87 hg90
   have hk96 := hk70.kept hg90 (by simp)
   refine dk0 0 (v := pt b 0) h84 rfl rfl ⟨hB95, hk96⟩ fun a97 h97 => ?_; clear h84
   refine dk0 1 (v := pt N3 14) h97 rfl rfl ⟨hB95, hk96⟩ fun a98 h98 => ?_; clear h97
   refine dk0 2 (v := pt N3 14) h98 rfl rfl ⟨hB95, hk96⟩ fun a99 h99 => ?_; clear h98
   refine dk 3 (v := .int .i64 d.sc) h99 rfl rfl ⟨hB95, hk96⟩ (fun x hx => (rn_load1 rfl rfl Try.isAgg3 (hx.2.cell rfl))) fun a100 h100 => ?_; clear h99
   refine dk0 4 (v := pt N3 14) h100 rfl rfl ⟨hB95, hk96⟩ fun a101 h101 => ?_; clear h100
   refine dk 5 (v := .agg #[.int .i64 d.sc, .int .i64 d.sr, .int .i64 d.se, .int .i64 d.sp]) h101 rfl rfl ⟨hB95, hk96⟩ (fun x hx => (rn_loadN rfl rfl Try.underlying46 rfl (by kernel_rfl) (blk_part hx.2 14 (by rfl)))) fun a102 h102 => ?_; clear h101
   refine dk0 6 (v := .agg #[.bool true, .int .i64 d.sc, .int .i64 d.sr, .int .i64 d.se, .int .i64 d.sp]) h102 rfl rfl ⟨hB95, hk96⟩ fun a103 h103 => ?_; clear h102
   refine dk0 7 (v := pt b 0) h103 rfl rfl ⟨hB95, hk96⟩ fun a104 h104 => ?_; clear h103
   refine dk0 8 (v := pt b 8) h104 rfl rfl ⟨hB95, hk96⟩ fun a105 h105 => ?_; clear h104
   refine dk 9 (v := pt b 18) h105 rfl rfl ⟨hB95, hk96⟩ (fun x hx => (by rw [hsc]; kernel_rfl)) fun a106 h106 => ?_; clear h105
   have hk112 := hk82.kept hg90 (by simp)
   refine d1D 10 h106 rfl rfl (op_storePart (k := 18) (cs' := #[.bool true, .int .i64 ep, cv, .int .u64 fl, lgv, .int .u64 hz, pv, .int .i64 tp, .bool x0.1, .int .i64 x0.2.1, .int .i64 x0.2.2.1, .int .i64 x0.2.2.2.1, .int .i64 x0.2.2.2.2, .bool x1.1, .int .i64 x1.2.1, .int .i64 x1.2.2.1, .int .i64 x1.2.2.2.1, .int .i64 x1.2.2.2.2, .bool true, .int .i64 d.sc, .int .i64 d.sr, .int .i64 d.se, .int .i64 d.sp]) rfl rfl rfl (by kernel_rfl) (by kernel_rfl) hk112 rfl rfl) ?_ ?_; clear h106
   ·
    rintro _ w108 ⟨hk109, hz110, hg111⟩
    have hk109' : Blk w108 b 66 #[.bool true, .int .i64 ep, cv, .int .u64 fl, lgv, .int .u64 hz, pv, .int .i64 tp, .bool x0.1, .int .i64 x0.2.1, .int .i64 x0.2.2.1, .int .i64 x0.2.2.2.1, .int .i64 x0.2.2.2.2, .bool x1.1, .int .i64 x1.2.1, .int .i64 x1.2.2.1, .int .i64 x1.2.2.2.1, .int .i64 x1.2.2.2.2, .bool true, .int .i64 d.sc, .int .i64 d.sr, .int .i64 d.se, .int .i64 d.sp] := hk109; clear hk109
    have hz113 := hg111.size
    have hB114 := fb_at hB95 hg111 (fun hlt => by first | (exfalso; omega) | (simp; done) | simp_all)
    have hk115 := hk96.kept hg111 (by simp; omega)
    exact ⟨hB114, hk115⟩
   rintro _ w108 a107 ⟨hk109, hz110, hg111⟩ h107
   have hk109' : Blk w108 b 66 #[.bool true, .int .i64 ep, cv, .int .u64 fl, lgv, .int .u64 hz, pv, .int .i64 tp, .bool x0.1, .int .i64 x0.2.1, .int .i64 x0.2.2.1, .int .i64 x0.2.2.2.1, .int .i64 x0.2.2.2.2, .bool x1.1, .int .i64 x1.2.1, .int .i64 x1.2.2.1, .int .i64 x1.2.2.2.1, .int .i64 x1.2.2.2.2, .bool true, .int .i64 d.sc, .int .i64 d.sr, .int .i64 d.se, .int .i64 d.sp] := hk109; clear hk109
   have hz113 := hg111.size
   refine dr_done (by kernel_rfl) ?_
   refine co_then ?_
   refine wp_exit ?_
   refine co_blockY (by decide) ?_
   refine co_thenX ?_
   refine co_blockX ?_
   refine co_then ?_
   refine co_seq ?_
   refine co_reg ?_
   refine pk0 (v := .int .i64 0) h107 rfl fun a114 h114 => ?_; clear h107
   refine pl_nil ?_
   refine co_then ?_
   refine wp_ret ?_
   refine co_ret1 h114 rfl rfl ?_
   have hB115 := fb_at hB95 hg111 (fun hlt => by first | (exfalso; omega) | (simp; done) | simp_all)
   have hA : sdF x2 d = (0, (true, d.sc, d.sr, d.se, d.sp)) := by unfold sdF; first | (rw [if_pos (by omega)]; done) | (rw [if_neg (by omega), if_pos (by omega)]; done) | (rw [if_neg (by omega), if_neg (by omega)]; done)
   exact ⟨by rw [hA], by rw [hA]; exact hk109', hB115⟩
  ·
   rw [hc85] at h84
   have hp116 : d.sr < x2.2.2.1 := of_decide_eq_true hc85
   clear hc85
   refine co_true h84 rfl ?_
   refine co_seq ?_
   refine co_reg ?_
   refine pk0 (v := .int .i64 18) h84 rfl fun a117 h117 => ?_; clear h84
   refine pl_nil ?_
   refine co_then ?_
   refine wp_ret ?_
   refine co_thenR ?_
   refine co_thenR ?_
   refine co_blockR ?_
   refine co_thenR ?_
   refine co_blockR ?_
   refine co_thenR ?_
   refine co_ret1 h117 rfl rfl ?_
   have hA : sdF x2 d = (18, x2) := by unfold sdF; first | (rw [if_pos (by omega)]; done) | (rw [if_neg (by omega), if_pos (by omega)]; done) | (rw [if_neg (by omega), if_neg (by omega)]; done)
   exact ⟨by rw [hA], by rw [hA]; exact hk82, hB87⟩
 ·
  rw [hc27] at h26
  have hp118 : chkN d ≠ 0 := by first | simpa using hc27 | simpa [and_assoc] using hc27
  clear hc27
  refine co_true h26 rfl ?_
  refine co_seq ?_
  refine co_reg ?_
  refine pk0 (v := .int .i64 (chkN d)) h26 rfl fun a119 h119 => ?_; clear h26
  refine pk0 (v := .int .i64 (chkN d)) h119 rfl fun a120 h120 => ?_; clear h119
  refine pl_nil ?_
  refine co_then ?_
  refine wp_ret ?_
  refine co_thenR ?_
  refine co_ret1 h120 rfl rfl ?_
  have hA : sdF x2 d = (chkN d, x2) := by unfold sdF; first | (rw [if_pos (by omega)]; done) | (rw [if_neg (by omega), if_pos (by omega)]; done) | (rw [if_neg (by omega), if_neg (by omega)]; done)
  exact ⟨by rw [hA], by rw [hA]; exact hk30, hB28⟩
set_option maxRecDepth 100000 in
set_option maxHeartbeats 1600000 in
theorem msApplyE (b : Nat) (ep : Int) (cv : Value) (fl : Int) (lgv : Value) (hz : Int) (pv : Value) (tp : Int) (x0 : SdT) (x1 : SdT) (x2 : SdT) (d : NoteD) (mv : Value) (lv : Value) (ev : Value) (w : World) (hb : Blk w b 66 #[.bool true, .int .i64 ep, cv, .int .u64 fl, lgv, .int .u64 hz, pv, .int .i64 tp, .bool x0.1, .int .i64 x0.2.1, .int .i64 x0.2.2.1, .int .i64 x0.2.2.2.1, .int .i64 x0.2.2.2.2, .bool x1.1, .int .i64 x1.2.1, .int .i64 x1.2.2.1, .int .i64 x1.2.2.2.1, .int .i64 x1.2.2.2.2, .bool x2.1, .int .i64 x2.2.1, .int .i64 x2.2.2.1, .int .i64 x2.2.2.2.1, .int .i64 x2.2.2.2.2]) (hm : SliceOf memE 2 w mv d.ms) (hg : SliceOf (intE .i64) 1 w lv d.lg) (he : SliceOf opE 3 w ev d.el) (hR : NoteR d) (hbm : d.ms ≠ [] → ∀ k, mv.ownBlock = some k → ¬ k = b) (hbg : d.lg ≠ [] → ∀ k, lv.ownBlock = some k → ¬ k = b) (hbe : d.el ≠ [] → ∀ k, ev.ownBlock = some k → ¬ k = b) (hch : chkN d ≠ 0) :
    Calls Try.prog 11 #[pt b 0, .agg #[.int .i64 d.k, .int .i64 d.n, .int .u64 d.t, .int .i64 d.ep, mv, .int .u64 d.fl, lv, .int .i64 d.ec, .int .i64 d.er, ev, .int .u64 d.ets, .int .i64 d.pid, .int .u64 d.pat, .int .i64 d.plf, .int .i64 d.sc, .int .i64 d.sr, .int .i64 d.se, .int .i64 d.sp]] w fun e w' => e = .returned (.int .i64 (chkN d)) ∧ Blk w' b 66 #[.bool true, .int .i64 ep, cv, .int .u64 fl, lgv, .int .u64 hz, pv, .int .i64 tp, .bool x0.1, .int .i64 x0.2.1, .int .i64 x0.2.2.1, .int .i64 x0.2.2.2.1, .int .i64 x0.2.2.2.2, .bool x1.1, .int .i64 x1.2.1, .int .i64 x1.2.2.1, .int .i64 x1.2.2.2.1, .int .i64 x1.2.2.2.2, .bool x2.1, .int .i64 x2.2.1, .int .i64 x2.2.2.1, .int .i64 x2.2.2.2.1, .int .i64 x2.2.2.2.2] ∧ But (fun q => q = b) w w' := by
 have hrng := hR.rng
 have hB0 := But.refl (fun q => q = b) w
 have hl_hb := hb.lt
 have hl_hm := sl_len hm
 have hl_hg := sl_len hg
 have hl_he := sl_len he
 refine co_enter (n := 113) Try.func11 rfl rfl rfl [(0, pt b 0), (1, .agg #[.int .i64 d.k, .int .i64 d.n, .int .u64 d.t, .int .i64 d.ep, mv, .int .u64 d.fl, lv, .int .i64 d.ec, .int .i64 d.er, ev, .int .u64 d.ets, .int .i64 d.pid, .int .u64 d.pat, .int .i64 d.plf, .int .i64 d.sc, .int .i64 d.sr, .int .i64 d.se, .int .i64 d.sp])] rfl (fun a h0 => ?_)
 refine co_seq ?_
 refine co_reg ?_
 refine pw h0 rfl (op_new (v := fun N => pt N 0) (T := 48) (cs := #[.int .i64 d.k, .int .i64 d.n, .int .u64 d.t, .int .i64 d.ep, mv, .int .u64 d.fl, lv, .int .i64 d.ec, .int .i64 d.er, ev, .int .u64 d.ets, .int .i64 d.pid, .int .u64 d.pat, .int .i64 d.plf, .int .i64 d.sc, .int .i64 d.sr, .int .i64 d.se, .int .i64 d.sp]) (by kernel_rfl) (by kernel_rfl) (by kernel_rfl)) ?_; clear h0
 rintro _ w2 a1 ⟨N3, rfl, hN6, hz7, hk5, hg4⟩ h1
 have hz8 := hg4.size
 try dsimp only at h1
 refine pk0 (v := .int .i64 0) h1 rfl fun a9 h9 => ?_; clear h1
 refine pl_nil ?_
 refine co_then ?_
 refine co_seq ?_
 refine co_seq ?_
 refine co_reg ?_
 refine pk0 (v := pt b 0) h9 rfl fun a10 h10 => ?_; clear h9
 have hk13 := hb.kept hg4 (by simp)
 refine pw h10 rfl (op_call (args := #[pt b 0]) (R := fun res xw => res = .bool false ∧ Below w2.heap.size w2 xw) rfl rfl rfl (by kernel_rfl) (by kernel_rfl) (Try.call19 _ _) (mszeroT b ep cv fl lgv hz pv tp x0 x1 x2 w2 hk13) (by rintro e x ⟨rfl, hb14⟩; exact ⟨_, rfl, ⟨rfl, hb14⟩⟩)) ?_; clear h10
 rintro _ w12 a11 ⟨rfl, hb14⟩ h11
 have hz15 := hb14.size
 refine pl_nil ?_
 refine co_then ?_
 refine co_false h11 rfl ?_
 refine wp_skip ?_
 refine co_then ?_
 refine co_seq ?_
 refine co_seq ?_
 refine co_reg ?_
 have hk16 := hk5.below hb14
 refine pk (v := .agg #[.int .i64 d.k, .int .i64 d.n, .int .u64 d.t, .int .i64 d.ep, mv, .int .u64 d.fl, lv, .int .i64 d.ec, .int .i64 d.er, ev, .int .u64 d.ets, .int .i64 d.pid, .int .u64 d.pat, .int .i64 d.plf, .int .i64 d.sc, .int .i64 d.sr, .int .i64 d.se, .int .i64 d.sp]) h11 rfl (rn_loadN rfl rfl Try.underlying48 rfl (by kernel_rfl) hk16.all) fun a17 h17 => ?_; clear h11
 have hB20 := fb_new hB0 hg4
 have hB21 := fb_call hB20 hb14
 refine pw h17 rfl (op_call (args := #[.agg #[.int .i64 d.k, .int .i64 d.n, .int .u64 d.t, .int .i64 d.ep, mv, .int .u64 d.fl, lv, .int .i64 d.ec, .int .i64 d.er, ev, .int .u64 d.ets, .int .i64 d.pid, .int .u64 d.pat, .int .i64 d.plf, .int .i64 d.sc, .int .i64 d.sr, .int .i64 d.se, .int .i64 d.sp]]) (R := fun res xw => res = .int .i64 (chkN d) ∧ Below w12.heap.size w12 xw) rfl rfl rfl (by kernel_rfl) (by kernel_rfl) (Try.call22 _ _) (nCheck_any d mv lv ev w12 (sl_butS hm hB21 hbm) (sl_butS hg hB21 hbg) (sl_butS he hB21 hbe) hR) (by rintro e x ⟨rfl, hb22⟩; exact ⟨_, rfl, ⟨rfl, hb22⟩⟩)) ?_; clear h17
 rintro _ w19 a18 ⟨rfl, hb22⟩ h18
 have hz23 := hb22.size
 refine pk0 (v := .int .i64 (chkN d)) h18 rfl fun a24 h24 => ?_; clear h18
 refine pl_nil ?_
 refine co_then ?_
 refine co_seq ?_
 refine co_reg ?_
 refine pk0 (v := .int .i64 (chkN d)) h24 rfl fun a25 h25 => ?_; clear h24
 refine pk0 (v := .bool (chkN d != 0)) h25 rfl fun a26 h26 => ?_; clear h25
 refine pl_nil ?_
 refine co_then ?_
 have hc27 : (chkN d != 0) = true := by first | (simp; done) | (simp; omega) | exact beq_false_of_ne (by omega) | exact beq_iff_eq.2 (by omega)
 rw [hc27] at h26; clear hc27
 refine co_true h26 rfl ?_
 refine co_seq ?_
 refine co_reg ?_
 refine pk0 (v := .int .i64 (chkN d)) h26 rfl fun a28 h28 => ?_; clear h26
 refine pk0 (v := .int .i64 (chkN d)) h28 rfl fun a29 h29 => ?_; clear h28
 refine pl_nil ?_
 refine co_then ?_
 refine wp_ret ?_
 refine co_thenR ?_
 refine co_ret1 h29 rfl rfl ?_
 have hk30 := hk13.below hb14
 have hk31 := hk30.below hb22
 have hB32 := fb_call hB21 hb22
 exact ⟨rfl, hk31, hB32⟩
end Go.Proofs.Ytglfoippcmckaaa

/- Package mstate: a state as one; Apply of any note. Conditions: at most 900 trusted. -/
namespace Go.Proofs.Ytglfoippcmckaaa
open Go.RowKit Go.PlainAid
set_option linter.unusedVariables false
set_option linter.unusedSimpArgs false

/-- What a state knows. -/
structure MsT where
  ep : Int
  fl : Int
  hz : Int
  tp : Int
  ms : List MemT
  lg : List Int
  pn : List PinT
  x0 : SdT
  x1 : SdT
  x2 : SdT
def msZ : MsT := ⟨0, 0, 0, 0, [], [], [], (false, 0, 0, 0, 0), (false, 0, 0, 0, 0), (false, 0, 0, 0, 0)⟩
def MsO (w : World) (b : Nat) (s : MsT) : Prop := ∃ cv lgv pv : Value, Blk w b 66 #[.bool true, .int .i64 s.ep, cv, .int .u64 s.fl, lgv, .int .u64 s.hz, pv, .int .i64 s.tp, .bool s.x0.1, .int .i64 s.x0.2.1, .int .i64 s.x0.2.2.1, .int .i64 s.x0.2.2.2.1, .int .i64 s.x0.2.2.2.2, .bool s.x1.1, .int .i64 s.x1.2.1, .int .i64 s.x1.2.2.1, .int .i64 s.x1.2.2.2.1, .int .i64 s.x1.2.2.2.2, .bool s.x2.1, .int .i64 s.x2.2.1, .int .i64 s.x2.2.2.1, .int .i64 s.x2.2.2.2.1, .int .i64 s.x2.2.2.2.2] ∧
  w.ownsRow 0 88 2 cv s.ms.length (s.ms.flatMap memE) ∧ w.ownsRow 0 3 1 lgv s.lg.length (s.lg.flatMap (intE .i64)) ∧ w.ownsRow 0 44 3 pv s.pn.length (s.pn.flatMap pinE) ∧ s.pn.length ≤ 3
/-- What a note comes to, and the state behind it. -/
def apM (d : NoteD) (s : MsT) : Int × MsT :=
  if chkN d ≠ 0 then (chkN d, s)
  else if d.k = 1 then ((ap1 s.ep s.fl s.ms s.lg d).1, { s with ep := (ap1 s.ep s.fl s.ms s.lg d).2.1, fl := (ap1 s.ep s.fl s.ms s.lg d).2.2.1, ms := (ap1 s.ep s.fl s.ms s.lg d).2.2.2.1, lg := (ap1 s.ep s.fl s.ms s.lg d).2.2.2.2 })
  else if d.k = 5 then ((ap5 s.ms s.lg d).1, { s with lg := (ap5 s.ms s.lg d).2 })
  else if d.k = 8 then (if d.sc = 0 then ((sdF s.x0 d).1, { s with x0 := (sdF s.x0 d).2 }) else if d.sc = 1 then ((sdF s.x1 d).1, { s with x1 := (sdF s.x1 d).2 }) else ((sdF s.x2 d).1, { s with x2 := (sdF s.x2 d).2 }))
  else ((apF s.pn s.hz s.tp d).1, { s with hz := (apF s.pn s.hz s.tp d).2.1, pn := (apF s.pn s.hz s.tp d).2.2.1, tp := (apF s.pn s.hz s.tp d).2.2.2 })
section
variable {w x : World} {b : Nat} {s : MsT} {d : NoteD} {mv lv ev : Value}
theorem MsO.lt (h : MsO w b s) : b < w.heap.size := by obtain ⟨_, _, _, h, _⟩ := h; exact h.lt
theorem row_butM {T : TypeId} {sz k : Nat} {v : Value} {xs : List Value} {T' : TypeId} {cs : Array Value} (h : w.ownsRow 0 T sz v k xs) (hb : Blk w b T' cs) (hT : T ≠ T') (hB : But (fun q => q = b) w x) : x.ownsRow 0 T sz v k xs :=
  own_but h hB (fun i hi hS => own_neT h hb hT (by rw [hi, show i = b from hS]))
theorem msNew (w : World) : Calls Try.prog 7 #[] w fun e w' => ∃ N : Nat, e = .returned (pt N 0) ∧ MsO w' N msZ ∧ w.heap.size ≤ N ∧ Below w.heap.size w w' :=
  (msNew_any w).mono fun e x ⟨N, h1, h2, h3, h4⟩ => ⟨N, h1, ⟨_, _, _, h2, World.ownsRow_nil _ _ _ _, World.ownsRow_nil _ _ _ _, World.ownsRow_nil _ _ _ _, Nat.zero_le _⟩, h3, h4⟩
theorem msApply (w : World) (mv lv ev : Value) (h : MsO w b s) (hl : s.lg.length ≤ 900) (hm : SliceOf memE 2 w mv d.ms) (hg : SliceOf (intE .i64) 1 w lv d.lg) (he : SliceOf opE 3 w ev d.el) (hR : NoteR d)
    (hbm : d.ms ≠ [] → ∀ k, mv.ownBlock = some k → ¬ k = b) (hbg : d.lg ≠ [] → ∀ k, lv.ownBlock = some k → ¬ k = b) (hbe : d.el ≠ [] → ∀ k, ev.ownBlock = some k → ¬ k = b) :
    Calls Try.prog 11 #[pt b 0, .agg #[.int .i64 d.k, .int .i64 d.n, .int .u64 d.t, .int .i64 d.ep, mv, .int .u64 d.fl, lv, .int .i64 d.ec, .int .i64 d.er, ev, .int .u64 d.ets, .int .i64 d.pid, .int .u64 d.pat, .int .i64 d.plf, .int .i64 d.sc, .int .i64 d.sr, .int .i64 d.se, .int .i64 d.sp]] w fun e w' => e = .returned (.int .i64 (apM d s).1) ∧ MsO w' b (apM d s).2 ∧ But (fun q => q = b) w w' := by
  obtain ⟨cv, lgv, pv, h1, h2, h3, h4, h5⟩ := h
  by_cases q0 : chkN d ≠ 0
  · have hA : apM d s = (chkN d, s) := by unfold apM; rw [if_pos q0]
    rw [hA]
    refine (msApplyE b s.ep cv s.fl lgv s.hz pv s.tp s.x0 s.x1 s.x2 d mv lv ev w h1 hm hg he hR hbm hbg hbe q0).mono ?_
    rintro e x ⟨rfl, k1, k2⟩
    exact ⟨rfl, ⟨_, _, _, k1, row_butM h2 h1 (by decide) k2, row_butM h3 h1 (by decide) k2, row_butM h4 h1 (by decide) k2, h5⟩, k2⟩
  by_cases q1 : d.k = 1
  · have hA : apM d s = ((ap1 s.ep s.fl s.ms s.lg d).1, { s with ep := (ap1 s.ep s.fl s.ms s.lg d).2.1, fl := (ap1 s.ep s.fl s.ms s.lg d).2.2.1, ms := (ap1 s.ep s.fl s.ms s.lg d).2.2.2.1, lg := (ap1 s.ep s.fl s.ms s.lg d).2.2.2.2 }) := by unfold apM; rw [if_neg q0, if_pos q1]
    rw [hA]
    refine (msApply1_any b s.ep cv s.fl lgv s.hz pv s.tp s.x0 s.x1 s.x2 s.ms s.lg d mv lv ev w h1 h2 h3 hm hg he hR hbm hbg hbe q1).mono ?_
    rintro e x ⟨cv2, lv2, rfl, k1, k2, k3, k4⟩
    exact ⟨rfl, ⟨_, _, _, k1, k2, k3, row_butM h4 h1 (by decide) k4, h5⟩, k4⟩
  by_cases q5 : d.k = 5
  · have hA : apM d s = ((ap5 s.ms s.lg d).1, { s with lg := (ap5 s.ms s.lg d).2 }) := by unfold apM; rw [if_neg q0, if_neg q1, if_pos q5]
    rw [hA]
    refine (msApply5_any b s.ep cv s.fl lgv s.hz pv s.tp s.x0 s.x1 s.x2 s.ms s.lg d mv lv ev w h1 h2 h3 hm hg he hR hbm hbg hbe q5 hl).mono ?_
    rintro e x ⟨lv2, rfl, k1, k3, k4⟩
    exact ⟨rfl, ⟨_, _, _, k1, row_butM h2 h1 (by decide) k4, k3, row_butM h4 h1 (by decide) k4, h5⟩, k4⟩
  by_cases q8 : d.k = 8
  · have hc := ((chkN_ok (d := d) (by omega)).2.2.2.2.2 q8).1
    by_cases c0 : d.sc = 0
    · have hA : apM d s = ((sdF s.x0 d).1, { s with x0 := (sdF s.x0 d).2 }) := by unfold apM; rw [if_neg q0, if_neg q1, if_neg q5, if_pos q8, if_pos c0]
      rw [hA]
      refine (msApply80 b s.ep cv s.fl lgv s.hz pv s.tp s.x0 s.x1 s.x2 d mv lv ev w h1 hm hg he hR hbm hbg hbe q8 c0).mono ?_
      rintro e x ⟨rfl, k1, k2⟩
      exact ⟨rfl, ⟨_, _, _, k1, row_butM h2 h1 (by decide) k2, row_butM h3 h1 (by decide) k2, row_butM h4 h1 (by decide) k2, h5⟩, k2⟩
    by_cases c1 : d.sc = 1
    · have hA : apM d s = ((sdF s.x1 d).1, { s with x1 := (sdF s.x1 d).2 }) := by unfold apM; rw [if_neg q0, if_neg q1, if_neg q5, if_pos q8, if_neg c0, if_pos c1]
      rw [hA]
      refine (msApply81 b s.ep cv s.fl lgv s.hz pv s.tp s.x0 s.x1 s.x2 d mv lv ev w h1 hm hg he hR hbm hbg hbe q8 c1).mono ?_
      rintro e x ⟨rfl, k1, k2⟩
      exact ⟨rfl, ⟨_, _, _, k1, row_butM h2 h1 (by decide) k2, row_butM h3 h1 (by decide) k2, row_butM h4 h1 (by decide) k2, h5⟩, k2⟩
    · have hA : apM d s = ((sdF s.x2 d).1, { s with x2 := (sdF s.x2 d).2 }) := by unfold apM; rw [if_neg q0, if_neg q1, if_neg q5, if_pos q8, if_neg c0, if_neg c1]
      rw [hA]
      refine (msApply82 b s.ep cv s.fl lgv s.hz pv s.tp s.x0 s.x1 s.x2 d mv lv ev w h1 hm hg he hR hbm hbg hbe q8 (by omega)).mono ?_
      rintro e x ⟨rfl, k1, k2⟩
      exact ⟨rfl, ⟨_, _, _, k1, row_butM h2 h1 (by decide) k2, row_butM h3 h1 (by decide) k2, row_butM h4 h1 (by decide) k2, h5⟩, k2⟩
  · have hA : apM d s = ((apF s.pn s.hz s.tp d).1, { s with hz := (apF s.pn s.hz s.tp d).2.1, pn := (apF s.pn s.hz s.tp d).2.2.1, tp := (apF s.pn s.hz s.tp d).2.2.2 }) := by unfold apM; rw [if_neg q0, if_neg q1, if_neg q5, if_neg q8]
    rw [hA]
    refine (msApplyP_any b s.ep cv s.fl lgv s.hz pv s.pn s.tp s.x0 s.x1 s.x2 d mv lv ev w h1 h4 h5 hm hg he hR hbm hbg hbe ⟨q1, q5, q8⟩).mono ?_
    rintro e x ⟨pv2, rfl, k1, k2, k3, k4⟩
    exact ⟨rfl, ⟨_, _, _, k1, row_butM h2 h1 (by decide) k4, row_butM h3 h1 (by decide) k4, k2, k3⟩, k4⟩
end
end Go.Proofs.Ytglfoippcmckaaa

/- catenalaw28: MstateNever: what a note never turns back. Conditions: none. -/
namespace Go.Proofs.Ytglfoippcmckaaa
set_option linter.unusedVariables false
set_option linter.unusedSimpArgs false

/-- What holds of a state that notes made. -/
structure MsV (s : MsT) : Prop where
  head : 0 < s.ep → headI s.ms ∈ s.lg
  ms : s.ms.length ≤ 20
theorem MsV.z : MsV msZ := ⟨fun h => by simp [msZ] at h, by simp [msZ]⟩
theorem trF_len (ms : List MemT) (lg ids : List Int) : (trF ms lg ids).2.length ≤ lg.length + ids.length := by
  unfold trF; split
  · have h1 := cpt_len (srt (lg ++ ids)); have h2 := srt_len (lg ++ ids); rw [List.length_append] at h2; show (cpt (srt (lg ++ ids))).length ≤ _; omega
  · show lg.length ≤ _; omega
theorem trF_mem {ms : List MemT} {lg ids : List Int} {x : Int} (h : x ∈ lg) : x ∈ (trF ms lg ids).2 := by
  unfold trF; split
  · exact cpt_mem.2 (srt_mem.2 (List.mem_append_left _ h))
  · exact h
theorem trF_ids {ms : List MemT} {lg ids : List Int} {x : Int} (h : x ∈ ids) (hm : memIds ms ids = true) : x ∈ (trF ms lg ids).2 := by
  unfold trF; rw [if_pos hm]; exact cpt_mem.2 (srt_mem.2 (List.mem_append_right _ h))
theorem fw_cases (ep fl : Int) (ms : List MemT) (lg : List Int) (cep cfl : Int) (cms : List MemT) (ids : List Int) :
    ((fwS ep fl ms lg cep cfl cms ids).1 ≠ 0 ∧ (fwS ep fl ms lg cep cfl cms ids).2 = (ep, fl, ms, lg)) ∨ (fwS ep fl ms lg cep cfl cms ids = (0, cep, cfl, cms, []) ∧ ep < cep ∧ memIds cms ids = true ∧ headI cms ∈ ids) := by
  by_cases h0 : fwF ep cep cms ids = 0
  · right
    refine ⟨fwS_y h0, ?_⟩
    unfold fwF at h0
    by_cases h1 : cep ≤ ep
    · rw [if_pos h1] at h0; omega
    rw [if_neg h1] at h0
    by_cases h2 : memIds cms ids = false
    · rw [if_pos h2] at h0; omega
    rw [if_neg h2] at h0
    by_cases h3 : inL ids (headI cms) = false
    · rw [if_pos h3] at h0; omega
    exact ⟨by omega, by simpa using h2, inL_mem.1 (by simpa using h3)⟩
  · left
    rw [fwS_n rfl h0]
    exact ⟨h0, rfl⟩
/-- Never back. -/
theorem apM_never {d : NoteD} {s : MsT} (v : MsV s) : MsV (apM d s).2 ∧ s.ep ≤ (apM d s).2.ep ∧ s.hz ≤ (apM d s).2.hz ∧ (apM d s).2.lg.length ≤ s.lg.length + 4 ∧ ((apM d s).1 = 0 → d.k = 6 → s.pn.length < (apM d s).2.pn.length → s.hz ≤ d.pat) := by
  obtain ⟨v1, v2⟩ := v
  unfold apM
  split
  · exact ⟨⟨v1, v2⟩, Int.le_refl _, Int.le_refl _, by show s.lg.length ≤ _; omega, fun _ _ h => absurd h (by simp)⟩
  rename_i q0
  split
  · rename_i q1
    have hc := chkN_ok (d := d) (by omega)
    have hm := chkC_lenM (hc.2.1 q1).1
    have hl := (hc.2.1 q1).2.2
    unfold ap1
    rw [if_neg q0]
    rcases fw_cases s.ep s.fl s.ms s.lg d.ep d.fl d.ms d.lg with ⟨h1, h2⟩ | ⟨h1, h2, h3, h4⟩
    · rw [if_pos h1, h2]
      exact ⟨⟨v1, v2⟩, Int.le_refl _, Int.le_refl _, by show s.lg.length ≤ _; omega, fun _ h => by omega⟩
    · rw [h1, if_neg (by simp)]
      have := trF_len d.ms [] d.lg
      exact ⟨⟨fun _ => trF_ids h4 h3, hm⟩, by show s.ep ≤ d.ep; omega, Int.le_refl _, by show (trF d.ms [] d.lg).2.length ≤ _; simp only [List.length_nil] at this; omega, fun _ h => by omega⟩
  split
  · rename_i q5
    unfold ap5
    rw [if_neg q0]
    have := trF_len s.ms s.lg [d.n]
    exact ⟨⟨fun h => trF_mem (v1 h), v2⟩, Int.le_refl _, Int.le_refl _, by show (trF s.ms s.lg [d.n]).2.length ≤ _; simp only [List.length_cons, List.length_nil] at this; omega, fun _ h => by omega⟩
  split
  · split
    · exact ⟨⟨v1, v2⟩, Int.le_refl _, Int.le_refl _, by show s.lg.length ≤ _; omega, fun _ h => by omega⟩
    split
    · exact ⟨⟨v1, v2⟩, Int.le_refl _, Int.le_refl _, by show s.lg.length ≤ _; omega, fun _ h => by omega⟩
    · exact ⟨⟨v1, v2⟩, Int.le_refl _, Int.le_refl _, by show s.lg.length ≤ _; omega, fun _ h => by omega⟩
  · refine ⟨⟨v1, v2⟩, Int.le_refl _, ?_, by show s.lg.length ≤ _; omega, fun _ h6 hp => ?_⟩
    · show s.hz ≤ (apF s.pn s.hz s.tp d).2.1
      unfold apF
      rw [if_neg q0]
      split
      · split
        · exact Int.le_refl _
        · show s.hz ≤ d.t; omega
      split
      · exact Int.le_refl _
      split <;> exact Int.le_refl _
    · have hp : s.pn.length < (apF s.pn s.hz s.tp d).2.2.1.length := hp
      unfold apF at hp
      rw [if_neg q0, if_neg (by omega), if_pos h6] at hp
      have hp : s.pn.length < (pnF s.pn s.hz s.tp d.pid d.pat).2.1.length := hp
      unfold pnF at hp
      split at hp
      · have hp : s.pn.length < (renewP s.pn d.pid).1.length := hp
        exfalso; revert hp; unfold renewP; split <;> simp
      split at hp
      · exact absurd hp (by simp)
      split at hp
      · exact absurd hp (by simp)
      split at hp
      · exact absurd hp (by simp)
      · omega
end Go.Proofs.Ytglfoippcmckaaa

/- Package mstate: Conf, Legit; the document's In and Head. Conditions: at most 20 members, 1000 trusted. -/
namespace Go.Proofs.Ytglfoippcmckaaa
open Go.RowKit Go.PlainAid
set_option linter.unusedVariables false
set_option linter.unusedSimpArgs false

set_option maxRecDepth 100000 in
theorem in_any (v : Value) (l : List Int) (n : Int) (w : World) (hs : SliceOf (intE .i64) 1 w v l) :
    Calls Try.prog 12 #[v, .int .i64 n] w fun e w' => e = .returned (.bool (inL l n)) ∧ Below w.heap.size w w' := by
 have hB0 := Below.refl w.heap.size w
 have hl_hs := sl_len hs
 refine co_enter (n := 18) Try.func12 rfl rfl rfl [(0, v), (1, .int .i64 n)] rfl (fun a h0 => ?_)
 refine co_seq ?_
 refine co_reg ?_
 refine pk0 (v := .bool false) h0 rfl fun a1 h1 => ?_; clear h0
 refine pl_nil ?_
 refine co_then ?_
 refine co_seq ?_
 refine co_seq ?_
 refine co_reg ?_
 refine pk0 (v := .int .i64 0) h1 rfl fun a2 h2 => ?_; clear h1
 refine pl_nil ?_
 refine co_then ?_
 refine wp_block ?_
 have h3 : Slots 18 [(0, v), (1, .int .i64 n), (5, .int .i64 0)] _ := h2.sub ⟨rfl, rfl, rfl, trivial⟩; clear h2
 refine co_loop (fun mm a x => ∃ (i : Nat), Slots 18 [(0, v), (1, .int .i64 n), (5, .int .i64 ((i : Nat) : Int))] a ∧ mm = l.length - i ∧ (i ≤ l.length) ∧ (∀ j, j < i → ∀ z, l[j]? = some z → z ≠ n) ∧ Below w.heap.size w x) (l.length - 0) ?_ ?_
 · exact ⟨0, h3.sub ⟨rfl, rfl, (slot_eq rfl (congrArg (Value.int .i64) (by first | rfl | omega))), trivial⟩, rfl, by omega, by first | (intro j hj; omega) | exact in_next (by assumption) (by assumption) (by omega), hB0⟩
 · rintro k4 a5 w6 ⟨i, h5, rfl, hi7, hi8, hB9⟩
   have hz10 := hB9.size
   refine co_seq ?_
   refine co_seq ?_
   refine co_reg ?_
   refine pk0 (v := .int .i64 ((i : Nat) : Int)) h5 rfl fun a11 h11 => ?_; clear h5
   refine pk0 (v := v) h11 rfl fun a12 h12 => ?_; clear h11
   refine pk (v := .int .i64 ((l.length : Nat) : Int)) h12 rfl (rn_len rfl rfl Try.underlying37 (hs.below hB9)) fun a13 h13 => ?_; clear h12
   refine pk0 (v := .bool (decide (((i : Nat) : Int) < ((l.length : Nat) : Int)))) h13 rfl fun a14 h14 => ?_; clear h13
   refine pl_nil ?_
   refine co_then ?_
   cases hc15 : (decide (((i : Nat) : Int) < ((l.length : Nat) : Int)))
   ·
    rw [hc15] at h14
    have hp16 : ¬ (((i : Nat) : Int) < ((l.length : Nat) : Int)) := of_decide_eq_false hc15
    clear hc15
    refine co_false h14 rfl ?_
    refine wp_exit ?_
    refine co_thenX ?_
    refine co_thenX ?_
    refine co_blockX ?_
    refine co_then ?_
    refine co_seq ?_
    refine co_reg ?_
    refine pk0 (v := .bool false) h14 rfl fun a17 h17 => ?_; clear h14
    refine pl_nil ?_
    refine co_then ?_
    refine wp_ret ?_
    refine co_ret1 h17 rfl rfl ?_
    exact ⟨ret_bool (by first | exact inL_at (by assumption) (by assumption) (by omega) | exact inL_end (i := i) (by assumption) (by omega)), hB9⟩
   ·
    rw [hc15] at h14
    have hp18 : ((i : Nat) : Int) < ((l.length : Nat) : Int) := of_decide_eq_true hc15
    clear hc15
    refine co_true h14 rfl ?_
    refine wp_skip ?_
    refine co_then ?_
    refine co_seq ?_
    refine wp_block ?_
    refine co_seq ?_
    refine co_reg ?_
    refine pk0 (v := v) h14 rfl fun a19 h19 => ?_; clear h14
    refine pk0 (v := .int .i64 ((i : Nat) : Int)) h19 rfl fun a20 h20 => ?_; clear h19
    obtain ⟨y21, hy21⟩ : ∃ z, l[i]? = some z := ⟨_, List.getElem?_eq_getElem (by first | omega | (simp; done) | (simp; omega))⟩
    refine pk (v := pt (blkOf v) (offOf v + i * 1)) h20 rfl (rn_index rfl rfl rfl Try.underlying37 Try.sizeOf3 (hs.below hB9) (by omega) (by first | omega | (simp; done) | (simp; omega))) fun a22 h22 => ?_; clear h20
    refine pk (v := .int .i64 y21) h22 rfl (rn_load1 rfl rfl Try.isAgg3 ((sl_at (hs.below hB9) hy21) 0 _ rfl)) fun a23 h23 => ?_; clear h22
    refine pk0 (v := .int .i64 n) h23 rfl fun a24 h24 => ?_; clear h23
    refine pk0 (v := .bool (y21 == n)) h24 rfl fun a25 h25 => ?_; clear h24
    refine pl_nil ?_
    refine co_then ?_
    cases hc26 : (y21 == n)
    ·
     rw [hc26] at h25
     have hp27 : ¬ (y21 = n) := by first | simpa using hc26 | simpa [and_assoc] using hc26
     clear hc26
     refine co_false h25 rfl ?_
     refine wp_skip ?_
     refine co_blockN ?_
     refine co_then ?_
     refine co_reg ?_
     refine pk0 (v := .int .i64 ((i : Nat) : Int)) h25 rfl fun a28 h28 => ?_; clear h25
     refine pk (v := .int .i64 ((i + 1 : Nat) : Int)) h28 rfl (rn_arith' rfl rfl rfl rfl rfl rfl (IntWalk.i64_in _ (by omega)) (by omega)) fun a29 h29 => ?_; clear h28
     refine pk0 (v := .int .i64 ((i + 1 : Nat) : Int)) h29 rfl fun a30 h30 => ?_; clear h29
     refine pl_nil ?_
     refine co_then ?_
     refine ⟨(l.length - (i + 1)), by omega, ?_⟩
     exact ⟨i + 1, h30.sub ⟨rfl, rfl, rfl, trivial⟩, rfl, by omega, by first | (intro j hj; omega) | exact in_next (by assumption) (by assumption) (by omega), hB9⟩
    ·
     rw [hc26] at h25
     have hp31 : y21 = n := by first | simpa using hc26 | simpa [and_assoc] using hc26
     clear hc26
     refine co_true h25 rfl ?_
     refine co_seq ?_
     refine co_reg ?_
     refine pk0 (v := .bool true) h25 rfl fun a32 h32 => ?_; clear h25
     refine pl_nil ?_
     refine co_then ?_
     refine wp_ret ?_
     refine co_blockR ?_
     refine co_thenR ?_
     refine co_thenR ?_
     refine co_blockR ?_
     refine co_thenR ?_
     refine co_ret1 h32 rfl rfl ?_
     exact ⟨ret_bool (by first | exact inL_at (by assumption) (by assumption) (by omega) | exact inL_end (i := i) (by assumption) (by omega)), hB9⟩
set_option maxRecDepth 100000 in
theorem at0_any (ep : Int) (fl : Int) (mv : Value) (ms : List MemT) (w : World) (hs : SliceOf memE 2 w mv ms) :
    Calls Try.prog 28 #[.agg #[.int .i64 ep, mv, .int .u64 fl], .int .i64 0] w fun e w' => e = .returned (.int .i64 (headI ms)) ∧ Below w.heap.size w w' := by
 have hB0 := Below.refl w.heap.size w
 have hl_hs := sl_len hs
 refine co_enter (n := 20) Try.func28 rfl rfl rfl [(0, .agg #[.int .i64 ep, mv, .int .u64 fl]), (1, .int .i64 0)] rfl (fun a h0 => ?_)
 refine co_seq ?_
 refine co_reg ?_
 refine pw h0 rfl (op_new (v := fun N => pt N 0) (T := 31) (cs := #[.int .i64 ep, mv, .int .u64 fl]) (by kernel_rfl) (by kernel_rfl) (by kernel_rfl)) ?_; clear h0
 rintro _ w2 a1 ⟨N3, rfl, hN6, hz7, hk5, hg4⟩ h1
 have hz8 := hg4.size
 try dsimp only at h1
 refine pk0 (v := .int .i64 0) h1 rfl fun a9 h9 => ?_; clear h1
 refine pl_nil ?_
 refine co_then ?_
 refine co_seq ?_
 refine co_seq ?_
 refine co_reg ?_
 refine pk0 (v := .int .i64 0) h9 rfl fun a10 h10 => ?_; clear h9
 refine pk0 (v := .bool (decide (0 < 0))) h10 rfl fun a11 h11 => ?_; clear h10
 refine pk0 (v := .bool (decide (0 < 0))) h11 rfl fun a12 h12 => ?_; clear h11
 have hc13 : (decide (0 < 0)) = false := decide_eq_false (by omega)
 rw [hc13] at h12; clear hc13
 refine pk0 (v := .int .i64 0) h12 rfl fun a14 h14 => ?_; clear h12
 refine pk0 (v := pt N3 1) h14 rfl fun a15 h15 => ?_; clear h14
 refine pk (v := mv) h15 rfl (rn_load1 rfl rfl Try.isAgg29 (hk5.cell rfl)) fun a16 h16 => ?_; clear h15
 have hB17 := hb_new hB0 hg4
 refine pk (v := .int .i64 ((ms.length : Nat) : Int)) h16 rfl (rn_len rfl rfl Try.underlying29 (hs.below hB17)) fun a18 h18 => ?_; clear h16
 refine pk0 (v := .bool (decide (0 ≥ ((ms.length : Nat) : Int)))) h18 rfl fun a19 h19 => ?_; clear h18
 refine pk0 (v := .bool (decide (0 ≥ ((ms.length : Nat) : Int)))) h19 rfl fun a20 h20 => ?_; clear h19
 refine pl_nil ?_
 refine co_then ?_
 cases hc21 : (decide (0 ≥ ((ms.length : Nat) : Int)))
 ·
  rw [hc21] at h20
  have hp22 : ¬ (0 ≥ ((ms.length : Nat) : Int)) := of_decide_eq_false hc21
  clear hc21
  refine co_false h20 rfl ?_
  refine wp_skip ?_
  refine co_then ?_
  refine co_seq ?_
  refine co_reg ?_
  refine pk0 (v := pt N3 1) h20 rfl fun a23 h23 => ?_; clear h20
  refine pk (v := mv) h23 rfl (rn_load1 rfl rfl Try.isAgg29 (hk5.cell rfl)) fun a24 h24 => ?_; clear h23
  refine pk0 (v := .int .i64 0) h24 rfl fun a25 h25 => ?_; clear h24
  obtain ⟨y26, hy26⟩ : ∃ z, ms[0]? = some z := ⟨_, List.getElem?_eq_getElem (by first | omega | (simp; done) | (simp; omega))⟩
  refine pk (v := pt (blkOf mv) (offOf mv + 0 * 2)) h25 rfl (rn_index rfl rfl rfl Try.underlying29 Try.sizeOf88 (hs.below hB17) (by omega) (by first | omega | (simp; done) | (simp; omega))) fun a27 h27 => ?_; clear h25
  refine pk0 (v := pt (blkOf mv) (offOf mv + 0 * 2)) h27 rfl fun a28 h28 => ?_; clear h27
  refine pk (v := .int .i64 y26.1) h28 rfl (rn_load1 rfl rfl Try.isAgg3 ((sl_at (hs.below hB17) hy26) 0 _ rfl)) fun a29 h29 => ?_; clear h28
  refine pk0 (v := .int .i64 y26.1) h29 rfl fun a30 h30 => ?_; clear h29
  refine pl_nil ?_
  refine co_then ?_
  refine wp_ret ?_
  refine co_ret1 h30 rfl rfl ?_
  exact ⟨ret_int (by first | exact headI_y (by assumption) | exact headI_0 (by omega)), hB17⟩
 ·
  rw [hc21] at h20
  have hp31 : 0 ≥ ((ms.length : Nat) : Int) := of_decide_eq_true hc21
  clear hc21
  refine co_true h20 rfl ?_
  refine co_seq ?_
  refine co_reg ?_
  refine pk0 (v := .int .i64 (-1)) h20 rfl fun a32 h32 => ?_; clear h20
  refine pl_nil ?_
  refine co_then ?_
  refine wp_ret ?_
  refine co_thenR ?_
  refine co_ret1 h32 rfl rfl ?_
  exact ⟨ret_int (by first | exact headI_y (by assumption) | exact headI_0 (by omega)), hB17⟩
set_option maxRecDepth 100000 in
theorem head27_any (ep : Int) (fl : Int) (mv : Value) (ms : List MemT) (w : World) (hs : SliceOf memE 2 w mv ms) :
    Calls Try.prog 14 #[.agg #[.int .i64 ep, mv, .int .u64 fl]] w fun e w' => e = .returned (.int .i64 (headI ms)) ∧ Below w.heap.size w w' := by
 have hB0 := Below.refl w.heap.size w
 have hl_hs := sl_len hs
 refine co_enter (n := 5) Try.func14 rfl rfl rfl [(0, .agg #[.int .i64 ep, mv, .int .u64 fl])] rfl (fun a h0 => ?_)
 refine co_seq ?_
 refine co_reg ?_
 refine pw h0 rfl (op_new (v := fun N => pt N 0) (T := 31) (cs := #[.int .i64 ep, mv, .int .u64 fl]) (by kernel_rfl) (by kernel_rfl) (by kernel_rfl)) ?_; clear h0
 rintro _ w2 a1 ⟨N3, rfl, hN6, hz7, hk5, hg4⟩ h1
 have hz8 := hg4.size
 try dsimp only at h1
 refine pk0 (v := .int .i64 0) h1 rfl fun a9 h9 => ?_; clear h1
 refine pl_nil ?_
 refine co_then ?_
 refine co_seq ?_
 refine co_reg ?_
 refine pk (v := .agg #[.int .i64 ep, mv, .int .u64 fl]) h9 rfl (rn_loadN rfl rfl Try.underlying31 rfl (by kernel_rfl) hk5.all) fun a10 h10 => ?_; clear h9
 have hB13 := hb_new hB0 hg4
 refine pw h10 rfl (op_call (args := #[.agg #[.int .i64 ep, mv, .int .u64 fl], .int .i64 0]) (R := fun res xw => res = .int .i64 (headI ms) ∧ Below w2.heap.size w2 xw) rfl rfl rfl (by kernel_rfl) (by kernel_rfl) (Try.call28 _ _) (at0_any ep fl mv ms w2 (hs.below hB13)) (by rintro e x ⟨rfl, hb14⟩; exact ⟨_, rfl, ⟨rfl, hb14⟩⟩)) ?_; clear h10
 rintro _ w12 a11 ⟨rfl, hb14⟩ h11
 have hz15 := hb14.size
 refine pk0 (v := .int .i64 (headI ms)) h11 rfl fun a16 h16 => ?_; clear h11
 refine pl_nil ?_
 refine co_then ?_
 refine wp_ret ?_
 refine co_ret1 h16 rfl rfl ?_
 have hB17 := hb_call hB13 hb14
 exact ⟨rfl, hB17⟩
set_option maxRecDepth 100000 in
theorem cloneI_any (v : Value) (l : List Int) (w : World) (hs : SliceOf (intE .i64) 1 w v l) (hlen : l.length ≤ 1000) :
    Calls Try.prog 27 #[v] w fun e w' => ∃ (u : Value), e = .returned (u) ∧ w'.ownsRow w.heap.size 3 1 u l.length (l.flatMap (intE .i64)) ∧ Below w.heap.size w w' := by
 have hB0 := Below.refl w.heap.size w
 have hl_hs := sl_len hs
 have hs' := hs; obtain ⟨ao, cap, hv, _, _, h3, _⟩ := hs'; subst hv; rcases ao with _ | ad
 · obtain ⟨hl0, hc0⟩ := h3 rfl; obtain rfl : l = [] := List.eq_nil_of_length_eq_zero hl0; subst hc0
   refine co_enter (n := 8) Try.func27 rfl rfl rfl [(0, .slice none 0 0)] rfl (fun a h0 => ?_)
   refine co_seq ?_
   refine co_reg ?_
   refine pk0 (v := .slice none 0 0) h0 rfl fun a1 h1 => ?_; clear h0
   refine pl_nil ?_
   refine co_then ?_
   refine co_seq ?_
   refine co_seq ?_
   refine co_reg ?_
   refine pk0 (v := .slice none 0 0) h1 rfl fun a2 h2 => ?_; clear h1
   refine pk0 (v := .bool true) h2 rfl fun a3 h3 => ?_; clear h2
   refine pl_nil ?_
   refine co_then ?_
   refine co_true h3 rfl ?_
   refine co_seq ?_
   refine co_reg ?_
   refine pk0 (v := .slice none 0 0) h3 rfl fun a4 h4 => ?_; clear h3
   refine pl_nil ?_
   refine co_then ?_
   refine wp_ret ?_
   refine co_thenR ?_
   refine co_ret1 h4 rfl rfl ?_
   exact ⟨_, rfl, (row_nilL _ _ _ _ _), hB0⟩
 · skip
   refine co_enter (n := 8) Try.func27 rfl rfl rfl [(0, .slice (some ad) l.length cap)] rfl (fun a h0 => ?_)
   refine co_seq ?_
   refine co_reg ?_
   refine pk0 (v := .slice none 0 0) h0 rfl fun a5 h5 => ?_; clear h0
   refine pl_nil ?_
   refine co_then ?_
   refine co_seq ?_
   refine co_seq ?_
   refine co_reg ?_
   refine pk0 (v := .slice (some ad) l.length cap) h5 rfl fun a6 h6 => ?_; clear h5
   refine pk0 (v := .bool false) h6 rfl fun a7 h7 => ?_; clear h6
   refine pl_nil ?_
   refine co_then ?_
   refine co_false h7 rfl ?_
   refine wp_skip ?_
   refine co_then ?_
   refine co_seq ?_
   refine co_reg ?_
   refine pw h7 rfl (op_new (v := fun N => .slice (some ⟨N, 0, none⟩) 0 0) (T := 3) (cs := #[]) (by kernel_rfl) (by kernel_rfl) (by kernel_rfl)) ?_; clear h7
   rintro _ w9 a8 ⟨N10, rfl, hN13, hz14, hk12, hg11⟩ h8
   have hz15 := hg11.size
   try dsimp only at h8
   refine pk0 (v := .slice (some ad) l.length cap) h8 rfl fun a16 h16 => ?_; clear h8
   have hr19 := row_of_blkL hk12 (Nat.le_refl _) 1 (intE .i64)
   have hB24 := hb_new hB0 hg11
   refine pw h16 rfl (op_appendSrc rfl N10 3 (z := .int .i64 0) (size := 1) (bytes := 8) Try.underlying37 (by kernel_rfl) rfl rfl rfl hr19 rfl (hs.below hB24) (fun y hy => ⟨(intE_len .i64) y, (intE_one .i64) y⟩) (by first | omega | (simp only [List.length_nil, List.length_append, List.length_cons, List.length_take, List.length_drop]; omega)) (by first | omega | (simp only [List.length_nil, List.length_append, List.length_cons, List.length_take, List.length_drop]; omega)) (by omega)) ?_; clear h16
   rintro v20 w18 a17 ⟨hr21, hg22⟩ h17
   have hr21' : w18.ownsRow N10 3 1 v20 l.length (l.flatMap (intE .i64)) := row_app (l := []) hr21; clear hr21
   have hz25 := hg22.size
   refine pk0 (v := v20) h17 rfl fun a26 h26 => ?_; clear h17
   refine pl_nil ?_
   refine co_then ?_
   refine wp_ret ?_
   refine co_ret1 h26 rfl rfl ?_
   have hB27 := hb_row hB24 hr19 (by omega) hg22
   exact ⟨_, rfl, (row_lows hr21' (by omega)), hB27⟩
set_option maxRecDepth 100000 in
theorem msConf_any (b : Nat) (ep : Int) (cv : Value) (fl : Int) (lgv : Value) (hz : Int) (pv : Value) (tp : Int) (x0 : SdT) (x1 : SdT) (x2 : SdT) (ms : List MemT) (w : World) (hb : Blk w b 66 #[.bool true, .int .i64 ep, cv, .int .u64 fl, lgv, .int .u64 hz, pv, .int .i64 tp, .bool x0.1, .int .i64 x0.2.1, .int .i64 x0.2.2.1, .int .i64 x0.2.2.2.1, .int .i64 x0.2.2.2.2, .bool x1.1, .int .i64 x1.2.1, .int .i64 x1.2.2.1, .int .i64 x1.2.2.2.1, .int .i64 x1.2.2.2.2, .bool x2.1, .int .i64 x2.2.1, .int .i64 x2.2.2.1, .int .i64 x2.2.2.2.1, .int .i64 x2.2.2.2.2]) (hcvr : w.ownsRow 0 88 2 cv ms.length (ms.flatMap memE)) (hm20 : ms.length ≤ 20) :
    Calls Try.prog 9 #[pt b 0] w fun e w' => ∃ (u : Value), e = .returned (.agg #[.int .i64 ep, u, .int .u64 fl]) ∧ w'.ownsRow w.heap.size 88 2 u ms.length (ms.flatMap memE) ∧ Below w.heap.size w w' := by
 have hB0 := Below.refl w.heap.size w
 have hl_hb := hb.lt
 refine co_enter (n := 11) Try.func9 rfl rfl rfl [(0, pt b 0)] rfl (fun a h0 => ?_)
 refine co_seq ?_
 refine co_reg ?_
 refine pw h0 rfl (op_new (v := fun N => pt N 0) (T := 31) (cs := #[.int .i64 0, .slice none 0 0, .int .u64 0]) (by kernel_rfl) (by kernel_rfl) (by kernel_rfl)) ?_; clear h0
 rintro _ w2 a1 ⟨N3, rfl, hN6, hz7, hk5, hg4⟩ h1
 have ha8 := row_fresh hcvr hN6
 have hz9 := hg4.size
 try dsimp only at h1
 refine pl_nil ?_
 refine co_then ?_
 refine co_seq ?_
 refine co_seq ?_
 refine co_reg ?_
 refine pk0 (v := pt b 0) h1 rfl fun a10 h10 => ?_; clear h1
 have hk13 := hb.kept hg4 (by simp)
 refine pw h10 rfl (op_call (args := #[pt b 0]) (R := fun res xw => res = .bool false ∧ Below w2.heap.size w2 xw) rfl rfl rfl (by kernel_rfl) (by kernel_rfl) (Try.call19 _ _) (mszeroT b ep cv fl lgv hz pv tp x0 x1 x2 w2 hk13) (by rintro e x ⟨rfl, hb14⟩; exact ⟨_, rfl, ⟨rfl, hb14⟩⟩)) ?_; clear h10
 rintro _ w12 a11 ⟨rfl, hb14⟩ h11
 have hz15 := hb14.size
 refine pl_nil ?_
 refine co_then ?_
 refine co_false h11 rfl ?_
 refine wp_skip ?_
 refine co_then ?_
 refine co_seq ?_
 refine co_reg ?_
 refine pk0 (v := pt b 0) h11 rfl fun a16 h16 => ?_; clear h11
 refine pk0 (v := pt b 0) h16 rfl fun a17 h17 => ?_; clear h16
 refine pk0 (v := pt b 1) h17 rfl fun a18 h18 => ?_; clear h17
 have hk19 := hk13.below hb14
 refine pk (v := .agg #[.int .i64 ep, cv, .int .u64 fl]) h18 rfl (rn_loadN rfl rfl Try.underlying31 rfl (by kernel_rfl) (blk_part hk19 1 (by rfl))) fun a20 h20 => ?_; clear h18
 have hr23 := row_kept_new hcvr hg4
 have hr24 := row_kept_new hr23 (below_grown hb14)
 refine pw h20 rfl (op_call (args := #[.agg #[.int .i64 ep, cv, .int .u64 fl]]) (R := fun res xw => ∃ u : Value, res = .agg #[.int .i64 ep, u, .int .u64 fl] ∧ xw.ownsRow w12.heap.size 88 2 u ms.length (ms.flatMap memE) ∧ Below w12.heap.size w12 xw) rfl rfl rfl (by kernel_rfl) (by kernel_rfl) (Try.call20 _ _) (freshConf_any ep fl cv ms w12 (row_sl hr24 memE_len) (by first | omega | (simp; done) | (simp; omega))) (by rintro e x ⟨u, rfl, hq26, hb27⟩; exact ⟨_, rfl, ⟨u, rfl, hq26, hb27⟩⟩)) ?_; clear h20
 rintro _ w22 a21 ⟨u25, rfl, hq26, hb27⟩ h21
 have hz28 := hb27.size
 have hl29 := sl_len (row_sl hq26 memE_len)
 have hk35 := hk5.below hb14
 have hk36 := hk35.below hb27
 refine pwD h21 rfl (op_storeN rfl rfl rfl (all_cons rfl (all_cons (row_one hq26) (all_cons rfl all_nil))) (by kernel_rfl) hk36 rfl) ?_; clear h21
 rintro _ w31 a30 ⟨hk32, hz33, hg34⟩ h30
 have hk32' : Blk w31 N3 31 #[.int .i64 ep, u25, .int .u64 fl] := hk32; clear hk32
 have hz37 := hg34.size
 refine pl_nil ?_
 refine co_then ?_
 refine wp_ret ?_
 refine co_retC (Q := fun _ _ _ => True) h30 rfl rfl hk32' Try.underlying31 rfl (by kernel_rfl) ?_
 have hr38 := row_kept_at hq26 hg34 (own_neT hq26 hk36 (by decide))
 have hB39 := hb_new hB0 hg4
 have hB40 := hb_call hB39 hb14
 have hB41 := hb_call hB40 hb27
 have hB42 := hb_at hB41 hg34 (by omega)
 exact ⟨_, rfl, (row_lows hr38 (by omega)), hB42⟩
set_option maxRecDepth 100000 in
theorem msLegit_any (b : Nat) (ep : Int) (cv : Value) (fl : Int) (lgv : Value) (hz : Int) (pv : Value) (tp : Int) (x0 : SdT) (x1 : SdT) (x2 : SdT) (lg : List Int) (w : World) (hb : Blk w b 66 #[.bool true, .int .i64 ep, cv, .int .u64 fl, lgv, .int .u64 hz, pv, .int .i64 tp, .bool x0.1, .int .i64 x0.2.1, .int .i64 x0.2.2.1, .int .i64 x0.2.2.2.1, .int .i64 x0.2.2.2.2, .bool x1.1, .int .i64 x1.2.1, .int .i64 x1.2.2.1, .int .i64 x1.2.2.2.1, .int .i64 x1.2.2.2.2, .bool x2.1, .int .i64 x2.2.1, .int .i64 x2.2.2.1, .int .i64 x2.2.2.2.1, .int .i64 x2.2.2.2.2]) (hlgr : w.ownsRow 0 3 1 lgv lg.length (lg.flatMap (intE .i64))) (hl9 : lg.length ≤ 1000) :
    Calls Try.prog 13 #[pt b 0] w fun e w' => ∃ (u : Value), e = .returned (u) ∧ w'.ownsRow w.heap.size 3 1 u lg.length (lg.flatMap (intE .i64)) ∧ Below w.heap.size w w' := by
 have hB0 := Below.refl w.heap.size w
 have hl_hb := hb.lt
 refine co_enter (n := 10) Try.func13 rfl rfl rfl [(0, pt b 0)] rfl (fun a h0 => ?_)
 refine co_seq ?_
 refine co_reg ?_
 refine pk0 (v := .slice none 0 0) h0 rfl fun a1 h1 => ?_; clear h0
 refine pl_nil ?_
 refine co_then ?_
 refine co_seq ?_
 refine co_seq ?_
 refine co_reg ?_
 refine pk0 (v := pt b 0) h1 rfl fun a2 h2 => ?_; clear h1
 refine pw h2 rfl (op_call (args := #[pt b 0]) (R := fun res xw => res = .bool false ∧ Below w.heap.size w xw) rfl rfl rfl (by kernel_rfl) (by kernel_rfl) (Try.call19 _ _) (mszeroT b ep cv fl lgv hz pv tp x0 x1 x2 w hb) (by rintro e x ⟨rfl, hb5⟩; exact ⟨_, rfl, ⟨rfl, hb5⟩⟩)) ?_; clear h2
 rintro _ w4 a3 ⟨rfl, hb5⟩ h3
 have hz6 := hb5.size
 refine pl_nil ?_
 refine co_then ?_
 refine co_false h3 rfl ?_
 refine wp_skip ?_
 refine co_then ?_
 refine co_seq ?_
 refine co_reg ?_
 refine pk0 (v := pt b 0) h3 rfl fun a7 h7 => ?_; clear h3
 refine pk0 (v := pt b 0) h7 rfl fun a8 h8 => ?_; clear h7
 refine pk0 (v := pt b 4) h8 rfl fun a9 h9 => ?_; clear h8
 have hk10 := hb.below hb5
 refine pk (v := lgv) h9 rfl (rn_load1 rfl rfl Try.isAgg37 (hk10.cell rfl)) fun a11 h11 => ?_; clear h9
 have hr14 := row_kept_new hlgr (below_grown hb5)
 refine pw h11 rfl (op_call (args := #[lgv]) (R := fun res xw => ∃ u : Value, res = u ∧ xw.ownsRow w4.heap.size 3 1 u lg.length (lg.flatMap (intE .i64)) ∧ Below w4.heap.size w4 xw) rfl rfl rfl (by kernel_rfl) (by kernel_rfl) (Try.call27 _ _) (cloneI_any lgv lg w4 (row_sl hr14 (intE_len .i64)) (by first | omega | (simp; done) | (simp; omega))) (by rintro e x ⟨u, rfl, hq16, hb17⟩; exact ⟨_, rfl, ⟨u, rfl, hq16, hb17⟩⟩)) ?_; clear h11
 rintro u15 w13 a12 ⟨_, rfl, hq16, hb17⟩ h12
 have hz18 := hb17.size
 have hl19 := sl_len (row_sl hq16 (intE_len .i64))
 refine pk0 (v := u15) h12 rfl fun a20 h20 => ?_; clear h12
 refine pl_nil ?_
 refine co_then ?_
 refine wp_ret ?_
 refine co_ret1 h20 rfl rfl ?_
 have hB21 := hb_call hB0 hb5
 have hB22 := hb_call hB21 hb17
 exact ⟨_, rfl, (row_lows hq16 (by omega)), hB22⟩
end Go.Proofs.Ytglfoippcmckaaa

/- Configurations and members that came in by value, opened. Conditions: none. -/
namespace Go.Proofs.Ytglfoippcmckaaa
open Go.RowKit Go.ChangeShapes Go.WideShapes Go.Deep
section
variable {H : Type} {enc : TypeId × Value → H} {w : World} {base : Nat} {spare : Nat → Bool} {held : Bool}
set_option maxRecDepth 10000 in
theorem elem_mem (n : Nat) (cs : List Value) (x : DataW H × List MemPlace) (h : DataW.trod enc Try.prog w base spare held n 88 cs = some x) : ∃ p, cs = memE p ∧ memOk p := by
  obtain ⟨hl, m, hf⟩ := trod_fields Try.underlying88 (by kernel_rfl) (by kernel_rfl) h
  have hl2 : cs.length = 2 := hl
  clear hl
  match cs, hl2 with
  | [c0, c1], _ =>
    obtain ⟨_, y0, e0, h0⟩ := hf 0 _ rfl
    obtain ⟨_, y1, e1, h1⟩ := hf 1 _ rfl
    cases e0; cases e1
    obtain ⟨a, e0, _, w0⟩ := DataW.trod_int Try.underlying3 h0
    obtain ⟨b, e1, _, w1⟩ := DataW.trod_int Try.underlying3 h1
    simp only [List.cons.injEq, and_true] at e0 e1
    subst e0 e1
    exact ⟨(a, b), rfl, wf_i64 w0, wf_i64 w1⟩
theorem open_mems {fuel : Nat} {cs : List Value} {x : DataW H × List MemPlace} (h : DataW.trod enc Try.prog w base spare held fuel 29 cs = some x) :
    ∃ (l : List MemT) (v : Value), cs = [v] ∧ SliceOf memE 2 w v l ∧ ∀ p ∈ l, memOk p :=
  open_rows memE 2 memOk Try.underlying29 (by kernel_rfl) (by omega) elem_mem h
set_option maxRecDepth 10000 in
theorem elem_conf (n : Nat) (cs : List Value) (x : DataW H × List MemPlace) (h : DataW.trod enc Try.prog w base spare held n 31 cs = some x) : ∃ c : ConfT, cs = confE c ∧ ConfOk w c := by
  obtain ⟨hl, m, hf⟩ := trod_fields Try.underlying31 (by kernel_rfl) (by kernel_rfl) h
  have hl3 : cs.length = 3 := hl
  clear hl
  match cs, hl3 with
  | [c0, c1, c2], _ =>
    obtain ⟨_, y0, e0, h0⟩ := hf 0 _ rfl
    obtain ⟨_, y1, e1, h1⟩ := hf 1 _ rfl
    obtain ⟨_, y2, e2, h2⟩ := hf 2 _ rfl
    cases e0; cases e1; cases e2
    obtain ⟨a, e0, _, w0⟩ := DataW.trod_int Try.underlying3 h0
    obtain ⟨l, v, e1, hs, hall⟩ := open_mems h1
    obtain ⟨b, e2, _, w2⟩ := DataW.trod_int Try.underlying27 h2
    simp only [List.cons.injEq, and_true] at e0 e1 e2
    subst e0 e1 e2
    have k0 := wf_i64 w0; have k2 := wf_u64 w2
    exact ⟨⟨a, c1, l, b⟩, rfl, ⟨hs, hall, k0.1, k0.2, k2.1, k2.2⟩⟩
end
end Go.Proofs.Ytglfoippcmckaaa

/- Notes that came in by value, opened. Conditions: none. -/
namespace Go.Proofs.Ytglfoippcmckaaa
open Go.RowKit Go.ChangeShapes Go.WideShapes Go.Deep
structure NoteX where
  d : NoteD
  mv : Value
  lv : Value
  ev : Value
def noteE (x : NoteX) : List Value := [.int .i64 x.d.k, .int .i64 x.d.n, .int .u64 x.d.t, .int .i64 x.d.ep, x.mv, .int .u64 x.d.fl, x.lv, .int .i64 x.d.ec, .int .i64 x.d.er, x.ev, .int .u64 x.d.ets, .int .i64 x.d.pid, .int .u64 x.d.pat, .int .i64 x.d.plf, .int .i64 x.d.sc, .int .i64 x.d.sr, .int .i64 x.d.se, .int .i64 x.d.sp]
structure NoteOk (w : World) (x : NoteX) : Prop where
  hm : SliceOf memE 2 w x.mv x.d.ms
  hg : SliceOf (intE .i64) 1 w x.lv x.d.lg
  he : SliceOf opE 3 w x.ev x.d.el
  hR : NoteR x.d
section
variable {H : Type} {enc : TypeId × Value → H} {w : World} {base : Nat} {spare : Nat → Bool} {held : Bool}
theorem open_i64s {fuel : Nat} {cs : List Value} {x : DataW H × List MemPlace} (h : DataW.trod enc Try.prog w base spare held fuel 37 cs = some x) :
    ∃ (l : List Int) (v : Value), cs = [v] ∧ SliceOf (intE .i64) 1 w v l ∧ ∀ n ∈ l, (Lit.int .i64 n).wf = true :=
  open_rows (intE .i64) 1 _ Try.underlying37 (by kernel_rfl) (by omega) (fun n cs x h => by
    obtain ⟨a, e, _, hw⟩ := DataW.trod_int Try.underlying3 h
    exact ⟨a, e, hw⟩) h
set_option maxRecDepth 10000 in
theorem elem_note (n : Nat) (cs : List Value) (x : DataW H × List MemPlace) (h : DataW.trod enc Try.prog w base spare held n 48 cs = some x) : ∃ y : NoteX, cs = noteE y ∧ NoteOk w y := by
  obtain ⟨xs, m, _, _, hl, hxl, hf⟩ := DataW.trod_struct Try.underlying48 h
  have hl18 : cs.length = 18 := hl
  have hx8 : xs.length = 8 := hxl
  clear hl hxl
  match cs, hl18, xs, hx8 with
  | [c0, c1, c2, c3, c4, c5, c6, c7, c8, c9, c10, c11, c12, c13, c14, c15, c16, c17], _, [x0, x1, x2, x3, x4, x5, x6, x7], _ =>
    have h0 : DataW.trod enc Try.prog w base spare held m 3 [c0] = some x0 := hf 0 _ rfl
    have h1 : DataW.trod enc Try.prog w base spare held m 3 [c1] = some x1 := hf 1 _ rfl
    have h2 : DataW.trod enc Try.prog w base spare held m 27 [c2] = some x2 := hf 2 _ rfl
    have h3 : DataW.trod enc Try.prog w base spare held m 31 [c3, c4, c5] = some x3 := hf 3 _ rfl
    have h4 : DataW.trod enc Try.prog w base spare held m 37 [c6] = some x4 := hf 4 _ rfl
    have h5 : DataW.trod enc Try.prog w base spare held m 42 [c7, c8, c9, c10] = some x5 := hf 5 _ rfl
    have h6 : DataW.trod enc Try.prog w base spare held m 44 [c11, c12, c13] = some x6 := hf 6 _ rfl
    have h7 : DataW.trod enc Try.prog w base spare held m 46 [c14, c15, c16, c17] = some x7 := hf 7 _ rfl
    clear hf h
    obtain ⟨k, e0, _, _⟩ := DataW.trod_int Try.underlying3 h0
    obtain ⟨nn, e1, _, _⟩ := DataW.trod_int Try.underlying3 h1
    obtain ⟨t, e2, _, w2⟩ := DataW.trod_int Try.underlying27 h2
    obtain ⟨c, e3, hc⟩ := elem_conf _ _ _ h3
    obtain ⟨lg, lv, e4, hg, _⟩ := open_i64s h4
    obtain ⟨ys, m5, _, _, _, hyl, hf5⟩ := DataW.trod_struct Try.underlying42 h5
    have hy2 : ys.length = 2 := hyl
    clear hyl h5
    match ys, hy2 with
    | [y0, y1], _ =>
      have b0 : DataW.trod enc Try.prog w base spare held m5 40 [c7, c8, c9] = some y0 := hf5 0 _ rfl
      have b1 : DataW.trod enc Try.prog w base spare held m5 27 [c10] = some y1 := hf5 1 _ rfl
      clear hf5
      obtain ⟨ets, e10, _, w10⟩ := DataW.trod_int Try.underlying27 b1
      obtain ⟨_, m6, hf6⟩ := trod_fields Try.underlying40 (by kernel_rfl) (by kernel_rfl) b0
      obtain ⟨_, z0, f0, g0⟩ := hf6 0 _ rfl
      obtain ⟨_, z1, f1, g1⟩ := hf6 1 _ rfl
      obtain ⟨_, z2, f2, g2⟩ := hf6 2 _ rfl
      cases f0; cases f1; cases f2
      obtain ⟨ec, e7, _, _⟩ := DataW.trod_int Try.underlying3 g0
      obtain ⟨er, e8, _, _⟩ := DataW.trod_int Try.underlying3 g1
      obtain ⟨el, ev, e9, he, _⟩ := open_opsS g2
      obtain ⟨_, m7, hf7⟩ := trod_fields Try.underlying44 (by kernel_rfl) (by kernel_rfl) h6
      obtain ⟨_, z3, f3, g3⟩ := hf7 0 _ rfl
      obtain ⟨_, z4, f4, g4⟩ := hf7 1 _ rfl
      obtain ⟨_, z5, f5, g5⟩ := hf7 2 _ rfl
      cases f3; cases f4; cases f5
      obtain ⟨pid, e11, _, _⟩ := DataW.trod_int Try.underlying3 g3
      obtain ⟨pat, e12, _, w12⟩ := DataW.trod_int Try.underlying27 g4
      obtain ⟨plf, e13, _, _⟩ := DataW.trod_int Try.underlying3 g5
      obtain ⟨_, m8, hf8⟩ := trod_fields Try.underlying46 (by kernel_rfl) (by kernel_rfl) h7
      obtain ⟨_, z6, f6, g6⟩ := hf8 0 _ rfl
      obtain ⟨_, z7, f7, g7⟩ := hf8 1 _ rfl
      obtain ⟨_, z8, f8, g8⟩ := hf8 2 _ rfl
      obtain ⟨_, z9, f9, g9⟩ := hf8 3 _ rfl
      cases f6; cases f7; cases f8; cases f9
      obtain ⟨sc, e14, _, _⟩ := DataW.trod_int Try.underlying3 g6
      obtain ⟨sr, e15, _, _⟩ := DataW.trod_int Try.underlying3 g7
      obtain ⟨se, e16, _, _⟩ := DataW.trod_int Try.underlying35 g8
      obtain ⟨sp, e17, _, _⟩ := DataW.trod_int Try.underlying3 g9
      clear h0 h1 h2 h3 h4 h6 h7 hf6 hf7 hf8 g0 g1 g2 g3 g4 g5 g6 g7 g8 g9 b0 b1
      simp only [confE, List.cons.injEq, and_true] at e0 e1 e2 e3 e4 e7 e8 e9 e10 e11 e12 e13 e14 e15 e16 e17
      obtain ⟨rfl, rfl, rfl⟩ := e3
      subst e0 e1 e2 e4 e7 e8 e9 e10 e11 e12 e13 e14 e15 e16 e17
      exact ⟨⟨⟨k, nn, t, c.ep, c.ms, c.fl, lg, ec, er, el, ets, pid, pat, plf, sc, sr, se, sp⟩, c.mv, _, _⟩, rfl, ⟨hc.ms, hg, he, ⟨hc.each, ⟨hc.e0, hc.e1⟩, ⟨hc.f0, hc.f1⟩, wf_u64 w2, wf_u64 w10, wf_u64 w12⟩⟩⟩
end
end Go.Proofs.Ytglfoippcmckaaa

/- catenalaw28: lists of notes; the state's calls. Conditions: at most 900 trusted. -/
namespace Go.Proofs.Ytglfoippcmckaaa
open Go.RowKit Go.PlainAid
set_option linter.unusedVariables false
set_option linter.unusedSimpArgs false


instance : Inhabited NoteX := ⟨⟨zN 0, .slice none 0 0, .slice none 0 0, .slice none 0 0⟩⟩
theorem NoteOk.below {w x : World} {y : NoteX} (h : NoteOk w y) (hb : Below w.heap.size w x) : NoteOk x y := ⟨h.hm.below hb, h.hg.below hb, h.he.below hb, h.hR⟩
theorem memE_ne (l : List MemT) : ∀ y ∈ l, memE y ≠ [] := fun y _ e => by cases e
theorem intE_ne (l : List Int) : ∀ y ∈ l, intE .i64 y ≠ [] := fun y _ e => by cases e
section
open Go.ChangeShapes Go.WideShapes Go.Deep
theorem open_notes {H : Type} {enc : TypeId × Value → H} {w : World} {base : Nat} {spare : Nat → Bool} {held : Bool} {fuel : Nat} {cs : List Value} {x : DataW H × List MemPlace} (h : DataW.trod enc Try.prog w base spare held fuel 22 cs = some x) :
    ∃ (l : List NoteX) (v : Value), cs = [v] ∧ SliceOf noteE 18 w v l ∧ ∀ p ∈ l, NoteOk w p :=
  open_rows noteE 18 (NoteOk w) Try.underlying22 (by kernel_rfl) (by omega) elem_note h
end

theorem sl_offM {α : Type} {enc : α → List Value} {sz : Nat} {w : World} {v : Value} {l : List α} (h : SliceOf enc sz w v l) (hne : ∀ y ∈ l, enc y ≠ []) {b : Nat} (hb : w.heap.size ≤ b) : l ≠ [] → ∀ k, v.ownBlock = some k → ¬ k = b := by
  obtain ⟨ao, cap, rfl, h1, h2, h3, h4⟩ := h
  intro hl k hk e
  subst e
  cases l with
  | nil => exact hl rfl
  | cons y r =>
    obtain ⟨bb, off, e2, hr⟩ := h4 0 (by simp)
    subst e2
    simp only [Value.ownBlock, Option.some.injEq] at hk
    subst hk
    cases he : enc y with
    | nil => exact hne y (List.mem_cons_self ..) he
    | cons u us =>
      have hc := hr 0 u (by simp [he])
      have : w.heap[bb]? = none := Array.getElem?_eq_none (by omega)
      simp [World.cell?, this] at hc
section
variable {w x : World} {b N : Nat} {s : MsT} {d : NoteD} {mv lv ev : Value}
theorem MsO.keep (h : MsO w b s) (hs : w.heap.size ≤ x.heap.size) (hk : ∀ i, i < w.heap.size → (i = b ∨ ∃ T sz k v xs, w.ownsRow 0 T sz v k xs ∧ v.ownBlock = some i ∧ (T = 88 ∨ T = 3 ∨ T = 44)) → x.heap[i]? = w.heap[i]?) : MsO x b s := by
  obtain ⟨cv, lgv, pv, h1, h2, h3, h4, h5⟩ := h
  exact ⟨cv, lgv, pv, (hk b h1.lt (.inl rfl)).trans h1, row_sameL h2 (fun i hi => hk i (h2.lt i hi).2 (.inr ⟨_, _, _, _, _, h2, hi, .inl rfl⟩)), row_sameL h3 (fun i hi => hk i (h3.lt i hi).2 (.inr ⟨_, _, _, _, _, h3, hi, .inr (.inl rfl)⟩)), row_sameL h4 (fun i hi => hk i (h4.lt i hi).2 (.inr ⟨_, _, _, _, _, h4, hi, .inr (.inr rfl)⟩)), h5⟩
theorem MsO.below (h : MsO w b s) (hb : Below w.heap.size w x) : MsO x b s := h.keep hb.size (fun i hi _ => hb.block i hi)
theorem MsO.new (h : MsO w b s) (hg : w.grownBy x none) : MsO x b s := h.keep hg.size (fun i hi _ => hg.block i hi (fun e => by cases e))
theorem MsO.at (h : MsO w b s) {T : TypeId} {cs : Array Value} (hN : Blk w N T cs) (hT : T ≠ 66 ∧ T ≠ 88 ∧ T ≠ 3 ∧ T ≠ 44) (hg : w.grownBy x (some N)) : MsO x b s :=
  h.keep hg.size (fun i hi hq => hg.block i hi (fun e => by
    cases e
    rcases hq with rfl | ⟨T', sz, k, v, xs, h1, h2, h3⟩
    · obtain ⟨_, _, _, h1, _⟩ := h
      unfold Blk at hN h1
      rw [hN] at h1; injection h1 with q; injection q with q1 q2
      exact hT.1 q2
    · have hne : T' ≠ T := by rcases h3 with rfl | rfl | rfl <;> first | exact Ne.symm hT.2.1 | exact Ne.symm hT.2.2.1 | exact Ne.symm hT.2.2.2
      exact own_neT h1 hN hne h2))
theorem moHor (h : MsO w b s) : Calls Try.prog 8 #[pt b 0] w fun e w' => e = .returned (.int .u64 s.hz) ∧ Below w.heap.size w w' := by
  obtain ⟨cv, lgv, pv, h1, h2, h3, h4, h5⟩ := h
  exact msHorizon_any b s.ep cv s.fl lgv s.hz pv s.tp s.x0 s.x1 s.x2 w h1
theorem moConf (h : MsO w b s) (hm : s.ms.length ≤ 20) : Calls Try.prog 9 #[pt b 0] w fun e w' => ∃ u, e = .returned (.agg #[.int .i64 s.ep, u, .int .u64 s.fl]) ∧ w'.ownsRow w.heap.size 88 2 u s.ms.length (s.ms.flatMap memE) ∧ Below w.heap.size w w' := by
  obtain ⟨cv, lgv, pv, h1, h2, h3, h4, h5⟩ := h
  exact msConf_any b s.ep cv s.fl lgv s.hz pv s.tp s.x0 s.x1 s.x2 s.ms w h1 h2 hm
theorem moPins (h : MsO w b s) : Calls Try.prog 10 #[pt b 0] w fun e w' => ∃ u, e = .returned u ∧ w'.ownsRow w.heap.size 44 3 u s.pn.length (s.pn.flatMap pinE) ∧ Below w.heap.size w w' := by
  obtain ⟨cv, lgv, pv, h1, h2, h3, h4, h5⟩ := h
  exact msPins_any b s.ep cv s.fl lgv s.hz pv s.pn s.tp s.x0 s.x1 s.x2 w h1 h4 h5
theorem moPinsL (h : MsO w b s) : Calls Try.prog 10 #[pt b 0] w fun e w' => ∃ (ao : Option Addr) (cp : Nat), e = .returned (.slice ao s.pn.length cp) ∧ Below w.heap.size w w' :=
  (moPins h).mono fun e x ⟨u, h1, h2, h3⟩ => by
    obtain ⟨ao, cp, rfl, _⟩ := row_sl h2 pinE_lenM
    exact ⟨ao, cp, h1, h3⟩
theorem moLegit (h : MsO w b s) (hl : s.lg.length ≤ 1000) : Calls Try.prog 13 #[pt b 0] w fun e w' => ∃ u, e = .returned u ∧ w'.ownsRow w.heap.size 3 1 u s.lg.length (s.lg.flatMap (intE .i64)) ∧ Below w.heap.size w w' := by
  obtain ⟨cv, lgv, pv, h1, h2, h3, h4, h5⟩ := h
  exact msLegit_any b s.ep cv s.fl lgv s.hz pv s.tp s.x0 s.x1 s.x2 s.lg w h1 h3 hl
theorem MsO.pn3 (h : MsO w b s) : s.pn.length ≤ 3 := by obtain ⟨_, _, _, _, _, _, _, h⟩ := h; exact h
theorem ms_nv {d : NoteD} {s : MsT} (v : MsV s) : (apM d s).1 ≠ 0 ∨ d.k ≠ 6 ∨ (apM d s).2.pn.length ≤ s.pn.length ∨ s.hz ≤ d.pat := by
  by_cases h1 : (apM d s).1 = 0
  · by_cases h2 : d.k = 6
    · by_cases h3 : s.pn.length < (apM d s).2.pn.length
      · exact .inr (.inr (.inr ((apM_never v).2.2.2.2 h1 h2 h3)))
      · exact .inr (.inr (.inl (by omega)))
    · exact .inr (.inl h2)
  · exact .inl h1
end

set_option maxRecDepth 100000 in
theorem partsL_any (v : Value) (l : List NoteX) (w : World) (hs : SliceOf noteE 18 w v l) (hok : ∀ z ∈ l, NoteOk w z) :
    Calls Try.prog 5 #[v] w fun e w' => ∃ (r : Int), e = .returned (.int .i64 r) ∧ Below w.heap.size w w' := by
 have hB0 := Below.refl w.heap.size w
 have hl_hs := sl_len hs
 refine co_enter (n := 39) Try.func5 rfl rfl rfl [(0, v)] rfl (fun a h0 => ?_)
 refine co_seq ?_
 refine co_reg ?_
 refine pk0 (v := .int .i64 0) h0 rfl fun a1 h1 => ?_; clear h0
 refine pl_nil ?_
 refine co_then ?_
 refine co_seq ?_
 refine co_reg ?_
 refine pk0 (v := .int .i64 0) h1 rfl fun a2 h2 => ?_; clear h1
 refine pl_nil ?_
 refine co_then ?_
 refine co_seq ?_
 refine co_seq ?_
 refine co_reg ?_
 refine pk0 (v := .int .i64 0) h2 rfl fun a3 h3 => ?_; clear h2
 refine pl_nil ?_
 refine co_then ?_
 refine wp_block ?_
 have h4 : Slots 39 [(0, v), (3, .int .i64 0), (4, .int .i64 0)] _ := h3.sub ⟨rfl, rfl, rfl, trivial⟩; clear h3
 refine co_loop (fun mm a x => ∃ (i : Nat) (z : Int), Slots 39 [(0, v), (3, .int .i64 z), (4, .int .i64 ((i : Nat) : Int))] a ∧ mm = l.length - i ∧ (i ≤ l.length) ∧ (i ≤ 60) ∧ Below w.heap.size w x) (l.length - 0) ?_ ?_
 · exact ⟨0, 0, h4.sub ⟨rfl, rfl, (slot_eq rfl (congrArg (Value.int .i64) (by first | rfl | omega))), trivial⟩, rfl, by omega, by omega, hB0⟩
 · rintro k5 a6 w7 ⟨i, z, h6, rfl, hi8, hi9, hB10⟩
   have hz11 := hB10.size
   refine co_seq ?_
   refine co_seq ?_
   refine co_reg ?_
   refine pk0 (v := .int .i64 ((i : Nat) : Int)) h6 rfl fun a12 h12 => ?_; clear h6
   refine pk0 (v := v) h12 rfl fun a13 h13 => ?_; clear h12
   refine pk (v := .int .i64 ((l.length : Nat) : Int)) h13 rfl (rn_len rfl rfl Try.underlying22 (hs.below hB10)) fun a14 h14 => ?_; clear h13
   refine pk0 (v := .bool (decide (((i : Nat) : Int) < ((l.length : Nat) : Int)))) h14 rfl fun a15 h15 => ?_; clear h14
   refine pk0 (v := .bool (decide (((i : Nat) : Int) < ((l.length : Nat) : Int)))) h15 rfl fun a16 h16 => ?_; clear h15
   cases hc17 : (decide (((i : Nat) : Int) < ((l.length : Nat) : Int)))
   ·
    rw [hc17] at h16
    have hp18 : ¬ (((i : Nat) : Int) < ((l.length : Nat) : Int)) := of_decide_eq_false hc17
    clear hc17
    refine psk h16 rfl fun a19 h19 => ?_; clear h16
    refine psk h19 rfl fun a20 h20 => ?_; clear h19
    refine pk0 (v := .bool false) h20 rfl fun a21 h21 => ?_; clear h20
    refine pl_nil ?_
    refine co_then ?_
    refine co_false h21 rfl ?_
    refine wp_exit ?_
    refine co_thenX ?_
    refine co_thenX ?_
    refine co_blockX ?_
    refine co_then ?_
    refine co_seq ?_
    refine co_reg ?_
    refine pk0 (v := .int .i64 z) h21 rfl fun a22 h22 => ?_; clear h21
    refine pk0 (v := .int .i64 z) h22 rfl fun a23 h23 => ?_; clear h22
    refine pl_nil ?_
    refine co_then ?_
    refine wp_ret ?_
    refine co_ret1 h23 rfl rfl ?_
    exact ⟨_, rfl, hB10⟩
   ·
    rw [hc17] at h16
    have hp24 : ((i : Nat) : Int) < ((l.length : Nat) : Int) := of_decide_eq_true hc17
    clear hc17
    refine pk0 (v := .int .i64 ((i : Nat) : Int)) h16 rfl fun a25 h25 => ?_; clear h16
    refine pk0 (v := .bool (decide (((i : Nat) : Int) < 60))) h25 rfl fun a26 h26 => ?_; clear h25
    refine pk0 (v := .bool (decide (((i : Nat) : Int) < 60))) h26 rfl fun a27 h27 => ?_; clear h26
    refine pl_nil ?_
    refine co_then ?_
    cases hc28 : (decide (((i : Nat) : Int) < 60))
    ·
     rw [hc28] at h27
     have hp29 : ¬ (((i : Nat) : Int) < 60) := of_decide_eq_false hc28
     clear hc28
     refine co_false h27 rfl ?_
     refine wp_exit ?_
     refine co_thenX ?_
     refine co_thenX ?_
     refine co_blockX ?_
     refine co_then ?_
     refine co_seq ?_
     refine co_reg ?_
     refine pk0 (v := .int .i64 z) h27 rfl fun a30 h30 => ?_; clear h27
     refine pk0 (v := .int .i64 z) h30 rfl fun a31 h31 => ?_; clear h30
     refine pl_nil ?_
     refine co_then ?_
     refine wp_ret ?_
     refine co_ret1 h31 rfl rfl ?_
     exact ⟨_, rfl, hB10⟩
    ·
     rw [hc28] at h27
     have hp32 : ((i : Nat) : Int) < 60 := of_decide_eq_true hc28
     clear hc28
     refine co_true h27 rfl ?_
     refine wp_skip ?_
     refine co_then ?_
     refine co_seq ?_
     refine wp_block ?_
     refine dr_eq (by kernel_rfl) (fun w33 hg34 => ?_)
     have hz35 := hg34.size
     refine dk0 0 (v := .int .i64 z) h27 rfl rfl rfl fun a36 h36 => ?_; clear h27
     refine dk0 1 (v := v) h36 rfl rfl rfl fun a37 h37 => ?_; clear h36
     refine dk0 2 (v := .int .i64 ((i : Nat) : Int)) h37 rfl rfl rfl fun a38 h38 => ?_; clear h37
     have hB40 := hb_new hB10 hg34
     obtain ⟨y39, hy39⟩ : ∃ z, l[i]? = some z := ⟨_, List.getElem?_eq_getElem (by first | omega | (simp; done) | (simp; omega))⟩
     have oky39 := hok _ (List.mem_of_getElem? hy39)
     refine dk 3 (v := pt (blkOf v) (offOf v + i * 18)) h38 rfl rfl rfl (fun x hx => by subst hx; exact (rn_index rfl rfl rfl Try.underlying22 Try.sizeOf48 (hs.below hB40) (by omega) (by first | omega | (simp; done) | (simp; omega)))) fun a41 h41 => ?_; clear h38
     refine dk0 4 (v := pt (blkOf v) (offOf v + i * 18 + 3)) h41 rfl rfl rfl fun a42 h42 => ?_; clear h41
     refine dk0 5 (v := pt (blkOf v) (offOf v + i * 18 + 3 + 1)) h42 rfl rfl rfl fun a43 h43 => ?_; clear h42
     refine dk 6 (v := y39.mv) h43 rfl rfl rfl (fun x hx => by subst hx; exact (rn_load1 rfl rfl Try.isAgg29 ((sl_at (hs.below hB40) hy39) 4 _ rfl))) fun a44 h44 => ?_; clear h43
     refine dk 7 (v := .int .i64 ((y39.d.ms.length : Nat) : Int)) h44 rfl rfl rfl (fun x hx => by subst hx; exact (rn_len rfl rfl Try.underlying29 (oky39.hm.below hB40))) fun a45 h45 => ?_; clear h44
     refine dk0 8 (v := v) h45 rfl rfl rfl fun a46 h46 => ?_; clear h45
     refine dk0 9 (v := .int .i64 ((i : Nat) : Int)) h46 rfl rfl rfl fun a47 h47 => ?_; clear h46
     refine dk 10 (v := pt (blkOf v) (offOf v + i * 18)) h47 rfl rfl rfl (fun x hx => by subst hx; exact (rn_index rfl rfl rfl Try.underlying22 Try.sizeOf48 (hs.below hB40) (by omega) (by first | omega | (simp; done) | (simp; omega)))) fun a48 h48 => ?_; clear h47
     refine dk0 11 (v := pt (blkOf v) (offOf v + i * 18 + 6)) h48 rfl rfl rfl fun a49 h49 => ?_; clear h48
     refine dk 12 (v := y39.lv) h49 rfl rfl rfl (fun x hx => by subst hx; exact (rn_load1 rfl rfl Try.isAgg37 ((sl_at (hs.below hB40) hy39) 6 _ rfl))) fun a50 h50 => ?_; clear h49
     refine dk 13 (v := .int .i64 ((y39.d.lg.length : Nat) : Int)) h50 rfl rfl rfl (fun x hx => by subst hx; exact (rn_len rfl rfl Try.underlying37 (oky39.hg.below hB40))) fun a51 h51 => ?_; clear h50
     refine dk0 14 (v := v) h51 rfl rfl rfl fun a52 h52 => ?_; clear h51
     refine dk0 15 (v := .int .i64 ((i : Nat) : Int)) h52 rfl rfl rfl fun a53 h53 => ?_; clear h52
     refine dk 16 (v := pt (blkOf v) (offOf v + i * 18)) h53 rfl rfl rfl (fun x hx => by subst hx; exact (rn_index rfl rfl rfl Try.underlying22 Try.sizeOf48 (hs.below hB40) (by omega) (by first | omega | (simp; done) | (simp; omega)))) fun a54 h54 => ?_; clear h53
     refine dk0 17 (v := pt (blkOf v) (offOf v + i * 18 + 7)) h54 rfl rfl rfl fun a55 h55 => ?_; clear h54
     refine dk0 18 (v := pt (blkOf v) (offOf v + i * 18 + 7)) h55 rfl rfl rfl fun a56 h56 => ?_; clear h55
     refine dk0 19 (v := pt (blkOf v) (offOf v + i * 18 + 7 + 2)) h56 rfl rfl rfl fun a57 h57 => ?_; clear h56
     refine dk 20 (v := y39.ev) h57 rfl rfl rfl (fun x hx => by subst hx; exact (rn_load1 rfl rfl Try.isAgg38 ((sl_at (hs.below hB40) hy39) 9 _ rfl))) fun a58 h58 => ?_; clear h57
     refine dk 21 (v := .int .i64 ((y39.d.el.length : Nat) : Int)) h58 rfl rfl rfl (fun x hx => by subst hx; exact (rn_len rfl rfl Try.underlying38 (oky39.he.below hB40))) fun a59 h59 => ?_; clear h58
     have hmm60 := mxI_p z ((y39.d.ms.length : Nat) : Int)
     have hmm61 := mxI_p (mxI z ((y39.d.ms.length : Nat) : Int)) ((y39.d.lg.length : Nat) : Int)
     have hmm62 := mxI_p (mxI (mxI z ((y39.d.ms.length : Nat) : Int)) ((y39.d.lg.length : Nat) : Int)) ((y39.d.el.length : Nat) : Int)
     refine dk0 22 (v := .int .i64 (mxI (mxI (mxI z ((y39.d.ms.length : Nat) : Int)) ((y39.d.lg.length : Nat) : Int)) ((y39.d.el.length : Nat) : Int))) h59 rfl rfl rfl fun a63 h63 => ?_; clear h59
     refine dk0 23 (v := .int .i64 (mxI (mxI (mxI z ((y39.d.ms.length : Nat) : Int)) ((y39.d.lg.length : Nat) : Int)) ((y39.d.el.length : Nat) : Int))) h63 rfl rfl rfl fun a64 h64 => ?_; clear h63
     refine dr_done (by kernel_rfl) ?_
     refine co_blockN ?_
     refine co_then ?_
     refine co_reg ?_
     refine pk0 (v := .int .i64 ((i : Nat) : Int)) h64 rfl fun a65 h65 => ?_; clear h64
     refine pk (v := .int .i64 ((i + 1 : Nat) : Int)) h65 rfl (rn_arith' rfl rfl rfl rfl rfl rfl (IntWalk.i64_in _ (by omega)) (by omega)) fun a66 h66 => ?_; clear h65
     refine pk0 (v := .int .i64 ((i + 1 : Nat) : Int)) h66 rfl fun a67 h67 => ?_; clear h66
     refine pl_nil ?_
     refine co_then ?_
     refine ⟨(l.length - (i + 1)), by omega, ?_⟩
     exact ⟨i + 1, (mxI (mxI (mxI z ((y39.d.ms.length : Nat) : Int)) ((y39.d.lg.length : Nat) : Int)) ((y39.d.el.length : Nat) : Int)), h67.sub ⟨rfl, rfl, rfl, trivial⟩, rfl, by omega, by omega, hB40⟩
end Go.Proofs.Ytglfoippcmckaaa

/- catenalaw28: awake, Parts of one note. Conditions: none. -/
namespace Go.Proofs.Ytglfoippcmckaaa
open Go.RowKit Go.PlainAid
set_option linter.unusedVariables false
set_option linter.unusedSimpArgs false

def dP : NoteD := ⟨6, 0, 0, 0, [], 0, [], 0, 0, [], 0, 1, 5, 0, 0, 0, 0, 0⟩
def dU : NoteD := ⟨7, 1, 0, 0, [], 0, [], 0, 0, [], 0, 0, 0, 0, 0, 0, 0, 0⟩
def dE : NoteD := ⟨2, 0, 0, 0, [], 0, [], 0, 1, [], 0, 0, 0, 0, 0, 0, 0, 0⟩
theorem dX_R (d : NoteD) (h : d = dP ∨ d = dU ∨ d = dE) : NoteR d := by
  rcases h with rfl | rfl | rfl <;> exact ⟨(fun m hm => by cases hm), by decide⟩
theorem aw1 : apF [] 0 0 dP = (0, 0, [(1, 5, 8)], 1) := by decide +kernel
theorem aw2 : apF [(1, 5, 8)] 0 1 dU = (0, 0, [], 1) := by decide +kernel
theorem aw3 : apF [] 0 1 dE = (11, 0, [], 1) := by decide +kernel

set_option maxRecDepth 100000 in
set_option maxHeartbeats 1600000 in
theorem awake28  (w : World)  :
    Calls Try.prog 6 #[] w fun e w' => e = .returned (.bool true) ∧ Below w.heap.size w w' := by
 obtain ⟨P0, hP0⟩ : ∃ l : List PinT, l = [] := ⟨_, rfl⟩
 have hP0l : P0.length = 0 := by rw [hP0]; rfl
 have hB0 := Below.refl w.heap.size w
 refine co_enter (n := 37) Try.func6 rfl rfl rfl [] rfl (fun a h0 => ?_)
 refine co_seq ?_
 refine co_reg ?_
 refine pk0 (v := .bool false) h0 rfl fun a1 h1 => ?_; clear h0
 refine pl_nil ?_
 refine co_then ?_
 refine co_seq ?_
 refine co_reg ?_
 refine pw h1 rfl (op_call (args := #[]) (R := fun res xw => ∃ N : Nat, res = pt N 0 ∧ Blk xw N 66 #[.bool true, .int .i64 0, .slice none 0 0, .int .u64 0, .slice none 0 0, .int .u64 0, .slice none 0 0, .int .i64 0, .bool false, .int .i64 0, .int .i64 0, .int .i64 0, .int .i64 0, .bool false, .int .i64 0, .int .i64 0, .int .i64 0, .int .i64 0, .bool false, .int .i64 0, .int .i64 0, .int .i64 0, .int .i64 0] ∧ w.heap.size ≤ N ∧ Below w.heap.size w xw) rfl rfl rfl (by kernel_rfl) (by kernel_rfl) (Try.call7 _ _) (msNew_any  w ) (by rintro e x ⟨N, rfl, hq5, hq6, hb7⟩; exact ⟨_, rfl, ⟨N, rfl, hq5, hq6, hb7⟩⟩)) ?_; clear h1
 rintro _ w3 a2 ⟨N4, rfl, hq5, hq6, hb7⟩ h2
 have hz8 := hb7.size
 have hl9 := hq5.lt
 refine pk0 (v := pt N4 0) h2 rfl fun a10 h10 => ?_; clear h2
 refine pl_nil ?_
 refine co_then ?_
 refine co_seq ?_
 refine co_reg ?_
 refine pk0 (v := pt N4 0) h10 rfl fun a11 h11 => ?_; clear h10
 refine pk0 (v := .agg #[.int .i64 1, .int .u64 5, .int .i64 0]) h11 rfl fun a12 h12 => ?_; clear h11
 refine pk0 (v := .agg #[.int .i64 6, .int .i64 0, .int .u64 0, .int .i64 0, .slice none 0 0, .int .u64 0, .slice none 0 0, .int .i64 0, .int .i64 0, .slice none 0 0, .int .u64 0, .int .i64 1, .int .u64 5, .int .i64 0, .int .i64 0, .int .i64 0, .int .i64 0, .int .i64 0]) h12 rfl fun a13 h13 => ?_; clear h12
 have hB16 := hb_call hB0 hb7
 refine pw h13 rfl (op_call (args := #[pt N4 0, .agg #[.int .i64 6, .int .i64 0, .int .u64 0, .int .i64 0, .slice none 0 0, .int .u64 0, .slice none 0 0, .int .i64 0, .int .i64 0, .slice none 0 0, .int .u64 0, .int .i64 1, .int .u64 5, .int .i64 0, .int .i64 0, .int .i64 0, .int .i64 0, .int .i64 0]]) (R := fun res xw => ∃ pv2 : Value, res = .int .i64 ((apF ([] : List PinT) 0 0 dP).1) ∧ Blk xw N4 66 #[.bool true, .int .i64 0, (.slice none 0 0), .int .u64 0, (.slice none 0 0), .int .u64 ((apF ([] : List PinT) 0 0 dP).2.1), pv2, .int .i64 ((apF ([] : List PinT) 0 0 dP).2.2.2), .bool (false, 0, 0, 0, 0).1, .int .i64 (false, 0, 0, 0, 0).2.1, .int .i64 (false, 0, 0, 0, 0).2.2.1, .int .i64 (false, 0, 0, 0, 0).2.2.2.1, .int .i64 (false, 0, 0, 0, 0).2.2.2.2, .bool (false, 0, 0, 0, 0).1, .int .i64 (false, 0, 0, 0, 0).2.1, .int .i64 (false, 0, 0, 0, 0).2.2.1, .int .i64 (false, 0, 0, 0, 0).2.2.2.1, .int .i64 (false, 0, 0, 0, 0).2.2.2.2, .bool (false, 0, 0, 0, 0).1, .int .i64 (false, 0, 0, 0, 0).2.1, .int .i64 (false, 0, 0, 0, 0).2.2.1, .int .i64 (false, 0, 0, 0, 0).2.2.2.1, .int .i64 (false, 0, 0, 0, 0).2.2.2.2] ∧ xw.ownsRow 0 44 3 pv2 ((apF ([] : List PinT) 0 0 dP).2.2.1).length (((apF ([] : List PinT) 0 0 dP).2.2.1).flatMap pinE) ∧ ((apF ([] : List PinT) 0 0 dP).2.2.1).length ≤ 3 ∧ But (fun q => q = N4) w3 xw) rfl rfl rfl (by kernel_rfl) (by kernel_rfl) (Try.call11 _ _) (msApplyP_any N4 0 (.slice none 0 0) 0 (.slice none 0 0) 0 (.slice none 0 0) ([] : List PinT) 0 (false, 0, 0, 0, 0) (false, 0, 0, 0, 0) (false, 0, 0, 0, 0) dP (.slice none 0 0) (.slice none 0 0) (.slice none 0 0) w3 hq5 (World.ownsRow_nil _ _ _ _) (by decide) (sl_nil _) (sl_nil _) (sl_nil _) (dX_R _ (.inl rfl)) (fun h => absurd rfl h) (fun h => absurd rfl h) (fun h => absurd rfl h) (by decide)) (by rintro e x ⟨pv2, rfl, hq18, hq19, hq20, hb21⟩; exact ⟨_, rfl, ⟨pv2, rfl, hq18, hq19, hq20, hb21⟩⟩)) ?_; clear h13
 rintro _ w15 a14 ⟨pv217, rfl, hq18, hq19, hq20, hb21⟩ h14
 have hz22 := hb21.size
 rw [aw1] at hq18 hq19
 have hl23 := hq18.lt
 have ha24 : (apF ([] : List PinT) 0 0 dP).1 = 0 := by rw [aw1]
 refine pk0 (v := .int .i64 0) h14 rfl fun a25 h25 => ?_; clear h14
 refine pl_nil ?_
 refine co_then ?_
 refine co_seq ?_
 refine co_reg ?_
 refine pk0 (v := pt N4 0) h25 rfl fun a26 h26 => ?_; clear h25
 refine pk0 (v := .agg #[.int .i64 7, .int .i64 1, .int .u64 0, .int .i64 0, .slice none 0 0, .int .u64 0, .slice none 0 0, .int .i64 0, .int .i64 0, .slice none 0 0, .int .u64 0, .int .i64 0, .int .u64 0, .int .i64 0, .int .i64 0, .int .i64 0, .int .i64 0, .int .i64 0]) h26 rfl fun a27 h27 => ?_; clear h26
 have hB30 := hb_foot hB16 hb21 (fun i hlt hS => by (try simp at hS); first | omega | (simp; omega) | simp_all)
 refine pw h27 rfl (op_call (args := #[pt N4 0, .agg #[.int .i64 7, .int .i64 1, .int .u64 0, .int .i64 0, .slice none 0 0, .int .u64 0, .slice none 0 0, .int .i64 0, .int .i64 0, .slice none 0 0, .int .u64 0, .int .i64 0, .int .u64 0, .int .i64 0, .int .i64 0, .int .i64 0, .int .i64 0, .int .i64 0]]) (R := fun res xw => ∃ pv2 : Value, res = .int .i64 ((apF ([(1, 5, 8)] : List PinT) 0 1 dU).1) ∧ Blk xw N4 66 #[.bool true, .int .i64 0, (.slice none 0 0), .int .u64 0, (.slice none 0 0), .int .u64 ((apF ([(1, 5, 8)] : List PinT) 0 1 dU).2.1), pv2, .int .i64 ((apF ([(1, 5, 8)] : List PinT) 0 1 dU).2.2.2), .bool (false, 0, 0, 0, 0).1, .int .i64 (false, 0, 0, 0, 0).2.1, .int .i64 (false, 0, 0, 0, 0).2.2.1, .int .i64 (false, 0, 0, 0, 0).2.2.2.1, .int .i64 (false, 0, 0, 0, 0).2.2.2.2, .bool (false, 0, 0, 0, 0).1, .int .i64 (false, 0, 0, 0, 0).2.1, .int .i64 (false, 0, 0, 0, 0).2.2.1, .int .i64 (false, 0, 0, 0, 0).2.2.2.1, .int .i64 (false, 0, 0, 0, 0).2.2.2.2, .bool (false, 0, 0, 0, 0).1, .int .i64 (false, 0, 0, 0, 0).2.1, .int .i64 (false, 0, 0, 0, 0).2.2.1, .int .i64 (false, 0, 0, 0, 0).2.2.2.1, .int .i64 (false, 0, 0, 0, 0).2.2.2.2] ∧ xw.ownsRow 0 44 3 pv2 ((apF ([(1, 5, 8)] : List PinT) 0 1 dU).2.2.1).length (((apF ([(1, 5, 8)] : List PinT) 0 1 dU).2.2.1).flatMap pinE) ∧ ((apF ([(1, 5, 8)] : List PinT) 0 1 dU).2.2.1).length ≤ 3 ∧ But (fun q => q = N4) w15 xw) rfl rfl rfl (by kernel_rfl) (by kernel_rfl) (Try.call11 _ _) (msApplyP_any N4 0 (.slice none 0 0) 0 (.slice none 0 0) 0 pv217 ([(1, 5, 8)] : List PinT) 1 (false, 0, 0, 0, 0) (false, 0, 0, 0, 0) (false, 0, 0, 0, 0) dU (.slice none 0 0) (.slice none 0 0) (.slice none 0 0) w15 hq18 hq19 (by decide) (sl_nil _) (sl_nil _) (sl_nil _) (dX_R _ (.inr (.inl rfl))) (fun h => absurd rfl h) (fun h => absurd rfl h) (fun h => absurd rfl h) (by decide)) (by rintro e x ⟨pv2, rfl, hq32, hq33, hq34, hb35⟩; exact ⟨_, rfl, ⟨pv2, rfl, hq32, hq33, hq34, hb35⟩⟩)) ?_; clear h27
 rintro _ w29 a28 ⟨pv231, rfl, hq32, hq33, hq34, hb35⟩ h28
 have hz36 := hb35.size
 rw [aw2] at hq32 hq33
 have hl37 := hq32.lt
 have hr38 : w29.ownsRow 0 44 3 pv231 P0.length (P0.flatMap pinE) := by rw [hP0]; exact hq33
 have ha39 : (apF ([(1, 5, 8)] : List PinT) 0 1 dU).1 = 0 := by rw [aw2]
 refine pk0 (v := .int .i64 0) h28 rfl fun a40 h40 => ?_; clear h28
 refine pl_nil ?_
 refine co_then ?_
 refine co_seq ?_
 refine co_reg ?_
 refine pk0 (v := .int .i64 0) h40 rfl fun a41 h41 => ?_; clear h40
 refine pk0 (v := .bool ((0 : Int) == 0)) h41 rfl fun a42 h42 => ?_; clear h41
 refine pk0 (v := .bool ((0 : Int) == 0)) h42 rfl fun a43 h43 => ?_; clear h42
 have hc44 : ((0 : Int) == 0) = true := by first | (simp; done) | (simp; omega) | exact beq_false_of_ne (by omega) | exact beq_iff_eq.2 (by omega)
 rw [hc44] at h43; clear hc44
 refine pk0 (v := .int .i64 0) h43 rfl fun a45 h45 => ?_; clear h43
 refine pk0 (v := .bool ((0 : Int) == 0)) h45 rfl fun a46 h46 => ?_; clear h45
 refine pk0 (v := .bool ((0 : Int) == 0)) h46 rfl fun a47 h47 => ?_; clear h46
 refine pk0 (v := .bool ((0 : Int) == 0)) h47 rfl fun a48 h48 => ?_; clear h47
 have hc49 : ((0 : Int) == 0) = true := by first | (simp; done) | (simp; omega) | exact beq_false_of_ne (by omega) | exact beq_iff_eq.2 (by omega)
 rw [hc49] at h48; clear hc49
 refine pk0 (v := pt N4 0) h48 rfl fun a50 h50 => ?_; clear h48
 have hB53 := hb_foot hB30 hb35 (fun i hlt hS => by (try simp at hS); first | omega | (simp; omega) | simp_all)
 refine pw h50 rfl (op_call (args := #[pt N4 0]) (R := fun res xw => ∃ u : Value, res = u ∧ xw.ownsRow w29.heap.size 44 3 u P0.length (P0.flatMap pinE) ∧ Below w29.heap.size w29 xw) rfl rfl rfl (by kernel_rfl) (by kernel_rfl) (Try.call10 _ _) (msPins_any N4 0 (.slice none 0 0) 0 (.slice none 0 0) 0 pv231 P0 1 (false, 0, 0, 0, 0) (false, 0, 0, 0, 0) (false, 0, 0, 0, 0) w29 hq32 (row_lows hr38 (Nat.zero_le _)) (by rw [hP0]; decide)) (by rintro e x ⟨u, rfl, hq55, hb56⟩; exact ⟨_, rfl, ⟨u, rfl, hq55, hb56⟩⟩)) ?_; clear h50
 rintro u54 w52 a51 ⟨_, rfl, hq55, hb56⟩ h51
 have hz57 := hb56.size
 have hl58 := sl_len (row_sl hq55 pinE_len)
 refine pk (v := .int .i64 ((P0.length : Nat) : Int)) h51 rfl (rn_lenOwn rfl rfl Try.underlying33 hq55) fun a59 h59 => ?_; clear h51
 refine pk0 (v := .bool (((P0.length : Nat) : Int) == 0)) h59 rfl fun a60 h60 => ?_; clear h59
 refine pk0 (v := .bool (((P0.length : Nat) : Int) == 0)) h60 rfl fun a61 h61 => ?_; clear h60
 refine pk0 (v := .bool (((P0.length : Nat) : Int) == 0)) h61 rfl fun a62 h62 => ?_; clear h61
 have hc63 : (((P0.length : Nat) : Int) == 0) = true := by first | (simp; done) | (simp; omega) | exact beq_false_of_ne (by omega) | exact beq_iff_eq.2 (by omega)
 rw [hc63] at h62; clear hc63
 refine pk0 (v := pt N4 0) h62 rfl fun a64 h64 => ?_; clear h62
 have hk67 := hq32.below hb56
 refine pw h64 rfl (op_call (args := #[pt N4 0]) (R := fun res xw => res = .int .i64 1 ∧ Below w52.heap.size w52 xw) rfl rfl rfl (by kernel_rfl) (by kernel_rfl) (Try.call18 _ _) (msTop_any N4 0 (.slice none 0 0) 0 (.slice none 0 0) 0 pv231 1 (false, 0, 0, 0, 0) (false, 0, 0, 0, 0) (false, 0, 0, 0, 0) w52 hk67) (by rintro e x ⟨rfl, hb68⟩; exact ⟨_, rfl, ⟨rfl, hb68⟩⟩)) ?_; clear h64
 rintro _ w66 a65 ⟨rfl, hb68⟩ h65
 have hz69 := hb68.size
 refine pk0 (v := .bool ((1 : Int) == 1)) h65 rfl fun a70 h70 => ?_; clear h65
 refine pk0 (v := .bool ((1 : Int) == 1)) h70 rfl fun a71 h71 => ?_; clear h70
 refine pk0 (v := .bool ((1 : Int) == 1)) h71 rfl fun a72 h72 => ?_; clear h71
 have hc73 : ((1 : Int) == 1) = true := by first | (simp; done) | (simp; omega) | exact beq_false_of_ne (by omega) | exact beq_iff_eq.2 (by omega)
 rw [hc73] at h72; clear hc73
 refine pk0 (v := pt N4 0) h72 rfl fun a74 h74 => ?_; clear h72
 refine pk0 (v := .agg #[.int .i64 0, .int .i64 1, .slice none 0 0]) h74 rfl fun a75 h75 => ?_; clear h74
 refine pk0 (v := .agg #[.int .i64 0, .int .i64 1, .slice none 0 0, .int .u64 0]) h75 rfl fun a76 h76 => ?_; clear h75
 refine pk0 (v := .agg #[.int .i64 2, .int .i64 0, .int .u64 0, .int .i64 0, .slice none 0 0, .int .u64 0, .slice none 0 0, .int .i64 0, .int .i64 1, .slice none 0 0, .int .u64 0, .int .i64 0, .int .u64 0, .int .i64 0, .int .i64 0, .int .i64 0, .int .i64 0, .int .i64 0]) h76 rfl fun a77 h77 => ?_; clear h76
 have hB80 := hb_call hB53 hb56
 have hB81 := hb_call hB80 hb68
 have hr82 := row_kept_new hr38 (below_grown hb56)
 have hr83 := row_kept_new hr82 (below_grown hb68)
 have hk84 := hk67.below hb68
 refine pw h77 rfl (op_call (args := #[pt N4 0, .agg #[.int .i64 2, .int .i64 0, .int .u64 0, .int .i64 0, .slice none 0 0, .int .u64 0, .slice none 0 0, .int .i64 0, .int .i64 1, .slice none 0 0, .int .u64 0, .int .i64 0, .int .u64 0, .int .i64 0, .int .i64 0, .int .i64 0, .int .i64 0, .int .i64 0]]) (R := fun res xw => ∃ pv2 : Value, res = .int .i64 ((apF ([] : List PinT) 0 1 dE).1) ∧ Blk xw N4 66 #[.bool true, .int .i64 0, (.slice none 0 0), .int .u64 0, (.slice none 0 0), .int .u64 ((apF ([] : List PinT) 0 1 dE).2.1), pv2, .int .i64 ((apF ([] : List PinT) 0 1 dE).2.2.2), .bool (false, 0, 0, 0, 0).1, .int .i64 (false, 0, 0, 0, 0).2.1, .int .i64 (false, 0, 0, 0, 0).2.2.1, .int .i64 (false, 0, 0, 0, 0).2.2.2.1, .int .i64 (false, 0, 0, 0, 0).2.2.2.2, .bool (false, 0, 0, 0, 0).1, .int .i64 (false, 0, 0, 0, 0).2.1, .int .i64 (false, 0, 0, 0, 0).2.2.1, .int .i64 (false, 0, 0, 0, 0).2.2.2.1, .int .i64 (false, 0, 0, 0, 0).2.2.2.2, .bool (false, 0, 0, 0, 0).1, .int .i64 (false, 0, 0, 0, 0).2.1, .int .i64 (false, 0, 0, 0, 0).2.2.1, .int .i64 (false, 0, 0, 0, 0).2.2.2.1, .int .i64 (false, 0, 0, 0, 0).2.2.2.2] ∧ xw.ownsRow 0 44 3 pv2 ((apF ([] : List PinT) 0 1 dE).2.2.1).length (((apF ([] : List PinT) 0 1 dE).2.2.1).flatMap pinE) ∧ ((apF ([] : List PinT) 0 1 dE).2.2.1).length ≤ 3 ∧ But (fun q => q = N4) w66 xw) rfl rfl rfl (by kernel_rfl) (by kernel_rfl) (Try.call11 _ _) (msApplyP_any N4 0 (.slice none 0 0) 0 (.slice none 0 0) 0 pv231 ([] : List PinT) 1 (false, 0, 0, 0, 0) (false, 0, 0, 0, 0) (false, 0, 0, 0, 0) dE (.slice none 0 0) (.slice none 0 0) (.slice none 0 0) w66 hk84 (by rw [hP0] at hr83; exact hr83) (by decide) (sl_nil _) (sl_nil _) (sl_nil _) (dX_R _ (.inr (.inr rfl))) (fun h => absurd rfl h) (fun h => absurd rfl h) (fun h => absurd rfl h) (by decide)) (by rintro e x ⟨pv2, rfl, hq86, hq87, hq88, hb89⟩; exact ⟨_, rfl, ⟨pv2, rfl, hq86, hq87, hq88, hb89⟩⟩)) ?_; clear h77
 rintro _ w79 a78 ⟨pv285, rfl, hq86, hq87, hq88, hb89⟩ h78
 have hz90 := hb89.size
 rw [aw3] at hq86 hq87
 have hl91 := hq86.lt
 have hr92 : w79.ownsRow 0 44 3 pv285 P0.length (P0.flatMap pinE) := by rw [hP0]; exact hq87
 have ha93 : (apF ([] : List PinT) 0 1 dE).1 = 11 := by rw [aw3]
 refine pk0 (v := .bool ((11 : Int) == 11)) h78 rfl fun a94 h94 => ?_; clear h78
 refine pk0 (v := .bool ((11 : Int) == 11)) h94 rfl fun a95 h95 => ?_; clear h94
 refine pk0 (v := .bool ((11 : Int) == 11)) h95 rfl fun a96 h96 => ?_; clear h95
 refine pl_nil ?_
 refine co_then ?_
 refine wp_ret ?_
 refine co_ret1 h96 rfl rfl ?_
 have hB97 := hb_foot hB81 hb89 (fun i hlt hS => by (try simp at hS); first | omega | (simp; omega) | simp_all)
 exact ⟨rfl, hB97⟩
end Go.Proofs.Ytglfoippcmckaaa

/- catenalaw28: MstateNever. Conditions: none. -/
namespace Go.Proofs.Ytglfoippcmckaaa
open Go.RowKit Go.PlainAid
set_option linter.unusedVariables false
set_option linter.unusedSimpArgs false

set_option maxRecDepth 100000 in
set_option maxHeartbeats 6400000 in
theorem mstateNever_l (v : Value) (l : List NoteX) (w : World) (hs : SliceOf noteE 18 w v l) (hok : ∀ z ∈ l, NoteOk w z) :
    Calls Try.prog 3 #[v] w fun e w' => e = .returned (.bool true) ∧ Below w.heap.size w w' := by
 have hB0 := Below.refl w.heap.size w
 have hl_hs := sl_len hs
 refine co_enter (n := 97) Try.func3 rfl rfl rfl [(0, v)] rfl (fun a h0 => ?_)
 refine co_seq ?_
 refine co_reg ?_
 refine pk0 (v := .bool false) h0 rfl fun a1 h1 => ?_; clear h0
 refine pl_nil ?_
 refine co_then ?_
 refine co_seq ?_
 refine co_seq ?_
 refine co_reg ?_
 refine pk0 (v := v) h1 rfl fun a2 h2 => ?_; clear h1
 refine pw h2 rfl (op_call (args := #[v]) (R := fun res xw => ∃ r : Int, res = .int .i64 r ∧ Below w.heap.size w xw) rfl rfl rfl (by kernel_rfl) (by kernel_rfl) (Try.call5 _ _) (partsL_any v l w (hs.below hB0) (fun z hz => NoteOk.below (hok z hz) hB0)) (by rintro e x ⟨r, h0, h⟩; exact ⟨_, h0, r, rfl, h⟩)) ?_; clear h2
 rintro _ w4 a3 ⟨r5, rfl, hb6⟩ h3
 have hz7 := hb6.size
 refine pk0 (v := .bool (decide (r5 > 20))) h3 rfl fun a8 h8 => ?_; clear h3
 refine pl_nil ?_
 refine co_then ?_
 have hB10 := hb_call hB0 hb6
 cases hc9 : (decide (r5 > 20))
 ·
  rw [hc9] at h8
  have hp11 : ¬ (r5 > 20) := of_decide_eq_false hc9
  clear hc9
  refine co_false h8 rfl ?_
  refine wp_skip ?_
  refine co_then ?_
  refine co_seq ?_
  refine co_reg ?_
  refine pw h8 rfl (op_call (args := #[]) (R := fun res xw => ∃ N : Nat, res = pt N 0 ∧ MsO xw N msZ ∧ w4.heap.size ≤ N ∧ Below w4.heap.size w4 xw) rfl rfl rfl (by kernel_rfl) (by kernel_rfl) (Try.call7 _ _) (msNew w4) (by rintro e x ⟨N, rfl, h⟩; exact ⟨_, rfl, N, rfl, h⟩)) ?_; clear h8
  rintro _ w13 a12 ⟨N14, rfl, hO15, hlo16, hb17⟩ h12
  have hz18 := hb17.size
  have hl19 := hO15.lt
  refine pk0 (v := pt N14 0) h12 rfl fun a20 h20 => ?_; clear h12
  refine pl_nil ?_
  refine co_then ?_
  refine co_seq ?_
  refine co_seq ?_
  refine co_reg ?_
  refine pk0 (v := .int .i64 0) h20 rfl fun a21 h21 => ?_; clear h20
  refine pl_nil ?_
  refine co_then ?_
  refine wp_block ?_
  have hv9 := MsV.z
  have hz9 : msZ.lg.length ≤ 4 * 0 := by simp [msZ]
  have h22 : Slots 97 [(0, v), (3, pt N14 0), (4, .int .i64 0)] _ := h21.sub ⟨rfl, rfl, rfl, trivial⟩; clear h21
  refine co_loop (fun mm a x => ∃ (j : Nat) (sM : MsT), Slots 97 [(0, v), (3, pt N14 0), (4, .int .i64 ((j : Nat) : Int))] a ∧ mm = l.length - j ∧ (j ≤ l.length) ∧ (j ≤ 40) ∧ (MsV sM) ∧ (sM.lg.length ≤ 4 * j) ∧ MsO x N14 sM ∧ Below w.heap.size w x) (l.length - 0) ?_ ?_
  have hB23 := hb_call hB10 hb17
  · exact ⟨0, msZ, h22.sub ⟨rfl, rfl, (slot_eq rfl (congrArg (Value.int .i64) (by first | rfl | omega))), trivial⟩, rfl, by omega, by omega, by exact hv9, by first | omega | exact hz9, hO15, hB23⟩
  · rintro k24 a25 w26 ⟨j, sM, h25, rfl, hi27, hi28, hi29, hi30, hf31, hB32⟩
    have hz33 := hB32.size
    have hMV : MsV sM := by assumption
    have hlM := hf31.lt
    refine co_seq ?_
    refine co_seq ?_
    refine co_reg ?_
    refine pk0 (v := .int .i64 ((j : Nat) : Int)) h25 rfl fun a34 h34 => ?_; clear h25
    refine pk0 (v := v) h34 rfl fun a35 h35 => ?_; clear h34
    refine pk (v := .int .i64 ((l.length : Nat) : Int)) h35 rfl (rn_len rfl rfl Try.underlying22 (hs.below hB32)) fun a36 h36 => ?_; clear h35
    refine pk0 (v := .bool (decide (((j : Nat) : Int) < ((l.length : Nat) : Int)))) h36 rfl fun a37 h37 => ?_; clear h36
    refine pk0 (v := .bool (decide (((j : Nat) : Int) < ((l.length : Nat) : Int)))) h37 rfl fun a38 h38 => ?_; clear h37
    cases hc39 : (decide (((j : Nat) : Int) < ((l.length : Nat) : Int)))
    ·
     rw [hc39] at h38
     have hp40 : ¬ (((j : Nat) : Int) < ((l.length : Nat) : Int)) := of_decide_eq_false hc39
     clear hc39
     refine psk h38 rfl fun a41 h41 => ?_; clear h38
     refine psk h41 rfl fun a42 h42 => ?_; clear h41
     refine pk0 (v := .bool false) h42 rfl fun a43 h43 => ?_; clear h42
     refine pl_nil ?_
     refine co_then ?_
     refine co_false h43 rfl ?_
     refine wp_exit ?_
     refine co_thenX ?_
     refine co_thenX ?_
     refine co_blockX ?_
     refine co_then ?_
     refine co_seq ?_
     refine co_reg ?_
     refine pw h43 rfl (op_call (args := #[]) (R := fun res xw => res = .bool true ∧ Below w26.heap.size w26 xw) rfl rfl rfl (by kernel_rfl) (by kernel_rfl) (Try.call6 _ _) (awake28 w26) (by rintro e x ⟨rfl, h⟩; exact ⟨_, rfl, rfl, h⟩)) ?_; clear h43
     rintro _ w45 a44 ⟨rfl, hb46⟩ h44
     have hz47 := hb46.size
     refine pk0 (v := .bool true) h44 rfl fun a48 h48 => ?_; clear h44
     refine pl_nil ?_
     refine co_then ?_
     refine wp_ret ?_
     refine co_ret1 h48 rfl rfl ?_
     have hB49 := hb_call hB32 hb46
     exact ⟨rfl, hB49⟩
    ·
     rw [hc39] at h38
     have hp50 : ((j : Nat) : Int) < ((l.length : Nat) : Int) := of_decide_eq_true hc39
     clear hc39
     refine pk0 (v := .int .i64 ((j : Nat) : Int)) h38 rfl fun a51 h51 => ?_; clear h38
     refine pk0 (v := .bool (decide (((j : Nat) : Int) < 40))) h51 rfl fun a52 h52 => ?_; clear h51
     refine pk0 (v := .bool (decide (((j : Nat) : Int) < 40))) h52 rfl fun a53 h53 => ?_; clear h52
     refine pl_nil ?_
     refine co_then ?_
     cases hc54 : (decide (((j : Nat) : Int) < 40))
     ·
      rw [hc54] at h53
      have hp55 : ¬ (((j : Nat) : Int) < 40) := of_decide_eq_false hc54
      clear hc54
      refine co_false h53 rfl ?_
      refine wp_exit ?_
      refine co_thenX ?_
      refine co_thenX ?_
      refine co_blockX ?_
      refine co_then ?_
      refine co_seq ?_
      refine co_reg ?_
      refine pw h53 rfl (op_call (args := #[]) (R := fun res xw => res = .bool true ∧ Below w26.heap.size w26 xw) rfl rfl rfl (by kernel_rfl) (by kernel_rfl) (Try.call6 _ _) (awake28 w26) (by rintro e x ⟨rfl, h⟩; exact ⟨_, rfl, rfl, h⟩)) ?_; clear h53
      rintro _ w57 a56 ⟨rfl, hb58⟩ h56
      have hz59 := hb58.size
      refine pk0 (v := .bool true) h56 rfl fun a60 h60 => ?_; clear h56
      refine pl_nil ?_
      refine co_then ?_
      refine wp_ret ?_
      refine co_ret1 h60 rfl rfl ?_
      have hB61 := hb_call hB32 hb58
      exact ⟨rfl, hB61⟩
     ·
      rw [hc54] at h53
      have hp62 : ((j : Nat) : Int) < 40 := of_decide_eq_true hc54
      clear hc54
      refine co_true h53 rfl ?_
      refine wp_skip ?_
      refine co_then ?_
      refine co_seq ?_
      refine wp_block ?_
      refine co_seq ?_
      refine co_reg ?_
      refine pk0 (v := pt N14 0) h53 rfl fun a63 h63 => ?_; clear h53
      refine pw h63 rfl (op_call (args := #[pt N14 0]) (R := fun res xw => res = .int .u64 sM.hz ∧ Below w26.heap.size w26 xw) rfl rfl rfl (by kernel_rfl) (by kernel_rfl) (Try.call8 _ _) (moHor hf31) (by rintro e x ⟨rfl, h⟩; exact ⟨_, rfl, rfl, h⟩)) ?_; clear h63
      rintro _ w65 a64 ⟨rfl, hb66⟩ h64
      have hz67 := hb66.size
      refine pk0 (v := .int .u64 sM.hz) h64 rfl fun a68 h68 => ?_; clear h64
      refine pl_nil ?_
      refine co_then ?_
      refine co_seq ?_
      refine co_reg ?_
      refine pk0 (v := pt N14 0) h68 rfl fun a69 h69 => ?_; clear h68
      have hB72 := hb_call hB32 hb66
      have hX73 := MsO.below hf31 hb66
      refine pw h69 rfl (op_call (args := #[pt N14 0]) (R := fun res xw => ∃ u : Value, res = .agg #[.int .i64 sM.ep, u, .int .u64 sM.fl] ∧ xw.ownsRow w65.heap.size 88 2 u sM.ms.length (sM.ms.flatMap memE) ∧ Below w65.heap.size w65 xw) rfl rfl rfl (by kernel_rfl) (by kernel_rfl) (Try.call9 _ _) (moConf hX73 hMV.ms) (by rintro e x ⟨u, h0, h⟩; exact ⟨_, h0, u, rfl, h⟩)) ?_; clear h69
      rintro _ w71 a70 ⟨u74, rfl, hr75, hb76⟩ h70
      have hz77 := hb76.size
      refine pw h70 rfl (op_new (v := fun N => pt N 0) (T := 31) (cs := #[.int .i64 0, .slice none 0 0, .int .u64 0]) (by kernel_rfl) (by kernel_rfl) (by kernel_rfl)) ?_; clear h70
      rintro _ w79 a78 ⟨N80, rfl, hN83, hz84, hk82, hg81⟩ h78
      have ha85 := row_fresh hr75 hN83
      have hz86 := hg81.size
      try dsimp only at h78
      have hr92 := row_kept_new hr75 hg81
      refine pwD h78 rfl (op_storeN rfl rfl rfl (all_cons rfl (all_cons (row_one hr92) (all_cons rfl all_nil))) (by kernel_rfl) hk82 rfl) ?_; clear h78
      rintro _ w88 a87 ⟨hk89, hz90, hg91⟩ h87
      have hk89' : Blk w88 N80 31 #[.int .i64 sM.ep, u74, .int .u64 sM.fl] := hk89; clear hk89
      have hz93 := hg91.size
      refine pl_nil ?_
      refine co_then ?_
      refine co_seq ?_
      refine co_reg ?_
      refine pk0 (v := pt N14 0) h87 rfl fun a94 h94 => ?_; clear h87
      have hB97 := hb_call hB72 hb76
      have hB98 := hb_new hB97 hg81
      have hB99 := hb_at hB98 hg91 (by omega)
      have hX100 := MsO.below hX73 hb76
      have hX101 := MsO.new hX100 hg81
      have hX102 := MsO.at hX101 hk82 (by decide) hg91
      have hp3103 := hX102.pn3
      refine pw h94 rfl (op_call (args := #[pt N14 0]) (R := fun res xw => ∃ (ao : Option Addr) (cp : Nat), res = .slice ao sM.pn.length cp ∧ Below w88.heap.size w88 xw) rfl rfl rfl (by kernel_rfl) (by kernel_rfl) (Try.call10 _ _) (moPinsL hX102) (by rintro e x ⟨ao, cp, h0, h⟩; exact ⟨_, h0, ao, cp, rfl, h⟩)) ?_; clear h94
      rintro _ w96 a95 ⟨ao104, cp105, rfl, hb106⟩ h95
      have hz107 := hb106.size
      refine pk0 (v := .slice ao104 sM.pn.length cp105) h95 rfl fun a108 h108 => ?_; clear h95
      refine pl_nil ?_
      refine co_then ?_
      refine co_seq ?_
      refine co_reg ?_
      refine pk0 (v := pt N14 0) h108 rfl fun a109 h109 => ?_; clear h108
      refine pk0 (v := v) h109 rfl fun a110 h110 => ?_; clear h109
      refine pk0 (v := .int .i64 ((j : Nat) : Int)) h110 rfl fun a111 h111 => ?_; clear h110
      have hB113 := hb_call hB99 hb106
      obtain ⟨y112, hy112⟩ : ∃ z, l[j]? = some z := ⟨_, List.getElem?_eq_getElem (by first | omega | (simp; done) | (simp; omega))⟩
      have oky112 := hok _ (List.mem_of_getElem? hy112)
      refine pk (v := pt (blkOf v) (offOf v + j * 18)) h111 rfl (rn_index rfl rfl rfl Try.underlying22 Try.sizeOf48 (hs.below hB113) (by omega) (by first | omega | (simp; done) | (simp; omega))) fun a114 h114 => ?_; clear h111
      refine pk (v := .agg #[.int .i64 y112.d.k, .int .i64 y112.d.n, .int .u64 y112.d.t, .int .i64 y112.d.ep, y112.mv, .int .u64 y112.d.fl, y112.lv, .int .i64 y112.d.ec, .int .i64 y112.d.er, y112.ev, .int .u64 y112.d.ets, .int .i64 y112.d.pid, .int .u64 y112.d.pat, .int .i64 y112.d.plf, .int .i64 y112.d.sc, .int .i64 y112.d.sr, .int .i64 y112.d.se, .int .i64 y112.d.sp]) h114 rfl (rn_loadN rfl rfl Try.underlying48 rfl (by kernel_rfl) (sl_at (hs.below hB113) hy112)) fun a115 h115 => ?_; clear h114
      have hr118 := row_kept_at hr92 hg91 (ha85)
      have hr119 := row_kept_new hr118 (below_grown hb106)
      have hX122 := MsO.below hX102 hb106
      refine pw h115 rfl (op_call (args := #[pt N14 0, .agg #[.int .i64 y112.d.k, .int .i64 y112.d.n, .int .u64 y112.d.t, .int .i64 y112.d.ep, y112.mv, .int .u64 y112.d.fl, y112.lv, .int .i64 y112.d.ec, .int .i64 y112.d.er, y112.ev, .int .u64 y112.d.ets, .int .i64 y112.d.pid, .int .u64 y112.d.pat, .int .i64 y112.d.plf, .int .i64 y112.d.sc, .int .i64 y112.d.sr, .int .i64 y112.d.se, .int .i64 y112.d.sp]]) (R := fun res xw => res = .int .i64 (apM y112.d sM).1 ∧ MsO xw N14 (apM y112.d sM).2 ∧ But (fun q => q = N14) w96 xw) rfl rfl rfl (by kernel_rfl) (by kernel_rfl) (Try.call11 _ _) (msApply w96 y112.mv y112.lv y112.ev hX122 (by omega) (oky112.hm.below hB113) (oky112.hg.below hB113) (oky112.he.below hB113) oky112.hR (sl_offM oky112.hm (memE_ne _) (by omega)) (sl_offM oky112.hg (intE_ne _) (by omega)) (sl_offM oky112.he (fun _ _ e => by cases e) (by omega))) (by rintro e x ⟨rfl, h⟩; exact ⟨_, rfl, rfl, h⟩)) ?_; clear h115
      rintro _ w117 a116 ⟨rfl, hO120, hb121⟩ h116
      have hz123 := hb121.size
      have hnv := apM_never (d := y112.d) hMV
      have hnw := ms_nv (d := y112.d) hMV
      have hnl := hnv.2.2.2.1
      have hne := hnv.2.1
      have hnh := hnv.2.2.1
      have hnp := hO120.pn3
      refine pk0 (v := .int .i64 ((apM y112.d sM).1)) h116 rfl fun a124 h124 => ?_; clear h116
      refine pl_nil ?_
      refine co_then ?_
      refine co_seq ?_
      refine co_seq ?_
      refine dr_gen (fun x => Below w.heap.size w x ∧ Blk x N80 31 #[.int .i64 sM.ep, u74, .int .u64 sM.fl] ∧ MsO x N14 ((apM y112.d sM).2)) (by kernel_rfl) (fun w125 hg126 => ?_) (fun w125 hg126 => ?_)
      ·
       have hz127 := hg126.size
       have hB128 := hb_foot hB113 hb121 (fun i hlt hS => by (try simp at hS); first | omega | (simp; omega) | simp_all)
       have hB129 := hb_new hB128 hg126
       have hk130 := hk89'.below hb106
       have hk131 := hk130.but hb121 (by first | omega | (simp; omega))
       have hk132 := hk131.kept hg126 (by simp)
       have hX133 := MsO.new hO120 hg126
       exact ⟨hB129, hk132, hX133⟩
      have hz134 := hg126.size
      have hB135 := hb_foot hB113 hb121 (fun i hlt hS => by (try simp at hS); first | omega | (simp; omega) | simp_all)
      have hB136 := hb_new hB135 hg126
      have hk137 := hk89'.below hb106
      have hk138 := hk137.but hb121 (by first | omega | (simp; omega))
      have hk139 := hk138.kept hg126 (by simp)
      have hX140 := MsO.new hO120 hg126
      refine dk0 0 (v := pt N14 0) h124 rfl rfl ⟨hB136, hk139, hX140⟩ fun a141 h141 => ?_; clear h124
      refine dk0 2 (v := .int .u64 sM.hz) h141 rfl rfl ⟨hB136, hk139, hX140⟩ fun a142 h142 => ?_; clear h141
      have hr145 := own_but hr119 hb121 (fun i hi hS => by (try simp at hS); subst hS; exact absurd hi (row_ne_lt hr119 (by omega)))
      have hr146 := row_kept_new hr145 hg126
      refine d1 1 h142 rfl rfl (op_call (args := #[pt N14 0]) (R := fun res xw => res = .int .u64 (((apM y112.d sM).2).hz) ∧ Below w125.heap.size w125 xw) rfl rfl rfl (by kernel_rfl) (by kernel_rfl) (Try.call8 _ _) (moHor hX140) (by rintro e x ⟨rfl, h⟩; exact ⟨_, rfl, rfl, h⟩)) ?_ ?_; clear h142
      ·
       rintro _ w144 ⟨rfl, hb147⟩
       have hz148 := hb147.size
       have hB149 := hb_call hB136 hb147
       have hk150 := hk139.below hb147
       have hX151 := MsO.below hX140 hb147
       exact ⟨hB149, hk150, hX151⟩
      rintro _ w144 a143 ⟨rfl, hb147⟩ h143
      have hz148 := hb147.size
      have hB149 := hb_call hB136 hb147
      have hk150 := hk139.below hb147
      have hX151 := MsO.below hX140 hb147
      refine dk0 3 (v := .bool (decide (((apM y112.d sM).2).hz < sM.hz))) h143 rfl rfl ⟨hB149, hk150, hX151⟩ fun a152 h152 => ?_; clear h143
      refine dk0 4 (v := .bool (decide (((apM y112.d sM).2).hz < sM.hz))) h152 rfl rfl ⟨hB149, hk150, hX151⟩ fun a153 h153 => ?_; clear h152
      cases hc154 : (decide (((apM y112.d sM).2).hz < sM.hz))
      ·
       rw [hc154] at h153
       have hp155 : ¬ (((apM y112.d sM).2).hz < sM.hz) := of_decide_eq_false hc154
       clear hc154
       refine dk0 5 (v := pt N14 0) h153 rfl rfl ⟨hB149, hk150, hX151⟩ fun a156 h156 => ?_; clear h153
       refine dk0 8 (v := pt N80 0) h156 rfl rfl ⟨hB149, hk150, hX151⟩ fun a157 h157 => ?_; clear h156
       refine dk 9 (v := .int .i64 sM.ep) h157 rfl rfl ⟨hB149, hk150, hX151⟩ (fun x hx => (rn_load1 rfl rfl Try.isAgg3 (hx.2.1.cell rfl))) fun a158 h158 => ?_; clear h157
       refine d1 6 h158 rfl rfl (op_call (args := #[pt N14 0]) (R := fun res xw => ∃ u : Value, res = .agg #[.int .i64 (((apM y112.d sM).2).ep), u, .int .u64 (((apM y112.d sM).2).fl)] ∧ xw.ownsRow w144.heap.size 88 2 u ((apM y112.d sM).2).ms.length (((apM y112.d sM).2).ms.flatMap memE) ∧ Below w144.heap.size w144 xw) rfl rfl rfl (by kernel_rfl) (by kernel_rfl) (Try.call9 _ _) (moConf hX151 (apM_never hMV).1.ms) (by rintro e x ⟨u, h0, h⟩; exact ⟨_, h0, u, rfl, h⟩)) ?_ ?_; clear h158
       ·
        rintro _ w160 ⟨u161, rfl, hr162, hb163⟩
        have hz164 := hb163.size
        have hB165 := hb_call hB149 hb163
        have hk166 := hk150.below hb163
        have hX167 := MsO.below hX151 hb163
        exact ⟨hB165, hk166, hX167⟩
       rintro _ w160 a159 ⟨u161, rfl, hr162, hb163⟩ h159
       have hz164 := hb163.size
       have hB165 := hb_call hB149 hb163
       have hk166 := hk150.below hb163
       have hX167 := MsO.below hX151 hb163
       refine dk0 7 (v := .int .i64 (((apM y112.d sM).2).ep)) h159 rfl rfl ⟨hB165, hk166, hX167⟩ fun a168 h168 => ?_; clear h159
       refine dk0 10 (v := .bool (decide (((apM y112.d sM).2).ep < sM.ep))) h168 rfl rfl ⟨hB165, hk166, hX167⟩ fun a169 h169 => ?_; clear h168
       refine dk0 11 (v := .bool (decide (((apM y112.d sM).2).ep < sM.ep))) h169 rfl rfl ⟨hB165, hk166, hX167⟩ fun a170 h170 => ?_; clear h169
       refine dk0 12 (v := .bool (decide (((apM y112.d sM).2).ep < sM.ep))) h170 rfl rfl ⟨hB165, hk166, hX167⟩ fun a171 h171 => ?_; clear h170
       have hr173 := row_kept_new hr146 (below_grown hb147)
       have hr174 := row_kept_new hr173 (below_grown hb163)
       cases hc172 : (decide (((apM y112.d sM).2).ep < sM.ep))
       ·
        rw [hc172] at h171
        have hp175 : ¬ (((apM y112.d sM).2).ep < sM.ep) := of_decide_eq_false hc172
        clear hc172
        refine dk0 13 (v := pt N14 0) h171 rfl rfl ⟨hB165, hk166, hX167⟩ fun a176 h176 => ?_; clear h171
        have hp3179 := hX167.pn3
        refine d1 14 h176 rfl rfl (op_call (args := #[pt N14 0]) (R := fun res xw => ∃ (ao : Option Addr) (cp : Nat), res = .slice ao ((apM y112.d sM).2).pn.length cp ∧ Below w160.heap.size w160 xw) rfl rfl rfl (by kernel_rfl) (by kernel_rfl) (Try.call10 _ _) (moPinsL hX167) (by rintro e x ⟨ao, cp, h0, h⟩; exact ⟨_, h0, ao, cp, rfl, h⟩)) ?_ ?_; clear h176
        ·
         rintro _ w178 ⟨ao180, cp181, rfl, hb182⟩
         have hz183 := hb182.size
         have hB184 := hb_call hB165 hb182
         have hk185 := hk166.below hb182
         have hX186 := MsO.below hX167 hb182
         exact ⟨hB184, hk185, hX186⟩
        rintro _ w178 a177 ⟨ao180, cp181, rfl, hb182⟩ h177
        have hz183 := hb182.size
        have hB184 := hb_call hB165 hb182
        have hk185 := hk166.below hb182
        have hX186 := MsO.below hX167 hb182
        refine dk0 15 (v := .int .i64 ((((apM y112.d sM).2).pn.length : Nat) : Int)) h177 rfl rfl ⟨hB184, hk185, hX186⟩ fun a187 h187 => ?_; clear h177
        refine dk0 16 (v := .bool (decide (((((apM y112.d sM).2).pn.length : Nat) : Int) > 3))) h187 rfl rfl ⟨hB184, hk185, hX186⟩ fun a188 h188 => ?_; clear h187
        refine dk0 17 (v := .bool (decide (((((apM y112.d sM).2).pn.length : Nat) : Int) > 3))) h188 rfl rfl ⟨hB184, hk185, hX186⟩ fun a189 h189 => ?_; clear h188
        refine dr_done (by kernel_rfl) ?_
        refine co_then ?_
        have hc190 : (decide (((((apM y112.d sM).2).pn.length : Nat) : Int) > 3)) = false := decide_eq_false (by omega)
        rw [hc190] at h189; clear hc190
        refine co_false h189 rfl ?_
        refine wp_skip ?_
        refine co_then ?_
        refine co_seq ?_
        refine co_seq ?_
        refine co_reg ?_
        refine pk0 (v := .int .i64 ((apM y112.d sM).1)) h189 rfl fun a191 h191 => ?_; clear h189
        refine pk0 (v := .bool ((apM y112.d sM).1 == 0)) h191 rfl fun a192 h192 => ?_; clear h191
        refine pk0 (v := .bool ((apM y112.d sM).1 == 0)) h192 rfl fun a193 h193 => ?_; clear h192
        cases hc194 : ((apM y112.d sM).1 == 0)
        ·
         rw [hc194] at h193
         have hp195 : ¬ ((apM y112.d sM).1 = 0) := by first | simpa using hc194 | simpa [and_assoc] using hc194
         clear hc194
         refine psk h193 rfl fun a196 h196 => ?_; clear h193
         refine psk h196 rfl fun a197 h197 => ?_; clear h196
         refine psk h197 rfl fun a198 h198 => ?_; clear h197
         refine psk h198 rfl fun a199 h199 => ?_; clear h198
         refine psk h199 rfl fun a200 h200 => ?_; clear h199
         refine psk h200 rfl fun a201 h201 => ?_; clear h200
         refine pk0 (v := .bool false) h201 rfl fun a202 h202 => ?_; clear h201
         refine pk0 (v := .bool false) h202 rfl fun a203 h203 => ?_; clear h202
         refine psk h203 rfl fun a204 h204 => ?_; clear h203
         refine psk h204 rfl fun a205 h205 => ?_; clear h204
         refine psk h205 rfl fun a206 h206 => ?_; clear h205
         refine psk h206 rfl fun a207 h207 => ?_; clear h206
         refine psk h207 rfl fun a208 h208 => ?_; clear h207
         refine psk h208 rfl fun a209 h209 => ?_; clear h208
         refine pk0 (v := .bool false) h209 rfl fun a210 h210 => ?_; clear h209
         refine pk0 (v := .bool false) h210 rfl fun a211 h211 => ?_; clear h210
         refine psk h211 rfl fun a212 h212 => ?_; clear h211
         refine psk h212 rfl fun a213 h213 => ?_; clear h212
         refine psk h213 rfl fun a214 h214 => ?_; clear h213
         refine psk h214 rfl fun a215 h215 => ?_; clear h214
         refine psk h215 rfl fun a216 h216 => ?_; clear h215
         refine psk h216 rfl fun a217 h217 => ?_; clear h216
         refine psk h217 rfl fun a218 h218 => ?_; clear h217
         refine psk h218 rfl fun a219 h219 => ?_; clear h218
         refine pk0 (v := .bool false) h219 rfl fun a220 h220 => ?_; clear h219
         refine pl_nil ?_
         refine co_then ?_
         refine co_false h220 rfl ?_
         refine wp_skip ?_
         refine co_then ?_
         refine co_seq ?_
         refine co_reg ?_
         refine pk0 (v := pt N14 0) h220 rfl fun a221 h221 => ?_; clear h220
         refine pw h221 rfl (op_call (args := #[pt N14 0]) (R := fun res xw => ∃ u : Value, res = .agg #[.int .i64 (((apM y112.d sM).2).ep), u, .int .u64 (((apM y112.d sM).2).fl)] ∧ xw.ownsRow w178.heap.size 88 2 u ((apM y112.d sM).2).ms.length (((apM y112.d sM).2).ms.flatMap memE) ∧ Below w178.heap.size w178 xw) rfl rfl rfl (by kernel_rfl) (by kernel_rfl) (Try.call9 _ _) (moConf hX186 (apM_never hMV).1.ms) (by rintro e x ⟨u, h0, h⟩; exact ⟨_, h0, u, rfl, h⟩)) ?_; clear h221
         rintro _ w223 a222 ⟨u224, rfl, hr225, hb226⟩ h222
         have hz227 := hb226.size
         refine pw h222 rfl (op_new (v := fun N => pt N 0) (T := 31) (cs := #[.int .i64 0, .slice none 0 0, .int .u64 0]) (by kernel_rfl) (by kernel_rfl) (by kernel_rfl)) ?_; clear h222
         rintro _ w229 a228 ⟨N230, rfl, hN233, hz234, hk232, hg231⟩ h228
         have hr236 := row_kept_new hr174 (below_grown hb182)
         have hr237 := row_kept_new hr236 (below_grown hb226)
         have ha235 := row_fresh hr237 hN233
         have hr239 := row_kept_new hr162 (below_grown hb182)
         have hr240 := row_kept_new hr239 (below_grown hb226)
         have ha238 := row_fresh hr240 hN233
         have ha241 := row_fresh hr225 hN233
         have hz242 := hg231.size
         try dsimp only at h228
         have hr248 := row_kept_new hr225 hg231
         refine pwD h228 rfl (op_storeN rfl rfl rfl (all_cons rfl (all_cons (row_one hr248) (all_cons rfl all_nil))) (by kernel_rfl) hk232 rfl) ?_; clear h228
         rintro _ w244 a243 ⟨hk245, hz246, hg247⟩ h243
         have hk245' : Blk w244 N230 31 #[.int .i64 (((apM y112.d sM).2).ep), u224, .int .u64 (((apM y112.d sM).2).fl)] := hk245; clear hk245
         have hz249 := hg247.size
         refine pl_nil ?_
         refine co_then ?_
         refine co_seq ?_
         refine dr_gen (fun x => Below w.heap.size w x ∧ MsO x N14 ((apM y112.d sM).2) ∧ Blk x N230 31 #[.int .i64 (((apM y112.d sM).2).ep), u224, .int .u64 (((apM y112.d sM).2).fl)]) (by kernel_rfl) (fun w250 hg251 => ?_) (fun w250 hg251 => ?_)
         ·
          have hz252 := hg251.size
          have hB253 := hb_call hB184 hb226
          have hB254 := hb_new hB253 hg231
          have hB255 := hb_at hB254 hg247 (by omega)
          have hB256 := hb_new hB255 hg251
          have hX257 := MsO.below hX186 hb226
          have hX258 := MsO.new hX257 hg231
          have hX259 := MsO.at hX258 hk232 (by decide) hg247
          have hX260 := MsO.new hX259 hg251
          have hk261 := hk245'.kept hg251 (by simp)
          exact ⟨hB256, hX260, hk261⟩
         have hz262 := hg251.size
         have hB263 := hb_call hB184 hb226
         have hB264 := hb_new hB263 hg231
         have hB265 := hb_at hB264 hg247 (by omega)
         have hB266 := hb_new hB265 hg251
         have hX267 := MsO.below hX186 hb226
         have hX268 := MsO.new hX267 hg231
         have hX269 := MsO.at hX268 hk232 (by decide) hg247
         have hX270 := MsO.new hX269 hg251
         have hk271 := hk245'.kept hg251 (by simp)
         refine dk0 0 (v := pt N230 0) h243 rfl rfl ⟨hB266, hX270, hk271⟩ fun a272 h272 => ?_; clear h243
         refine dk 1 (v := .int .i64 (((apM y112.d sM).2).ep)) h272 rfl rfl ⟨hB266, hX270, hk271⟩ (fun x hx => (rn_load1 rfl rfl Try.isAgg3 (hx.2.2.cell rfl))) fun a273 h273 => ?_; clear h272
         refine dk0 2 (v := .bool (decide (((apM y112.d sM).2).ep > 0))) h273 rfl rfl ⟨hB266, hX270, hk271⟩ fun a274 h274 => ?_; clear h273
         refine dk0 3 (v := .bool (decide (((apM y112.d sM).2).ep > 0))) h274 rfl rfl ⟨hB266, hX270, hk271⟩ fun a275 h275 => ?_; clear h274
         have hr277 := row_kept_new hr237 hg231
         have hr278 := row_kept_at hr277 hg247 (ha235)
         have hr279 := row_kept_new hr278 hg251
         have hk280 := hk185.below hb226
         have hk281 := hk280.kept hg231 (by simp)
         have hk282 := hk281.kept hg247 (by simp; omega)
         have hk283 := hk282.kept hg251 (by simp)
         have hr284 := row_kept_new hr240 hg231
         have hr285 := row_kept_at hr284 hg247 (ha238)
         have hr286 := row_kept_new hr285 hg251
         have hr287 := row_kept_at hr248 hg247 (ha241)
         have hr288 := row_kept_new hr287 hg251
         cases hc276 : (decide (((apM y112.d sM).2).ep > 0))
         ·
          rw [hc276] at h275
          have hp289 : ¬ (((apM y112.d sM).2).ep > 0) := of_decide_eq_false hc276
          clear hc276
          refine dsk 4 h275 rfl rfl ⟨hB266, hX270, hk271⟩ fun a290 h290 => ?_; clear h275
          refine dsk 5 h290 rfl rfl ⟨hB266, hX270, hk271⟩ fun a291 h291 => ?_; clear h290
          refine dsk 6 h291 rfl rfl ⟨hB266, hX270, hk271⟩ fun a292 h292 => ?_; clear h291
          refine dsk 7 h292 rfl rfl ⟨hB266, hX270, hk271⟩ fun a293 h293 => ?_; clear h292
          refine dsk 8 h293 rfl rfl ⟨hB266, hX270, hk271⟩ fun a294 h294 => ?_; clear h293
          refine dsk 9 h294 rfl rfl ⟨hB266, hX270, hk271⟩ fun a295 h295 => ?_; clear h294
          refine dk0 10 (v := .bool false) h295 rfl rfl ⟨hB266, hX270, hk271⟩ fun a296 h296 => ?_; clear h295
          refine dr_done (by kernel_rfl) ?_
          refine co_then ?_
          refine co_false h296 rfl ?_
          refine wp_skip ?_
          refine co_blockN ?_
          refine co_then ?_
          refine co_reg ?_
          refine pk0 (v := .int .i64 ((j : Nat) : Int)) h296 rfl fun a297 h297 => ?_; clear h296
          refine pk (v := .int .i64 ((j + 1 : Nat) : Int)) h297 rfl (rn_arith' rfl rfl rfl rfl rfl rfl (IntWalk.i64_in _ (by omega)) (by omega)) fun a298 h298 => ?_; clear h297
          refine pk0 (v := .int .i64 ((j + 1 : Nat) : Int)) h298 rfl fun a299 h299 => ?_; clear h298
          refine pl_nil ?_
          refine co_then ?_
          refine ⟨(l.length - (j + 1)), by omega, ?_⟩
          have hv9 := hnv.1
          exact ⟨j + 1, (apM y112.d sM).2, h299.sub ⟨rfl, rfl, rfl, trivial⟩, rfl, by omega, by omega, by exact hv9, by first | omega | exact hz9, hX270, hB266⟩
         ·
          rw [hc276] at h275
          have hp300 : ((apM y112.d sM).2).ep > 0 := of_decide_eq_true hc276
          clear hc276
          refine dk0 4 (v := pt N14 0) h275 rfl rfl ⟨hB266, hX270, hk271⟩ fun a301 h301 => ?_; clear h275
          refine dk 6 (v := .agg #[.int .i64 (((apM y112.d sM).2).ep), u224, .int .u64 (((apM y112.d sM).2).fl)]) h301 rfl rfl ⟨hB266, hX270, hk271⟩ (fun x hx => (rn_loadN rfl rfl Try.underlying31 rfl (by kernel_rfl) hx.2.2.all)) fun a302 h302 => ?_; clear h301
          refine d1 5 h302 rfl rfl (op_call (args := #[pt N14 0]) (R := fun res xw => ∃ u : Value, res = u ∧ xw.ownsRow w250.heap.size 3 1 u ((apM y112.d sM).2).lg.length (((apM y112.d sM).2).lg.flatMap (intE .i64)) ∧ Below w250.heap.size w250 xw) rfl rfl rfl (by kernel_rfl) (by kernel_rfl) (Try.call13 _ _) (moLegit hX270 (by omega)) (by rintro e x ⟨u, h0, h⟩; exact ⟨_, h0, u, rfl, h⟩)) ?_ ?_; clear h302
          ·
           rintro u305 w304 ⟨_, rfl, hr306, hb307⟩
           have hz308 := hb307.size
           have hB309 := hb_call hB266 hb307
           have hX310 := MsO.below hX270 hb307
           have hk311 := hk271.below hb307
           exact ⟨hB309, hX310, hk311⟩
          rintro u305 w304 a303 ⟨_, rfl, hr306, hb307⟩ h303
          have hz308 := hb307.size
          have hB309 := hb_call hB266 hb307
          have hX310 := MsO.below hX270 hb307
          have hk311 := hk271.below hb307
          have hr314 := row_kept_new hr288 (below_grown hb307)
          refine d1 7 h303 rfl rfl (op_call (args := #[.agg #[.int .i64 (((apM y112.d sM).2).ep), u224, .int .u64 (((apM y112.d sM).2).fl)]]) (R := fun res xw => res = .int .i64 (headI (((apM y112.d sM).2).ms)) ∧ Below w304.heap.size w304 xw) rfl rfl rfl (by kernel_rfl) (by kernel_rfl) (Try.call14 _ _) (head27_any (((apM y112.d sM).2).ep) (((apM y112.d sM).2).fl) u224 (((apM y112.d sM).2).ms) w304 (row_sl hr314 memE_len)) (by rintro e x ⟨rfl, hb315⟩; exact ⟨_, rfl, ⟨rfl, hb315⟩⟩)) ?_ ?_; clear h303
          ·
           rintro _ w313 ⟨rfl, hb315⟩
           have hz316 := hb315.size
           have hB317 := hb_call hB309 hb315
           have hX318 := MsO.below hX310 hb315
           have hk319 := hk311.below hb315
           exact ⟨hB317, hX318, hk319⟩
          rintro _ w313 a312 ⟨rfl, hb315⟩ h312
          have hz316 := hb315.size
          have hB317 := hb_call hB309 hb315
          have hX318 := MsO.below hX310 hb315
          have hk319 := hk311.below hb315
          have hr322 := row_kept_new hr279 (below_grown hb307)
          have hr323 := row_kept_new hr322 (below_grown hb315)
          have hk324 := hk283.below hb307
          have hk325 := hk324.below hb315
          have hr326 := row_kept_new hr286 (below_grown hb307)
          have hr327 := row_kept_new hr326 (below_grown hb315)
          have hr328 := row_kept_new hr306 (below_grown hb315)
          refine d1 8 h312 rfl rfl (op_call (args := #[u305, .int .i64 (headI (((apM y112.d sM).2).ms))]) (R := fun res xw => res = .bool true ∧ Below w313.heap.size w313 xw) rfl rfl rfl (by kernel_rfl) (by kernel_rfl) (Try.call12 _ _) (in_any u305 (((apM y112.d sM).2).lg) (headI (((apM y112.d sM).2).ms)) w313 (row_sl hr328 (fun _ => rfl))) (by rintro e x ⟨h0, h⟩; rw [inL_mem.2 ((apM_never hMV).1.head (by omega))] at h0; exact ⟨_, h0, rfl, h⟩)) ?_ ?_; clear h312
          ·
           rintro _ w321 ⟨rfl, hb329⟩
           have hz330 := hb329.size
           have hB331 := hb_call hB317 hb329
           have hX332 := MsO.below hX318 hb329
           have hk333 := hk319.below hb329
           exact ⟨hB331, hX332, hk333⟩
          rintro _ w321 a320 ⟨rfl, hb329⟩ h320
          have hz330 := hb329.size
          have hB331 := hb_call hB317 hb329
          have hX332 := MsO.below hX318 hb329
          have hk333 := hk319.below hb329
          refine dk0 9 (v := .bool false) h320 rfl rfl ⟨hB331, hX332, hk333⟩ fun a334 h334 => ?_; clear h320
          refine dk0 10 (v := .bool false) h334 rfl rfl ⟨hB331, hX332, hk333⟩ fun a335 h335 => ?_; clear h334
          refine dr_done (by kernel_rfl) ?_
          refine co_then ?_
          refine co_false h335 rfl ?_
          refine wp_skip ?_
          refine co_blockN ?_
          refine co_then ?_
          refine co_reg ?_
          refine pk0 (v := .int .i64 ((j : Nat) : Int)) h335 rfl fun a336 h336 => ?_; clear h335
          refine pk (v := .int .i64 ((j + 1 : Nat) : Int)) h336 rfl (rn_arith' rfl rfl rfl rfl rfl rfl (IntWalk.i64_in _ (by omega)) (by omega)) fun a337 h337 => ?_; clear h336
          refine pk0 (v := .int .i64 ((j + 1 : Nat) : Int)) h337 rfl fun a338 h338 => ?_; clear h337
          refine pl_nil ?_
          refine co_then ?_
          refine ⟨(l.length - (j + 1)), by omega, ?_⟩
          have hv9 := hnv.1
          exact ⟨j + 1, (apM y112.d sM).2, h338.sub ⟨rfl, rfl, rfl, trivial⟩, rfl, by omega, by omega, by exact hv9, by first | omega | exact hz9, hX332, hB331⟩
        ·
         rw [hc194] at h193
         have hp339 : (apM y112.d sM).1 = 0 := by first | simpa using hc194 | simpa [and_assoc] using hc194
         clear hc194
         refine pk0 (v := v) h193 rfl fun a340 h340 => ?_; clear h193
         refine pk0 (v := .int .i64 ((j : Nat) : Int)) h340 rfl fun a341 h341 => ?_; clear h340
         refine pk (v := pt (blkOf v) (offOf v + j * 18)) h341 rfl (rn_index rfl rfl rfl Try.underlying22 Try.sizeOf48 (hs.below hB184) (by omega) (by first | omega | (simp; done) | (simp; omega))) fun a342 h342 => ?_; clear h341
         refine pk0 (v := pt (blkOf v) (offOf v + j * 18)) h342 rfl fun a343 h343 => ?_; clear h342
         refine pk (v := .int .i64 y112.d.k) h343 rfl (rn_load1 rfl rfl Try.isAgg3 ((sl_at (hs.below hB184) hy112) 0 _ rfl)) fun a344 h344 => ?_; clear h343
         refine pk0 (v := .bool (y112.d.k == 6)) h344 rfl fun a345 h345 => ?_; clear h344
         refine pk0 (v := .bool (y112.d.k == 6)) h345 rfl fun a346 h346 => ?_; clear h345
         refine pk0 (v := .bool (y112.d.k == 6)) h346 rfl fun a347 h347 => ?_; clear h346
         cases hc348 : (y112.d.k == 6)
         ·
          rw [hc348] at h347
          have hp349 : ¬ (y112.d.k = 6) := by first | simpa using hc348 | simpa [and_assoc] using hc348
          clear hc348
          refine psk h347 rfl fun a350 h350 => ?_; clear h347
          refine psk h350 rfl fun a351 h351 => ?_; clear h350
          refine psk h351 rfl fun a352 h352 => ?_; clear h351
          refine psk h352 rfl fun a353 h353 => ?_; clear h352
          refine psk h353 rfl fun a354 h354 => ?_; clear h353
          refine psk h354 rfl fun a355 h355 => ?_; clear h354
          refine pk0 (v := .bool false) h355 rfl fun a356 h356 => ?_; clear h355
          refine pk0 (v := .bool false) h356 rfl fun a357 h357 => ?_; clear h356
          refine psk h357 rfl fun a358 h358 => ?_; clear h357
          refine psk h358 rfl fun a359 h359 => ?_; clear h358
          refine psk h359 rfl fun a360 h360 => ?_; clear h359
          refine psk h360 rfl fun a361 h361 => ?_; clear h360
          refine psk h361 rfl fun a362 h362 => ?_; clear h361
          refine psk h362 rfl fun a363 h363 => ?_; clear h362
          refine psk h363 rfl fun a364 h364 => ?_; clear h363
          refine psk h364 rfl fun a365 h365 => ?_; clear h364
          refine pk0 (v := .bool false) h365 rfl fun a366 h366 => ?_; clear h365
          refine pl_nil ?_
          refine co_then ?_
          refine co_false h366 rfl ?_
          refine wp_skip ?_
          refine co_then ?_
          refine co_seq ?_
          refine co_reg ?_
          refine pk0 (v := pt N14 0) h366 rfl fun a367 h367 => ?_; clear h366
          refine pw h367 rfl (op_call (args := #[pt N14 0]) (R := fun res xw => ∃ u : Value, res = .agg #[.int .i64 (((apM y112.d sM).2).ep), u, .int .u64 (((apM y112.d sM).2).fl)] ∧ xw.ownsRow w178.heap.size 88 2 u ((apM y112.d sM).2).ms.length (((apM y112.d sM).2).ms.flatMap memE) ∧ Below w178.heap.size w178 xw) rfl rfl rfl (by kernel_rfl) (by kernel_rfl) (Try.call9 _ _) (moConf hX186 (apM_never hMV).1.ms) (by rintro e x ⟨u, h0, h⟩; exact ⟨_, h0, u, rfl, h⟩)) ?_; clear h367
          rintro _ w369 a368 ⟨u370, rfl, hr371, hb372⟩ h368
          have hz373 := hb372.size
          refine pw h368 rfl (op_new (v := fun N => pt N 0) (T := 31) (cs := #[.int .i64 0, .slice none 0 0, .int .u64 0]) (by kernel_rfl) (by kernel_rfl) (by kernel_rfl)) ?_; clear h368
          rintro _ w375 a374 ⟨N376, rfl, hN379, hz380, hk378, hg377⟩ h374
          have hr382 := row_kept_new hr174 (below_grown hb182)
          have hr383 := row_kept_new hr382 (below_grown hb372)
          have ha381 := row_fresh hr383 hN379
          have hr385 := row_kept_new hr162 (below_grown hb182)
          have hr386 := row_kept_new hr385 (below_grown hb372)
          have ha384 := row_fresh hr386 hN379
          have ha387 := row_fresh hr371 hN379
          have hz388 := hg377.size
          try dsimp only at h374
          have hr394 := row_kept_new hr371 hg377
          refine pwD h374 rfl (op_storeN rfl rfl rfl (all_cons rfl (all_cons (row_one hr394) (all_cons rfl all_nil))) (by kernel_rfl) hk378 rfl) ?_; clear h374
          rintro _ w390 a389 ⟨hk391, hz392, hg393⟩ h389
          have hk391' : Blk w390 N376 31 #[.int .i64 (((apM y112.d sM).2).ep), u370, .int .u64 (((apM y112.d sM).2).fl)] := hk391; clear hk391
          have hz395 := hg393.size
          refine pl_nil ?_
          refine co_then ?_
          refine co_seq ?_
          refine dr_gen (fun x => Below w.heap.size w x ∧ MsO x N14 ((apM y112.d sM).2) ∧ Blk x N376 31 #[.int .i64 (((apM y112.d sM).2).ep), u370, .int .u64 (((apM y112.d sM).2).fl)]) (by kernel_rfl) (fun w396 hg397 => ?_) (fun w396 hg397 => ?_)
          ·
           have hz398 := hg397.size
           have hB399 := hb_call hB184 hb372
           have hB400 := hb_new hB399 hg377
           have hB401 := hb_at hB400 hg393 (by omega)
           have hB402 := hb_new hB401 hg397
           have hX403 := MsO.below hX186 hb372
           have hX404 := MsO.new hX403 hg377
           have hX405 := MsO.at hX404 hk378 (by decide) hg393
           have hX406 := MsO.new hX405 hg397
           have hk407 := hk391'.kept hg397 (by simp)
           exact ⟨hB402, hX406, hk407⟩
          have hz408 := hg397.size
          have hB409 := hb_call hB184 hb372
          have hB410 := hb_new hB409 hg377
          have hB411 := hb_at hB410 hg393 (by omega)
          have hB412 := hb_new hB411 hg397
          have hX413 := MsO.below hX186 hb372
          have hX414 := MsO.new hX413 hg377
          have hX415 := MsO.at hX414 hk378 (by decide) hg393
          have hX416 := MsO.new hX415 hg397
          have hk417 := hk391'.kept hg397 (by simp)
          refine dk0 0 (v := pt N376 0) h389 rfl rfl ⟨hB412, hX416, hk417⟩ fun a418 h418 => ?_; clear h389
          refine dk 1 (v := .int .i64 (((apM y112.d sM).2).ep)) h418 rfl rfl ⟨hB412, hX416, hk417⟩ (fun x hx => (rn_load1 rfl rfl Try.isAgg3 (hx.2.2.cell rfl))) fun a419 h419 => ?_; clear h418
          refine dk0 2 (v := .bool (decide (((apM y112.d sM).2).ep > 0))) h419 rfl rfl ⟨hB412, hX416, hk417⟩ fun a420 h420 => ?_; clear h419
          refine dk0 3 (v := .bool (decide (((apM y112.d sM).2).ep > 0))) h420 rfl rfl ⟨hB412, hX416, hk417⟩ fun a421 h421 => ?_; clear h420
          have hr423 := row_kept_new hr383 hg377
          have hr424 := row_kept_at hr423 hg393 (ha381)
          have hr425 := row_kept_new hr424 hg397
          have hk426 := hk185.below hb372
          have hk427 := hk426.kept hg377 (by simp)
          have hk428 := hk427.kept hg393 (by simp; omega)
          have hk429 := hk428.kept hg397 (by simp)
          have hr430 := row_kept_new hr386 hg377
          have hr431 := row_kept_at hr430 hg393 (ha384)
          have hr432 := row_kept_new hr431 hg397
          have hr433 := row_kept_at hr394 hg393 (ha387)
          have hr434 := row_kept_new hr433 hg397
          cases hc422 : (decide (((apM y112.d sM).2).ep > 0))
          ·
           rw [hc422] at h421
           have hp435 : ¬ (((apM y112.d sM).2).ep > 0) := of_decide_eq_false hc422
           clear hc422
           refine dsk 4 h421 rfl rfl ⟨hB412, hX416, hk417⟩ fun a436 h436 => ?_; clear h421
           refine dsk 5 h436 rfl rfl ⟨hB412, hX416, hk417⟩ fun a437 h437 => ?_; clear h436
           refine dsk 6 h437 rfl rfl ⟨hB412, hX416, hk417⟩ fun a438 h438 => ?_; clear h437
           refine dsk 7 h438 rfl rfl ⟨hB412, hX416, hk417⟩ fun a439 h439 => ?_; clear h438
           refine dsk 8 h439 rfl rfl ⟨hB412, hX416, hk417⟩ fun a440 h440 => ?_; clear h439
           refine dsk 9 h440 rfl rfl ⟨hB412, hX416, hk417⟩ fun a441 h441 => ?_; clear h440
           refine dk0 10 (v := .bool false) h441 rfl rfl ⟨hB412, hX416, hk417⟩ fun a442 h442 => ?_; clear h441
           refine dr_done (by kernel_rfl) ?_
           refine co_then ?_
           refine co_false h442 rfl ?_
           refine wp_skip ?_
           refine co_blockN ?_
           refine co_then ?_
           refine co_reg ?_
           refine pk0 (v := .int .i64 ((j : Nat) : Int)) h442 rfl fun a443 h443 => ?_; clear h442
           refine pk (v := .int .i64 ((j + 1 : Nat) : Int)) h443 rfl (rn_arith' rfl rfl rfl rfl rfl rfl (IntWalk.i64_in _ (by omega)) (by omega)) fun a444 h444 => ?_; clear h443
           refine pk0 (v := .int .i64 ((j + 1 : Nat) : Int)) h444 rfl fun a445 h445 => ?_; clear h444
           refine pl_nil ?_
           refine co_then ?_
           refine ⟨(l.length - (j + 1)), by omega, ?_⟩
           have hv9 := hnv.1
           exact ⟨j + 1, (apM y112.d sM).2, h445.sub ⟨rfl, rfl, rfl, trivial⟩, rfl, by omega, by omega, by exact hv9, by first | omega | exact hz9, hX416, hB412⟩
          ·
           rw [hc422] at h421
           have hp446 : ((apM y112.d sM).2).ep > 0 := of_decide_eq_true hc422
           clear hc422
           refine dk0 4 (v := pt N14 0) h421 rfl rfl ⟨hB412, hX416, hk417⟩ fun a447 h447 => ?_; clear h421
           refine dk 6 (v := .agg #[.int .i64 (((apM y112.d sM).2).ep), u370, .int .u64 (((apM y112.d sM).2).fl)]) h447 rfl rfl ⟨hB412, hX416, hk417⟩ (fun x hx => (rn_loadN rfl rfl Try.underlying31 rfl (by kernel_rfl) hx.2.2.all)) fun a448 h448 => ?_; clear h447
           refine d1 5 h448 rfl rfl (op_call (args := #[pt N14 0]) (R := fun res xw => ∃ u : Value, res = u ∧ xw.ownsRow w396.heap.size 3 1 u ((apM y112.d sM).2).lg.length (((apM y112.d sM).2).lg.flatMap (intE .i64)) ∧ Below w396.heap.size w396 xw) rfl rfl rfl (by kernel_rfl) (by kernel_rfl) (Try.call13 _ _) (moLegit hX416 (by omega)) (by rintro e x ⟨u, h0, h⟩; exact ⟨_, h0, u, rfl, h⟩)) ?_ ?_; clear h448
           ·
            rintro u451 w450 ⟨_, rfl, hr452, hb453⟩
            have hz454 := hb453.size
            have hB455 := hb_call hB412 hb453
            have hX456 := MsO.below hX416 hb453
            have hk457 := hk417.below hb453
            exact ⟨hB455, hX456, hk457⟩
           rintro u451 w450 a449 ⟨_, rfl, hr452, hb453⟩ h449
           have hz454 := hb453.size
           have hB455 := hb_call hB412 hb453
           have hX456 := MsO.below hX416 hb453
           have hk457 := hk417.below hb453
           have hr460 := row_kept_new hr434 (below_grown hb453)
           refine d1 7 h449 rfl rfl (op_call (args := #[.agg #[.int .i64 (((apM y112.d sM).2).ep), u370, .int .u64 (((apM y112.d sM).2).fl)]]) (R := fun res xw => res = .int .i64 (headI (((apM y112.d sM).2).ms)) ∧ Below w450.heap.size w450 xw) rfl rfl rfl (by kernel_rfl) (by kernel_rfl) (Try.call14 _ _) (head27_any (((apM y112.d sM).2).ep) (((apM y112.d sM).2).fl) u370 (((apM y112.d sM).2).ms) w450 (row_sl hr460 memE_len)) (by rintro e x ⟨rfl, hb461⟩; exact ⟨_, rfl, ⟨rfl, hb461⟩⟩)) ?_ ?_; clear h449
           ·
            rintro _ w459 ⟨rfl, hb461⟩
            have hz462 := hb461.size
            have hB463 := hb_call hB455 hb461
            have hX464 := MsO.below hX456 hb461
            have hk465 := hk457.below hb461
            exact ⟨hB463, hX464, hk465⟩
           rintro _ w459 a458 ⟨rfl, hb461⟩ h458
           have hz462 := hb461.size
           have hB463 := hb_call hB455 hb461
           have hX464 := MsO.below hX456 hb461
           have hk465 := hk457.below hb461
           have hr468 := row_kept_new hr425 (below_grown hb453)
           have hr469 := row_kept_new hr468 (below_grown hb461)
           have hk470 := hk429.below hb453
           have hk471 := hk470.below hb461
           have hr472 := row_kept_new hr432 (below_grown hb453)
           have hr473 := row_kept_new hr472 (below_grown hb461)
           have hr474 := row_kept_new hr452 (below_grown hb461)
           refine d1 8 h458 rfl rfl (op_call (args := #[u451, .int .i64 (headI (((apM y112.d sM).2).ms))]) (R := fun res xw => res = .bool true ∧ Below w459.heap.size w459 xw) rfl rfl rfl (by kernel_rfl) (by kernel_rfl) (Try.call12 _ _) (in_any u451 (((apM y112.d sM).2).lg) (headI (((apM y112.d sM).2).ms)) w459 (row_sl hr474 (fun _ => rfl))) (by rintro e x ⟨h0, h⟩; rw [inL_mem.2 ((apM_never hMV).1.head (by omega))] at h0; exact ⟨_, h0, rfl, h⟩)) ?_ ?_; clear h458
           ·
            rintro _ w467 ⟨rfl, hb475⟩
            have hz476 := hb475.size
            have hB477 := hb_call hB463 hb475
            have hX478 := MsO.below hX464 hb475
            have hk479 := hk465.below hb475
            exact ⟨hB477, hX478, hk479⟩
           rintro _ w467 a466 ⟨rfl, hb475⟩ h466
           have hz476 := hb475.size
           have hB477 := hb_call hB463 hb475
           have hX478 := MsO.below hX464 hb475
           have hk479 := hk465.below hb475
           refine dk0 9 (v := .bool false) h466 rfl rfl ⟨hB477, hX478, hk479⟩ fun a480 h480 => ?_; clear h466
           refine dk0 10 (v := .bool false) h480 rfl rfl ⟨hB477, hX478, hk479⟩ fun a481 h481 => ?_; clear h480
           refine dr_done (by kernel_rfl) ?_
           refine co_then ?_
           refine co_false h481 rfl ?_
           refine wp_skip ?_
           refine co_blockN ?_
           refine co_then ?_
           refine co_reg ?_
           refine pk0 (v := .int .i64 ((j : Nat) : Int)) h481 rfl fun a482 h482 => ?_; clear h481
           refine pk (v := .int .i64 ((j + 1 : Nat) : Int)) h482 rfl (rn_arith' rfl rfl rfl rfl rfl rfl (IntWalk.i64_in _ (by omega)) (by omega)) fun a483 h483 => ?_; clear h482
           refine pk0 (v := .int .i64 ((j + 1 : Nat) : Int)) h483 rfl fun a484 h484 => ?_; clear h483
           refine pl_nil ?_
           refine co_then ?_
           refine ⟨(l.length - (j + 1)), by omega, ?_⟩
           have hv9 := hnv.1
           exact ⟨j + 1, (apM y112.d sM).2, h484.sub ⟨rfl, rfl, rfl, trivial⟩, rfl, by omega, by omega, by exact hv9, by first | omega | exact hz9, hX478, hB477⟩
         ·
          rw [hc348] at h347
          have hp485 : y112.d.k = 6 := by first | simpa using hc348 | simpa [and_assoc] using hc348
          clear hc348
          refine pk0 (v := pt N14 0) h347 rfl fun a486 h486 => ?_; clear h347
          have hp3489 := hX186.pn3
          refine pw h486 rfl (op_call (args := #[pt N14 0]) (R := fun res xw => ∃ (ao : Option Addr) (cp : Nat), res = .slice ao ((apM y112.d sM).2).pn.length cp ∧ Below w178.heap.size w178 xw) rfl rfl rfl (by kernel_rfl) (by kernel_rfl) (Try.call10 _ _) (moPinsL hX186) (by rintro e x ⟨ao, cp, h0, h⟩; exact ⟨_, h0, ao, cp, rfl, h⟩)) ?_; clear h486
          rintro _ w488 a487 ⟨ao490, cp491, rfl, hb492⟩ h487
          have hz493 := hb492.size
          refine pk0 (v := .int .i64 ((((apM y112.d sM).2).pn.length : Nat) : Int)) h487 rfl fun a494 h494 => ?_; clear h487
          refine pk0 (v := .slice ao104 sM.pn.length cp105) h494 rfl fun a495 h495 => ?_; clear h494
          refine pk0 (v := .int .i64 ((sM.pn.length : Nat) : Int)) h495 rfl fun a496 h496 => ?_; clear h495
          refine pk0 (v := .bool (decide (((((apM y112.d sM).2).pn.length : Nat) : Int) > ((sM.pn.length : Nat) : Int)))) h496 rfl fun a497 h497 => ?_; clear h496
          refine pk0 (v := .bool (decide (((((apM y112.d sM).2).pn.length : Nat) : Int) > ((sM.pn.length : Nat) : Int)))) h497 rfl fun a498 h498 => ?_; clear h497
          refine pk0 (v := .bool (decide (((((apM y112.d sM).2).pn.length : Nat) : Int) > ((sM.pn.length : Nat) : Int)))) h498 rfl fun a499 h499 => ?_; clear h498
          have hB501 := hb_call hB184 hb492
          have hr502 := row_kept_new hr174 (below_grown hb182)
          have hr503 := row_kept_new hr502 (below_grown hb492)
          have hr504 := row_kept_new hr162 (below_grown hb182)
          have hr505 := row_kept_new hr504 (below_grown hb492)
          cases hc500 : (decide (((((apM y112.d sM).2).pn.length : Nat) : Int) > ((sM.pn.length : Nat) : Int)))
          ·
           rw [hc500] at h499
           have hp506 : ¬ (((((apM y112.d sM).2).pn.length : Nat) : Int) > ((sM.pn.length : Nat) : Int)) := of_decide_eq_false hc500
           clear hc500
           refine psk h499 rfl fun a507 h507 => ?_; clear h499
           refine psk h507 rfl fun a508 h508 => ?_; clear h507
           refine psk h508 rfl fun a509 h509 => ?_; clear h508
           refine psk h509 rfl fun a510 h510 => ?_; clear h509
           refine psk h510 rfl fun a511 h511 => ?_; clear h510
           refine psk h511 rfl fun a512 h512 => ?_; clear h511
           refine psk h512 rfl fun a513 h513 => ?_; clear h512
           refine psk h513 rfl fun a514 h514 => ?_; clear h513
           refine pk0 (v := .bool false) h514 rfl fun a515 h515 => ?_; clear h514
           refine pl_nil ?_
           refine co_then ?_
           refine co_false h515 rfl ?_
           refine wp_skip ?_
           refine co_then ?_
           refine co_seq ?_
           refine co_reg ?_
           refine pk0 (v := pt N14 0) h515 rfl fun a516 h516 => ?_; clear h515
           have hX519 := MsO.below hX186 hb492
           refine pw h516 rfl (op_call (args := #[pt N14 0]) (R := fun res xw => ∃ u : Value, res = .agg #[.int .i64 (((apM y112.d sM).2).ep), u, .int .u64 (((apM y112.d sM).2).fl)] ∧ xw.ownsRow w488.heap.size 88 2 u ((apM y112.d sM).2).ms.length (((apM y112.d sM).2).ms.flatMap memE) ∧ Below w488.heap.size w488 xw) rfl rfl rfl (by kernel_rfl) (by kernel_rfl) (Try.call9 _ _) (moConf hX519 (apM_never hMV).1.ms) (by rintro e x ⟨u, h0, h⟩; exact ⟨_, h0, u, rfl, h⟩)) ?_; clear h516
           rintro _ w518 a517 ⟨u520, rfl, hr521, hb522⟩ h517
           have hz523 := hb522.size
           refine pw h517 rfl (op_new (v := fun N => pt N 0) (T := 31) (cs := #[.int .i64 0, .slice none 0 0, .int .u64 0]) (by kernel_rfl) (by kernel_rfl) (by kernel_rfl)) ?_; clear h517
           rintro _ w525 a524 ⟨N526, rfl, hN529, hz530, hk528, hg527⟩ h524
           have hr532 := row_kept_new hr503 (below_grown hb522)
           have ha531 := row_fresh hr532 hN529
           have hr534 := row_kept_new hr505 (below_grown hb522)
           have ha533 := row_fresh hr534 hN529
           have ha535 := row_fresh hr521 hN529
           have hz536 := hg527.size
           try dsimp only at h524
           have hr542 := row_kept_new hr521 hg527
           refine pwD h524 rfl (op_storeN rfl rfl rfl (all_cons rfl (all_cons (row_one hr542) (all_cons rfl all_nil))) (by kernel_rfl) hk528 rfl) ?_; clear h524
           rintro _ w538 a537 ⟨hk539, hz540, hg541⟩ h537
           have hk539' : Blk w538 N526 31 #[.int .i64 (((apM y112.d sM).2).ep), u520, .int .u64 (((apM y112.d sM).2).fl)] := hk539; clear hk539
           have hz543 := hg541.size
           refine pl_nil ?_
           refine co_then ?_
           refine co_seq ?_
           refine dr_gen (fun x => Below w.heap.size w x ∧ MsO x N14 ((apM y112.d sM).2) ∧ Blk x N526 31 #[.int .i64 (((apM y112.d sM).2).ep), u520, .int .u64 (((apM y112.d sM).2).fl)]) (by kernel_rfl) (fun w544 hg545 => ?_) (fun w544 hg545 => ?_)
           ·
            have hz546 := hg545.size
            have hB547 := hb_call hB501 hb522
            have hB548 := hb_new hB547 hg527
            have hB549 := hb_at hB548 hg541 (by omega)
            have hB550 := hb_new hB549 hg545
            have hX551 := MsO.below hX519 hb522
            have hX552 := MsO.new hX551 hg527
            have hX553 := MsO.at hX552 hk528 (by decide) hg541
            have hX554 := MsO.new hX553 hg545
            have hk555 := hk539'.kept hg545 (by simp)
            exact ⟨hB550, hX554, hk555⟩
           have hz556 := hg545.size
           have hB557 := hb_call hB501 hb522
           have hB558 := hb_new hB557 hg527
           have hB559 := hb_at hB558 hg541 (by omega)
           have hB560 := hb_new hB559 hg545
           have hX561 := MsO.below hX519 hb522
           have hX562 := MsO.new hX561 hg527
           have hX563 := MsO.at hX562 hk528 (by decide) hg541
           have hX564 := MsO.new hX563 hg545
           have hk565 := hk539'.kept hg545 (by simp)
           refine dk0 0 (v := pt N526 0) h537 rfl rfl ⟨hB560, hX564, hk565⟩ fun a566 h566 => ?_; clear h537
           refine dk 1 (v := .int .i64 (((apM y112.d sM).2).ep)) h566 rfl rfl ⟨hB560, hX564, hk565⟩ (fun x hx => (rn_load1 rfl rfl Try.isAgg3 (hx.2.2.cell rfl))) fun a567 h567 => ?_; clear h566
           refine dk0 2 (v := .bool (decide (((apM y112.d sM).2).ep > 0))) h567 rfl rfl ⟨hB560, hX564, hk565⟩ fun a568 h568 => ?_; clear h567
           refine dk0 3 (v := .bool (decide (((apM y112.d sM).2).ep > 0))) h568 rfl rfl ⟨hB560, hX564, hk565⟩ fun a569 h569 => ?_; clear h568
           have hr571 := row_kept_new hr532 hg527
           have hr572 := row_kept_at hr571 hg541 (ha531)
           have hr573 := row_kept_new hr572 hg545
           have hk574 := hk185.below hb492
           have hk575 := hk574.below hb522
           have hk576 := hk575.kept hg527 (by simp)
           have hk577 := hk576.kept hg541 (by simp; omega)
           have hk578 := hk577.kept hg545 (by simp)
           have hr579 := row_kept_new hr534 hg527
           have hr580 := row_kept_at hr579 hg541 (ha533)
           have hr581 := row_kept_new hr580 hg545
           have hr582 := row_kept_at hr542 hg541 (ha535)
           have hr583 := row_kept_new hr582 hg545
           cases hc570 : (decide (((apM y112.d sM).2).ep > 0))
           ·
            rw [hc570] at h569
            have hp584 : ¬ (((apM y112.d sM).2).ep > 0) := of_decide_eq_false hc570
            clear hc570
            refine dsk 4 h569 rfl rfl ⟨hB560, hX564, hk565⟩ fun a585 h585 => ?_; clear h569
            refine dsk 5 h585 rfl rfl ⟨hB560, hX564, hk565⟩ fun a586 h586 => ?_; clear h585
            refine dsk 6 h586 rfl rfl ⟨hB560, hX564, hk565⟩ fun a587 h587 => ?_; clear h586
            refine dsk 7 h587 rfl rfl ⟨hB560, hX564, hk565⟩ fun a588 h588 => ?_; clear h587
            refine dsk 8 h588 rfl rfl ⟨hB560, hX564, hk565⟩ fun a589 h589 => ?_; clear h588
            refine dsk 9 h589 rfl rfl ⟨hB560, hX564, hk565⟩ fun a590 h590 => ?_; clear h589
            refine dk0 10 (v := .bool false) h590 rfl rfl ⟨hB560, hX564, hk565⟩ fun a591 h591 => ?_; clear h590
            refine dr_done (by kernel_rfl) ?_
            refine co_then ?_
            refine co_false h591 rfl ?_
            refine wp_skip ?_
            refine co_blockN ?_
            refine co_then ?_
            refine co_reg ?_
            refine pk0 (v := .int .i64 ((j : Nat) : Int)) h591 rfl fun a592 h592 => ?_; clear h591
            refine pk (v := .int .i64 ((j + 1 : Nat) : Int)) h592 rfl (rn_arith' rfl rfl rfl rfl rfl rfl (IntWalk.i64_in _ (by omega)) (by omega)) fun a593 h593 => ?_; clear h592
            refine pk0 (v := .int .i64 ((j + 1 : Nat) : Int)) h593 rfl fun a594 h594 => ?_; clear h593
            refine pl_nil ?_
            refine co_then ?_
            refine ⟨(l.length - (j + 1)), by omega, ?_⟩
            have hv9 := hnv.1
            exact ⟨j + 1, (apM y112.d sM).2, h594.sub ⟨rfl, rfl, rfl, trivial⟩, rfl, by omega, by omega, by exact hv9, by first | omega | exact hz9, hX564, hB560⟩
           ·
            rw [hc570] at h569
            have hp595 : ((apM y112.d sM).2).ep > 0 := of_decide_eq_true hc570
            clear hc570
            refine dk0 4 (v := pt N14 0) h569 rfl rfl ⟨hB560, hX564, hk565⟩ fun a596 h596 => ?_; clear h569
            refine dk 6 (v := .agg #[.int .i64 (((apM y112.d sM).2).ep), u520, .int .u64 (((apM y112.d sM).2).fl)]) h596 rfl rfl ⟨hB560, hX564, hk565⟩ (fun x hx => (rn_loadN rfl rfl Try.underlying31 rfl (by kernel_rfl) hx.2.2.all)) fun a597 h597 => ?_; clear h596
            refine d1 5 h597 rfl rfl (op_call (args := #[pt N14 0]) (R := fun res xw => ∃ u : Value, res = u ∧ xw.ownsRow w544.heap.size 3 1 u ((apM y112.d sM).2).lg.length (((apM y112.d sM).2).lg.flatMap (intE .i64)) ∧ Below w544.heap.size w544 xw) rfl rfl rfl (by kernel_rfl) (by kernel_rfl) (Try.call13 _ _) (moLegit hX564 (by omega)) (by rintro e x ⟨u, h0, h⟩; exact ⟨_, h0, u, rfl, h⟩)) ?_ ?_; clear h597
            ·
             rintro u600 w599 ⟨_, rfl, hr601, hb602⟩
             have hz603 := hb602.size
             have hB604 := hb_call hB560 hb602
             have hX605 := MsO.below hX564 hb602
             have hk606 := hk565.below hb602
             exact ⟨hB604, hX605, hk606⟩
            rintro u600 w599 a598 ⟨_, rfl, hr601, hb602⟩ h598
            have hz603 := hb602.size
            have hB604 := hb_call hB560 hb602
            have hX605 := MsO.below hX564 hb602
            have hk606 := hk565.below hb602
            have hr609 := row_kept_new hr583 (below_grown hb602)
            refine d1 7 h598 rfl rfl (op_call (args := #[.agg #[.int .i64 (((apM y112.d sM).2).ep), u520, .int .u64 (((apM y112.d sM).2).fl)]]) (R := fun res xw => res = .int .i64 (headI (((apM y112.d sM).2).ms)) ∧ Below w599.heap.size w599 xw) rfl rfl rfl (by kernel_rfl) (by kernel_rfl) (Try.call14 _ _) (head27_any (((apM y112.d sM).2).ep) (((apM y112.d sM).2).fl) u520 (((apM y112.d sM).2).ms) w599 (row_sl hr609 memE_len)) (by rintro e x ⟨rfl, hb610⟩; exact ⟨_, rfl, ⟨rfl, hb610⟩⟩)) ?_ ?_; clear h598
            ·
             rintro _ w608 ⟨rfl, hb610⟩
             have hz611 := hb610.size
             have hB612 := hb_call hB604 hb610
             have hX613 := MsO.below hX605 hb610
             have hk614 := hk606.below hb610
             exact ⟨hB612, hX613, hk614⟩
            rintro _ w608 a607 ⟨rfl, hb610⟩ h607
            have hz611 := hb610.size
            have hB612 := hb_call hB604 hb610
            have hX613 := MsO.below hX605 hb610
            have hk614 := hk606.below hb610
            have hr617 := row_kept_new hr573 (below_grown hb602)
            have hr618 := row_kept_new hr617 (below_grown hb610)
            have hk619 := hk578.below hb602
            have hk620 := hk619.below hb610
            have hr621 := row_kept_new hr581 (below_grown hb602)
            have hr622 := row_kept_new hr621 (below_grown hb610)
            have hr623 := row_kept_new hr601 (below_grown hb610)
            refine d1 8 h607 rfl rfl (op_call (args := #[u600, .int .i64 (headI (((apM y112.d sM).2).ms))]) (R := fun res xw => res = .bool true ∧ Below w608.heap.size w608 xw) rfl rfl rfl (by kernel_rfl) (by kernel_rfl) (Try.call12 _ _) (in_any u600 (((apM y112.d sM).2).lg) (headI (((apM y112.d sM).2).ms)) w608 (row_sl hr623 (fun _ => rfl))) (by rintro e x ⟨h0, h⟩; rw [inL_mem.2 ((apM_never hMV).1.head (by omega))] at h0; exact ⟨_, h0, rfl, h⟩)) ?_ ?_; clear h607
            ·
             rintro _ w616 ⟨rfl, hb624⟩
             have hz625 := hb624.size
             have hB626 := hb_call hB612 hb624
             have hX627 := MsO.below hX613 hb624
             have hk628 := hk614.below hb624
             exact ⟨hB626, hX627, hk628⟩
            rintro _ w616 a615 ⟨rfl, hb624⟩ h615
            have hz625 := hb624.size
            have hB626 := hb_call hB612 hb624
            have hX627 := MsO.below hX613 hb624
            have hk628 := hk614.below hb624
            refine dk0 9 (v := .bool false) h615 rfl rfl ⟨hB626, hX627, hk628⟩ fun a629 h629 => ?_; clear h615
            refine dk0 10 (v := .bool false) h629 rfl rfl ⟨hB626, hX627, hk628⟩ fun a630 h630 => ?_; clear h629
            refine dr_done (by kernel_rfl) ?_
            refine co_then ?_
            refine co_false h630 rfl ?_
            refine wp_skip ?_
            refine co_blockN ?_
            refine co_then ?_
            refine co_reg ?_
            refine pk0 (v := .int .i64 ((j : Nat) : Int)) h630 rfl fun a631 h631 => ?_; clear h630
            refine pk (v := .int .i64 ((j + 1 : Nat) : Int)) h631 rfl (rn_arith' rfl rfl rfl rfl rfl rfl (IntWalk.i64_in _ (by omega)) (by omega)) fun a632 h632 => ?_; clear h631
            refine pk0 (v := .int .i64 ((j + 1 : Nat) : Int)) h632 rfl fun a633 h633 => ?_; clear h632
            refine pl_nil ?_
            refine co_then ?_
            refine ⟨(l.length - (j + 1)), by omega, ?_⟩
            have hv9 := hnv.1
            exact ⟨j + 1, (apM y112.d sM).2, h633.sub ⟨rfl, rfl, rfl, trivial⟩, rfl, by omega, by omega, by exact hv9, by first | omega | exact hz9, hX627, hB626⟩
          ·
           rw [hc500] at h499
           have hp634 : ((((apM y112.d sM).2).pn.length : Nat) : Int) > ((sM.pn.length : Nat) : Int) := of_decide_eq_true hc500
           clear hc500
           refine pk0 (v := v) h499 rfl fun a635 h635 => ?_; clear h499
           refine pk0 (v := .int .i64 ((j : Nat) : Int)) h635 rfl fun a636 h636 => ?_; clear h635
           refine pk (v := pt (blkOf v) (offOf v + j * 18)) h636 rfl (rn_index rfl rfl rfl Try.underlying22 Try.sizeOf48 (hs.below hB501) (by omega) (by first | omega | (simp; done) | (simp; omega))) fun a637 h637 => ?_; clear h636
           refine pk0 (v := pt (blkOf v) (offOf v + j * 18 + 11)) h637 rfl fun a638 h638 => ?_; clear h637
           refine pk0 (v := pt (blkOf v) (offOf v + j * 18 + 11 + 1)) h638 rfl fun a639 h639 => ?_; clear h638
           refine pk (v := .int .u64 y112.d.pat) h639 rfl (rn_load1 rfl rfl Try.isAgg27 ((sl_at (hs.below hB501) hy112) 12 _ rfl)) fun a640 h640 => ?_; clear h639
           refine pk0 (v := .int .u64 sM.hz) h640 rfl fun a641 h641 => ?_; clear h640
           refine pk0 (v := .bool (decide (y112.d.pat < sM.hz))) h641 rfl fun a642 h642 => ?_; clear h641
           refine pk0 (v := .bool (decide (y112.d.pat < sM.hz))) h642 rfl fun a643 h643 => ?_; clear h642
           refine pl_nil ?_
           refine co_then ?_
           cases hc644 : (decide (y112.d.pat < sM.hz))
           ·
            rw [hc644] at h643
            have hp645 : ¬ (y112.d.pat < sM.hz) := of_decide_eq_false hc644
            clear hc644
            refine co_false h643 rfl ?_
            refine wp_skip ?_
            refine co_then ?_
            refine co_seq ?_
            refine co_reg ?_
            refine pk0 (v := pt N14 0) h643 rfl fun a646 h646 => ?_; clear h643
            have hX649 := MsO.below hX186 hb492
            refine pw h646 rfl (op_call (args := #[pt N14 0]) (R := fun res xw => ∃ u : Value, res = .agg #[.int .i64 (((apM y112.d sM).2).ep), u, .int .u64 (((apM y112.d sM).2).fl)] ∧ xw.ownsRow w488.heap.size 88 2 u ((apM y112.d sM).2).ms.length (((apM y112.d sM).2).ms.flatMap memE) ∧ Below w488.heap.size w488 xw) rfl rfl rfl (by kernel_rfl) (by kernel_rfl) (Try.call9 _ _) (moConf hX649 (apM_never hMV).1.ms) (by rintro e x ⟨u, h0, h⟩; exact ⟨_, h0, u, rfl, h⟩)) ?_; clear h646
            rintro _ w648 a647 ⟨u650, rfl, hr651, hb652⟩ h647
            have hz653 := hb652.size
            refine pw h647 rfl (op_new (v := fun N => pt N 0) (T := 31) (cs := #[.int .i64 0, .slice none 0 0, .int .u64 0]) (by kernel_rfl) (by kernel_rfl) (by kernel_rfl)) ?_; clear h647
            rintro _ w655 a654 ⟨N656, rfl, hN659, hz660, hk658, hg657⟩ h654
            have hr662 := row_kept_new hr503 (below_grown hb652)
            have ha661 := row_fresh hr662 hN659
            have hr664 := row_kept_new hr505 (below_grown hb652)
            have ha663 := row_fresh hr664 hN659
            have ha665 := row_fresh hr651 hN659
            have hz666 := hg657.size
            try dsimp only at h654
            have hr672 := row_kept_new hr651 hg657
            refine pwD h654 rfl (op_storeN rfl rfl rfl (all_cons rfl (all_cons (row_one hr672) (all_cons rfl all_nil))) (by kernel_rfl) hk658 rfl) ?_; clear h654
            rintro _ w668 a667 ⟨hk669, hz670, hg671⟩ h667
            have hk669' : Blk w668 N656 31 #[.int .i64 (((apM y112.d sM).2).ep), u650, .int .u64 (((apM y112.d sM).2).fl)] := hk669; clear hk669
            have hz673 := hg671.size
            refine pl_nil ?_
            refine co_then ?_
            refine co_seq ?_
            refine dr_gen (fun x => Below w.heap.size w x ∧ MsO x N14 ((apM y112.d sM).2) ∧ Blk x N656 31 #[.int .i64 (((apM y112.d sM).2).ep), u650, .int .u64 (((apM y112.d sM).2).fl)]) (by kernel_rfl) (fun w674 hg675 => ?_) (fun w674 hg675 => ?_)
            ·
             have hz676 := hg675.size
             have hB677 := hb_call hB501 hb652
             have hB678 := hb_new hB677 hg657
             have hB679 := hb_at hB678 hg671 (by omega)
             have hB680 := hb_new hB679 hg675
             have hX681 := MsO.below hX649 hb652
             have hX682 := MsO.new hX681 hg657
             have hX683 := MsO.at hX682 hk658 (by decide) hg671
             have hX684 := MsO.new hX683 hg675
             have hk685 := hk669'.kept hg675 (by simp)
             exact ⟨hB680, hX684, hk685⟩
            have hz686 := hg675.size
            have hB687 := hb_call hB501 hb652
            have hB688 := hb_new hB687 hg657
            have hB689 := hb_at hB688 hg671 (by omega)
            have hB690 := hb_new hB689 hg675
            have hX691 := MsO.below hX649 hb652
            have hX692 := MsO.new hX691 hg657
            have hX693 := MsO.at hX692 hk658 (by decide) hg671
            have hX694 := MsO.new hX693 hg675
            have hk695 := hk669'.kept hg675 (by simp)
            refine dk0 0 (v := pt N656 0) h667 rfl rfl ⟨hB690, hX694, hk695⟩ fun a696 h696 => ?_; clear h667
            refine dk 1 (v := .int .i64 (((apM y112.d sM).2).ep)) h696 rfl rfl ⟨hB690, hX694, hk695⟩ (fun x hx => (rn_load1 rfl rfl Try.isAgg3 (hx.2.2.cell rfl))) fun a697 h697 => ?_; clear h696
            refine dk0 2 (v := .bool (decide (((apM y112.d sM).2).ep > 0))) h697 rfl rfl ⟨hB690, hX694, hk695⟩ fun a698 h698 => ?_; clear h697
            refine dk0 3 (v := .bool (decide (((apM y112.d sM).2).ep > 0))) h698 rfl rfl ⟨hB690, hX694, hk695⟩ fun a699 h699 => ?_; clear h698
            have hr701 := row_kept_new hr662 hg657
            have hr702 := row_kept_at hr701 hg671 (ha661)
            have hr703 := row_kept_new hr702 hg675
            have hk704 := hk185.below hb492
            have hk705 := hk704.below hb652
            have hk706 := hk705.kept hg657 (by simp)
            have hk707 := hk706.kept hg671 (by simp; omega)
            have hk708 := hk707.kept hg675 (by simp)
            have hr709 := row_kept_new hr664 hg657
            have hr710 := row_kept_at hr709 hg671 (ha663)
            have hr711 := row_kept_new hr710 hg675
            have hr712 := row_kept_at hr672 hg671 (ha665)
            have hr713 := row_kept_new hr712 hg675
            cases hc700 : (decide (((apM y112.d sM).2).ep > 0))
            ·
             rw [hc700] at h699
             have hp714 : ¬ (((apM y112.d sM).2).ep > 0) := of_decide_eq_false hc700
             clear hc700
             refine dsk 4 h699 rfl rfl ⟨hB690, hX694, hk695⟩ fun a715 h715 => ?_; clear h699
             refine dsk 5 h715 rfl rfl ⟨hB690, hX694, hk695⟩ fun a716 h716 => ?_; clear h715
             refine dsk 6 h716 rfl rfl ⟨hB690, hX694, hk695⟩ fun a717 h717 => ?_; clear h716
             refine dsk 7 h717 rfl rfl ⟨hB690, hX694, hk695⟩ fun a718 h718 => ?_; clear h717
             refine dsk 8 h718 rfl rfl ⟨hB690, hX694, hk695⟩ fun a719 h719 => ?_; clear h718
             refine dsk 9 h719 rfl rfl ⟨hB690, hX694, hk695⟩ fun a720 h720 => ?_; clear h719
             refine dk0 10 (v := .bool false) h720 rfl rfl ⟨hB690, hX694, hk695⟩ fun a721 h721 => ?_; clear h720
             refine dr_done (by kernel_rfl) ?_
             refine co_then ?_
             refine co_false h721 rfl ?_
             refine wp_skip ?_
             refine co_blockN ?_
             refine co_then ?_
             refine co_reg ?_
             refine pk0 (v := .int .i64 ((j : Nat) : Int)) h721 rfl fun a722 h722 => ?_; clear h721
             refine pk (v := .int .i64 ((j + 1 : Nat) : Int)) h722 rfl (rn_arith' rfl rfl rfl rfl rfl rfl (IntWalk.i64_in _ (by omega)) (by omega)) fun a723 h723 => ?_; clear h722
             refine pk0 (v := .int .i64 ((j + 1 : Nat) : Int)) h723 rfl fun a724 h724 => ?_; clear h723
             refine pl_nil ?_
             refine co_then ?_
             refine ⟨(l.length - (j + 1)), by omega, ?_⟩
             have hv9 := hnv.1
             exact ⟨j + 1, (apM y112.d sM).2, h724.sub ⟨rfl, rfl, rfl, trivial⟩, rfl, by omega, by omega, by exact hv9, by first | omega | exact hz9, hX694, hB690⟩
            ·
             rw [hc700] at h699
             have hp725 : ((apM y112.d sM).2).ep > 0 := of_decide_eq_true hc700
             clear hc700
             refine dk0 4 (v := pt N14 0) h699 rfl rfl ⟨hB690, hX694, hk695⟩ fun a726 h726 => ?_; clear h699
             refine dk 6 (v := .agg #[.int .i64 (((apM y112.d sM).2).ep), u650, .int .u64 (((apM y112.d sM).2).fl)]) h726 rfl rfl ⟨hB690, hX694, hk695⟩ (fun x hx => (rn_loadN rfl rfl Try.underlying31 rfl (by kernel_rfl) hx.2.2.all)) fun a727 h727 => ?_; clear h726
             refine d1 5 h727 rfl rfl (op_call (args := #[pt N14 0]) (R := fun res xw => ∃ u : Value, res = u ∧ xw.ownsRow w674.heap.size 3 1 u ((apM y112.d sM).2).lg.length (((apM y112.d sM).2).lg.flatMap (intE .i64)) ∧ Below w674.heap.size w674 xw) rfl rfl rfl (by kernel_rfl) (by kernel_rfl) (Try.call13 _ _) (moLegit hX694 (by omega)) (by rintro e x ⟨u, h0, h⟩; exact ⟨_, h0, u, rfl, h⟩)) ?_ ?_; clear h727
             ·
              rintro u730 w729 ⟨_, rfl, hr731, hb732⟩
              have hz733 := hb732.size
              have hB734 := hb_call hB690 hb732
              have hX735 := MsO.below hX694 hb732
              have hk736 := hk695.below hb732
              exact ⟨hB734, hX735, hk736⟩
             rintro u730 w729 a728 ⟨_, rfl, hr731, hb732⟩ h728
             have hz733 := hb732.size
             have hB734 := hb_call hB690 hb732
             have hX735 := MsO.below hX694 hb732
             have hk736 := hk695.below hb732
             have hr739 := row_kept_new hr713 (below_grown hb732)
             refine d1 7 h728 rfl rfl (op_call (args := #[.agg #[.int .i64 (((apM y112.d sM).2).ep), u650, .int .u64 (((apM y112.d sM).2).fl)]]) (R := fun res xw => res = .int .i64 (headI (((apM y112.d sM).2).ms)) ∧ Below w729.heap.size w729 xw) rfl rfl rfl (by kernel_rfl) (by kernel_rfl) (Try.call14 _ _) (head27_any (((apM y112.d sM).2).ep) (((apM y112.d sM).2).fl) u650 (((apM y112.d sM).2).ms) w729 (row_sl hr739 memE_len)) (by rintro e x ⟨rfl, hb740⟩; exact ⟨_, rfl, ⟨rfl, hb740⟩⟩)) ?_ ?_; clear h728
             ·
              rintro _ w738 ⟨rfl, hb740⟩
              have hz741 := hb740.size
              have hB742 := hb_call hB734 hb740
              have hX743 := MsO.below hX735 hb740
              have hk744 := hk736.below hb740
              exact ⟨hB742, hX743, hk744⟩
             rintro _ w738 a737 ⟨rfl, hb740⟩ h737
             have hz741 := hb740.size
             have hB742 := hb_call hB734 hb740
             have hX743 := MsO.below hX735 hb740
             have hk744 := hk736.below hb740
             have hr747 := row_kept_new hr703 (below_grown hb732)
             have hr748 := row_kept_new hr747 (below_grown hb740)
             have hk749 := hk708.below hb732
             have hk750 := hk749.below hb740
             have hr751 := row_kept_new hr711 (below_grown hb732)
             have hr752 := row_kept_new hr751 (below_grown hb740)
             have hr753 := row_kept_new hr731 (below_grown hb740)
             refine d1 8 h737 rfl rfl (op_call (args := #[u730, .int .i64 (headI (((apM y112.d sM).2).ms))]) (R := fun res xw => res = .bool true ∧ Below w738.heap.size w738 xw) rfl rfl rfl (by kernel_rfl) (by kernel_rfl) (Try.call12 _ _) (in_any u730 (((apM y112.d sM).2).lg) (headI (((apM y112.d sM).2).ms)) w738 (row_sl hr753 (fun _ => rfl))) (by rintro e x ⟨h0, h⟩; rw [inL_mem.2 ((apM_never hMV).1.head (by omega))] at h0; exact ⟨_, h0, rfl, h⟩)) ?_ ?_; clear h737
             ·
              rintro _ w746 ⟨rfl, hb754⟩
              have hz755 := hb754.size
              have hB756 := hb_call hB742 hb754
              have hX757 := MsO.below hX743 hb754
              have hk758 := hk744.below hb754
              exact ⟨hB756, hX757, hk758⟩
             rintro _ w746 a745 ⟨rfl, hb754⟩ h745
             have hz755 := hb754.size
             have hB756 := hb_call hB742 hb754
             have hX757 := MsO.below hX743 hb754
             have hk758 := hk744.below hb754
             refine dk0 9 (v := .bool false) h745 rfl rfl ⟨hB756, hX757, hk758⟩ fun a759 h759 => ?_; clear h745
             refine dk0 10 (v := .bool false) h759 rfl rfl ⟨hB756, hX757, hk758⟩ fun a760 h760 => ?_; clear h759
             refine dr_done (by kernel_rfl) ?_
             refine co_then ?_
             refine co_false h760 rfl ?_
             refine wp_skip ?_
             refine co_blockN ?_
             refine co_then ?_
             refine co_reg ?_
             refine pk0 (v := .int .i64 ((j : Nat) : Int)) h760 rfl fun a761 h761 => ?_; clear h760
             refine pk (v := .int .i64 ((j + 1 : Nat) : Int)) h761 rfl (rn_arith' rfl rfl rfl rfl rfl rfl (IntWalk.i64_in _ (by omega)) (by omega)) fun a762 h762 => ?_; clear h761
             refine pk0 (v := .int .i64 ((j + 1 : Nat) : Int)) h762 rfl fun a763 h763 => ?_; clear h762
             refine pl_nil ?_
             refine co_then ?_
             refine ⟨(l.length - (j + 1)), by omega, ?_⟩
             have hv9 := hnv.1
             exact ⟨j + 1, (apM y112.d sM).2, h763.sub ⟨rfl, rfl, rfl, trivial⟩, rfl, by omega, by omega, by exact hv9, by first | omega | exact hz9, hX757, hB756⟩
           ·
            rw [hc644] at h643
            have hp764 : y112.d.pat < sM.hz := of_decide_eq_true hc644
            clear hc644
            refine co_true h643 rfl ?_
            refine co_seq ?_
            refine co_reg ?_
            refine pk0 (v := .bool false) h643 rfl fun a765 h765 => ?_; clear h643
            refine pl_nil ?_
            refine co_then ?_
            refine wp_ret ?_
            refine co_thenR ?_
            refine co_blockR ?_
            refine co_thenR ?_
            refine co_thenR ?_
            refine co_blockR ?_
            refine co_thenR ?_
            refine co_ret1 h765 rfl rfl ?_
            exfalso; omega
       ·
        rw [hc172] at h171
        have hp766 : ((apM y112.d sM).2).ep < sM.ep := of_decide_eq_true hc172
        clear hc172
        refine dsk 13 h171 rfl rfl ⟨hB165, hk166, hX167⟩ fun a767 h767 => ?_; clear h171
        refine dsk 14 h767 rfl rfl ⟨hB165, hk166, hX167⟩ fun a768 h768 => ?_; clear h767
        refine dsk 15 h768 rfl rfl ⟨hB165, hk166, hX167⟩ fun a769 h769 => ?_; clear h768
        refine dsk 16 h769 rfl rfl ⟨hB165, hk166, hX167⟩ fun a770 h770 => ?_; clear h769
        refine dk0 17 (v := .bool true) h770 rfl rfl ⟨hB165, hk166, hX167⟩ fun a771 h771 => ?_; clear h770
        refine dr_done (by kernel_rfl) ?_
        refine co_then ?_
        refine co_true h771 rfl ?_
        refine co_seq ?_
        refine co_reg ?_
        refine pk0 (v := .bool false) h771 rfl fun a772 h772 => ?_; clear h771
        refine pl_nil ?_
        refine co_then ?_
        refine wp_ret ?_
        refine co_thenR ?_
        refine co_blockR ?_
        refine co_thenR ?_
        refine co_thenR ?_
        refine co_blockR ?_
        refine co_thenR ?_
        refine co_ret1 h772 rfl rfl ?_
        exfalso; omega
      ·
       rw [hc154] at h153
       have hp773 : ((apM y112.d sM).2).hz < sM.hz := of_decide_eq_true hc154
       clear hc154
       refine dsk 5 h153 rfl rfl ⟨hB149, hk150, hX151⟩ fun a774 h774 => ?_; clear h153
       refine dsk 6 h774 rfl rfl ⟨hB149, hk150, hX151⟩ fun a775 h775 => ?_; clear h774
       refine dsk 7 h775 rfl rfl ⟨hB149, hk150, hX151⟩ fun a776 h776 => ?_; clear h775
       refine dsk 8 h776 rfl rfl ⟨hB149, hk150, hX151⟩ fun a777 h777 => ?_; clear h776
       refine dsk 9 h777 rfl rfl ⟨hB149, hk150, hX151⟩ fun a778 h778 => ?_; clear h777
       refine dsk 10 h778 rfl rfl ⟨hB149, hk150, hX151⟩ fun a779 h779 => ?_; clear h778
       refine dk0 11 (v := .bool true) h779 rfl rfl ⟨hB149, hk150, hX151⟩ fun a780 h780 => ?_; clear h779
       refine dk0 12 (v := .bool true) h780 rfl rfl ⟨hB149, hk150, hX151⟩ fun a781 h781 => ?_; clear h780
       refine dsk 13 h781 rfl rfl ⟨hB149, hk150, hX151⟩ fun a782 h782 => ?_; clear h781
       refine dsk 14 h782 rfl rfl ⟨hB149, hk150, hX151⟩ fun a783 h783 => ?_; clear h782
       refine dsk 15 h783 rfl rfl ⟨hB149, hk150, hX151⟩ fun a784 h784 => ?_; clear h783
       refine dsk 16 h784 rfl rfl ⟨hB149, hk150, hX151⟩ fun a785 h785 => ?_; clear h784
       refine dk0 17 (v := .bool true) h785 rfl rfl ⟨hB149, hk150, hX151⟩ fun a786 h786 => ?_; clear h785
       refine dr_done (by kernel_rfl) ?_
       refine co_then ?_
       refine co_true h786 rfl ?_
       refine co_seq ?_
       refine co_reg ?_
       refine pk0 (v := .bool false) h786 rfl fun a787 h787 => ?_; clear h786
       refine pl_nil ?_
       refine co_then ?_
       refine wp_ret ?_
       refine co_thenR ?_
       refine co_blockR ?_
       refine co_thenR ?_
       refine co_thenR ?_
       refine co_blockR ?_
       refine co_thenR ?_
       refine co_ret1 h787 rfl rfl ?_
       exfalso; omega
 ·
  rw [hc9] at h8
  have hp788 : r5 > 20 := of_decide_eq_true hc9
  clear hc9
  refine co_true h8 rfl ?_
  refine co_seq ?_
  refine co_reg ?_
  refine pw h8 rfl (op_call (args := #[]) (R := fun res xw => res = .bool true ∧ Below w4.heap.size w4 xw) rfl rfl rfl (by kernel_rfl) (by kernel_rfl) (Try.call6 _ _) (awake28 w4) (by rintro e x ⟨rfl, h⟩; exact ⟨_, rfl, rfl, h⟩)) ?_; clear h8
  rintro _ w790 a789 ⟨rfl, hb791⟩ h789
  have hz792 := hb791.size
  refine pk0 (v := .bool true) h789 rfl fun a793 h793 => ?_; clear h789
  refine pl_nil ?_
  refine co_then ?_
  refine wp_ret ?_
  refine co_thenR ?_
  refine co_ret1 h793 rfl rfl ?_
  have hB794 := hb_call hB10 hb791
  exact ⟨rfl, hB794⟩
end Go.Proofs.Ytglfoippcmckaaa
